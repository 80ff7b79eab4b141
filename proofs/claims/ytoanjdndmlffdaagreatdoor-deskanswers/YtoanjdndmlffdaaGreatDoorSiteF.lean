import Derived.Test.YtoanjdndmlffdaaGreatDoorSiteE
import Derived.Deep.LoopGhost
import Derived.Stop.Asserts
set_option maxHeartbeats 8000000
set_option maxRecDepth 100000
namespace Go.Proofs.YtoanjdndmlffdaaGreatDoor
open Go.RowKit
section
def q4r (w:World) (b:Nat) (G:Nat->Prop) (W:WoS) (g:GrS) (e:Ending) (w':World):Prop:=e=.returned (.tuple #[])/\∃W',Hid (qeo W g W')/\vh w b G W' w'
variable {b:Nat} {G:Nat->Prop} {W:WoS}
theorem q84 (f i wall j k l m o:Int) (ws:List Wr) (a g cap:Nat) (S:ByteArray) (w:World) (h:PW w b G W) (C:WfW W) (s:Own w 0 g cap S) (L:S.size<=1000000) (D:ql3 (toL S) ⟨f,i,wall,j,k,l,m,o,ws⟩) (N:a<W.n):
 Ca 154 #[PP b,.agg #[U a,.slice (PT g) S.size cap]] w (q4r w b G W ⟨a,.tx ⟨f,i,wall,j,k,l,m,o,ws⟩⟩):=by
 obtain⟨M,O,h,E⟩:=h;have F:=boxed (jcc _ w) (.cells #[U a,.slice (PT g) S.size cap] 205);have q:=qd.new (w:=w) (T:=205) [U a,.slice (PT g) S.size cap] rfl;change qd (w.alloc (.cells #[U a,.slice (PT g) S.size cap] 205)) w.heap.size [U a,.slice (PT g) S.size cap]at q;have H:=qy2 D (PT g) S.size cap (yh S) _ (s.later F).all s.room L;have d:=hd5 h E C N q;have P:=q.c 1;clear h E C q s D;go_enter Tryz.func154,Tryz.ntmps154
 go_wp2_with fail
 refine H.mono ?_;rintro e w2 ⟨a2,p,rfl,I,J⟩;simp only at I ⊢;have t:=boxed (jcc _ w2) (.cells (List.toArray (T9 f i wall j k l m o a2 ws.length p)) 102);have K:=(qa (qa F J) t);have u:=K.drew;have x:=d.out.1.later K;obtain⟨V,X,Y,Z,aa,y0,y1⟩:=x.place d.out.2.2.2.1;have r:=qd.new (w:=w2) (T:=102) (T9 f i wall j k l m o a2 ws.length p) rfl;change qd (w2.alloc (.cells (List.toArray (T9 f i wall j k l m o a2 ws.length p)) 102)) w2.heap.size (T9 f i wall j k l m o a2 ws.length p)at r;have y:=(d.out.2.2.2.2.later J).later t
 have Q:Hid (Ca 210 #[PP (M.bp a),.agg (List.toArray (T9 f i wall j k l m o a2 ws.length p))] (w2.alloc (.cells (List.toArray (T9 f i wall j k l m o a2 ws.length p)) 102)).drew λe w'=>∃v,e=.returned v/\∃S',zu (W.S a) ⟨f,i,wall,j,k,l,m,o,ws⟩ S'/\PPo (w2.alloc (.cells (List.toArray (T9 f i wall j k l m o a2 ws.length p)) 102)).drew (M.bp a) (O a) S' w'):=
  (q0z ⟨⟨f,i,wall,j,k,l,m,o,ws⟩,a2,p⟩ _ ((d.out.1.later u).site d.out.2.2.2.1) (d.out.2.2.1.inv a d.out.2.2.2.1) (jcn (d.out.2.2.1.wt a d.out.2.2.2.1) (by omega)) (I.later t.drew)).mono λe w' ⟨R,S',z,B⟩=>⟨_,R,S',z,B⟩
 have q1:(a:Int)<(W.n:Int):=by have:=d.out.2.2.2.1;omega
 have hlt:=x.box.lt;have d0_:=y.c 0;obtain⟨t0,t1,t2,t3,t4,t5,t6,t7,t8⟩:=r.c9;have l1:=y.lt;have l2:=r.lt;clear H x r y P
 go_wp2_with fail
 go_region_law (refine je rfl 210 #[PP (M.bp a),.agg (List.toArray (T9 f i wall j k l m o a2 ws.length p))] (by go_simp) Q.out ?_
                rintro e w4 ⟨v4,rfl,S',z,B⟩
                refine⟨_,rfl,?_⟩)
 all_goals
  go_wp2_with fail
  refine bodyPost_ret (v:=.tuple #[]) (results_none rfl _ _ _) rfl ?_;exact⟨rfl,_,⟨S',z,rfl⟩,vh.from u ((d.out.1.later u).stepS d.out.2.1 d.out.2.2.2.1 B)⟩
theorem q7j (a d f i j:Int) (m g cap:Nat) (S:ByteArray) (w:World) (h:PW w b G W) (L:WfW W) (t:Own w 0 g cap S) (F:S.size<=1000000) (H:qdj (toL S) ⟨a,d,f,i,j⟩) (ht:m<W.n):
 Ca 154 #[PP b,.agg #[U m,.slice (PT g) S.size cap]] w (q4r w b G W ⟨m,.ask a d f i j⟩):=by
 obtain⟨M,N,h,O⟩:=h;have P:=boxed (jcc _ w) (.cells #[U m,.slice (PT g) S.size cap] 205);have u:=qd.new (w:=w) (T:=205) [U m,.slice (PT g) S.size cap] rfl;change qd (w.alloc (.cells #[U m,.slice (PT g) S.size cap] 205)) w.heap.size [U m,.slice (PT g) S.size cap]at u;have Q:=q08 (λx hx=>qzw hx H) (PT g) S.size cap (yh S) _ (t.later P).all t.room F;have l:=hd8 h O L ht u t F H;have z1:=u.c 1;clear h O L u t H F;go_enter Tryz.func154,Tryz.ntmps154
 go_wp2_with fail
 refine Q.mono ?_;rintro e w2 ⟨rfl,R⟩;have V:=boxed (jcc _ w2) (.cells ZA 102);have X:=(qa (qa P R) V);have y:=(l.out.2.2.2.2.1.later R).later V;have I:=qws l.out.2.2.2.2.2.2.2 (PT g) S.size cap (yh S) _ (l.out.2.2.2.2.2.1.later X).all l.out.2.2.2.2.2.1.room l.out.2.2.2.2.2.2.1;have e1:=y.c 1;have l1:=y.lt;have Y:=hd2 y X;clear Q z1 y
 go_wp2_with fail
 refine I.mono ?_;rintro e p ⟨rfl,Z⟩;simp only;have bv:=boxed (jcc _ p) (.cells #[U d,U f,U i,U j] 77);have z:=qa (qa Y.out.2 Z) bv;have B:=(Y.out.1.later Z).later bv;have C:=qd.new (w:=p) (T:=77) [U d,U f,U i,U j] rfl;change qd (p.alloc (.cells #[U d,U f,U i,U j] 77)) p.heap.size [U d,U f,U i,U j]at C;have D:=l.out.1.later z;obtain⟨pb,pc,c0,hpc,hpb,y0,y1⟩:=D.place l.out.2.2.2.1;have hlt:=D.box.lt;by_cases E:0<=a/\a<(W.n:Int)
 ·obtain⟨o,ho⟩:∃o:Nat,(o:Int)=a:=⟨a.toNat,by omega⟩;subst ho
  have hon:o<W.n:=by omega
  have r:=yi (k:=o) (v:=true) _ c0 (by simp;omega);have AN:=q3q d f i j _ (PW.later (w':=p.alloc (.cells #[U d,U f,U i,U j] 77)) ⟨M,N,l.out.1,l.out.2.1⟩ z) l.out.2.2.1 l.out.2.2.2.1 hon;have s0:=B.c 0;obtain⟨t0,t1,t2,t3⟩:=C.c4
  have J:Hid (∀W',W'=qbc W m o d f i j->qeo W ⟨m,.ask o d f i j⟩ W'):=λW' e=>by
   show (if 0<=(o:Int)/\(o:Int)<(W.n:Int)then W'=qbc W m (o:Int).toNat d f i j else W'=W);rw[if_pos E,show ((o:Int)).toNat=o by omega];exact e
  clear I D C B E
  go_wp2_with fail
  refine r.mono ?_;rintro e w6 ⟨rfl,s⟩;have K:=s.symm;clear s r;subst K
  go_wp2_with fail
  refine AN.mono ?_;rintro e w7 ⟨rfl,hp⟩
  go_wp2_with fail
  go_end0;exact⟨rfl,_,J.out _ rfl,vh.from z hp⟩
 have r:=yi (k:=a) (v:=false) _ c0 (by
  have:¬(0<=a)\/¬(a<(W.n:Int)):=by omega
  rcases this with q|q<;>simp[q])
 have J:Hid (qeo W ⟨m,.ask a d f i j⟩ W):=by
  show (if 0<=a/\a<(W.n:Int)then W=qbc W m a.toNat d f i j else W=W);rw[if_neg E]
 have s0:=B.c 0;clear I D C B E
 go_wp2_with fail
 refine r.mono ?_;rintro e w6 ⟨rfl,s⟩;have K:=s.symm;clear s r;subst K
 go_wp2_with fail
 go_end0;exact⟨rfl,W,J,vh.same ⟨M,N,l.out.1,l.out.2.1⟩ z⟩
theorem q79 (m:GrM) (w:World) (h:PW w b G W) (c:WfW W) (a:m.Ok w) (d:m.g.tj<W.n):
 Ca 154 #[PP b,.agg #[U m.g.tj,.slice (PT m.blk) m.S.size m.cap]] w (q4r w b G W m.g):=by
 obtain⟨⟨e,f⟩,g,cap,S⟩:=m;cases f with
 |tx t=>exact q84 t.site t.seq t.wall t.count t.d0 t.d1 t.d2 t.d3 t.ws e g cap S w h c a.own a.size a.is d
 |ask site v0 v1 v2 v3=>exact q7j site v0 v1 v2 v3 e g cap S w h c a.own a.size a.is d
end
theorem qjg (l a:List GrM):qap (l++a)=qap l++qap a:=by simp[qap]
theorem qwh (l:List GrM):∀u∈qap l,u.oneCell'=true:=by
 intro u a;obtain⟨x,_,b⟩:=List.mem_flatMap.1 a;exact qr2 x u b
theorem q7t:∀w,(zeroValue 205).run Tryz.prog w=.ok (.agg #[U 0,.slice none 0 0]) w:=λw=>by kernel_rfl
theorem qhe:(Builtin.zeroCells (Value.agg #[U 0,.slice none 0 0]).cells 1).toList=[U 0,.slice none 0 0]:=by
 simp only[Builtin.zeroCells,Array.toList_map];have a:(Value.agg #[U 0,.slice none 0 0]).cells=#[U 0,.slice none 0 0]:=rfl;rw[a];have e:(#[Value.int .i64 0,.slice none 0 0]:Array Value).size=2:=rfl;rw[e];simp[List.range_succ]
theorem qr9:∀u∈(Builtin.zeroCells (Value.agg #[U 0,.slice none 0 0]).cells 1).toList,u.oneCell'=true:=by
 rw[qhe];intro u a;simp at a
 rcases a with rfl|rfl<;>rfl
theorem qz2 {g cap i:Nat} {l:List GrM} (w:World) (o:w.ownsRow 0 205 2 (.slice (PT g) l.length cap) l.length (qap l)) (hi:i<l.length) (X:l.length<=300):
 Ca 153 #[.slice (PT g) l.length cap,U i,U ((i:Int)+1)] w λe w'=>e=.returned (.slice (PT g) (l.length-1) cap)/\w'.ownsRow 0 205 2 (.slice (PT g) (l.length-1) cap) (l.length-1) (qap (l.eraseIdx i))/\yu g w w':=by
 obtain⟨D,E,hz0,F,hz2⟩:=info_parts quo
 obtain⟨cur,k,Y,G,H⟩:∃cur,w.heap[g]?=some (.cells cur 205 (0,0))/\l.length<=cap/\cap<=maxLen/\cur.size=cap*2:=by
  rcases o.2 with ⟨h,_⟩|⟨g2,cap2,cur,e,hb,Z,aa,hm,hs,m⟩
  ·cases h
  injection e with a e2 e3;injection a with a;injection a with a;subst a e3;exact⟨cur,Z,aa,hm,hs⟩
 have p:∀j u,(qap l)[j]?=some u->w.cell? (AD g j)=some u:=λj u b=>by
  have d:=o.cells (g:=g) rfl j u b;rw[qal]at d;exact d
 have q:∀j,j<cap*2->(w.cell? (AD g j)).isSome=true/\w.frozen? (AD g j)=false:=λj c=>by
  constructor
  ·rw[cell_of_row w g j cur _ (0,0) k,jde (by omega)];rfl
  unfold World.frozen?;rw[k];simp
 have I:qap (l.eraseIdx i)=qap (l.take i)++qap (l.drop (i+1)):=by rw[jdf,qjg]
 have r:(qap (l.take i)).length=i*2:=by rw[qgz,jc5];omega
 have lv:(qap (l.drop (i+1))).length=(l.length-(i+1))*2:=by rw[qgz,jdt]
 have J:qap l=qap (l.take (i+1))++qap (l.drop (i+1)):=by rw[<-qjg,jds]
 have s:(qap (l.take (i+1))).length=(i+1)*2:=by rw[qgz,jc5];omega
 obtain⟨W1,v⟩:∃W1,W1=w.drew.setCells g (0+i*2) (qap (l.drop (i+1))):=⟨_,rfl⟩
 have x:=qlp (w:=w.drew) (g:=g) (qap (l.take i)) (qap (l.drop (i+1))) [U 0,.slice none 0 0] (λj u b=>by
  refine p j u ?_
  have:qap l=qap (l.take i)++qap (l.drop i):=by rw[<-qjg,jds]
  rw[this,jc3 (jck.1 b).1]
  exact b) (λj c=>(q j (by rw[r,lv]at c;simp at c;omega)).1)
 rw[r,lv,show i*2+(l.length-(i+1))*2=(l.length-1)*2 by omega]at x;have hd1:w.drew.heap[g]?=some (.cells cur 205 (0,0)):=k;obtain⟨K,y,L⟩:=qat g (qap (l.drop (i+1))) (i*2) w.drew hd1;obtain⟨cur2,M,N⟩:=qat g [U 0,.slice none 0 0] ((l.length-1)*2) _ y
 have O:Hid (((w.drew.setCells g (i*2) (qap (l.drop (i+1)))).setCells g ((l.length-1)*2) [U 0,.slice none 0 0]).ownsRow 0 205 2 (.slice (PT g) (l.length-1) cap) (l.length-1) (qap (l.eraseIdx i))):=by
  refine qfz (jcw _) M G (by rw[N,L,H]) (by omega) (by rw[qgz,List.length_eraseIdx,if_pos hi]) (λj u b=>?_);rw[I]at b;exact x j u (by rw[jc3 (jck.1 b).1];exact b)
 have P:Hid (yu g w ((w.drew.setCells g (i*2) (qap (l.drop (i+1)))).setCells g ((l.length-1)*2) [U 0,.slice none 0 0])):=
  yu.trans (yu.trans (yu.ofBelow (jcc _ w).drew) (zg g _ _ _) (.inl rfl)) (zg g _ _ _) (.inl rfl)
 have s3:Hid (∀t,t<(qap (l.drop (i+1))).length->(w.drew.cell? (AD g (0+i*2+t))).isSome=true/\w.drew.frozen? (AD g (0+i*2+t))=false):=λt m=>by
  rw[lv]at m;exact q _ (by omega)
 have hcl:∀z,(Builtin.clear_ #[160] z #[.slice (some (AD g ((l.length-1)*2))) 1 (cap-(l.length-1))]).run Tryz.prog W1=.ok (.tuple #[]) (W1.setCells g ((l.length-1)*2) [U 0,.slice none 0 0]):=λz=>by
  have Q:∀j,j<cap*2->(W1.cell? (AD g j)).isSome=true/\W1.frozen? (AD g j)=false:=λj c=>by
   have R:W1.heap[g]?=some (.cells K 205 (0,0)):=by rw[v,Nat.zero_add];exact y
   constructor
   ·rw[cell_of_row W1 g j K _ (0,0) R,jde (by omega)];rfl
   unfold World.frozen?;rw[R];simp
  have S:(Builtin.zeroCells (Value.agg #[U 0,.slice none 0 0]).cells 1).size=2:=by rw[<-Array.length_toList,qhe];rfl
  have:=qng W1 160 205 z (.agg #[U 0,.slice none 0 0]) Tryz.underlying160 q7t g ((l.length-1)*2) 1 (cap-(l.length-1)) (by omega) qr9 (λj c=>(Q _ (by rw[S]at c;omega)).1) (λj c=>(Q _ (by rw[S]at c;omega)).2);rw[qhe]at this;exact this
 have n:Hid (W1=w.drew.setCells g (0+i*2) (qap (l.drop (i+1)))):=v
 have q0:(i:Int)<(l.length:Int):=by omega
 have q1:(i:Int)+1<=(l.length:Int):=by omega
 have q2:(l.length:Int)<=(cap:Int):=by omega
 have q3:(i:Int)<=(cap:Int):=by omega
 have q4:(i:Int)+1<=(cap:Int):=by omega
 have q5:(l.length:Int)<=300:=by omega
 have q6:i+(l.length-(i+1))=l.length-1:=by omega
 have q7:¬(i:Int)=(i:Int)+1:=by omega
 have q8:(i:Int)<=(i:Int)+1:=by omega
 have q9:0<=(i:Int)+1:=by omega
 have q10:l.length-(l.length-1)=1:=by omega
 have f:Hid (i<l.length/\l.length<=cap):=⟨hi,Y⟩
 have T:Hid (∀A:Addr,(if cap=i+1 then some ((AD g 0):Addr)else some (AD g ((i+1)*2)))=some A->∀t u,(qap (l.drop (i+1)))[t]?=some u->w.drew.cell? (A.add t)=some u):=λA V t u b=>by
  by_cases d:cap=i+1
  ·have:l.length-(i+1)=0:=by omega
   have m:=(jck.1 b).1;rw[lv,this]at m;omega
  rw[if_neg d]at V;have hA':((AD g ((i+1)*2)):Addr)=A:=jcu V;subst hA'
  have hadd:((AD g ((i+1)*2)):Addr).add t=(AD g ((i+1)*2+t)):=by unfold Addr.add;split<;>simp_all
  rw[hadd];refine p _ u ?_;rw[J,jc0 (by rw[s];omega),s,show (i+1)*2+t-(i+1)*2=t by omega];exact b
 have s1:Hid ((qap (l.drop (i+1))).length=(l.length-(i+1))*2):=lv;clear o x y M L N hd1 k H q p I r lv J s hi X v G;by_cases d:cap=i+1
 ·subst d
  have z1:l.length-i=1:=by have:=f.out;omega
  have B:l.length-1=i:=by have:=f.out;omega
  rw[B,show i+1-i=1 by omega]at hcl;have Z2:Hid (l.length-1=i):=B;clear B q10 q6;have C:Hid (∀t u,(qap (l.drop (i+1)))[t]?=some u->w.drew.cell? (((AD g 0):Addr).add t)=some u):=T.out _ (if_pos rfl);go_enter Tryz.func153,Tryz.ntmps153
  go_wp2_with fail
  go_region_law (refine step_append_room rfl (.tmp 22) (.tmp 25) 160 rfl 205 D 2 Tryz.underlying160 E F g 0 i (i+1) (by simp[Act.eval,Act.put]) (AD g 0) (l.length-(i+1)) 0 (qap (l.drop (i+1))) (by simp[Act.eval,Act.put];have:=f.out;omega) s1.out C.out (qwh _) (by have:=f.out;omega) s3.out ?_
                 rw[<-n.out])
  all_goals
   go_wp2_with fail
   go_ret;have a:=n.out;rw[Nat.zero_add]at a;subst a;have f1:=O.out;have W:=P.out;rw[Z2.out]at f1 W ⊢;exact⟨rfl,f1,W⟩
 have C:Hid (∀t u,(qap (l.drop (i+1)))[t]?=some u->w.drew.cell? (((AD g ((i+1)*2)):Addr).add t)=some u):=T.out _ (if_neg d);go_enter Tryz.func153,Tryz.ntmps153
 go_wp2_with fail
 go_region_law (refine step_append_room rfl (.tmp 22) (.tmp 25) 160 rfl 205 D 2 Tryz.underlying160 E F g 0 i cap (by simp[Act.eval,Act.put]) (AD g ((i+1)*2)) (l.length-(i+1)) (cap-(i+1)) (qap (l.drop (i+1))) (by simp[Act.eval,Act.put]) s1.out C.out (qwh _) (by have:=f.out;omega) s3.out ?_
                rw[<-n.out])
 all_goals
  go_wp2_with fail
  go_ret;have a:=n.out;rw[Nat.zero_add]at a;subst a;exact⟨rfl,O.out,P.out⟩
section
section
variable {w w1 w2:World} {b g cap i:Nat} {M:WoM} {W:WoS} {Gs:Nat->Nat->Prop}
theorem PWo.dropped (h:PWo w b M W Gs) (o:Bw w w1) (A:M.nv=.slice (PT g) M.l.length cap) (hi:i<M.l.length)
 (own:w2.ownsRow 0 205 2 (.slice (PT g) (M.l.length-1) cap) (M.l.length-1) (qap (M.l.eraseIdx i))) (p:yu g w1 w2):
 PWo (w2.setCell (AD b 2) (.slice (PT g) (M.l.length-1) cap)) b {M with nv:=.slice (PT g) (M.l.length-1) cap,l:=M.l.eraseIdx i} (qai W i) Gs/\qc (λk=>k=b\/M.nv.ownBlock=some k) w (w2.setCell (AD b 2) (.slice (PT g) (M.l.length-1) cap)):=by
 have s1:=o.size;have s2:=p.size
 have c:M.nv.ownBlock=some g:=by rw[A];rfl
 have d:(Value.slice (PT g) (M.l.length-1) cap).ownBlock=some g:=rfl;have t:g≠b:=λq=>h.sb.2.2 (by rw[c,q]);have E:=h.box.lt;have B:∀k,k<w.heap.size->k≠g->w2.heap[k]?=w.heap[k]?:=λk a u=>(p.block k (by omega) (λe=>by injection e with e;exact u e)).trans (o.block k a)
 have v:(w2.setCell (AD b 2) (.slice (PT g) (M.l.length-1) cap)).heap.size=w2.heap.size:=by simp[World.setCell]
 have r:∀k,k<w.heap.size->k≠g->k≠b->(w2.setCell (AD b 2) (.slice (PT g) (M.l.length-1) cap)).heap[k]?=w.heap[k]?:=λk a u C=>(jce _ _ _ _ (λe=>C e)).trans (B k a u);have y:∀k,M.nv.ownBlock≠some k->k≠g:=λk a e=>a (by rw[c,e]);refine⟨⟨?_,?_,?_,?_,?_,λx m=>?_,?_,⟨h.sb.1,h.sb.2.1,λe=>t (by rw[d]at e;injection e)⟩,λk=>⟨λe=>⟨((h.sr k).1 e).1,λn=>((h.sr k).1 e).2 (by rw[c];rw[d]at n;exact n)⟩,λe n=>(h.sr k).2 e (by rw[c];rw[d]at n;exact n)⟩,λx m=>?_⟩,?_⟩
 ·have D:qd w2 b _:=(h.box.later o).kept (p.block b (by omega) (λe=>by injection e with e;exact t e.symm)) s2;exact D.set 2 _ (by simp)
 ·exact qf h.pr (λk e=>r k (h.pr.lt k e).2 (y k ((h.sr k).1 e).2) (λq=>h.sb.1 (by rw[e,q])))
 ·exact qf h.cr (λk e=>r k (h.cr.lt k e).2 (y k ((h.sr k).2 e)) (λq=>h.sb.2.1 (by rw[e,q])))
 ·show World.ownsRow _ 0 _ 2 _ (M.l.eraseIdx i).length (qap (M.l.eraseIdx i));rw[List.length_eraseIdx,if_pos hi];exact qf own (λk e=>jce _ _ _ _ (λq=>t (by rw[d]at e;injection e with e;exact e.trans q)))
 ·show (M.l.eraseIdx i).map (·.g)=W.net.eraseIdx i;rw[<-h.nl,jdf,jdf];simp
 ·have q:=jdn m;have s:=h.sg x q;exact(h.gr x q).kept (r _ (h.gr x q).own.lt (y _ s.2.2.2) s.1) (by rw[v];omega)
 ·have f:=h.fam.tj (X':=qfw b M) (w':=w2.setCell (AD b 2) (.slice (PT g) (M.l.length-1) cap)) (λj k z e=>r k (h.ltG z e) (λq=>(h.fam.free k (.inr (.inr (.inr (.inl (by rw[c,q])))))).2 j z e) (λq=>(h.fam.free k (.inl q)).2 j z e)) (by rw[v];omega) (λk a=>⟨.inl a,by rw[v];have:=h.ltF k a;omega⟩);refine⟨f.is,f.apart,λk a=>?_,f.half⟩;rcases a with e|e|e|e|⟨x,m,e⟩
  ·exact f.free k (.inl e)
  ·exact f.free k (.inr (.inl e))
  ·exact f.free k (.inr (.inr (.inl e)))
  ·exact f.free k (.inr (.inr (.inr (.inl (by rw[c];rw[d]at e;exact e)))))
  exact f.free k (.inr (.inr (.inr (.inr ⟨x,jdn m,e⟩))))
 ·have s:=h.sg x (jdn m);exact⟨s.1,s.2.1,s.2.2.1,λe=>s.2.2.2 (by rw[c];rw[d]at e;exact e)⟩
 refine((qc.ofBelow o).trans (qc.grown p (λk e=>.inr (by rw[c];exact e)))).trans (qc.setCell _ _ _ (.inl rfl))
theorem PWo.under (h:PWo w b M W Gs) {f:GrS} (hi:W.net[i]?=some f):∃m a d,M.l[i]?=some m/\m.g=f/\M.nv=.slice (PT a) M.l.length d/\M.l.length=W.net.length/\w.cell? (AD b 2)=some (.slice (PT a) M.l.length d)/\M.l.length<=d/\a<w.heap.size/\w.cell? (AD a (i*2))=some (U m.g.tj)/\w.cell? (AD a (i*2+1))=some (.slice (PT m.blk) m.S.size m.cap):=by
 have o:M.l.length=W.net.length:=by rw[<-h.nl];simp
 have p:i<M.l.length:=by have:=(jck.1 hi).1;omega
 obtain⟨m,e⟩:∃m,M.l[i]?=some m:=⟨_,jcg p⟩
 have q:m.g=f:=by
  have:=hi;rw[<-h.nl,jcv,e]at this;exact jcu this
 obtain⟨t,d,j,r⟩:=qq h.nr;rcases r.held with u|⟨a,rfl,s,k⟩
 ·omega
 have n:=h.box.c 2;rw[j]at n;exact⟨m,a,d,e,q,j,o,n,r.len,s,k _ _ (qtm e).1,k _ _ (qtm e).2⟩
end
theorem q88 {b:Nat} {G:Nat->Prop} {W:WoS} (w:World) (h:PW w b G W) (n:W.net.length<=300) {i:Nat} {g:GrS} (hi:W.net[i]?=some g):
 Ca 109 #[PP b,U i] w λe w'=>e=.returned (jc 0)/\vh w b G (qai W i) w':=by
 obtain⟨M,Gs,h,t⟩:=h;obtain⟨m,O,P,u,F,o,H,I,Q,R,x0,x1⟩:=h.under hi;have p:=(jck.1 u).1;have y:=qey (k:=i) (v:=true) w I (by simp;omega);have z:=qz2 w (by have:=h.nr;rw[o]at this;exact this) p (by omega);have a:=hd4 h t o p
 have S:(i:Int)<(M.l.length:Int):=by omega
 have T:(i:Int)<300:=by omega
 have J:=h.box.lt;clear h t o u F hi n H p;go_enter Tryz.func109,Tryz.ntmps109
 go_wp2_with fail
 refine y.mono ?_;rintro e w2 ⟨rfl,B⟩;have K:=B.symm;clear B y;subst K
 go_wp2_with fail
 refine z.mono ?_;rintro e L ⟨rfl,C,j⟩;obtain⟨D,E⟩:=a.out.1.dropped (jcc _ w) a.out.2.2.1 a.out.2.2.2 C j;have d:=hd2 D E;have r:qd L b _:=a.out.1.box.kept (j.block b J (λe=>by injection e with e;exact a.out.1.sb.2.2 (by rw[a.out.2.2.1,e];rfl))) j.size;have V:=r.c 2;have X:=r.f 2;clear z C j D E r
 go_wp2_with fail
 go_ret;refine⟨rfl,_,⟨_,Gs,d.out.1,λ_=>jdl⟩,λk s=>.inl ((a.out.2.1 k).2 ?_),?_⟩
 ·rcases s with (q|q|q|q|⟨x,N,q⟩)|q
  ·exact .inl (.inl q)
  ·exact .inl (.inr (.inl q))
  ·exact .inl (.inr (.inr (.inl q)))
  ·exact .inl (.inr (.inr (.inr (.inl (by rw[a.out.2.2.1];exact q)))))
  ·exact .inl (.inr (.inr (.inr (.inr ⟨x,jdn N,q⟩))))
  exact .inr q
 exact⟨d.out.2.os,d.out.2.tape,d.out.2.output,d.out.2.size,λk s n=>d.out.2.block k s (λe=>n ((a.out.2.1 k).2 (.inl (e.elim .inl (λq=>.inr (.inr (.inr (.inl q))))))))⟩
end
section
variable {b:Nat} {G:Nat->Prop} {W:WoS}
theorem qp6 (w:World) (h:PW w b G W) (u:WfW W) {i:Nat} {g:GrS} (hi:W.net[i]?=some g):
 Ca 104 #[PP b,U i] w λe w'=>e=.returned (jc 0)/\∃W',Hid (zy W i W')/\vh w b G W' w':=by
 obtain⟨M,L,h,N⟩:=h;obtain⟨m,y,O,z,ac,B,ad,c2,hnc,hnb,x0,x1⟩:=h.under hi;subst ac;have s:=u.net;have C:=(jck.1 z).1;have P:=jcq z;have Q:=qey (k:=i) (v:=true) w c2 (by simp;omega);have D:=boxed (jcc _ w) (.cells #[U m.g.tj,.slice (PT m.blk) m.S.size m.cap] 205);have R:=qz2 (w.alloc (.cells #[U m.g.tj,.slice (PT m.blk) m.S.size m.cap] 205)) (by have:=qf h.nr (λk e=>D.block k (h.nr.lt k e).2);rw[B]at this;exact this) C (by omega);have E:=qd.new (w:=w) (T:=205) [U m.g.tj,.slice (PT m.blk) m.S.size m.cap] rfl;change qd (w.alloc (.cells #[U m.g.tj,.slice (PT m.blk) m.S.size m.cap] 205)) w.heap.size [U m.g.tj,.slice (PT m.blk) m.S.size m.cap]at E;have a:=hd8 h N B C u P hi E
 have q1:(i:Int)<(M.l.length:Int):=by omega
 have q2:(i:Int)<300:=by omega
 have hlt:=h.box.lt;clear h N B z hi s ad C u P E;go_enter Tryz.func104,Tryz.ntmps104
 go_wp2_with fail
 refine Q.mono ?_;rintro e w2 ⟨rfl,V⟩;have hw3:=V.symm;clear V Q;subst hw3
 go_wp2_with fail
 refine R.mono ?_;rintro e F ⟨rfl,X,d⟩;obtain⟨Y,t⟩:=a.out.1.dropped D a.out.2.2.1 a.out.2.2.2.1 X d;have nne:y≠b:=λe=>a.out.1.sb.2.2 (by rw[a.out.2.2.1,<-e];rfl);have nlt:=hnb
 have s3:w.heap.size+1<=F.heap.size:=by have:=d.size;simpa using this
 have H:qd F b _:=(a.out.1.box.later D).kept (d.block b (by simp;omega) (λe=>by injection e with e;exact nne e.symm)) d.size;have Z:qd F w.heap.size _:=a.out.2.2.2.2.2.2.2.kept (d.block w.heap.size (by simp) (λe=>by injection e with e;omega)) d.size;have e2:=H.c 2;have f2:=H.f 2;have I:=Z.far (AD b 2) (.slice (PT y) (M.l.length-1) O) (by show b≠w.heap.size;omega);have r0:=I.c 0;have r1:=I.c 1;have J:=a.out.1.sg m a.out.2.2.2.2.2.1;have K:=a.out.1.gr m a.out.2.2.2.2.2.1;have aa:=K.kept (t.block m.blk K.own.lt (λe=>e.elim J.1 J.2.2.2)) t.size;have CM:=q79 m _ ⟨_,L,Y,λ_=>jdl⟩ (a.out.2.2.2.2.1.drop i) aa (a.out.2.2.2.2.1.tj m.g (jcq a.out.2.2.2.2.2.2.1));have j:=hd1 t;clear R X d Y t H Z I J K aa
 go_wp2_with fail
 refine CM.mono ?_;rintro e w5 ⟨rfl,W',hC,G5,k1,k2,o⟩
 go_wp2_with fail
 go_ret
 have ab:∀q,qmp b {M with nv:=.slice (PT y) (M.l.length-1) O,l:=M.l.eraseIdx i} ((qai W i).n+(qai W i).c) L q->G q:=λq p=>(a.out.2.1 q).2 (by
  rcases p with (q|q|q|q|⟨x,hx,q⟩)|q
  ·exact .inl (.inl q)
  ·exact .inl (.inr (.inl q))
  ·exact .inl (.inr (.inr (.inl q)))
  ·exact .inl (.inr (.inr (.inr (.inl (by rw[a.out.2.2.1];exact q)))))
  ·exact .inl (.inr (.inr (.inr (.inr ⟨x,jdn hx,q⟩))))
  exact .inr q)
 have ts:=j.out.size;refine⟨rfl,W',⟨m.g,a.out.2.2.2.2.2.2.1,hC.out⟩,G5,k1,λq p=>?_,⟨o.os.trans j.out.os,o.tape.trans j.out.tape,o.output.trans j.out.output,jcn ts o.size,λq p s=>?_⟩⟩
 ·rcases k2 q p with r|r
  ·exact .inl (ab q r)
  exact .inr (by omega)
 exact(o.block q (by omega) (λr=>s (ab q r))).trans (j.out.block q p (λe=>s ((a.out.2.1 q).2 (.inl (e.elim .inl (λr=>.inr (.inr (.inr (.inl r)))))))))
theorem qvo (w:World) (h:PW w b G W) (n:WfW W):
 Ca 146 #[PP b] w λe w'=>e=.returned (.tuple #[])/\∃W',Hid (qaf W W'/\WfW W')/\vh w b G W' w':=by
 have o:=hd2 h n;clear h n;go_enter Tryz.func146,Tryz.ntmps146
 go_wp2_with fail
 go_loopg [2] (qjh W.net) (λk _ wr=>∃W1:WoS,qjh W1.net<=k/\Hid (WfW W1/\vh w b G W1 wr/\∀W',qaf W1 W'->qaf W W'))
 case atStart=>exact⟨W,jcd _,o.out.2,vh.same o.out.1 (jcc _ _),λ_ h=>h⟩
 obtain⟨W1,K,a⟩:=hrel;obtain⟨z,d⟩:=a.out.2.1.get;obtain⟨M,L,d,B⟩:=d
 have p:M.l.length=W1.net.length:=by rw[<-d.nl];simp
 obtain⟨N,O,t,r⟩:=qq d.nr;have C:=d.box.c 2;rw[t]at C;have P:=r.cap;have Q:=r.len;clear r t d B;by_cases f:W1.net=[]
 ·have q:¬0<(M.l.length:Int):=by rw[p,f];simp
  go_wp2_with fail
  go_end0;exact⟨rfl,W1,⟨a.out.2.2 W1 (.none f),a.out.1⟩,a.out.2.1⟩
 obtain⟨g,u⟩:∃g,W1.net[0]?=some g:=by
  cases hn:W1.net with
  |nil=>exact absurd hn f
  |cons x r=>exact⟨x,rfl⟩
 have q:0<(M.l.length:Int):=by
  have:W1.net.length≠0:=λe=>f (jc2 e);omega
 have D:Hid (Ca 104 #[PP b,U 0] wr λe w'=>e=.returned (jc 0)/\∃W',Hid (zy W1 0 W')/\vh w b G W' w'):=by
  obtain⟨z,d,s1,v⟩:=a.out.2.1;refine(qp6 (i:=0) wr d a.out.1 u).mono λe w' ⟨E,W',j,m⟩=>⟨E,W',j,?_⟩;obtain⟨F,p1,p2,p3⟩:=m;have s:=v.size;refine⟨F,p1,λq H=>?_,v.more p3 s1⟩;rcases p2 q H with e|e
  ·exact s1 q e
  exact .inr (by omega)
 have I:Hid (W1.net≠[]):=f;clear p f u
 go_wp2_with fail
 refine D.out.mono ?_;rintro e R ⟨rfl,y,j,m⟩;rw[show jc 0=.nilIface from rfl];have S:=qjk a.out.1 j.out
 go_wp2_with fail
 go_roundg (qjh y.net)
 case measure=>omega
 exact⟨y,jcd _,a.out.1.deliver j.out,m,λW' J=>a.out.2.2 W' (.step I.out j.out J)⟩
end
section
structure qet (W W':WoS):Prop where
 n:W'.n=W.n
 c:W'.c=W.c
 wall:W'.wall=W.wall
 ses:W'.ses=W.ses
 at_:W'.at_=W.at_
theorem qet.refl (W:WoS):qet W W:=⟨rfl,rfl,rfl,rfl,rfl⟩
theorem qet.trans {A B C:WoS} (h:qet A B) (k:qet B C):qet A C:=⟨k.n.trans h.n,k.c.trans h.c,k.wall.trans h.wall,k.ses.trans h.ses,k.at_.trans h.at_⟩
variable {W W':WoS}
theorem qf9.keep (h:qf9 W W'):qet W W':=⟨h.n,h.c,h.wall,h.ses,h.at_⟩
theorem qeo.keep {g:GrS} (h:qeo W g W'):qet W W':=by
 obtain⟨a,e⟩:=g;cases e with
 |tx t=>
  obtain⟨S',_,rfl⟩:=h;exact⟨rfl,rfl,rfl,rfl,rfl⟩
 |ask site v0 v1 v2 v3=>
  have d:if 0<=site/\site<(W.n:Int)then W'=qbc W a site.toNat v0 v1 v2 v3 else W'=W:=h
  split at d
  ·rw[d];have s:=qds site.toNat (qd6 (W.S a) v0 v1 v2 v3) (setSite W a (vp (W.S a) site.toNat v0 v1 v2 v3));exact⟨s.n,s.c,s.wall,s.ses,s.at_⟩
  rw[d];exact qet.refl W
theorem zy.keep {i:Nat} (h:zy W i W'):qet W W':=by
 obtain⟨g,_,h⟩:=h;have k:=h.keep;exact⟨k.n,k.c,k.wall,k.ses,k.at_⟩
theorem qaf.keep (h:qaf W W'):qet W W':=by
 induction h with
 |none _=>exact qet.refl _
 |step _ h _ ih=>exact h.keep.trans ih
variable {m:Nat}
theorem qdo.keep {k:Nat} (h:qdo k m W W'):qet W W':=by
 induction h with
 |zero=>exact qet.refl _
 |self _ _ ih=>exact ih
 |ask _ _ h ih=>exact(ih.trans (yb _ _).keep).trans h.keep
theorem qc1.keep (h:qc1 m W W'):qet W W':=by
 induction h with
 |zero=>exact qet.refl _
 |next _ h ih=>exact ih.trans h.keep
theorem qg9.keep (h:qg9 W W'):qet W W':=by
 obtain⟨W1,a,c⟩:=h;exact a.keep.trans c.keep
variable {b:Nat} {G:Nat->Prop}
theorem PW.len0 {w:World} (h:PW w b G W):∃a cap,w.cell? (AD b 0)=some (.slice a W.n cap):=by
 obtain⟨M,g,h,_⟩:=h;obtain⟨d,e,f,r⟩:=qq h.pr;have c:=h.box.c 0;rw[f]at c;exact⟨d,e,c⟩
theorem q71 (w:World) (h:PW w b G W) (u:WfW W):
 Ca 100 #[PP b] w λe w'=>e=.returned (.tuple #[])/\∃W',Hid (qg9 W W'/\WfW W')/\vh w b G W' w':=by
 have L:=qvo w h u;have M:=hd1 u.n4;clear h u;go_enter Tryz.func100,Tryz.ntmps100
 go_wp2_with fail
 refine L.mono ?_;rintro e w1 ⟨rfl,W1,v,g⟩;have x:=hd1 g;obtain⟨G1,N⟩:=x.out.get;obtain⟨pa,pc,j⟩:=N.len0;have B:=v.out.1.keep.n;rw[B]at j;have O:=hd1 B;clear L g B N
 go_wp2_with fail
 clear j
 go_loopw [11] (λiv wr=>∃(k:Nat) (z:Int) (f:WoS),k<=W.n/\z=k/\iv=U z/\Hid (WfW f/\f.n=W.n/\qc1 k W1 f/\vh w b G f wr)) (λiv _=>W.n-(intOf iv).toNat)
 case atStart=>exact⟨0,0,W1,by omega,rfl,rfl,v.out.2,O.out,.zero,x.out⟩
 clear x;obtain⟨k,z,f,hk,C,rfl,d⟩:=hrel;have l:=hd1 C;by_cases P:k<W.n
 ·have g1:z<(W.n:Int):=by omega
  have g3:0<=z:=by omega
  have g4:z<4:=by have:=M.out;omega
  obtain⟨G2,Q⟩:=d.out.2.2.2.get;obtain⟨pa2,pc2,j⟩:=Q.len0;rw[d.out.2.1]at j;clear C Q
  go_wp2_with fail
  clear j
  go_loopw [19] (λD wr=>∃(m:Nat) (y:Int) (c:WoS),m<=W.n/\y=m/\D=U y/\Hid (WfW c/\c.n=W.n/\qdo k m f c/\vh w b G c wr)) (λD _=>W.n-(intOf D).toNat)
  case atStart=>exact⟨0,0,f,by omega,rfl,rfl,d.out.1,d.out.2.1,.zero,d.out.2.2.2⟩
  obtain⟨m,y,c,hm,r,rfl,a⟩:=hrel;have p:=hd1 r;by_cases R:m<W.n
  ·have f1:y<(W.n:Int):=by omega
   have f3:0<=y:=by omega
   have f4:y<4:=by have:=M.out;omega
   by_cases t:m=k
   ·have f5:y=z:=by have:=l.out;omega
    clear r
    go_wp2_with fail
    go_roundw
    case rel=>exact⟨m+1,y+1,c,by omega,by have:=p.out;omega,by go_num,a.out.1,a.out.2.1,.self a.out.2.2.1 t,a.out.2.2.2⟩
    simp[intOf];have:=p.out;omega
   have f5:¬y=z:=by have:=l.out;omega
   have S:Hid (Ca 96 #[PP b,U z,U y] wr λe w'=>e=.returned (jc 0)/\vh w b G (qme c k m) w'):=by
        obtain⟨G3,P3,s3,T⟩:=a.out.2.2.2;have:=q7k wr P3 a.out.1 (i:=k) (o:=m) (by rw[a.out.2.1];exact P) (by rw[a.out.2.1];exact R) (λe=>t e.symm);rw[<-l.out,<-p.out]at this;refine this.mono λe w' ⟨E,g⟩=>⟨E,?_⟩;obtain⟨F,p1,p2,p3⟩:=g;have s:=T.size;refine⟨F,p1,λq H=>?_,T.more p3 s3⟩;rcases p2 q H with e|e
        ·exact s3 q e
        exact .inr (by omega)
   have V:=hd3 (show m≠k from t) P R;clear r t
   go_wp2_with fail
   refine S.out.mono ?_;rintro e X ⟨rfl,hP4⟩;rw[show jc 0=.nilIface from rfl];have Y:WfW (qme c k m):=a.out.1.send (by show m<c.n;rw[a.out.2.1];exact V.out.2.2);obtain⟨G4,Z,I,J⟩:=hP4
   have BR2:Hid (Ca 146 #[PP b] X λe w'=>e=.returned (.tuple #[])/\∃W',Hid (qaf (qme c k m) W'/\WfW W')/\vh w b G W' w'):=(qvo X Z Y).mono λe w' ⟨E,W',hB,g⟩=>⟨E,W',hB,by
        obtain⟨F,p1,p2,p3⟩:=g;have s:=J.size;refine⟨F,p1,λq H=>?_,J.more p3 I⟩;rcases p2 q H with e|e
        ·exact I q e
        exact .inr (by omega)⟩
   clear S Z I J Y
   go_wp2_with fail
   refine BR2.out.mono ?_;rintro e w5 ⟨rfl,W5,K,hP5⟩
   go_wp2_with fail
   go_roundw
   case rel=>exact⟨m+1,y+1,W5,by omega,by have:=p.out;omega,by go_num,K.out.2,(K.out.1.keep.n.trans (yb _ _).n).trans a.out.2.1,.ask a.out.2.2.1 V.out.1 K.out.1,hP5⟩
   simp[intOf];have:=p.out;omega
  have f1:¬y<(W.n:Int):=by omega
  have e:m=W.n:=by omega
  clear r
  go_wp2_with fail
  go_roundw
  case rel=>exact⟨k+1,z+1,c,by omega,by have:=l.out;omega,by go_num,a.out.1,a.out.2.1,.next d.out.2.2.1 (by rw[d.out.2.1,<-e];exact a.out.2.2.1),a.out.2.2.2⟩
  simp[intOf];have:=l.out;omega
 have g1:¬z<(W.n:Int):=by omega
 have e:k=W.n:=by omega
 clear C
 go_wp2_with fail
 go_end0;exact⟨rfl,f,⟨⟨W1,v.out.1,by rw[O.out,<-e];exact d.out.2.2.1⟩,d.out.1⟩,d.out.2.2.2⟩
end
section
theorem qnd (bp:Nat->Nat) (x:Nat->Int) (n:Nat):zt bp x (n+1)=zt bp x n++qum (bp n) (x n):=by
 unfold zt;rw[List.range_succ,List.flatMap_append];simp
theorem qk8 (bp:Nat->Nat) (x:Nat->Int) (y:Int) {i:Nat}:∀n,i<n->(zt bp x n).set (i*2+1) (U y)=zt bp (jj x i y) n
 |0,h=>by omega
 |n+1,h=>by
  rw[qnd,qnd];have a:=qkr bp x n;by_cases q:i=n
  ·subst q;rw[List.set_append,if_neg (by rw[a];omega),a,qt]
   have e:zt bp (jj x i y) i=zt bp x i:=by
    unfold zt;rw[List.flatMap_def,List.flatMap_def]
    congr 1
    refine List.map_congr_left (λj c=>?_);have:=List.mem_range.1 c;rw[yq _ _ (by omega)]
   rw[e,show i*2+1-i*2=1 by omega];rfl
  rw[List.set_append,if_pos (by rw[a];omega),qk8 bp x y n (by omega),yq _ _ (λe=>q e.symm)]
section
variable {w:World} {b cb cc i:Nat} {M:WoM} {W:WoS} {Gs:Nat->Nat->Prop}
theorem PWo.setAt (h:PWo w b M W Gs) (m:M.cv=.slice (PT cb) W.c cc) (hi:i<W.c) (a:Nat):PWo (w.setCell (AD cb (i*2+1)) (U a)) b M {W with at_:=jj W.at_ i a} Gs/\qc (λk=>k=cb) w (w.setCell (AD cb (i*2+1)) (U a)):=by
 have d:M.cv.ownBlock=some cb:=by rw[m];rfl
 have f:∀k,k≠cb->(w.setCell (AD cb (i*2+1)) (U a)).heap[k]?=w.heap[k]?:=λk g=>jce _ _ _ _ (λe=>g e)
 have l:(w.setCell (AD cb (i*2+1)) (U a)).heap.size=w.heap.size:=by simp[World.setCell]
 refine⟨⟨h.box.kept (f b (λe=>h.sb.2.1 (by rw[d,e]))) (by rw[l];exact jcd _),qf h.pr (λk e=>f k (λq=>((h.sr k).1 e).1 (by rw[d,q]))),?_,qf h.nr (λk e=>f k (λq=>(h.sr k).2 (by rw[d,q]) e)),h.nl,λx n=>(h.gr x n).kept (f _ (λq=>(h.sg x n).2.2.1 (by rw[d,q]))) (by rw[l];exact jcd _),h.fam.tj (λj k p e=>f k (λq=>(h.fam.free k (.inr (.inr (.inl (by rw[d,q]))))).2 j p e)) (by rw[l];exact jcd _) (λk g=>⟨.inl g,by rw[l];exact h.ltF k g⟩),h.sb,h.sr,h.sg⟩,qc.setCell _ _ _ rfl⟩;have o:=h.cr;rw[m]at o ⊢;have s:=(o.stored (i*2+1) (U a)).1;rw[qk8 _ _ _ _ hi]at s
 have e:(λk=>((jj W.at_ i a k:Nat):Int))=jj (λk=>(W.at_ k:Int)) i (a:Int):=by
  funext k
  unfold jj
  split<;>rfl
 show World.ownsRow _ 0 _ 2 _ W.c (zt M.bs (λk=>((jj W.at_ i a k:Nat):Int)) W.c);rw[e];exact s
theorem PWo.setWall (h:PWo w b M W Gs) (g:M.pv=.slice (PT cb) W.n cc) (hi:i<W.n) (x:Int):PWo (w.setCell (AD cb (i*2+1)) (U x)) b M {W with wall:=jj W.wall i x} Gs/\qc (λk=>k=cb) w (w.setCell (AD cb (i*2+1)) (U x)):=by
 have a:M.pv.ownBlock=some cb:=by rw[g];rfl
 have c:∀k,k≠cb->(w.setCell (AD cb (i*2+1)) (U x)).heap[k]?=w.heap[k]?:=λk d=>jce _ _ _ _ (λe=>d e)
 have f:(w.setCell (AD cb (i*2+1)) (U x)).heap.size=w.heap.size:=by simp[World.setCell]
 refine⟨⟨h.box.kept (c b (λe=>h.sb.1 (by rw[a,e]))) (by rw[f];exact jcd _),?_,qf h.cr (λk e=>c k (λq=>((h.sr cb).1 a).1 (by rw[<-q];exact e))),qf h.nr (λk e=>c k (λq=>((h.sr cb).1 a).2 (by rw[<-q];exact e))),h.nl,λx l=>(h.gr x l).kept (c _ (λq=>(h.sg x l).2.1 (by rw[a,q]))) (by rw[f];exact jcd _),h.fam.tj (λj k m e=>c k (λq=>(h.fam.free k (.inr (.inl (by rw[a,q])))).2 j m e)) (by rw[f];exact jcd _) (λk d=>⟨.inl d,by rw[f];exact h.ltF k d⟩),h.sb,h.sr,h.sg⟩,qc.setCell _ _ _ rfl⟩;have o:=h.pr;rw[g]at o ⊢;have s:=(o.stored (i*2+1) (U x)).1;rw[qk8 _ _ _ _ hi]at s;exact s
end
def qll (W:WoS) (i:Nat):Int:=if (W.ses i).opn=true then 6 else 0
def qhx (W:WoS) (i tj:Nat):WoS:=if (W.ses i).opn=true then W else {W with at_:=jj W.at_ i tj}
variable {i:Nat}
theorem q8o {b:Nat} {G:Nat->Prop} {W:WoS} (w:World) (h:PW w b G W) {l:Nat} (hi:i<W.c) (N:l<W.n):
 Ca 112 #[PP b,U i,U l] w λe w'=>e=.returned (jc (qll W i))/\vh w b G (qhx W i l) w':=by
 obtain⟨M,Gs,h,C⟩:=h;obtain⟨O,cc,x,r⟩:=qq h.cr
 obtain⟨cb,rfl,T,y⟩:∃g,O=some (AD g 0)/\g<w.heap.size/\∀j u,(zt M.bs (λk=>(W.at_ k:Int)) W.c)[j]?=some u->w.cell? (AD g j)=some u:=by
  rcases r.held with I|I
  ·omega
  exact I
 have D:=h.box.c 1;rw[x]at D;obtain⟨V,X,P,Y,Z,y0,y1⟩:=h.place N;have x0:=y _ _ (qea hi).1;have x1:=y _ _ (qea hi).2;have z:=yf (k:=i) (v:=true) w D (by simp;omega);have B:=yi (k:=l) (v:=true) w P (by simp;omega);have s:=qmk w (h.sess hi);have hlt:=h.box.lt;have f:=hd4 h C x hi
 have o:(i:Int)<(W.c:Int):=by omega
 have hrl:=r.len;cases ho:(W.ses i).opn
 ·have t:Hid (jc (qll W i)=.nilIface/\qhx W i l={W with at_:=jj W.at_ i l}):=⟨by unfold qll;rw[ho];rfl,by unfold qhx;rw[ho];rfl⟩;rw[ho]at s;clear h C y r x ho;go_enter Tryz.func112,Tryz.ntmps112
  go_wp2_with fail
  refine z.mono ?_;rintro e w2 ⟨rfl,a⟩;have m:=a.symm;clear a z;subst m
  go_wp2_with fail
  refine B.mono ?_;rintro e w2 ⟨rfl,a⟩;have m:=a.symm;clear a B;subst m
  go_wp2_with fail
  refine s.mono ?_;rintro e J ⟨rfl,p⟩;have E:=f.out.1.later p;have F:=E.cr;rw[f.out.2.2.1]at F;have z1:=cell_later p D;have z2:=cell_later p x1
  have fz:J.frozen? (AD cb (i*2+1))=false:=by
   rcases F.2 with ⟨q,_⟩|⟨g2,cap2,cur,q,_,Q,_⟩
   ·cases q
   injection q with o q2 q3;injection o with o;injection o with o;subst o;unfold World.frozen?;rw[Q];simp
  obtain⟨K,L⟩:=E.setAt f.out.2.2.1 f.out.2.2.2 l;have d:=hd3 K L p;clear s E K L F
  go_wp2_with fail
  go_ret;refine⟨by rw[t.out.1];rfl,?_⟩;rw[t.out.2]
  have R:M.cv.ownBlock=some cb:=by rw[f.out.2.2.1];rfl
  have s3:=d.out.2.2.size;refine⟨_,⟨M,Gs,d.out.1,λ_=>jdl⟩,λk H=>.inl ((f.out.2.1 k).2 H),?_⟩;exact⟨d.out.2.1.os.trans d.out.2.2.os,d.out.2.1.tape.trans d.out.2.2.tape,d.out.2.1.output.trans d.out.2.2.output,jcn s3 d.out.2.1.size,λk H S=>(d.out.2.1.block k (by omega) (λe=>S ((f.out.2.1 k).2 (.inl (.inr (.inr (.inl (by rw[R,e])))))))).trans (d.out.2.2.block k H)⟩
 have t:Hid (jc (qll W i)=.iface 26 (U 6)/\qhx W i l=W):=⟨by unfold qll;rw[ho];rfl,by unfold qhx;rw[ho];rfl⟩;rw[ho]at s;clear h C y r x ho;go_enter Tryz.func112,Tryz.ntmps112
 go_wp2_with fail
 refine z.mono ?_;rintro e w2 ⟨rfl,a⟩;have m:=a.symm;clear a z;subst m
 go_wp2_with fail
 refine B.mono ?_;rintro e w2 ⟨rfl,a⟩;have m:=a.symm;clear a B;subst m
 go_wp2_with fail
 refine s.mono ?_;rintro e J ⟨rfl,p⟩
 go_wp2_with fail
 go_ret;refine⟨by rw[t.out.1];rfl,?_⟩;rw[t.out.2];exact vh.same ⟨M,Gs,f.out.1,f.out.2.1⟩ p
end
def qk3 (x:Int):Int:=if x<=1099511627776 then x else 1099511627776
def qm8 (W:WoS) (i:Nat) (by_:Int):WoS:={W with wall:=jj W.wall i (qk3 (W.wall i+by_))}
theorem q8u {b:Nat} {G:Nat->Prop} {W:WoS} (w:World) (h:PW w b G W) {i:Nat} (hi:i<W.n) {y:Int} (Y:0<=y) (Z:y<=1099511627776) (J:0<=W.wall i) (K:W.wall i<=1099511627776):
 Ca 106 #[PP b,U i,U y] w λe w'=>e=.returned (jc 0)/\vh w b G (qm8 W i y) w':=by
 obtain⟨M,L,h,s⟩:=h;obtain⟨N,pc,l,r⟩:=qq h.pr
 obtain⟨m,rfl,hpb,x⟩:∃g,N=some (AD g 0)/\g<w.heap.size/\∀j u,(zt M.bp W.wall W.n)[j]?=some u->w.cell? (AD g j)=some u:=by
  rcases r.held with z|z
  ·omega
  exact z
 have B:=h.box.c 0;rw[l]at B;have x1:=x _ _ (qea hi).2;have C:=yi (k:=i) (v:=true) w B (by simp;omega);have hlt:=h.box.lt;have d:=hd4 h s l hi
 have f:(i:Int)<(W.n:Int):=by omega
 have hrl:=r.len
 have fz:w.frozen? (AD m (i*2+1))=false:=by
  have D:=h.pr;rw[l]at D;rcases D.2 with ⟨q,_⟩|⟨g2,cap2,cur,q,_,O,_⟩
  ·cases q
  injection q with f q2 q3;injection f with f;injection f with f;subst f;unfold World.frozen?;rw[O];simp
 obtain⟨a,o⟩:∃a,W.wall i=a:=⟨_,rfl⟩;rw[o]at x1 J K
 have hwz:wrap64 (a+y)=a+y:=by unfold wrap64;omega
 have P:Hid (qm8 W i y={W with wall:=jj W.wall i (qk3 (a+y))}):=by show _=_;unfold qm8;rw[o]
 have Q:Hid (∀w',w'=w.drew.setCell (AD m (i*2+1)) (U (qk3 (a+y)))->vh w b G {W with wall:=jj W.wall i (qk3 (a+y))} w'):=λw' e=>by
  subst e;obtain⟨R,S⟩:=(d.out.1.later (jcc _ w).drew).setWall d.out.2.2.1 d.out.2.2.2 (qk3 (a+y))
  have T:M.pv.ownBlock=some m:=by rw[d.out.2.2.1];rfl
  refine⟨_,⟨M,L,R,λ_=>jdl⟩,λk p=>.inl ((d.out.2.1 k).2 p),?_⟩;have t:=(qc.ofBelow (F:=λk=>k=m) (jcc _ w).drew).trans S;exact⟨t.os,t.tape,t.output,t.size,λk p V=>t.block k p (λe=>V ((d.out.2.1 k).2 (.inl (.inr (.inl (by rw[T,e]))))))⟩
 clear h s x r l o;by_cases E:a+y<=1099511627776;have H:Hid (qk3 (a+y)=a+y):=if_pos E
 rotate_left
 have H:Hid (qk3 (a+y)=1099511627776):=if_neg E
 all_goals
  go_enter Tryz.func106,Tryz.ntmps106
  go_wp2_with fail
  refine C.mono ?_;rintro e w2 ⟨rfl,I⟩;have X:=I.symm;clear I C;subst X
  go_wp2_with fail
  go_region
  all_goals
   go_wp2_with fail
   go_ret;refine⟨rfl,?_⟩;rw[P.out];exact Q.out _ (by rw[H.out];rfl)
section
open Go.Maps
variable {b:Nat} {G:Nat->Prop} {S:qe}
theorem q3f (w:World) (h:PS w b G S):
 Ca 159 #[PP b] w (Rn (U S.waits.length) w):=by
 obtain⟨lv,bm,F,log,waits,d,_,e⟩:=h.mem;have i:=d.box.c 8;obtain⟨_,_,j,f,g⟩:=d.map
 have k:∀a,(Builtin.len_ #[214] a #[.map (some bm)]).run Tryz.prog w=.ok (U S.waits.length) w:=λa=>by
  have:=f.len Tryz.underlying214 a;rw[g.size,e]at this;exact this
 go_enter Tryz.func159,Tryz.ntmps159
 go_wp2_with fail
 go_ret;exact⟨rfl,jcc _ _⟩
theorem q6f (w:World) (h:PS w b G S) (d:j3 S):
 Ca 160 #[PP b] w λe w'=>∃v,e=.returned v/\w'.ownsRow w.heap.size 9 1 v 8 (qej S.a0 S.a1 S.a2 S.a3 S.l 8)/\Bw w w':=by
 obtain⟨lv,bm,F,log,waits,a,_,_⟩:=h.mem;have m:=a.box.c 1;have n:=a.box.c 2;have o:=a.box.c 3;have p:=a.box.c 4
 have g:Hid (Ca 217 #[.pointer (some (AD b 25)),.agg #[U S.a0,U S.a1,U S.a2,U S.a3]] w.drew λe w'=>∃v,e=.returned v/\Hid (w'.ownsRow w.heap.size 9 1 v 8 (qej S.a0 S.a1 S.a2 S.a3 S.l 8)/\Bw w w')):=
  (q6v S.a0 S.a1 S.a2 S.a3 w.drew (a.later (jcc _ w).drew).st d.many d.apart d.ok).mono λe w' ⟨v,i,j,k⟩=>⟨v,i,j,qa (jcc _ w).drew k⟩
 go_enter Tryz.func160,Tryz.ntmps160
 go_wp2_with fail
 go_region_law (refine je rfl 217 #[.pointer (some (AD b 25)),.agg #[U S.a0,U S.a1,U S.a2,U S.a3]] (by go_simp) g.out ?_
                rintro e w2 ⟨v,rfl,f⟩
                refine⟨_,rfl,?_⟩)
 all_goals
  go_wp2_with fail
  go_ret;exact⟨_,rfl,f.out.1,f.out.2⟩
end
def qmf (Ls:Nat->List Ver):Nat->Nat
 |0=>0
 |k+1=>qmf Ls k+(Ls k).length
theorem qv1 (a:Nat->List Ver):∀{k m:Nat},k<=m->qmf a k<=qmf a m
 |k,0,h=>by obtain rfl:k=0:=by omega
            exact jcd _
 |k,m+1,h=>by
  rcases jc7 k (m+1)with b|b
  ·exact jcn (qv1 a (by omega)) (Nat.le_add_right _ _)
  obtain rfl:k=m+1:=by omega
  exact jcd _
theorem q4n (x:Nat->Value) {k:Nat} (a:k<8) {z:Int} (b:z=k) (w:World):(Instr.index 216 (.agg #[x 0,x 1,x 2,x 3,x 4,x 5,x 6,x 7]) (U z)).run Tryz.prog w=.ok (x k) w:=by
 subst b
 rcases q6q a with rfl|rfl|rfl|rfl|rfl|rfl|rfl|rfl<;>kernel_rfl
theorem q2y {b g:Nat} {F:Nat->Prop} {l:List Hd} (w:World) (s:qir w b g F l) (L:l.length<=1000):
 Ca 218 #[.pointer (some (AD b g))] w (Rn (U l.length) w):=by
 obtain⟨j,d,R,t,M⟩:=id s;have u:(w).cell? (AD b g)=some (j 0):=R.cell (k:=0) (by omega);have v:=R.cell (k:=1) (by omega);have x:=R.cell (k:=2) (by omega);have B:=R.cell (k:=3) (by omega);have C:=R.cell (k:=4) (by omega);have D:=R.cell (k:=5) (by omega);have E:=R.cell (k:=6) (by omega);have G:=R.cell (k:=7) (by omega)
 have m:qmf d 8=l.length:=by
  have:=t.count;simp only[qmf];omega
 have n:=hd1 m;clear m;go_enter Tryz.func218,Tryz.ntmps218
 go_wp2_with fail
 clear u v x B C D E G
 go_loopw [3,10] (λH iv wr=>∃(k:Nat) (z y:Int),k<=8/\z=k/\y=qmf d k/\iv=U z/\H=U y/\wr=w) (λ_ i _=>8-(intOf i).toNat)
 case atStart=>exact⟨0,0,0,by omega,rfl,rfl,rfl,rfl,rfl⟩
 obtain⟨k,z,y,N,f,h,rfl,rfl,rfl⟩:=hrel;have o:=hd1 h;have p:=hd1 f;by_cases q:k<8
 ·have r:=qv1 d (show k+1<=8 by omega);rw[n.out]at r;have I:qmf d (k+1)=qmf d k+(d k).length:=rfl
  have J:z<8:=by omega
  have O:0<=z:=by omega
  obtain⟨a,c,e,_⟩:=qfo (R.own k q);have K:=q4n j q f;rw[e]at K
  have P: -9223372036854775808<=y+((d k).length:Int):=by omega
  have Q:y+((d k).length:Int)<=9223372036854775807:=by omega
  clear f h I r
  go_wp2_with fail
  go_roundw
  case rel=>exact⟨k+1,z+1,y+((d k).length:Int),by omega,by have:=p.out;omega,by have:=o.out;simp only[qmf];omega,by go_num,by go_num,by first|rfl|trivial⟩
  simp[intOf];have:=p.out;omega
 obtain rfl:k=8:=by omega
 have J:¬z<8:=by omega
 clear f h
 go_wp2_with fail
 go_ret;exact⟨by rw[o.out,n.out];rfl,jcc _ _⟩
def qk7 (a0 a1 a2 a3:Int) (L:List Ver):List Ver:=L.filter λv=>!qhu a0 a1 a2 a3 ((qdi a0 a1 a2 a3 L).getD jq) v
section
structure qhf (w0:World) (b so:Nat) (vs:Nat->Value) (Ls:Nat->List Ver) (a0 a1 a2 a3:Int) (k:Nat) (vs':Nat->Value) (Ls':Nat->List Ver) (wr:World):Prop where
 raw:qi0 wr b so vs' Ls'
 done:∀i,i<k->Ls' i=qk7 a0 a1 a2 a3 (Ls i)
 rest:∀i,k<=i->Ls' i=Ls i/\vs' i=vs i
 foot:∀j,qfu b vs' j->qfu b vs j
 touch:qc (qfu b vs) w0 wr
 cells:qfy b so w0 wr
variable {w0 wr:World} {b so k:Nat} {vs:Nat->Value} {Ls:Nat->List Ver} {a0 a1 a2 a3:Int}
theorem qhf.later {w':World} {c:Nat->Value} {d:Nat->List Ver} (h:qhf w0 b so vs Ls a0 a1 a2 a3 k c d wr) (a:Bw wr w'):qhf w0 b so vs Ls a0 a1 a2 a3 k c d w':=
 ⟨h.raw.later a,h.done,h.rest,h.foot,h.touch.trans (qc.ofBelow a),h.cells.trans (qfy.ofBlock (a.block b h.raw.box.lt))⟩
theorem qhf.next {n:World} {c:Nat->Value} {o:Nat->List Ver} (h:qhf w0 b so vs Ls a0 a1 a2 a3 k c o wr) (p:k<8) {v':Value}
 (f:qoa wr (c k) (qk7 a0 a1 a2 a3 (Ls k)) v' n):qhf w0 b so vs Ls a0 a1 a2 a3 (k+1) (upd c k v') (upd o k (qk7 a0 a1 a2 a3 (Ls k))) (n.setCell (AD b (so+k)) v'):=by
 have q:qbr (qk7 a0 a1 a2 a3 (Ls k)):=by
  have:=h.raw.sorted k p;rw[(h.rest k (jcd _)).1]at this;exact qqz this _
 have m:=h.raw.change p (v':=v') (L':=qk7 a0 a1 a2 a3 (Ls k)) (qc.grown f.2.1 (λj a=>a)) f.1 (λg e=>.inl (by rw[f.2.2]at e;exact e)) q
 have r:∀j,qfu b (upd c k v') j->qfu b c j:=λj a=>by
  rcases a with rfl|⟨i,hi,e⟩
  ·exact .inl rfl
  by_cases d:i=k
  ·subst d;rw[qde,f.2.2]at e;exact .inr ⟨i,hi,e⟩
  rw[qax _ _ d]at e;exact .inr ⟨i,hi,e⟩
 refine⟨m.1,λi hi=>?_,λi hi=>?_,λj a=>h.foot j (r j a),?_,h.cells.trans m.2.2.2⟩
 ·by_cases d:i=k
  ·subst d;rw[qde]
  rw[qax _ _ d];exact h.done i (by omega)
 ·rw[qax _ _ (by omega),qax _ _ (by omega)];exact h.rest i (by omega)
 have t:=m.2.1;exact h.touch.trans ⟨t.os,t.tape,t.output,t.size,λj a s=>t.block j a (λe=>s (h.foot j e))⟩
variable {F:Nat->Prop} {l:List Hd}
theorem qhf.post {a:Nat->Value} {g:Nat->List Ver} (h:qhf w0 b so vs Ls a0 a1 a2 a3 8 a g wr) (R:qi0 w0 b so vs Ls) (c:qbp Ls l) (i:∀k,F k↔qfu b vs k) (m:qfk l):qf8 w0 b so F (qcr a0 a1 a2 a3 l) wr:=by
 refine⟨qfu b a,⟨a,g,h.raw,⟨λk d=>?_,λx n=>c.keys x (jdq.1 n).1⟩,λ_=>jdl⟩,λj f=>.inl ((i j).2 (h.foot j f)),⟨h.touch.os,h.touch.tape,h.touch.output,h.touch.size,λj f o=>h.touch.block j f (λe=>o ((i j).2 e))⟩,h.cells⟩;rw[h.done k d];exact q32 (c.perm k d) (c.qlast R m d a0 a1 a2 a3)
theorem qyf (a0 a1 a2 a3:Int) (w:World) (hS:qir w b so F l) (hl:l.length<=1000) (X:qfk l) (H:∀h∈l,qau h.v=true):
 Ca 221 #[.pointer (some (AD b so)),.agg #[U a0,U a1,U a2,U a3]] w λe w'=>e=.returned (.tuple #[])/\qf8 w b so F (qcr a0 a1 a2 a3 l) w':=by
 obtain⟨vs,Ls,R,I,hF⟩:=id hS;have f:=qd.new (w:=w) (T:=77) [U a0,U a1,U a2,U a3] rfl;have t:=boxed (jcc _ w) (.cells #[U a0,U a1,U a2,U a3] 77);have o:=R.later t;have J:qhf w b so vs Ls a0 a1 a2 a3 0 vs Ls (w.alloc (.cells #[U a0,U a1,U a2,U a3] 77)):=⟨o,λi hi=>by omega,λi _=>⟨rfl,rfl⟩,λj hj=>hj,qc.ofBelow t,qfy.ofBlock (t.block b R.box.lt)⟩;have k0:(w.alloc (.cells #[U a0,U a1,U a2,U a3] 77)).cell? (AD b so)=some (vs 0):=o.cell (k:=0) (by omega);have k1:=o.cell (k:=1) (by omega);have k2:=o.cell (k:=2) (by omega);have k3:=o.cell (k:=3) (by omega);have k4:=o.cell (k:=4) (by omega);have k5:=o.cell (k:=5) (by omega);have k6:=o.cell (k:=6) (by omega);have k7:=o.cell (k:=7) (by omega);have HA:=hd1 X;have HO:=hd1 H;have Y:∀k,k<8->(Ls k).length<=1000:=λk u=>jcn (I.len u) hl;have Z:=hd1 Y;have aa:Hid (∀k,k<8->∀v∈Ls k,0<=v.site/\v.site<=3):=λk u=>I.sites H u;clear X H Y o;go_enter Tryz.func221,Tryz.ntmps221
 go_wp2_with fail
 clear k0 k1 k2 k3 k4 k5 k6 k7;obtain⟨W,ab⟩:∃W,w.alloc (.cells #[U a0,U a1,U a2,U a3] 77)=W:=⟨_,rfl⟩;rw[ab]at f J ⊢;clear ab t
 go_loopw [12] (λiv wr=>∃(k:Nat) (z:Int) (K:Nat->Value) (ac:Nat->List Ver),k<=8/\z=k/\iv=U z/\Hid (qhf w b so vs Ls a0 a1 a2 a3 k K ac wr)/\qd wr w.heap.size [U a0,U a1,U a2,U a3]) (λi _=>8-(intOf i).toNat)
 case atStart=>exact⟨0,0,vs,Ls,by omega,rfl,rfl,J,f⟩
 clear J f;obtain⟨k,z,K,ac,u,x,rfl,s,f⟩:=hrel;have HZ:=hd1 x;by_cases m:k<8
 ·have h1:z<8:=by omega
  have h3:0<=z:=by omega
  have h2:z.toNat=k:=by omega
  obtain⟨a,c,e,hV⟩:=qfo (R.own k m);have ix:=q4n vs m x;rw[e]at ix;obtain⟨c0,c1,c2,c3⟩:=f.c4
  have p:wr.ownsRow 0 130 6 (.slice a (Ls k).length c) (Ls k).length (ja (Ls k)):=by
   have:=s.out.raw.own k m;rw[(s.out.rest k (jcd _)).1,(s.out.rest k (jcd _)).2,e]at this;exact this
  have hVr:qs5 wr a c (Ls k):=by
   obtain⟨a',c',e',h'⟩:=qfo p;injection e' with L e2 e3;subst L e3;exact h'
  obtain⟨d,M⟩:∃d,(qdi a0 a1 a2 a3 (Ls k)).getD jq=d:=⟨_,rfl⟩;obtain⟨sb,hsb⟩:∃sb,qga (qdi a0 a1 a2 a3 (Ls k))=sb:=⟨_,rfl⟩;have N:=qwf a0 a1 a2 a3 wr hVr (aa.out k m) (Z.out k m);rw[qjl,M,hsb]at N;have ST:=hd1 M;have y:=hd1 e;clear x M hsb hV hVr e
  go_wp2_with fail
  refine N.mono ?_;rintro e q ⟨rfl,B⟩;replace f:=f.later B;replace p:=qgp p B;have n:=hd1 (s.out.later B);clear N s c0 c1 c2 c3 B;rw[show (qh d).toArray=#[U d.wall,U d.count,U d.site,U d.seq,.string d.data,.bool d.gone]from rfl];have C:=boxed (jcc _ q) (.cells #[U d.wall,U d.count,U d.site,U d.seq,.string d.data,.bool d.gone] 130);have D:=qd.new (w:=q) (T:=130) (qh d) rfl;change qd (q.alloc (.cells #[U d.wall,U d.count,U d.site,U d.seq,.string d.data,.bool d.gone] 130)) q.heap.size (qh d)at D;replace f:=f.later C;replace p:=qgp p C;replace n:=n.out.later C;have O:=λg hg=>((R.own k m).lt g (by rw[y.out];exact hg)).2;have hsz:=n.touch.size;obtain⟨r,P⟩:∃r,q.alloc (.cells #[U d.wall,U d.count,U d.site,U d.seq,.string d.data,.bool d.gone] 130)=r:=⟨_,rfl⟩;rw[P]at D f p n
  have L:r.heap.size=q.heap.size+1:=by rw[<-P];simp
  have hw1:w.heap.size<=q.heap.size:=by rw[P]at hsz;have:=f.lt;omega
  have S2:=hd1 (n.later (jcc _ r).drew);have DE:=hd1 (qyk r.drew p (aa.out k m) (Z.out k m) f.drew D.drew (λh=>by have:=O _ h;omega) (λh=>by have:=O _ h;omega));have qdb:=n.raw.cell m;rw[(n.rest k (jcd _)).2,y.out]at qdb;have bfree:=n.raw.free m;have hap:=n.raw.apart k m;rw[(n.rest k (jcd _)).2,y.out]at hap;have hbl:=n.raw.box.lt;clear p D C n hsz L
  go_wp2_with fail
  go_region_law (
   refine je rfl 261 #[.slice a (Ls k).length c,.func (.func 262) #[] #[PP w.heap.size,PP q.heap.size]] (by go_simp) DE.out ?_;rintro e E ⟨v',rfl,G⟩;refine⟨_,rfl,?_⟩;have HD:=hd1 G;have Q:=G.2.1.block b hbl (λe=>hap e.symm)
   have c8:E.cell? (AD b (so+k))=some (.slice a (Ls k).length c):=by rw[jch (w:=r.drew) Q];exact qdb
   have f8:E.frozen? (AD b (so+k))=false:=by rw[jcp (w:=r.drew) Q];exact bfree
   obtain⟨S,V,hv9,_⟩:=qfo G.1;subst hv9
   clear G Q)
  all_goals
   have HD2:qoa r.drew (K k) (qk7 a0 a1 a2 a3 (Ls k)) (.slice S ((Ls k).filter λv=>!qhu a0 a1 a2 a3 d v).length V) E:=by
        rw[(S2.out.rest k (jcd _)).2,y.out];unfold qk7;rw[ST.out];exact HD.out
   have SN:=hd1 (S2.out.next m HD2)
   have hwb:w.heap.size≠b:=by have:=R.box.lt;omega
   have RA8:=f.drew.grown HD.out.2.1 (λe=>by have:=O _ e.symm;omega);have RA9:=RA8.far (AD b (so+k)) (.slice S ((Ls k).filter λv=>!qhu a0 a1 a2 a3 d v).length V) (Ne.symm hwb);obtain⟨W9,hW9⟩:∃W9,E.setCell (AD b (so+k)) (.slice S ((Ls k).filter λv=>!qhu a0 a1 a2 a3 d v).length V)=W9:=⟨_,rfl⟩;rw[hW9]at SN RA9 ⊢;clear hW9 HD2 RA8 c8 f8
   go_wp2_with fail
   go_roundw
   case rel=>exact⟨k+1,z+1,_,_,by omega,by have:=HZ.out;omega,by go_num,SN,RA9⟩
   simp[intOf];have:=HZ.out;omega
 obtain rfl:k=8:=by omega
 have h1:¬z<8:=by omega
 clear x
 go_wp2_with fail
 go_end0;exact⟨rfl,s.out.post R I hF HA.out⟩
end
section
open Go.Maps
variable {b:Nat} {G:Nat->Prop} {S:qe}
theorem q1v (w:World) (h:PS w b G S) (a:j3 S):
 Ca 161 #[PP b] w (Rn (U S.l.length) w):=by
 obtain⟨lv,bm,F,log,waits,c,_,_⟩:=h.mem;have d:=q2y w c.st a.many;go_enter Tryz.func161,Tryz.ntmps161
 go_wp2_with fail
 refine d.mono ?_;rintro e w2 ⟨rfl,f⟩
 go_wp2_with fail
 go_ret;exact⟨rfl,f⟩
theorem qx0 (x0 x1 x2 x3:Int) (w:World) (h:PS w b G S) (j:j3 S):
 Ca 164 #[PP b,.agg #[U x0,U x1,U x2,U x3]] w λe w'=>e=.returned (.tuple #[])/\PPo w b G {S with l:=qcr (qm x0 S.a0) (qm x1 S.a1) (qm x2 S.a2) (qm x3 S.a3) S.l} w':=by
 have r:=boxed (jcc _ w) (.cells #[U x0,U x1,U x2,U x3] 77);have t:=qd.new (w:=w) (T:=77) [U x0,U x1,U x2,U x3] rfl;obtain⟨lv,bm,F,log,waits,g,u,v,n⟩:=h;have i:=g.later r;have J:=i.box.c 1;have K:=i.box.c 2;have L:=i.box.c 3;have M:=i.box.c 4;obtain⟨N,O,P,Q⟩:=t.c4;have x:Hid (∀W,Bw w W->Ca 163 #[.agg #[U x0,U x1,U x2,U x3],.agg #[U S.a0,U S.a1,U S.a2,U S.a3]] W (Rn (.agg #[U (qm x0 S.a0),U (qm x1 S.a1),U (qm x2 S.a2),U (qm x3 S.a3)]) w)):=λW a=>(qn5 x0 x1 x2 x3 S.a0 S.a1 S.a2 S.a3 W).mono λe w' ⟨o,p⟩=>⟨o,qa a p⟩
 have y:Hid (∀W,Bw w W->Ca 221 #[.pointer (some (AD b 25)),.agg #[U (qm x0 S.a0),U (qm x1 S.a1),U (qm x2 S.a2),U (qm x3 S.a3)]] W λe w'=>e=.returned (.tuple #[])/\Hid (PPo w b G {S with l:=qcr (qm x0 S.a0) (qm x1 S.a1) (qm x2 S.a2) (qm x3 S.a3) S.l} w')):=λW a=>
  (qyf (qm x0 S.a0) (qm x1 S.a1) (qm x2 S.a2) (qm x3 S.a3) W (g.later a).st j.many j.apart j.ok).mono λe w' ⟨o,p⟩=>by
   obtain⟨F',z,B,d⟩:=(g.later a).store p;have R:∀k,(∃m∈log++waits,m.blk k)->k<w.heap.size:=λk ⟨m,C,e⟩=>(g.hold m C).1.blk_lt k e;refine⟨o,λk=>jn b lv bm F' k\/∃m∈log++waits,m.blk k,⟨lv,bm,F',log,waits,z,u,v,λk=>jdl⟩,λk f=>?_,(qc.ofBelow a).more ⟨d.os,d.tape,d.output,d.size,λk f D=>d.block k f (λe=>D ((n k).2 (.inl e)))⟩ (λk f=>.inl f)⟩;rcases f with q|q
   ·rcases B k q with s|s
    ·exact .inl ((n k).2 (.inl s))
    exact .inr (by have:=a.size;omega)
   exact .inl ((n k).2 (.inr q))
 have E:=r.drew;go_enter Tryz.func164,Tryz.ntmps164
 go_wp2_with fail
 go_region_law (first
  |(refine je rfl 163 #[.agg #[U x0,U x1,U x2,U x3],.agg #[U S.a0,U S.a1,U S.a2,U S.a3]] (by go_simp) (x.out _ E) ?_
    rintro e w2 ⟨rfl,H⟩
    refine⟨_,rfl,?_⟩)
  |(refine je rfl 221 #[.pointer (some (AD b 25)),.agg #[U (qm x0 S.a0),U (qm x1 S.a1),U (qm x2 S.a2),U (qm x3 S.a3)]] (by go_simp) (y.out _ H) ?_
    rintro e V ⟨rfl,I⟩
    refine⟨_,rfl,?_⟩))
 all_goals
  go_wp2_with fail
  go_end0;exact⟨rfl,I.out⟩
end
section
variable {w:World}
theorem qlr {tmps:Array Value} {a:Nat} {p0 p1 p2 p3:Int} {c d e f:Value} (g:qd w a [U p0,U p1,U p2,U p3]) (h:tmps[4]?=some (PP a)) (i:tmps[5]?=some c) (j:tmps[6]?=some d) (l:tmps[7]?=some e) (m:tmps[8]?=some f):
 (results Tryz.f114 tmps).run Tryz.prog w=.ok (.tuple #[.agg #[U p0,U p1,U p2,U p3],c,d,e,f]) w:=by
 obtain⟨o,p,q,r⟩:=g.c4;simp[results,Tryz.results114,go_sem,h,i,j,l,m,o,p,q,r]
variable {W:World} {b:Nat}
theorem q7m (h:qd W b [U 0,U 0,U 0,U 0]) (x0 x1 x2 x3:Int):qd ((((W.setCell (AD b 0) (U x0)).setCell (AD b 1) (U x1)).setCell (AD b 2) (U x2)).setCell (AD b 3) (U x3)) b [U x0,U x1,U x2,U x3]:=
 (((h.set 0 _ (by simp)).set 1 _ (by simp)).set 2 _ (by simp)).set 3 _ (by simp)
variable {k:Nat}
theorem qx7 (a:k≠b) (x0 x1 x2 x3:Int):((((W.setCell (AD b 0) (U x0)).setCell (AD b 1) (U x1)).setCell (AD b 2) (U x2)).setCell (AD b 3) (U x3)).heap[k]?=W.heap[k]?:=by
 have e:∀(V:World) (p:Addr) (u:Value),p.block=b->(V.setCell p u).heap[k]?=V.heap[k]?:=λV p u c=>jce _ _ _ _ (λq=>a (q.trans c));rw[e _ _ _ rfl,e _ _ _ rfl,e _ _ _ rfl,e _ _ _ rfl]
variable {n:Nat}
theorem qe8 (h:Below n w W) (a:n<=b) (x0 x1 x2 x3:Int):Below n w ((((W.setCell (AD b 0) (U x0)).setCell (AD b 1) (U x1)).setCell (AD b 2) (U x2)).setCell (AD b 3) (U x3)):=
 (((h.setCell (p:=AD b 0) a _).setCell (p:=AD b 1) a _).setCell (p:=AD b 2) a _).setCell (p:=AD b 3) a _
theorem q45 {B a:Nat} {T:TypeId} {v:Value} {xs:List Value} (h:w.ownsRow B T k v n xs) (c:a<=B):w.ownsRow a T k v n xs:=
 ⟨h.1,h.2.imp (λq=>q) (λ⟨g,cap,cur,e,d,r⟩=>⟨g,cap,cur,e,jcn c d,r⟩)⟩
theorem jab {G:Nat->Prop} {W:WoS} (w:World) (h:PW w b G W) (p:WfW W) {i:Nat} (hi:i<W.n):
 Ca 114 #[PP b,U i] w λe w'=>∃v,e=.returned (.tuple #[.agg #[U (W.S i).a0,U (W.S i).a1,U (W.S i).a2,U (W.S i).a3],U (W.S i).waits.length,v,U (W.S i).l.length,.nilIface])/\w'.ownsRow w.heap.size 9 1 v 8 (qej (W.S i).a0 (W.S i).a1 (W.S i).a2 (W.S i).a3 (W.S i).l 8)/\Bw w w':=by
 obtain⟨M,V,h,H⟩:=h;have c:=boxed (jcc _ w) (.cells #[U 0,U 0,U 0,U 0] 77);have g:=qd.new (w:=w) (T:=77) [U 0,U 0,U 0,U 0] rfl;change qd (w.alloc (.cells #[U 0,U 0,U 0,U 0] 77)) w.heap.size [U 0,U 0,U 0,U 0]at g;have j:=(h.site hi).later c;obtain⟨X,Y,I,Z,aa,y0,y1⟩:=(h.later c).place hi;have hlt:=(h.later c).box.lt;have r:=yi (k:=i) (v:=true) _ I (by simp;omega);have s:=qff _ j;have a:=hd3 j (p.inv i hi) g
 have q1:(i:Int)<(W.n:Int):=by omega
 clear h H p j g;go_enter Tryz.func114,Tryz.ntmps114
 go_wp2_with fail
 refine r.mono ?_;rintro e w2 ⟨rfl,t⟩;have J:=t.symm;clear t r;subst J
 go_wp2_with fail
 refine s.mono ?_;rintro e K ⟨rfl,u⟩;have x:=q3f K (a.out.1.later u);clear s
 go_wp2_with fail
 refine x.mono ?_;rintro e y ⟨rfl,L⟩;have m:=qa u L;have z:=q6f y (a.out.1.later m) a.out.2.1;clear x
 go_wp2_with fail
 refine z.mono ?_;rintro e N ⟨v,rfl,o,O⟩;have B:=qa m O;have C:=q1v N (a.out.1.later B) a.out.2.1;clear z
 go_wp2_with fail
 refine C.mono ?_;rintro e w6 ⟨rfl,D⟩;have E:=qa B D;have d:=a.out.2.2.later E
 have s4:w.heap.size<y.heap.size:=by have:=m.size;simp at this;omega
 have F:=qf o (λk e=>D.block k (o.lt k e).2);have f:=hd3 F d (qa c E);obtain⟨a0,a1,a2,a3⟩:=d.c4;obtain⟨f0,f1,f2,f3⟩:=d.f4;clear C o F d
 go_wp2_with fail
 have P:=q7m f.out.2.1 (W.S i).a0 (W.S i).a1 (W.S i).a2 (W.S i).a3;have Q:=qe8 f.out.2.2 (jcd _) (W.S i).a0 (W.S i).a1 (W.S i).a2 (W.S i).a3;have R:=qf f.out.1 (λk e=>qx7 (b:=w.heap.size) (λq=>by have:=(f.out.1.lt k e).1;omega) (W.S i).a0 (W.S i).a1 (W.S i).a2 (W.S i).a3);refine bodyPost_ret (qlr P rfl rfl rfl rfl rfl) rfl ⟨v,rfl,?_,Q⟩;exact q45 R (by omega)
end
def q7o (o:Oper):Option Nat:=match o.op with
 |.call c=>match c.callee with
  |.value (.func n)=>some n
  |_=>none
 |_=>none
theorem qah {P:Program} {b:Array Oper} {o:Oper} {a:Act} {w:World} {K:Act->World->Prop} {Q:Exit->Act->World->Prop} {E:Prop} (c:o.guard=none) (f:FuncId) (_hf:q7o o=some f) (args:Array Value)
 (d:(execOp a.eval o).run P w=.ok (.enter f args) w) {R:Ending->World->Prop} (h:Calls P f args w R) (g:∀e w',R e w'->∃v,e=.returned v/\K (a.put o.dst v) w'):
 if Region.wanted o (yielded b a.tmps)=true then Oper.wp P o a w K Q else E:=je c f args d h g
theorem qv5 {b:Nat} {G:Nat->Prop} {S:qe} (a:Int) (w:World) (h:PS w b G S):
 Ca 162 #[PP b,U a] w λe w'=>
  e=.returned (.agg #[U (qj S (jw a)).v0,U (qj S (jw a)).v1,U (qj S (jw a)).v2,U (qj S (jw a)).v3])/\Bw w w':=by
 obtain⟨lv,bm,F,log,waits,h,_,_,_⟩:=h;exact qzh a w h
section
def swV (W:WoS) (k:Nat):Nat->V4
 |0=>qj (W.S k) (jw W.n)
 |j+1=>if W.at_ j=k/\(W.ses j).opn=true then ⟨qm (swV W k j).v0 (W.ses j).s0,qm (swV W k j).v1 (W.ses j).s1,qm (swV W k j).v2 (W.ses j).s2,qm (swV W k j).v3 (W.ses j).s3⟩else swV W k j
def v4C (v:V4):List Value:=[U v.v0,U v.v1,U v.v2,U v.v3]
def qo2 (W:WoS) (k:Nat):WoS:=setSite W k {W.S k with l:=qcr (qm (swV W k W.c).v0 (W.S k).a0) (qm (swV W k W.c).v1 (W.S k).a1) (qm (swV W k W.c).v2 (W.S k).a2) (qm (swV W k W.c).v3 (W.S k).a3) (W.S k).l}
variable {b:Nat}
theorem qmu {W:World} {a c d e:Int} (h:qd W b [U a,U c,U d,U e]) (x0 x1 x2 x3:Int):qd ((((W.setCell (AD b 0) (U x0)).setCell (AD b 1) (U x1)).setCell (AD b 2) (U x2)).setCell (AD b 3) (U x3)) b (v4C ⟨x0,x1,x2,x3⟩):=
 (((h.set 0 _ (by simp)).set 1 _ (by simp)).set 2 _ (by simp)).set 3 _ (by simp)
theorem q5f {G:Nat->Prop} {W:WoS} (w:World) (h:PW w b G W) (N:WfW W) {i:Nat} (hi:i<W.n):
 Ca 115 #[PP b,U i] w λe w'=>e=.returned (jc 0)/\vh w b G (qo2 W i) w':=by
 obtain⟨M,Gs,h,hG⟩:=h;have a:=hd4 h hG N hi;obtain⟨pb,pc,c0,hpc,hpb,y0,y1⟩:=h.place hi;have hlt:=h.box.lt;have IS:=yi (k:=i) (v:=true) w c0 (by simp;omega);have ST:=qv5 (W.n:Int) w (h.site hi)
 have q1:(i:Int)<(W.n:Int):=by omega
 have HC6:=hd1 N.c6;clear h hG N;go_enter Tryz.func115,Tryz.ntmps115
 go_wp2_with fail
 refine IS.mono ?_;rintro e w2 ⟨rfl,hw2⟩;have hw3:=hw2.symm;clear hw2 IS;subst hw3
 go_wp2_with fail
 refine ST.mono ?_;rintro e p ⟨rfl,O⟩;obtain⟨V,P⟩:∃V,qj (W.S i) (jw W.n)=V:=⟨_,rfl⟩;rw[P];have bz:=boxed (jcc _ p) (.cells #[U V.v0,U V.v1,U V.v2,U V.v3] 77);have C:=qd.new (w:=p) (T:=77) [U V.v0,U V.v1,U V.v2,U V.v3] rfl;change qd (p.alloc (.cells #[U V.v0,U V.v1,U V.v2,U V.v3] 77)) p.heap.size [U V.v0,U V.v1,U V.v2,U V.v3]at C;have D:=qa O bz;obtain⟨ca,cc,hcv,r⟩:=qq a.out.1.cr;have c1:=cell_later D (a.out.1.box.c 1);rw[hcv]at c1;have hlt4:=jci hlt D.size;have hrl:=r.len;have HR:=hd1 r;have HV:=hd1 P;clear ST c0 y0 y1 r hcv P
 go_wp2_with fail
 obtain⟨E,hw4⟩:∃E,p.alloc (.cells #[U V.v0,U V.v1,U V.v2,U V.v3] 77)=E:=⟨_,rfl⟩;rw[hw4]at C D ⊢;obtain⟨d,Q⟩:∃d,p.heap.size=d:=⟨_,rfl⟩
 have hvw:w.heap.size<=d:=by rw[<-Q];exact O.size
 rw[Q]at C ⊢;have R:=hd3 (show qd E d (v4C (swV W i 0))from by show qd E d (v4C (qj (W.S i) (jw W.n)));rw[HV.out];exact C) D hvw;clear hw4 Q bz C O c1 hlt4 D
 go_loopw [34] (λiv wr=>∃(j:Nat) (z:Int),j<=W.c/\z=j/\iv=U z/\Hid (qd wr d (v4C (swV W i j))/\Bw w wr)) (λiv _=>W.c-(intOf iv).toNat)
 case atStart=>exact⟨0,0,by omega,rfl,rfl,R.out.1,R.out.2.1⟩
 obtain⟨j,z,hj,X,rfl,l⟩:=hrel;have s:=hd1 X;by_cases F:j<W.c
 ·have g1:z<(W.c:Int):=by omega
  have g2:z.toNat=j:=by omega
  have g3:0<=z:=by omega
  have g4:z<6:=by have:=HC6.out;omega
  clear X
  obtain⟨cb,hca,hcb,Y⟩:∃g,ca=some (AD g 0)/\g<w.heap.size/\∀j u,(zt M.bs (λk=>(W.at_ k:Int)) W.c)[j]?=some u->w.cell? (AD g j)=some u:=by
   rcases HR.out.held with h0|h0
   ·omega
   exact h0
  subst hca;have x0:=cell_later l.out.2 (Y _ _ (qea F).1);have x1o:=cell_later l.out.2 (Y _ _ (qea F).2);obtain⟨m,Z⟩:∃m:Int,(W.at_ j:Int)=m:=⟨_,rfl⟩
  have x1:wr.cell? (AD cb (j*2+1))=some (U m):=by rw[<-Z];exact x1o
  have HAJ:=hd1 Z;clear Z x1o;have bx:=boxed (jcc _ wr) (.cells #[PP (M.bs j),U m] 171);have hbx:=qa l.out.2 bx;have t:=qmk _ ((a.out.1.sess F).later hbx);have RB:=l.out.1.later bx;have o:=hd3 RB hbx (qd.new (w:=wr) (T:=171) [PP (M.bs j),U m] rfl);clear Y RB;by_cases H:m=(i:Int)
  ·subst H
   have HAI:Hid (W.at_ j=i):=by have:=HAJ.out;show _=_;omega
   cases ho:(W.ses j).opn
   ·have x:Hid (swV W i (j+1)=swV W i j):=if_neg (λq=>by rw[ho]at q;cases q.2);rw[ho]at t;clear ho
    go_wp2_with fail
    refine t.mono ?_;rintro e I ⟨rfl,y⟩
    go_wp2_with fail
    go_roundw
    case rel=>exact⟨j+1,z+1,by omega,by have:=s.out;omega,by go_num,by rw[x.out];exact o.out.1.later y,qa o.out.2.1 y⟩
    simp[intOf];have:=s.out;omega
   have x:Hid (swV W i (j+1)=⟨qm (swV W i j).v0 (W.ses j).s0,qm (swV W i j).v1 (W.ses j).s1,qm (swV W i j).v2 (W.ses j).s2,qm (swV W i j).v3 (W.ses j).s3⟩):=if_pos ⟨HAI.out,ho⟩;rw[ho]at t;clear ho
   go_wp2_with fail
   refine t.mono ?_;rintro e I ⟨rfl,y⟩;obtain⟨v,hv⟩:∃v,swV W i j=v:=⟨_,rfl⟩
   have J:qd I d [U v.v0,U v.v1,U v.v2,U v.v3]:=by have:=o.out.1.later y;rw[hv]at this;exact this
   have K:=o.out.2.2.later y;have hbw5:=qa o.out.2.1 y;have SN:=hd1 (qrq _ ((a.out.1.sess F).later hbw5.drew));have MI:Hid (∀w',Ca 163 #[.agg #[U v.v0,U v.v1,U v.v2,U v.v3],.agg #[U (W.ses j).s0,U (W.ses j).s1,U (W.ses j).s2,U (W.ses j).s3]] w' λe w''=>e=.returned (.agg #[U (qm v.v0 (W.ses j).s0),U (qm v.v1 (W.ses j).s1),U (qm v.v2 (W.ses j).s2),U (qm v.v3 (W.ses j).s3)])/\Bw w' w''):=λw'=>qn5 _ _ _ _ _ _ _ _ w';rw[hv]at x;have HF:=hd3 J hbw5 K;obtain⟨a0,a1,a2,a3⟩:=J.c4;have k0:=K.c 0;have lv:=J.lt;have lc:=K.lt;clear t J K x0 x1 hv bx hbx
   go_wp2_with fail
   go_region_law (first
        |(refine qah rfl 148 rfl #[PP (M.bs j)] (by go_simp) SN.out ?_
          rintro e w6 ⟨rfl,hb6⟩;refine⟨_,rfl,?_⟩;have L:=HF.out.1.later (qa (jcc _ I).drew hb6);have b0:=L.c 0;have b1:=L.c 1;have b2:=L.c 2
          have b3:=L.c 3)
        |(refine qah rfl 163 rfl #[.agg #[U v.v0,U v.v1,U v.v2,U v.v3],.agg #[U (W.ses j).s0,U (W.ses j).s1,U (W.ses j).s2,U (W.ses j).s3]] (by go_simp) (MI.out w6) ?_
          rintro e w7 ⟨rfl,hb7⟩;refine⟨_,rfl,?_⟩;have hb57:=qa (qa (jcc _ I).drew hb6) hb7;have B:=HF.out.1.later hb57;obtain⟨d0,d1,d2,d3⟩:=B.c4;have f0:=B.f 0;have f1:=B.f 1;have f2:=B.f 2
          have f3:=B.f 3))
   all_goals
        go_wp2_with fail
        go_roundw
        case rel=>exact⟨j+1,z+1,by omega,by have:=s.out;omega,by go_num,by rw[x.out];exact qmu B _ _ _ _,qe8 (qa HF.out.2.1 hb57) R.out.2.2 _ _ _ _⟩
        simp[intOf];have:=s.out;omega
  have x:Hid (swV W i (j+1)=swV W i j):=if_neg (λq=>H (by have:=HAJ.out;have:=q.1;omega))
  have hq1:(m==(i:Int))=false:=by simp[H]
  have hq2:=decide_eq_false H;clear t
  go_wp2_with fail
  go_roundw
  case rel=>exact⟨j+1,z+1,by omega,by have:=s.out;omega,by go_num,by rw[x.out];exact o.out.1,o.out.2.1⟩
  simp[intOf];have:=s.out;omega
 have g1:¬z<(W.c:Int):=by omega
 have e:j=W.c:=by omega
 subst e;have R9:=l.out.1;have H9:=a.out.1.later l.out.2;have SW:=qx0 (swV W i W.c).v0 (swV W i W.c).v1 (swV W i W.c).v2 (swV W i W.c).v3 wr (H9.site a.out.2.2.2) (a.out.2.2.1.inv i a.out.2.2.2);obtain⟨z0,z1,z2,z3⟩:=R9.c4;clear X R9
 go_wp2_with fail
 refine SW.mono ?_;rintro e w9 ⟨rfl,hp⟩
 go_wp2_with fail
 go_ret;exact⟨rfl,vh.from l.out.2 (H9.stepS a.out.2.1 a.out.2.2.2 hp)⟩
end
section
variable {S:qe}
theorem qis {now c d e f:Int} {ws:List Wr} (a:j3 S) (l:qfl S now c d e f ws=0):okT (zv S now c d e f ws)=true:=by
 obtain⟨m,b,t,u,n⟩:=qip l;obtain⟨o,p,v⟩:=q43 n;have w:=a.own
 have x:qoz S S.id<=200:=by have:=a.log;show qp S.id _ _ _ _<=200;omega
 have q:0<=qoz S S.id:=(a.dep S.id).1
 have r:jb (qch S.id (qoz S S.id) c) (qcl S.id (qoz S S.id) d) (qck S.id (qoz S S.id) e) (qcj S.id (qoz S S.id) f)=true:=by
  have h:=qf7 q (by omega);simp only[jb,jct]at b ⊢;refine⟨⟨⟨?_,?_⟩,?_⟩,?_⟩
  ·unfold qch;split;exact h;exact b.1.1.1
  ·unfold qcl;split;exact h;exact b.1.1.2
  ·unfold qck;split;exact h;exact b.1.2
  unfold qcj;split;exact h;exact b.2
 show jt S.id (qoz S S.id+1) (qcp S.lw S.lc now).1 (qcp S.lw S.lc now).2.1 (qch S.id (qoz S S.id) c) (qcl S.id (qoz S S.id) d) (qck S.id (qoz S S.id) e) (qcj S.id (qoz S S.id) f) ws=true;unfold jt;simp only[jct,jk,decide_eq_true_eq];refine⟨⟨⟨⟨⟨⟨a.id0,a.id3⟩,⟨by omega,by omega⟩⟩,⟨o,p⟩⟩,r⟩,?_⟩,m⟩;rw[q3w _ _ _ _ _ _ S.id a.id0 a.id3,if_pos rfl];omega
variable {s:qy}
theorem qxy {now:Int} (h:0<(qce S s now).seq):qfl S now s.s0 s.s1 s.s2 s.s3 (jh s.ws)=0/\qce S s now=zv S now s.s0 s.s1 s.s2 s.s3 (jh s.ws):=by
 unfold qce at h ⊢;by_cases q:s.opn=false\/(jh s.ws).length=0
 ·rw[if_pos q]at h;exact absurd h (by decide)
 rw[if_neg q]at h ⊢;unfold qha at h ⊢;by_cases e:qfl S now s.s0 s.s1 s.s2 s.s3 (jh s.ws)=0
 ·rw[if_pos e];exact⟨e,rfl⟩
 rw[if_neg e]at h;exact absurd h (by decide)
theorem qju {a b:Int} (h:0<=a):0<=jd a b:=by unfold jd;split<;>omega
theorem q8n {now:Int} (h:0<=s.p0):0<=(j0 S s now).p0:=by
 unfold j0;split
 ·exact h
 split
 ·exact qju h
 show 0<=(if _ then jd (jd s.p0 s.s0) _ else jd s.p0 s.s0);split
 ·exact qju (qju h)
 exact qju h
theorem q24 {now:Int} (a:j3 S) (h:∀x∈S.log,okT x=true):(∀x∈(qcc S s now).log,okT x=true)/\(qcc S s now).id=S.id/\(qcc S s now).waits=S.waits:=by
 unfold qcc;split
 ·exact⟨h,rfl,rfl⟩
 unfold qf3;split
 ·rename_i e;refine⟨λx b=>?_,rfl,rfl⟩;rcases jcf.1 (show x∈S.log++[_]from b)with q|q
  ·exact h x q
  rw[jcj.1 q];exact qis a e
 exact⟨h,rfl,rfl⟩
structure PlI (j:Nat) (W:WoS):Prop where
 wf:WfW W
 nt:qeq W
 ps:∀k,k<W.c->0<=(W.ses k).p0
 wl:∀i,i<W.n->0<=W.wall i/\W.wall i<=1099511627776
 ln:∀k,k<W.c->(W.ses k).ws.length<=j
section
variable {W W':WoS} {g:GrS} {k i j:Nat}
theorem PlI.mono (h:PlI j W) {m:Nat} (a:j<=m):PlI m W:=⟨h.wf,h.nt,h.ps,h.wl,λk b=>jcn (h.ln k b) a⟩
theorem PlI.new {n c:Nat} (b:1<=n) (d:n<=4) (e:c<=6):PlI 0 (qcb n c):=
 ⟨⟨b,d,e,λk _=>(show (0:Nat)<n by omega),λi hi=>j3.new (show (0:Int)<=(i:Int) by omega) (show (i:Int)<=3 by have:i<n:=hi;omega),λi _=>rfl,(jcw _:0<=300),λi _=>(jcw _:0<=40),λi _ x f=>(by cases f),λg a=>(by cases a)⟩,λg a=>(by cases a),λk _=>(Int.le_refl 0),λi _=>⟨Int.le_refl 0,(by show (0:Int)<=_;decide)⟩,λk _=>jcd 0⟩
theorem PlI.keep (h:PlI j W) (a:WfW W') (b:qeq W') (k:qet W W'):PlI j W':=⟨a,b,by rw[k.c,k.ses];exact h.ps,by rw[k.n,k.wall];exact h.wl,by rw[k.c,k.ses];exact h.ln⟩
theorem WfW.sessions (h:WfW W) (f:Nat->qy):WfW {W with ses:=f}:=⟨h.n1,h.n4,h.c6,h.at_,h.inv,h.id,h.net,h.wt,h.lok,h.tj⟩
theorem PlI.ses (h:PlI j W) {a:qy} (b:0<=a.p0) (c:a.ws.length<=j):PlI j (vf W k a):=by
 refine⟨h.wf.sessions _,h.nt,λi hi=>?_,h.wl,λi hi=>?_⟩<;>show (_:Prop)<;>by_cases q:i=k
 ·show 0<=(jj W.ses k a i).p0;rw[q,qt];exact b
 ·show 0<=(jj W.ses k a i).p0;rw[yq _ _ q];exact h.ps i hi
 ·show (jj W.ses k a i).ws.length<=j;rw[q,qt];exact c
 show (jj W.ses k a i).ws.length<=j;rw[yq _ _ q];exact h.ln i hi
theorem PlI.begin (h:PlI j W) (a:k<W.c):PlI j (vf W k (qhd (W.S (W.at_ k)) (W.ses k))):=by
 unfold qhd;split
 ·exact h.ses (h.ps k a) (jcw _)
 exact h.ses (h.ps k a) (h.ln k a)
theorem PlI.write (h:PlI j W) (a:k<W.c) (x:Wr):PlI (j+1) (vf W k (qd2 (W.ses k) x)):=by
 have:=h.ln k a;unfold qd2;split
 ·exact(h.mono (Nat.le_succ j)).ses (h.ps k a) (by simp;omega)
 exact(h.mono (Nat.le_succ j)).ses (h.ps k a) (by omega)
theorem PlI.abort (h:PlI j W) (a:k<W.c):PlI j (vf W k (qhh (W.ses k))):=by
 unfold qhh;split
 ·exact h.ses (h.ps k a) (h.ln k a)
 exact h.ses (qju (h.ps k a)) (jcw _)
theorem q6a {now:Int}:(j0 S s now).ws.length<=s.ws.length:=by
 unfold j0;split
 ·exact jcd _
 split
 ·exact jcw _
 exact jcw _
theorem PlI.told (h:PlI j W) (b:k<W.c) (d:0<(wcT W k).seq):okT (wcT W k)=true/\(wcT W k).site=(W.at_ k:Int):=by
 have a:=h.wf.at_ k b;obtain⟨f,l⟩:=qxy d;have e:wcT W k=_:=l;rw[e];exact⟨qis (h.wf.inv _ a) f,h.wf.id _ a⟩
theorem PlI.commit (h:PlI j W) (b:k<W.c):PlI j (wcW W k):=by
 have a:=h.wf.at_ k b;have d:=q24 (s:=W.ses k) (now:=W.wall (W.at_ k)) (h.wf.inv _ a) (h.wf.lok _ a);have w0:=h.wf.setSite (h.wf.inv _ a).scom (d.2.1.trans (h.wf.id _ a)) (by rw[d.2.2];exact h.wf.wt _ a) d.1;have p0:PlI j (setSite W (W.at_ k) (qcc (W.S (W.at_ k)) (W.ses k) (W.wall (W.at_ k)))):=⟨w0,h.nt,h.ps,h.wl,h.ln⟩;have p1:PlI j (qd4 W k):=p0.ses (q8n (h.ps k b)) (jcn q6a (h.ln k b));unfold wcW;split
 ·rename_i q;exact p1.keep (WfW.tell _ _ p1.wf (jcd _)) (p1.nt.tell (h.told b q).1 _) (zx _ _ _).keep
 exact p1
theorem PlI.move (h:PlI j W) {a:Nat} (b:a<W.n):PlI j (qhx W k a):=by
 unfold qhx;split
 ·exact h
 refine⟨⟨h.wf.n1,h.wf.n4,h.wf.c6,λi hi=>?_,h.wf.inv,h.wf.id,h.wf.net,h.wf.wt,h.wf.lok,h.wf.tj⟩,h.nt,h.ps,h.wl,h.ln⟩;show jj W.at_ k a i<W.n;by_cases q:i=k
 ·rw[q,qt];exact b
 rw[yq _ _ q];exact h.wf.at_ i hi
theorem PlI.goes (h:PlI j W) {y:Int} (b:0<=y) (hi:i<W.n):PlI j (qm8 W i y):=by
 refine⟨⟨h.wf.n1,h.wf.n4,h.wf.c6,h.wf.at_,h.wf.inv,h.wf.id,h.wf.net,h.wf.wt,h.wf.lok,h.wf.tj⟩,h.nt,h.ps,λm a=>?_,h.ln⟩;show 0<=jj W.wall i (qk3 (W.wall i+y)) m/\jj W.wall i (qk3 (W.wall i+y)) m<=_;by_cases q:m=i
 ·rw[q,qt];have:=h.wl i hi;unfold qk3
  split<;>omega
 rw[yq _ _ q];exact h.wl m a
theorem PlI.send (h:PlI j W) (a:g.tj<W.n) (b:q69 W.n g):PlI j (zk W g):=h.keep (h.wf.send a) (h.nt.send b) (yb _ _).keep
theorem PlI.deliver (h:PlI j W) (a:zy W i W'):PlI j W':=h.keep (h.wf.deliver a) (h.nt.deliver h.wf a) a.keep
theorem PlI.drop (h:PlI j W) (i:Nat):PlI j (qai W i):=⟨h.wf.drop i,h.nt.drop i,h.ps,h.wl,h.ln⟩
theorem PlI.sweep (h:PlI j W) (hi:i<W.n):PlI j (qo2 W i):=⟨h.wf.setSite ((h.wf.inv i hi).swept _ _ _ _) (h.wf.id i hi) (h.wf.wt i hi) (h.wf.lok i hi),h.nt,h.ps,h.wl,h.ln⟩
end
end
section
theorem qjo {tmps:Array Value} {w:World} {a c:Nat} {p0 p1 p2 p3 s0 s1 s2 s3:Int} {d e f:Value} (g:qd w a [U p0,U p1,U p2,U p3]) (h:qd w c [U s0,U s1,U s2,U s3]) (i:tmps[4]?=some d) (j:tmps[5]?=some (PP a)) (k:tmps[6]?=some (PP c)) (l:tmps[7]?=some e) (m:tmps[8]?=some f):
 (results Tryz.f101 tmps).run Tryz.prog w=.ok (.tuple #[d,.agg #[U p0,U p1,U p2,U p3],.agg #[U s0,U s1,U s2,U s3],e,f]) w:=by
 obtain⟨n,o,p,q⟩:=g.c4;obtain⟨r,s,t,u⟩:=h.c4;simp[results,Tryz.results101,go_sem,i,j,k,l,m,n,o,p,q,r,s,t,u]
variable {W:World} {b:Nat} {xs:List Value}
theorem qwb (h:qd W b xs) (e:xs.length=4) (x0 x1 x2 x3:Int):qd ((((W.setCell (AD b 0) (U x0)).setCell (AD b 1) (U x1)).setCell (AD b 2) (U x2)).setCell (AD b 3) (U x3)) b [U x0,U x1,U x2,U x3]:=by
 obtain⟨a,f,c,d,rfl⟩:∃a b c d,xs=[a,b,c,d]:=by
  match xs,e with
  |[a,b,c,d],_=>exact⟨a,b,c,d,rfl⟩
 exact(((h.set 0 _ (by simp)).set 1 _ (by simp)).set 2 _ (by simp)).set 3 _ (by simp)
theorem qpq {q:Nat} (h:qd W b xs) (a:q≠b) (x0 x1 x2 x3:Int):qd ((((W.setCell (AD q 0) (U x0)).setCell (AD q 1) (U x1)).setCell (AD q 2) (U x2)).setCell (AD q 3) (U x3)) b xs:=
 (((h.far _ _ a).far _ _ a).far _ _ a).far _ _ a
theorem q26 {G:Nat->Prop} {W:WoS} (w:World) (h:PW w b G W) {i:Nat} (hi:i<W.c):
 Ca 101 #[PP b,U i] w (Rn (.tuple #[U (W.at_ i),.agg #[U (W.ses i).p0,U (W.ses i).p1,U (W.ses i).p2,U (W.ses i).p3],.agg #[U (W.ses i).s0,U (W.ses i).s1,U (W.ses i).s2,U (W.ses i).s3],.bool (W.ses i).opn,.nilIface]) w):=by
 obtain⟨M,S,h,B⟩:=h;have m:=boxed (boxed (jcc _ w) (.cells #[U 0,U 0,U 0,U 0] 77)) (.cells #[U 0,U 0,U 0,U 0] 77);obtain⟨cb,V,C,X,Y,x0,x1⟩:=(h.later m).client hi;have p:=yf (k:=i) (v:=true) _ C (by simp;omega);have j:=(boxed m (.cells #[PP (M.bs i),U (W.at_ i)] 171)).drew;have D:=hd1 (λw' g=>q00 w' ((h.sess hi).later g));have E:=hd1 (λw' g=>qrq w' ((h.sess hi).later g));have F:=hd1 (λw' g=>qmk w' ((h.sess hi).later g));have r:qd ((w.alloc (.cells #[U 0,U 0,U 0,U 0] 77)).alloc (.cells #[U 0,U 0,U 0,U 0] 77)) w.heap.size [U 0,U 0,U 0,U 0]:=(qd.new (w:=w) (T:=77) [U 0,U 0,U 0,U 0] rfl).boxed _;have s:qd ((w.alloc (.cells #[U 0,U 0,U 0,U 0] 77)).alloc (.cells #[U 0,U 0,U 0,U 0] 77)) (w.heap.size+1) [U 0,U 0,U 0,U 0]:=qd.new (T:=77) [U 0,U 0,U 0,U 0] (by simp)
 have Z:(i:Int)<(W.c:Int):=by omega
 have aa:=(h.later m).box.lt;have t:=hd2 r s;have u:=(boxed (jcc _ ((w.alloc (.cells #[U 0,U 0,U 0,U 0] 77)).alloc (.cells #[U 0,U 0,U 0,U 0] 77))) (.cells #[PP (M.bs i),U (W.at_ i)] 171)).drew;have x:qd (((w.alloc (.cells #[U 0,U 0,U 0,U 0] 77)).alloc (.cells #[U 0,U 0,U 0,U 0] 77)).alloc (.cells #[PP (M.bs i),U (W.at_ i)] 171)).drew (w.heap.size+1+1) [PP (M.bs i),U (W.at_ i)]:=(qd.new (T:=171) [PP (M.bs i),U (W.at_ i)] (by simp)).drew;have H:=x;have Y0:=λ(w':World) (h:qd w' (w.heap.size+1+1) [PP (M.bs i),U (W.at_ i)])=>h.c 0;have Y1:=λ(w':World) (h:qd w' (w.heap.size+1+1) [PP (M.bs i),U (W.at_ i)])=>h.c 1;clear h B r s x;go_enter Tryz.func101,Tryz.ntmps101
 go_wp2_with fail
 refine p.mono ?_;rintro e w2 ⟨rfl,y⟩;have I:=y.symm;clear y p;subst I
 go_wp2_with fail
 go_region_held3 (λw'=>qd w' (w.heap.size+1+1) [PP (M.bs i),U (W.at_ i)]) (first|with_reducible assumption|(with_reducible refine qpq ?_ (by omega) _ _ _ _;with_reducible assumption))
  (first
    |(go_at_call 147;(with_reducible refine(D.out _ j).mono ?_);rintro e w3 ⟨rfl,l⟩;have J:=H.later l)
    |(go_at_call 148;(with_reducible refine(E.out _ (qa j l)).mono ?_);rintro e w4 ⟨rfl,n⟩;have K:=J.later n)
    |(go_at_call 149;(with_reducible refine(F.out _ (qa (qa j l) n)).mono ?_);rintro e w5 ⟨rfl,z⟩;have C5:=K.later z;have o:=qa (qa l n) z;have a:=(t.out.1.later u).later o;have d:=(t.out.2.later u).later o;have a0:=a.c 0;have a1:=a.c 1;have a2:=a.c 2;have a3:=a.c 3;have f0:=a.f 0;have f1:=a.f 1;have f2:=a.f 2;have f3:=a.f 3;have d0:=d.c 0;have d1:=d.c 1;have d2:=d.c 2;have d3:=d.c 3;have e0:=d.f 0;have e1:=d.f 1;have e2:=d.f 2;have e3:=d.f 3;have L:=qa j o))
 all_goals
  go_wp2_with fail
  have N:=qwb a rfl (W.ses i).p0 (W.ses i).p1 (W.ses i).p2 (W.ses i).p3;have O:=qpq (q:=w.heap.size) d (by omega) (W.ses i).p0 (W.ses i).p1 (W.ses i).p2 (W.ses i).p3;have P:=qpq (q:=w.heap.size+1) N (by omega) (W.ses i).s0 (W.ses i).s1 (W.ses i).s2 (W.ses i).s3;have Q:=qwb O rfl (W.ses i).s0 (W.ses i).s1 (W.ses i).s2 (W.ses i).s3;have R:=qe8 (b:=w.heap.size+1) (qe8 (b:=w.heap.size) L (by omega) (W.ses i).p0 (W.ses i).p1 (W.ses i).p2 (W.ses i).p3) (by omega) (W.ses i).s0 (W.ses i).s1 (W.ses i).s2 (W.ses i).s3;refine bodyPost_ret (qjo P Q rfl rfl rfl rfl rfl) rfl ⟨rfl,R⟩
end
section
open Tryz Go.Extern.Stop Go.Stop Go.Extern
theorem qs0 (t:Addr) (w:World):(ReflectliteValue.unpack (.iface 225 (.pointer (some t)))).run prog w
 =.ok (.agg #[.pointer (some (AD 10 225)),PP w.heap.size,.int .u64 150]) (w.alloc (.cells #[.pointer (some t)] 225)):=by kernel_rfl
theorem q2n (a:Addr) (w:World):(ReflectliteValue.methodAny (ReflectliteValue.valueError "reflectlite.Value.Type" 0) (λt _ _ _=>ReflectliteType.toType t) #[.agg #[.pointer (some (AD 10 225)),.pointer (some a),.int .u64 150]]).run prog w
 =.ok (.iface 312 (.agg #[.pointer (some (AD 10 225))])) w:=by kernel_rfl
theorem q9s (h:Value) (w:World):(Go.method 477 312 (.agg #[h]) "Kind").run prog w=.ok (309,h) w:=by kernel_rfl
theorem q75 (h:Value) (w:World):(Go.method 477 312 (.agg #[h]) "Elem").run prog w=.ok (323,.agg #[h]) w:=by kernel_rfl
theorem q9h (h:Value) (w:World):(Go.method 477 312 (.agg #[h]) "Implements").run prog w=.ok (324,.agg #[h]) w:=by kernel_rfl
theorem q28 (h:Value) (w:World):(Go.method 477 312 (.agg #[h]) "AssignableTo").run prog w=.ok (321,.agg #[h]) w:=by kernel_rfl
theorem q2s (w:World):((ReflectliteType.abiMethod λt=>(λa:Nat=>Value.int IntKind.u8 (a:Int))<$>Rtype.kind t) #[.pointer (some (AD 10 225))]).run prog w=.ok (.int .u8 22) w:=by kernel_rfl
theorem q80 (w:World):((ReflectliteType.abiMethod λt=>(λa:Nat=>Value.int IntKind.u8 (a:Int))<$>Rtype.kind t) #[.pointer (some (AD 10 26))]).run prog w=.ok (.int .u8 2) w:=by kernel_rfl
theorem q1t (w:World):(ReflectliteType.method ReflectliteType.elem #[.agg #[.pointer (some (AD 10 225))]]).run prog w=.ok (.iface 312 (.agg #[.pointer (some (AD 10 26))])) w:=by kernel_rfl
theorem q96 (w:World):(ReflectliteType.relation "Implements" ReflectliteType.implements_ #[.agg #[.pointer (some (AD 10 26))],.iface 312 (.agg #[.pointer (some (AD 10 37))])]).run prog w=.ok (.bool true) w:=by kernel_rfl
theorem q1s (v:Value) (w:World):(ReflectliteType.typeOf #[.iface 26 v]).run prog w=.ok (.iface 312 (.agg #[.pointer (some (AD 10 26))])) w:=by kernel_rfl
theorem q1f (w:World):(ReflectliteType.relation "AssignableTo" ReflectliteType.assignableTo #[.agg #[.pointer (some (AD 10 26))],.iface 312 (.agg #[.pointer (some (AD 10 26))])]).run prog w=.ok (.bool true) w:=by kernel_rfl
theorem qxu (n:Int) (w:World):(ReflectliteValue.unpack (.iface 26 (U n))).run prog w
 =.ok (.agg #[.pointer (some (AD 10 26)),PP w.heap.size,.int .u64 130]) (w.alloc (.cells #[U n] 26)):=by kernel_rfl
theorem qo6 (a:Addr) (w:World):(ReflectliteValue.parts (.agg #[.pointer (some (AD 10 225)),.pointer (some a),.int .u64 150])).run prog w=.ok (some (225,a,150)) w:=by kernel_rfl
theorem qxp (a:Addr) (w:World):(ReflectliteValue.parts (.agg #[.pointer (some (AD 10 26)),.pointer (some a),.int .u64 386])).run prog w=.ok (some (26,a,386)) w:=by kernel_rfl
theorem q6i (a:Addr) (w:World):(ReflectliteValue.parts (.agg #[.pointer (some (AD 10 26)),.pointer (some a),.int .u64 130])).run prog w=.ok (some (26,a,130)) w:=by kernel_rfl
theorem q7g (w:World):(Rtype.elem? 225).run prog w=.ok (some 26) w:=by kernel_rfl
theorem jb8 (p:Addr) (w:World):(ReflectliteValue.mk 26 p ReflectliteValue.flagAddr).run prog w=.ok (.agg #[.pointer (some (AD 10 26)),.pointer (some p),.int .u64 386]) w:=by kernel_rfl
theorem q6y (w:World):(Rtype.directlyAssignable 26 26).run prog w=.ok true w:=by kernel_rfl
theorem q9u (a p:Addr) (W:World) (b:W.cell? a=some (.pointer (some p))):
 (ReflectliteValue.method (ReflectliteValue.valueError "reflectlite.Value.IsNil" 0) ReflectliteValue.isNil #[.agg #[.pointer (some (AD 10 225)),.pointer (some a),.int .u64 150]]).run prog W=.ok (.bool false) W:=by
 refine Eq.trans (congrArg (λs=>Sem.run prog s W) (show ReflectliteValue.method (ReflectliteValue.valueError "reflectlite.Value.IsNil" 0) ReflectliteValue.isNil #[(.agg #[.pointer (some (AD 10 225)),.pointer (some a),.int .u64 150])]=(ReflectliteValue.parts (.agg #[.pointer (some (AD 10 225)),.pointer (some a),.int .u64 150])>>=_)from rfl)) ?_;simp only[Sem.run_bind,qo6,Result.andThen];simp[ReflectliteValue.isNil,loadVar,isAgg,underlying,underlying225,b,Result.andThen]
theorem q8j (a p:Addr) (W:World) (b:W.cell? a=some (.pointer (some p))):
 (ReflectliteValue.method (ReflectliteValue.valueError "reflectlite.Value.Elem" 0) ReflectliteValue.elem #[.agg #[.pointer (some (AD 10 225)),.pointer (some a),.int .u64 150]]).run prog W
  =.ok (.agg #[.pointer (some (AD 10 26)),.pointer (some p),.int .u64 386]) W:=by
 refine Eq.trans (congrArg (λs=>Sem.run prog s W) (show ReflectliteValue.method (ReflectliteValue.valueError "reflectlite.Value.Elem" 0) ReflectliteValue.elem #[(.agg #[.pointer (some (AD 10 225)),.pointer (some a),.int .u64 150])]=(ReflectliteValue.parts (.agg #[.pointer (some (AD 10 225)),.pointer (some a),.int .u64 150])>>=_)from rfl)) ?_;simp only[Sem.run_bind,qo6,Result.andThen];simp[ReflectliteValue.elem,loadVar,isAgg,underlying,underlying225,b,Result.andThen,q7g,jb8]
theorem jbv (a b:Addr) (n:Int) (c:Value) (W:World) (d:W.cell? b=some (U n)) (e:W.cell? a=some c) (f:W.frozen? a=false):
 (ReflectliteValue.set #[.agg #[.pointer (some (AD 10 26)),.pointer (some a),.int .u64 386],.agg #[.pointer (some (AD 10 26)),.pointer (some b),.int .u64 130]]).run prog W
  =.ok (.tuple #[]) (W.setCell a (U n)):=by
 refine Eq.trans (congrArg (λs=>Sem.run prog s W) (show ReflectliteValue.set #[(.agg #[.pointer (some (AD 10 26)),.pointer (some a),.int .u64 386]),(.agg #[.pointer (some (AD 10 26)),.pointer (some b),.int .u64 130])]=(ReflectliteValue.parts (.agg #[.pointer (some (AD 10 26)),.pointer (some a),.int .u64 386])>>=λ_=>ReflectliteValue.parts (.agg #[.pointer (some (AD 10 26)),.pointer (some b),.int .u64 130])>>=_)from rfl)) ?_;simp only[Sem.run_bind,qxp,q6i,Result.andThen];simp[ReflectliteValue.flagAddr,loadVar,isAgg,underlying,underlying26,d,Result.andThen,q6y,storeVar,Value.cells,storeCells,Addr.add];rw[run_store prog W a _ _ (by rfl)];simp[e,f]
end
section
open Tryz Go.Extern.Stop Go.Stop Go.Extern
theorem ja2 (n:Int) (t:Addr) (a:Value) (w:World) (b:w.cell? (AD 3 0)=some (.iface 312 (.agg #[.pointer (some (AD 10 37))]))) (c:w.cell? t=some a) (e:w.frozen? t=false):
 Ca 166 #[.iface 26 (U n),.iface 225 (.pointer (some t))] w λev w'=>ev=.returned (.bool true)/\w'=((((w.alloc (.cells #[.pointer (some t)] 225)).alloc (.cells #[.pointer (some (AD 10 225)),PP w.heap.size,.int .u64 150] 270)).alloc (.cells #[.pointer (some (AD 10 225)),PP w.heap.size,.int .u64 150] 270)).alloc (.cells #[U n] 26)).setCell t (U n):=by
 have g:=@run_callFunc_extern prog 222 _ (λargs=>ReflectliteValue.unpack (args.getD 0 (.tuple #[]))) func222 (by kernel_rfl) (by kernel_rfl) (by kernel_rfl) (by kernel_rfl);have h:=@run_callFunc_extern prog 223 _ (ReflectliteValue.methodAny (ReflectliteValue.valueError "reflectlite.Value.Type" 0) (λt _ _ _=>ReflectliteType.toType t)) func223 (by kernel_rfl) (by kernel_rfl) (by kernel_rfl) (by kernel_rfl);have i:=@run_callFunc_extern prog 224 _ (ReflectliteValue.method (ReflectliteValue.valueError "reflectlite.Value.IsNil" 0) ReflectliteValue.isNil) func224 (by kernel_rfl) (by kernel_rfl) (by kernel_rfl) (by kernel_rfl);have j:=@run_callFunc_extern prog 309 _ (ReflectliteType.abiMethod λt=>do pure (.int .u8 (<-Rtype.kind t))) func309 (by kernel_rfl) (by kernel_rfl) (by kernel_rfl) (by kernel_rfl);have k:=@run_callFunc_extern prog 323 _ (ReflectliteType.method ReflectliteType.elem) func323 (by kernel_rfl) (by kernel_rfl) (by kernel_rfl) (by kernel_rfl);have l:=@run_callFunc_extern prog 324 _ (ReflectliteType.relation "Implements" ReflectliteType.implements_) func324 (by kernel_rfl) (by kernel_rfl) (by kernel_rfl) (by kernel_rfl);have m:=@run_callFunc_extern prog 264 _ ReflectliteType.typeOf func264 (by kernel_rfl) (by kernel_rfl) (by kernel_rfl) (by kernel_rfl);have o:=@run_callFunc_extern prog 321 _ (ReflectliteType.relation "AssignableTo" ReflectliteType.assignableTo) func321 (by kernel_rfl) (by kernel_rfl) (by kernel_rfl) (by kernel_rfl);have p:=@run_callFunc_extern prog 265 _ (ReflectliteValue.method (ReflectliteValue.valueError "reflectlite.Value.Elem" 0) ReflectliteValue.elem) func265 (by kernel_rfl) (by kernel_rfl) (by kernel_rfl) (by kernel_rfl);have q:=@run_callFunc_extern prog 266 _ ReflectliteValue.set func266 (by kernel_rfl) (by kernel_rfl) (by kernel_rfl) (by kernel_rfl);have r:=q1s;have s:=q28;have u:=q1f;have v:=qxu;have x:=qs0;have y:=q2n;have z:=q9s;have B:=q75;have C:=q9h
 have D:=q2s;have E:=q80;have F:=q1t;have G:=q96;have H:=q9u (AD w.heap.size 0) t ((w.alloc (.cells #[.pointer (some t)] 225)).alloc (.cells #[.pointer (some (AD 10 225)),PP w.heap.size,.int .u64 150] 270)) (by simp);have f:3<w.heap.size:=jcr _ _ b;have d:=jcr _ _ c
 have I:((w.alloc (.cells #[.pointer (some t)] 225)).alloc (.cells #[.pointer (some (AD 10 225)),PP w.heap.size,.int .u64 150] 270)).cell? (AD 3 0)=some (.iface 312 (.agg #[.pointer (some (AD 10 37))])):=by
  rw[World.cell?_alloc_lt _ _ (AD 3 0) (by simp<;>omega),World.cell?_alloc_lt _ _ (AD 3 0) f];exact b
 have J:=q8j (AD w.heap.size 0) t (((w.alloc (.cells #[.pointer (some t)] 225)).alloc (.cells #[.pointer (some (AD 10 225)),PP w.heap.size,.int .u64 150] 270)).alloc (.cells #[.pointer (some (AD 10 225)),PP w.heap.size,.int .u64 150] 270)) (by rw[World.cell?_alloc_lt _ _ (AD w.heap.size 0) (by simp;omega)];simp)
 have K:=jbv t (AD (w.heap.size+1+1+1) 0) n a ((((w.alloc (.cells #[.pointer (some t)] 225)).alloc (.cells #[.pointer (some (AD 10 225)),PP w.heap.size,.int .u64 150] 270)).alloc (.cells #[.pointer (some (AD 10 225)),PP w.heap.size,.int .u64 150] 270)).alloc (.cells #[U n] 26))
  (by rw[World.cell?_alloc_at _ _ _ _ (by simp)];rfl)
  (by rw[World.cell?_alloc_lt _ _ t (by simp;omega),World.cell?_alloc_lt _ _ t (by simp;omega),World.cell?_alloc_lt _ _ t (by simp;omega),World.cell?_alloc_lt _ _ t d];exact c)
  (by rw[World.frozen?_alloc_old _ _ t (by simp;omega),World.frozen?_alloc_old _ _ t (by simp;omega),World.frozen?_alloc_old _ _ t (by simp;omega),World.frozen?_alloc_old _ _ t (Nat.ne_of_lt d)];exact e)
 go_enter func166,ntmps166
 go_wp2
 refine wp_loop_rounds 1 ?_;rw[rounds_succ]
 go_wp2
 go_ret;exact⟨rfl,rfl⟩
theorem qzi (n:Int) (w:World) (a:w.cell? (AD 3 0)=some (.iface 312 (.agg #[.pointer (some (AD 10 37))]))):
 Ca 119 #[.iface 26 (U n)] w (Rn (U n) w):=by
 have b:=cell_later (boxed (jcc _ w) (.cells #[U 0] 26)) a
 have c:(w.alloc (.cells #[U 0] 26)).cell? (AD w.heap.size 0)=some (U 0):=by simp
 have d:(w.alloc (.cells #[U 0] 26)).frozen? (AD w.heap.size 0)=false:=by simp
 go_enter func119,ntmps119
 go_wp2_with fail
 refine(ja2 _ _ (U 0) _ b c d).mono ?_;rintro e f ⟨rfl,rfl⟩
 go_wp2
 go_ret;refine⟨rfl,?_⟩
 repeat (first|(with_reducible exact jcc _ _)|(with_reducible refine boxed ?_ _)|(with_reducible refine jdz ?_ (jcd _) _))
end
theorem qnj {tmps:Array Value} {w:World} {g:Nat} {x:Wr} {v:Bool} (h:qd w g [U x.key,.string x.data,.bool x.gone]) (a:tmps[4]?=some (PP g)) (b:tmps[5]?=some (.bool v)):
 (results Tryz.f78 tmps).run Tryz.prog w=.ok (.tuple #[wrV x,.bool v]) w:=by
 have d:=h.c 0;have e:=h.c 1;have f:=h.c 2;simp[results,Tryz.results78,go_sem,a,b,d,e,f,wrV]
theorem qla {b:Nat} {wv:Value} {s:qy} (key:Int) (w:World) (h:qgs w b wv s):
 Ca 78 #[PP b,U key] w (Rn (.tuple #[wrV (qav s.ws key),.bool (qay s.ws key).isSome]) w):=by
 have F:=boxed (jcc _ w) (.cells #[U 0,.string ⟨#[]⟩,.bool false] 100);have RW:=qd.new (w:=w) (T:=100) [U 0,.string ⟨#[]⟩,.bool false] rfl;change qd (w.alloc (.cells #[U 0,.string ⟨#[]⟩,.bool false] 100)) w.heap.size [U 0,.string ⟨#[]⟩,.bool false]at RW;have r:=h.later F;obtain⟨a,cap,rfl,n⟩:=qbg r.row;have S:=r.box.c 9;have V:=n.len;have W:=n.cap;have N:=hd1 n;have G:Hid (∀x:Wr,qd (w.alloc (.cells #[U x.key,.string x.data,.bool x.gone] 100)) w.heap.size [U x.key,.string x.data,.bool x.gone]):=λx=>qd.new (w:=w) (T:=100) [U x.key,.string x.data,.bool x.gone] rfl;have H:Hid (∀x:Wr,Bw w (w.alloc (.cells #[U x.key,.string x.data,.bool x.gone] 100))):=λx=>boxed (jcc _ w) _;have X:=RW.c 0;have Y:=RW.c 1;have Z:=RW.c 2;have f0:=RW.f 0;have f1:=RW.f 1;have f2:=RW.f 2;clear h r n RW F;go_enter Tryz.func78,Tryz.ntmps78
 go_wp2_with fail
 go_loopw [6] (λiv wr=>∃(k:Nat) (z:Int),k<=s.ws.length/\z=k-1/\iv=U z/\Hid (∀j y,k<=j->s.ws[j]?=some y->y.key≠key)/\wr=w.alloc (.cells #[U 0,.string ⟨#[]⟩,.bool false] 100)) (λi _=>(intOf i+1).toNat)
 case atStart=>exact⟨s.ws.length,s.ws.length-1,jcd _,rfl,by go_num,(λj y t d=>by rw[List.getElem?_eq_none t]at d;cases d),rfl⟩
 obtain⟨k,z,hk,u,rfl,v,rfl⟩:=hrel;have O:=hd1 u;cases k with
 |zero=>
  have P:¬0<=z:=by omega
  have m:=hd1 (q15 (λj y d=>v.out j y (by omega) d));clear u
  go_wp2_with fail
  refine bodyPost_ret (qnj (G.out ⟨0,⟨#[]⟩,false⟩) rfl rfl) rfl ⟨?_,H.out ⟨0,⟨#[]⟩,false⟩⟩;rw[m.out,show qav s.ws key=⟨0,⟨#[]⟩,false⟩ by unfold qav;rw[m.out];rfl];rfl
 |succ k=>
  have P:0<=z:=by omega
  have g2:z.toNat=k:=by omega
  have g3:z<(s.ws.length:Int):=by omega
  have o:k<s.ws.length:=by omega
  clear u
  obtain⟨B,C,rfl,I⟩:∃B C,a=some (AD B C)/\qbo (w.alloc (.cells #[U 0,.string ⟨#[]⟩,.bool false] 100)) B C s.ws:=by
   rcases N.out.held with D|D
   ·rw[D]at o;simp at o
   exact D
  obtain⟨⟨g,p,q⟩,E⟩:∃x,s.ws[k]?=some x:=⟨s.ws[k],jcg o⟩
  have J:qa7 s.ws k=⟨g,p,q⟩:=by unfold qa7;rw[jdp,E];rfl
  have K:=I k o;rw[J]at K;obtain⟨x0,x1,x2⟩:=K;have L:=hd1 E;clear I J E;by_cases l:g=key
  ·have Q:(g==key)=true:=by simp[l]
   have m:=hd1 (q8d L.out l (λj y t d=>v.out j y (by omega) d));clear l
   go_wp2_with fail
   refine bodyPost_ret (qnj (G.out ⟨g,p,q⟩) rfl rfl) rfl ⟨?_,H.out ⟨g,p,q⟩⟩;rw[m.out,show qav s.ws key=⟨g,p,q⟩ by unfold qav;rw[m.out];rfl];rfl
  have Q:(g==key)=false:=by simp[l]
  have R:=hd1 l;clear l
  go_wp2_with fail
  go_roundw
  case rel=>exact⟨k,z-1,by omega,by have:=O.out;omega,by go_num,(λj y t d=>by
   rcases jc7 k j with M|M
   ·exact v.out j y M d
   have e:j=k:=by omega
   subst e;rw[L.out]at d;injection d with d;rw[<-d]
   exact R.out),trivial⟩
  simp[intOf];omega
theorem qp1 {b:Nat} {wv:Value} {s:qy} (w:World) (h:qgs w b wv s):
 Ca 80 #[PP b] w λe w'=>∃v,e=.returned v/\w'.ownsRow w.heap.size 100 3 v (jh s.ws).length (qcf (jh s.ws))/\Bw w w':=by
 have G:=hd1 h;clear h;obtain⟨H,hi,I,J,K⟩:=info_parts qmn;go_enter Tryz.func80,Tryz.ntmps80
 go_wp2_with fail
 go_loopw [3,7] (λL iv wr=>∃(k:Nat) (z:Int),k<=8/\z=k/\iv=U z/\wr.ownsRow w.heap.size 100 3 L (qak s.ws k).length (qcf (qak s.ws k))/\Bw w wr) (λ_ i _=>8-(intOf i).toNat)
 case atStart=>exact⟨0,0,by omega,rfl,rfl,jcx _ _ _ _,jcc _ _⟩
 obtain⟨k,z,Y,m,rfl,own,n⟩:=hrel;have r:=hd1 m;have Z:=qkg s.ws k;by_cases aa:k<8
 ·have M:z<8:=by omega
  have h0:0<=z:=by omega
  have g:=qla z wr (G.out.later n);have t:Hid (qak s.ws (k+1)=qak s.ws k++(match qay s.ws (k:Int)with|some x=>[x]|none=>[])):=qim s.ws k;rw[m]at g;cases ho:qay s.ws (k:Int)with
  |none=>
   have o:qav s.ws (k:Int)=⟨0,⟨#[]⟩,false⟩:=by unfold qav;rw[ho];rfl
   have C:Hid (qak s.ws (k+1)=qak s.ws k):=by show _=_;rw[t.out,ho];simp
   rw[ho,o]at g;rw[<-m]at g;clear m ho o t
   go_wp2_with fail
   refine g.mono ?_;rintro e p ⟨rfl,l⟩;rw[show wrV ⟨0,⟨#[]⟩,false⟩=.agg #[U 0,.string ⟨#[]⟩,.bool false]from rfl,show (none:Option Wr).isSome=false from rfl];have N:=(qf own (λk e=>l.block k (own.lt k e).2)).alloc (.cells #[U 0,.string ⟨#[]⟩,.bool false] 100);have O:=boxed (qa n l) (.cells #[U 0,.string ⟨#[]⟩,.bool false] 100);clear g own n l
   go_wp2_with fail
   go_roundw
   case rel=>exact⟨k+1,z+1,by omega,by have:=r.out;omega,by go_num,by rw[C.out];exact N,O⟩
   simp[intOf];have:=r.out;omega
  |some x=>
   obtain⟨a,d,f⟩:=x
   have o:qav s.ws (k:Int)=⟨a,d,f⟩:=by unfold qav;rw[ho];rfl
   have C:Hid (qak s.ws (k+1)=qak s.ws k++[⟨a,d,f⟩]):=by show _=_;rw[t.out,ho]
   rw[ho,o]at g;rw[<-m]at g;clear m ho o t
   go_wp2_with fail
   refine g.mono ?_;rintro e p ⟨rfl,l⟩;rw[show wrV ⟨a,d,f⟩=.agg #[U a,.string d,.bool f]from rfl,show (some (⟨a,d,f⟩:Wr)).isSome=true from rfl];have y:=(qf own (λk e=>l.block k (own.lt k e).2)).alloc (.cells #[U a,.string d,.bool f] 100);have q:=qd.new (w:=p) (T:=100) [U a,.string d,.bool f] rfl;change qd (p.alloc (.cells #[U a,.string d,.bool f] 100)) p.heap.size [U a,.string d,.bool f]at q;have B:=boxed (qa n l) (.cells #[U a,.string d,.bool f] 100);obtain⟨W1,E⟩:∃W1,p.alloc (.cells #[U a,.string d,.bool f] 100)=W1:=⟨_,rfl⟩;rw[E]at y q B;have y0:=q.c 0;have y1:=q.c 1;have y2:=q.c 2;clear g own n l;obtain⟨P,Q,rfl,D⟩:=qbg y;have hcl:=D.len;have hcc:=D.cap;clear D
   go_wp2_with (first|(rw[E])|(at_builtin;refine wpList_append_lies _ rfl (.tmp 17) (.tmp 19) 88 rfl w.heap.size 100 H (.agg #[U 0,.string ⟨#[]⟩,.bool false]) 3 32 Tryz.underlying88 hi I J K rfl (by decide) (.slice P (qak s.ws k).length Q) (qak s.ws k).length (qcf (qak s.ws k)) rfl (y.alloc _) (AD W1.heap.size 0) 1 1 (wrC ⟨a,d,f⟩) rfl rfl (World.news_of_block (heap_alloc_new W1 (.cells #[U a,.string d,.bool f] 100))) (by intro u F;simp[wrC]at F;rcases F with rfl|rfl|rfl<;>rfl) (by decide) (by simp only[maxLen];omega) (by omega) (by have:=B.size;simp;omega) _ rfl ?_;intro g9 cap9 wE R S egE ltE))
   have V:=(boxed B (.cells #[U a,.string d,.bool f] 100)).grown S (by have:=B.size;simp;omega) (λj W=>by have:=(y.lt _ W).1;omega)
   go_roundw
   case rel=>exact⟨k+1,z+1,by omega,by have:=r.out;omega,by go_num,by rw[C.out,qkh,jcl];exact R,V⟩
   simp[intOf];have:=r.out;omega
 have M:¬z<8:=by omega
 have X:k=8:=by omega
 subst X
 go_wp2_with fail
 go_ret;exact⟨_,rfl,own,n⟩
theorem qgy (n lo hi:Int) (w:World):
 Ca 28 #[U n,U lo,U hi] w λe w'=>e=.returned (.bool (inB n lo hi))/\w'=w:=by
 by_cases a:lo<=n
 ·by_cases b:n<=hi
  ·have e:inB n lo hi=true:=by simp[inB,a,b]
   rw[e];go_enter Tryz.func28,Tryz.ntmps28
   go_wp2
   go_ret;exact⟨rfl,rfl⟩
  have e:inB n lo hi=false:=by simp[inB,b]
  rw[e];go_enter Tryz.func28,Tryz.ntmps28
  go_wp2
  go_ret;exact⟨rfl,rfl⟩
 have e:inB n lo hi=false:=by simp[inB,a]
 rw[e];go_enter Tryz.func28,Tryz.ntmps28
 go_wp2
 go_ret;exact⟨rfl,rfl⟩
theorem vj {n lo hi:Int} {v:Bool} (h:inB n lo hi=v) (w:World):
 Ca 28 #[U n,U lo,U hi] w (Rn (.bool v) w):=by
 subst h;exact(qgy n lo hi w).mono λe w' ⟨a,b⟩=>⟨a,by rw[b];exact jcc _ _⟩
theorem qbk (n:Int) (w:World):
 Ca 28 #[U n,U 0,U 1099511627776] w λe w'=>e=.returned (.bool (qi n))/\w'=w:=qgy n 0 1099511627776 w
theorem qcz (x c:Int) (w:World):
 Ca 180 #[.agg #[U x,U c]] w (Rn (.bool (qi x&&qi c)) w):=by
 by_cases h:qi x=true;rw[h]
 rotate_left
 have a:qi x=false:=by simpa using h
 rw[a]
 all_goals
  go_enter Tryz.func180,Tryz.ntmps180
  go_wp2_with (go_at_call 28;refine(qbk _ _).mono ?_;rintro e w' ⟨rfl,rfl⟩)
  go_ret;exact⟨by simp,boxed (jcc _ _) _⟩
theorem qg5 {x c:Int} {v:Bool} (h:(qi x&&qi c)=v) (w:World):
 Ca 180 #[.agg #[U x,U c]] w (Rn (.bool v) w):=by
 subst h;exact qcz x c w
section
open Tryz
theorem qnt (a0 a1 a2 a3:Int) (w:World):
 Ca 178 #[.agg #[U a0,U a1,U a2,U a3]] w (Rn (.bool (jb a0 a1 a2 a3)) w):=by
 have g:∀w,(Instr.index 77 (.agg #[U a0,U a1,U a2,U a3]) (U 0)).run prog w=.ok (U a0) w:=λ_=>by kernel_rfl
 have h:∀w,(Instr.index 77 (.agg #[U a0,U a1,U a2,U a3]) (U 1)).run prog w=.ok (U a1) w:=λ_=>by kernel_rfl
 have i:∀w,(Instr.index 77 (.agg #[U a0,U a1,U a2,U a3]) (U 2)).run prog w=.ok (U a2) w:=λ_=>by kernel_rfl
 have j:∀w,(Instr.index 77 (.agg #[U a0,U a1,U a2,U a3]) (U 3)).run prog w=.ok (U a3) w:=λ_=>by kernel_rfl
 by_cases b:qi a0=false
 have e:jb a0 a1 a2 a3=false:=by simp[jb,b]
 rw[e];go_enter func178,ntmps178
 go_wp2
 refine wp_loop_rounds 5 ?_;rw[rounds_succ]
 go_wp2_with (go_at_call 28;refine(qbk _ _).mono ?_;rintro e a ⟨rfl,rfl⟩)
 rotate_left
 have b:qi a0=true:=by simpa using b
 by_cases c:qi a1=false
 have e:jb a0 a1 a2 a3=false:=by simp[jb,c]
 rw[e];go_enter func178,ntmps178
 go_wp2
 refine wp_loop_rounds 5 ?_;rw[rounds_succ]
 go_wp2_with (go_at_call 28;refine(qbk _ _).mono ?_;rintro e a ⟨rfl,rfl⟩)
 rw[rounds_succ]
 go_wp2_with (go_at_call 28;refine(qbk _ _).mono ?_;rintro e a ⟨rfl,rfl⟩)
 rotate_left
 have c:qi a1=true:=by simpa using c
 by_cases d:qi a2=false
 have e:jb a0 a1 a2 a3=false:=by simp[jb,d]
 rw[e];go_enter func178,ntmps178
 go_wp2
 refine wp_loop_rounds 5 ?_;rw[rounds_succ]
 go_wp2_with (go_at_call 28;refine(qbk _ _).mono ?_;rintro e a ⟨rfl,rfl⟩)
 rw[rounds_succ]
 go_wp2_with (go_at_call 28;refine(qbk _ _).mono ?_;rintro e a ⟨rfl,rfl⟩)
 rw[rounds_succ]
 go_wp2_with (go_at_call 28;refine(qbk _ _).mono ?_;rintro e a ⟨rfl,rfl⟩)
 rotate_left
 have d:qi a2=true:=by simpa using d
 by_cases f:qi a3=false
 have e:jb a0 a1 a2 a3=false:=by simp[jb,f]
 rw[e];go_enter func178,ntmps178
 go_wp2
 refine wp_loop_rounds 5 ?_;rw[rounds_succ]
 go_wp2_with (go_at_call 28;refine(qbk _ _).mono ?_;rintro e a ⟨rfl,rfl⟩)
 rw[rounds_succ]
 go_wp2_with (go_at_call 28;refine(qbk _ _).mono ?_;rintro e a ⟨rfl,rfl⟩)
 rw[rounds_succ]
 go_wp2_with (go_at_call 28;refine(qbk _ _).mono ?_;rintro e a ⟨rfl,rfl⟩)
 rw[rounds_succ]
 go_wp2_with (go_at_call 28;refine(qbk _ _).mono ?_;rintro e a ⟨rfl,rfl⟩)
 rotate_left
 have f:qi a3=true:=by simpa using f
 have e:jb a0 a1 a2 a3=true:=by simp[jb,b,c,d,f]
 rw[e];go_enter func178,ntmps178
 go_wp2
 refine wp_loop_rounds 5 ?_;rw[rounds_succ]
 go_wp2_with (go_at_call 28;refine(qbk _ _).mono ?_;rintro e a ⟨rfl,rfl⟩)
 rw[rounds_succ]
 go_wp2_with (go_at_call 28;refine(qbk _ _).mono ?_;rintro e a ⟨rfl,rfl⟩)
 rw[rounds_succ]
 go_wp2_with (go_at_call 28;refine(qbk _ _).mono ?_;rintro e a ⟨rfl,rfl⟩)
 rw[rounds_succ]
 go_wp2_with (go_at_call 28;refine(qbk _ _).mono ?_;rintro e a ⟨rfl,rfl⟩)
 rw[rounds_succ]
 go_wp2
 all_goals
  go_ret;exact⟨rfl,by repeat (first|exact jcc _ _|apply jy|apply boxed)⟩
theorem qcn {a0 a1 a2 a3:Int} {v:Bool} (h:jb a0 a1 a2 a3=v) (w:World):
 Ca 178 #[.agg #[U a0,U a1,U a2,U a3]] w (Rn (.bool v) w):=by
 subst h;exact qnt a0 a1 a2 a3 w
end
section
def qa0 (n:Nat):Code->Option Code
 |.region id ops d=>if id=n then some (.region id ops d)else none
 |.seq x y=>match qa0 n x with
  |some c=>some c
  |none=>qa0 n y
 |.block _ c=>qa0 n c
 |.loop c=>qa0 n c
 |.cond _ x y=>match qa0 n x with
  |some c=>some c
  |none=>qa0 n y
 |_=>none
def qhj (n:Nat):Code->Bool
 |.region id _ _=>Nat.beq id n
 |.seq x _=>qhj n x
 |.block _ c=>qhj n c
 |.loop c=>qhj n c
 |_=>false
def qfn (n:Nat):Code->Option Code
 |.loop c=>match qhj n c with
  |true=>some (.loop c)
  |false=>qfn n c
 |.seq x y=>match qfn n x with
  |some c=>some c
  |none=>qfn n y
 |.block _ c=>qfn n c
 |.cond _ x y=>match qfn n x with
  |some c=>some c
  |none=>qfn n y
 |_=>none
def qfe (n:Nat):Code->Option Code
 |.seq x y=>match qhj n x with
  |true=>some (.seq x y)
  |false=>match qfe n x with
   |some c=>some c
   |none=>qfe n y
 |.block _ c=>qfe n c
 |.cond _ x y=>match qfe n x with
  |some c=>some c
  |none=>qfe n y
 |_=>none
variable {P:Program} {c:Code} {Q:Exit->Act->World->Prop} {a:Act} {w:World}
theorem q58 {x:Exit} (h:c.wp P (λe a w=>e=x/\Q x a w) a w):c.wp P Q a w:=
 wp_mono h (λe a w h=>by obtain⟨b,d⟩:=h;rw[b];exact d)
theorem qma {K:Act->World->Prop} (h:c.wp P (Exit.then K (λ_ _ _=>False)) a w):c.wp P (Exit.then K Q) a w:=
 wp_mono h (λe a w h=>by cases e<;>first|exact h|exact False.elim h)
end
section
section
variable {w w2 w3 wE:World} {b g cap p q:Nat} {M:WoM} {W:WoS} {Gs:Nat->Nat->Prop}
theorem zh.snoc {n:Nat} {ps ps':Nat->qfr} {X X' G:Nat->Prop} {w w':World} (h:zh w n ps Gs X n NoY) (y:∀j k,j<n->Gs j k->w'.heap[k]?=w.heap[k]?) (z:w.heap.size<=w'.heap.size) (A:(ps' n).is w' G) (u:∀k,G k->w.heap.size<=k) (B:∀i,i<n->ps' i=ps i) (s:∀k,X' k->(X k\/w.heap.size<=k)/\k<w'.heap.size/\¬G k):zh w' (n+1) ps' (λj=>if j=n then G else Gs j) X' (n+1) NoY:=by
 refine⟨λj C=>?_,λa c k E F v l d=>?_,λk e=>⟨(s k e).2.1,λj C m=>?_⟩,λk e=>e.elim⟩
 ·by_cases e:j=n
  ·rw[if_pos e,e];exact A
  have f:j<n:=by omega
  rw[if_neg e,B j f];exact(ps j).kept _ _ _ (h.is j f) (λk D=>y j k f D) z
 ·by_cases t:a=n
  ·rw[if_pos t]at l;have o:c≠n:=λe=>v (t.trans e.symm);rw[if_neg o]at d;have:=(ps c).lt _ _ (h.is c (by omega)) k d;have:=u k l;omega
  rw[if_neg t]at l;by_cases o:c=n
  ·rw[if_pos o]at d;have:=(ps a).lt _ _ (h.is a (by omega)) k l;have:=u k d;omega
  rw[if_neg o]at d;exact h.apart a c k (by omega) (by omega) v l d
 by_cases x:j=n
 ·rw[if_pos x]at m;exact(s k e).2.2 m
 rw[if_neg x]at m
 have f:j<n:=by omega
 rcases(s k e).1 with r|r
 ·exact(h.free k r).2 j f m
 have:=(ps j).lt _ _ (h.is j f) k m;omega
theorem qm6 (bp:Nat->Nat) (x:Nat->Int) (n p:Nat) (y:Int) (a:x n=y):zt (λj=>if j=n then p else bp j) x (n+1)=zt bp x n++[PP p,U y]:=by
 unfold zt;rw[List.range_succ,List.flatMap_append]
 congr 1
 ·rw[List.flatMap_def,List.flatMap_def]
  congr 1
  refine List.map_congr_left (λj c=>?_);have:=List.mem_range.1 c;show qum (if j=n then p else bp j) (x j)=_;rw[if_neg (by omega)]
 simp[qum,a]
theorem PWo.addSite (h:PWo w b M W Gs) (D:W.c=0) (y:PS w2 p (λk=>k=p\/k=q) (W.S W.n)) (L:w.heap.size<=p) (N:w.heap.size<=q) (G:W.wall W.n=0) (z:Bw w w2) (m:Bw w2 w3)
 (own:wE.ownsRow 0 167 2 (.slice (PT g) (W.n+1) cap) (W.n+1) (zt M.bp W.wall W.n++[PP p,U 0])) (o:w3.grownBy wE M.pv.ownBlock) (E:M.pv.ownBlock=some g\/g=w3.heap.size) (O:g<wE.heap.size):
 PWo (wE.setCell (AD b 0) (.slice (PT g) (W.n+1) cap)) b {M with pv:=.slice (PT g) (W.n+1) cap,bp:=λj=>if j=W.n then p else M.bp j} {W with n:=W.n+1} (λj=>if j=W.n then (λk=>k=p\/k=q)else Gs j):=by
 have s2:=z.size;have s3:=m.size;have P:=o.size;have Q:=y.lt p (.inl rfl);have R:=y.lt q (.inr rfl);have T:=h.box.lt;have f:(Value.slice (PT g) (W.n+1) cap).ownBlock=some g:=rfl
 have i:(wE.setCell (AD b 0) (.slice (PT g) (W.n+1) cap)).heap.size=wE.heap.size:=by simp[World.setCell]
 have F:g≠b:=by
  rcases E with e|e
  ·exact λr=>h.sb.1 (by rw[e,r])
  omega
 have H:∀k,k<w.heap.size->M.pv.ownBlock≠some k->wE.heap[k]?=w.heap[k]?:=λk A B=>(o.block k (by omega) (λe=>B e.symm)).trans ((m.block k (by omega)).trans (z.block k A));have t:∀k,k<w.heap.size->M.pv.ownBlock≠some k->k≠b->(wE.setCell (AD b 0) (.slice (PT g) (W.n+1) cap)).heap[k]?=w.heap[k]?:=λk A B I=>(jce _ _ _ _ (λe=>I e)).trans (H k A B);have J:=λk e=>(h.pr.lt k e).2
 have C:∀k,g=k->(M.pv.ownBlock=some k\/w2.heap.size<=k):=λk e=>by
  rcases E with r|r
  ·exact .inl (by rw[r,e])
  exact .inr (by omega)
 have u:=h.fam;rw[D,Nat.add_zero]at u;refine⟨?_,?_,?_,?_,h.nl,λx a=>?_,?_,⟨λe=>F (by rw[f]at e;injection e),h.sb.2⟩,λk=>⟨λe=>?_,(h.sr k).2⟩,λx a=>?_⟩
 ·have K:=(((h.box.later z).later m)).grown o (λe=>h.sb.1 e.symm);exact K.set 0 _ (by simp)
 ·show World.ownsRow _ 0 _ 2 _ (W.n+1) (zt _ W.wall (W.n+1));rw[qm6 M.bp W.wall W.n p 0 G];exact qf own (λk e=>jce _ _ _ _ (λr=>F (by rw[f]at e;injection e with e;exact e.trans r)))
 ·exact qf h.cr (λk e=>t k (h.cr.lt k e).2 (λd=>((h.sr k).1 d).1 e) (λr=>h.sb.2.1 (by rw[e,r])))
 ·exact qf h.nr (λk e=>t k (h.nr.lt k e).2 (λd=>((h.sr k).1 d).2 e) (λr=>h.sb.2.2 (by rw[e,r])))
 ·have s:=h.sg x a;exact(h.gr x a).kept (t _ (h.gr x a).own.lt s.2.1 s.1) (by rw[i];omega)
 ·show zh _ (W.n+1+W.c) _ _ _ (W.n+1+W.c) NoY;rw[D,Nat.add_zero];refine u.snoc (λj k v e=>t k (h.ltG (by omega) e) (λr=>(u.free k (.inr (.inl r))).2 j v e) (λr=>(u.free k (.inl r)).2 j v e)) (by rw[i];omega) ?_ (λk e=>by rcases e with e|e<;>omega) (λj v=>?_) (λk e=>?_)
  ·show (if W.n<W.n+1 then qfp (if W.n=W.n then p else M.bp W.n) (W.S W.n)else _).is _ _;rw[if_pos (by omega),if_pos rfl];exact y.kept (λk e=>(jce _ _ _ _ (λr=>by rcases e with e|e<;>(have:k=b:=r;omega))).trans ((o.block k (by rcases e with e|e<;>omega) (λr=>by have:=J k r.symm;rcases e with e|e<;>omega)).trans (m.block k (by rcases e with e|e<;>omega)))) (by rw[i];omega)
  ·show (if j<W.n+1 then qfp (if j=W.n then p else M.bp j) (W.S j)else _)=(if j<W.n then _ else _);rw[if_pos (by omega),if_pos v,if_neg (by omega)]
  have l:qfw b M k->(qfw b M k\/w.heap.size<=k)/\k<(wE.setCell (AD b 0) (.slice (PT g) (W.n+1) cap)).heap.size/\¬(k=p\/k=q):=λe=>by
   have:=h.ltF k e;exact⟨.inl e,by rw[i];omega,by omega⟩
  rcases e with e|e|e|e|⟨x,a,e⟩
  ·exact l (.inl e)
  ·rw[f]at e;injection e with e;rcases C k e with r|r
   ·exact l (.inr (.inl r))
   exact⟨.inr (by omega),by rw[i];omega,by omega⟩
  ·exact l (.inr (.inr (.inl e)))
  ·exact l (.inr (.inr (.inr (.inl e))))
  exact l (.inr (.inr (.inr (.inr ⟨x,a,e⟩))))
 ·rw[f]at e;injection e with e;rcases C k e with r|r
  ·exact(h.sr k).1 r
  exact⟨λd=>by have:=(h.cr.lt k d).2;omega,λd=>by have:=(h.nr.lt k d).2;omega⟩
 have s:=h.sg x a;refine⟨s.1,λe=>?_,s.2.2⟩;rw[f]at e;injection e with e;rcases C x.blk e with r|r
 ·exact s.2.1 r
 have:=(h.gr x a).own.lt;omega
theorem PWo.addSes (h:PWo w b M W Gs) (C:PSe w2 p (λk=>k=p) (W.ses W.c)) (K:w.heap.size<=p) (F:W.at_ W.c=0) (y:Bw w w2) (m:Bw w2 w3)
 (own:wE.ownsRow 0 171 2 (.slice (PT g) (W.c+1) cap) (W.c+1) (zt M.bs (λk=>(W.at_ k:Int)) W.c++[PP p,U 0])) (o:w3.grownBy wE M.cv.ownBlock) (D:M.cv.ownBlock=some g\/g=w3.heap.size) (L:g<wE.heap.size):
 PWo (wE.setCell (AD b 1) (.slice (PT g) (W.c+1) cap)) b {M with cv:=.slice (PT g) (W.c+1) cap,bs:=λj=>if j=W.c then p else M.bs j} {W with c:=W.c+1} (λj=>if j=W.n+W.c then (λk=>k=p)else Gs j):=by
 have s2:=y.size;have s3:=m.size;have N:=o.size;have O:=C.lt p rfl;have P:=h.box.lt;have f:(Value.slice (PT g) (W.c+1) cap).ownBlock=some g:=rfl
 have i:(wE.setCell (AD b 1) (.slice (PT g) (W.c+1) cap)).heap.size=wE.heap.size:=by simp[World.setCell]
 have E:g≠b:=by
  rcases D with e|e
  ·exact λr=>h.sb.2.1 (by rw[e,r])
  omega
 have G:∀k,k<w.heap.size->M.cv.ownBlock≠some k->wE.heap[k]?=w.heap[k]?:=λk z A=>(o.block k (by omega) (λe=>A e.symm)).trans ((m.block k (by omega)).trans (y.block k z));have t:∀k,k<w.heap.size->M.cv.ownBlock≠some k->k≠b->(wE.setCell (AD b 1) (.slice (PT g) (W.c+1) cap)).heap[k]?=w.heap[k]?:=λk z A H=>(jce _ _ _ _ (λe=>H e)).trans (G k z A);have I:=λk e=>(h.cr.lt k e).2
 have u:∀k,g=k->(M.cv.ownBlock=some k\/w2.heap.size<=k):=λk e=>by
  rcases D with r|r
  ·exact .inl (by rw[r,e])
  exact .inr (by omega)
 have B:=h.fam;refine⟨?_,?_,?_,?_,h.nl,λx a=>?_,?_,⟨h.sb.1,λe=>E (by rw[f]at e;injection e),h.sb.2.2⟩,λk=>⟨λe=>⟨λd=>?_,((h.sr k).1 e).2⟩,λe=>?_⟩,λx a=>?_⟩
 ·have J:=(((h.box.later y).later m)).grown o (λe=>h.sb.2.1 e.symm);exact J.set 1 _ (by simp)
 ·exact qf h.pr (λk e=>t k (h.pr.lt k e).2 ((h.sr k).1 e).1 (λr=>h.sb.1 (by rw[e,r])))
 ·show World.ownsRow _ 0 _ 2 _ (W.c+1) (zt _ (λk=>(W.at_ k:Int)) (W.c+1));rw[qm6 M.bs (λk=>(W.at_ k:Int)) W.c p 0 (by show (W.at_ W.c:Int)=0;rw[F];rfl)];exact qf own (λk e=>jce _ _ _ _ (λr=>E (by rw[f]at e;injection e with e;exact e.trans r)))
 ·exact qf h.nr (λk e=>t k (h.nr.lt k e).2 (λd=>(h.sr k).2 d e) (λr=>h.sb.2.2 (by rw[e,r])))
 ·have s:=h.sg x a;exact(h.gr x a).kept (t _ (h.gr x a).own.lt s.2.2.1 s.1) (by rw[i];omega)
 ·show zh _ (W.n+W.c+1) _ _ _ (W.n+W.c+1) NoY;refine B.snoc (λj k v e=>t k (h.ltG v e) (λr=>(B.free k (.inr (.inr (.inl r)))).2 j v e) (λr=>(B.free k (.inl r)).2 j v e)) (by rw[i];omega) ?_ (λk e=>by omega) (λj v=>?_) (λk e=>?_)
  ·show (if W.n+W.c<W.n then _ else qix (if W.n+W.c-W.n=W.c then p else M.bs (W.n+W.c-W.n)) (W.ses (W.n+W.c-W.n))).is _ _;rw[if_neg (by omega),show W.n+W.c-W.n=W.c by omega,if_pos rfl];exact C.kept (λk e=>(jce _ _ _ _ (λr=>by have:k=b:=r;omega)).trans ((o.block k (by omega) (λr=>by have:=I k r.symm;omega)).trans (m.block k (by omega)))) (by rw[i];omega)
  ·show (if j<W.n then _ else qix (if j-W.n=W.c then p else M.bs (j-W.n)) (W.ses (j-W.n)))=(if j<W.n then _ else _);by_cases r:j<W.n
   ·rw[if_pos r,if_pos r]
   rw[if_neg r,if_neg r,if_neg (by omega)]
  have l:qfw b M k->(qfw b M k\/w.heap.size<=k)/\k<(wE.setCell (AD b 1) (.slice (PT g) (W.c+1) cap)).heap.size/\¬(k=p):=λe=>by
   have:=h.ltF k e;exact⟨.inl e,by rw[i];omega,by omega⟩
  rcases e with e|e|e|e|⟨x,a,e⟩
  ·exact l (.inl e)
  ·exact l (.inr (.inl e))
  ·rw[f]at e;injection e with e;rcases u k e with r|r
   ·exact l (.inr (.inr (.inl r)))
   exact⟨.inr (by omega),by rw[i];omega,by omega⟩
  ·exact l (.inr (.inr (.inr (.inl e))))
  exact l (.inr (.inr (.inr (.inr ⟨x,a,e⟩))))
 ·rw[f]at d;injection d with d;rcases u k d with r|r
  ·exact((h.sr k).1 e).1 r
  have:=(h.pr.lt k e).2;omega
 ·rw[f]at e;injection e with e;rcases u k e with r|r
  ·exact(h.sr k).2 r
  exact λd=>by have:=(h.nr.lt k d).2;omega
 have s:=h.sg x a;refine⟨s.1,s.2.1,λe=>?_,s.2.2.2⟩;rw[f]at e;injection e with e;rcases u x.blk e with r|r
 ·exact s.2.2.1 r
 have:=(h.gr x a).own.lt;omega
end
end
def q6w {α:Type} (F:Fence) (n:Nat) (P:Program) (gf:Nat) (lb:Array Value) (encs:α->Array Value) (xs:List α) (N:World->Prop) (w0:World):Prop:=
 ∀(l:Nat) (J:List α->World->Prop) (W:World),Bw w0 W->(∀s A,J s A->N A)->(∀s A B,J s A->Bw A B->J s B)->
  (∀pre x rest W,J pre W->xs=pre++x::rest->YieldAt F (n-1) P l (encs x) W λe W'=>e=.returned (.bool true)/\J (pre++[x]) W')->J [] W->
  CallsIn F n P gf (#[.func (.yield l) #[] #[]]++lb) W λe W'=>(∃v,e=.returned v)/\J xs W'
structure q56 (B:Nat) (W W':World):Prop where
 a:W'.heap[B]?=W.heap[B]?
 b:W'.heap[B+1]?=W.heap[B+1]?
def q9a {α:Type} (B:Nat) (I:List α->World->Prop) (xs:List α) (W:World):Exit->Act->World->Prop
 |.normal,_,W'=>q56 B W W'/\I xs W'
 |_,_,_=>False
theorem qli {F:Fence} {n:Nat} {P:Program} {α:Type} {g:Operand} {ps:Array Tmp} {assign body:Code} {Q:Exit->Act->World->Prop} {a:Act} {w:World}
 (hro:F.round=none) (h1:1<=n) {gf:Nat} {lb:Array Value} (hg:a.eval g=.func (.func gf) #[] lb) (hFg:F.fn gf) (eg:∀args w,(callFunc gf args).run P w=.ok (.enter gf args) w)
 {encs:α->Array Value} {xs:List α} {N:World->Prop} {w0:World} (hseq:q6w F (n-1) P gf lb encs xs N w0) (hb0:Bw w0 w) (hps:∀x,(encs x).size=ps.size)
 (I:List α->World->Prop) (hIN:∀s A,I s A->N A) (hIb:∀s A B,I s A->Bw A B->I s B) (hIl:∀s A o,I s A->I s (A.putObj (w.heap.size+1) o)) (h0:I [] w) (a₁:α->Act)
 (hassign:∀(l:Nat) (x:α) (W:World) (K:Act->World->Prop),K (a₁ x) W->
   assign.wpIn (F.inRound l) (n-1-1) P (Exit.then K (λ_ _ _=>False)) {tmps:=(ps.zip (encs x)).foldl (λt (p,v)=>t.setIfInBounds p v) a.tmps,defers:=[]} W)
 (hbody:∀(l:Nat) (pre:List α) (x:α) (rest:List α) (W:World),xs=pre++x::rest->w.heap.size+2<=W.heap.size->I pre W->body.wpIn (F.inRound l) (n-1-1) P (q9a w.heap.size I (pre++[x]) W) (a₁ x) W)
 (hdone:∀(W:World),I xs W->W.heap[w.heap.size]?=some (.deferred (some []))->Q .normal {a with defers:={target:=.collected w.heap.size,args:=#[]}::a.defers} W):
 (Code.rangeFunc g ps assign body).wpIn F n P Q a w:=by
 refine wpIn_rangeFunc ?_;intro fn hfn;rw[hro];obtain⟨rec,hrec⟩:∃rec:LoopState->Option Code->Loop,rec=λst pe=>{state:=st,pending:=pe,fn,tmps:=a.tmps,params:=ps,assign,body,defers:=w.heap.size}:=⟨_,rfl⟩;obtain⟨W1,hW1⟩:∃W1,(w.alloc (.deferred (some []))).alloc (.loop (rec .ready none))=W1:=⟨_,rfl⟩
 have hL1:W1.heap[w.heap.size+1]?=some (.loop (rec .ready none)):=by
  rw[<-hW1];have:=World.alloc_heap_new (w.alloc (.deferred (some []))) (.loop (rec .ready none));rwa [jdi]at this
 have hK1:W1.heap[w.heap.size]?=some (.deferred (some [])):=by
  rw[<-hW1];exact(jdg _ _ _ (by simp)).trans (World.alloc_heap_new w _)
 have hbw:Bw w W1:=by rw[<-hW1];exact((jcc _ w).alloc (jcd _) _).alloc (by simp) _
 have hI1:=hIb _ _ _ h0 hbw;have hb1:=hb0.trans (hbw.mono hb0.size)
 refine⟨w.heap.size+1,[{target:=.collected w.heap.size,args:=#[]}],W1,{target:=.fn (.func gf) lb,args:=#[.func (.yield (w.heap.size+1)) #[] #[]]},W1,gf,
  #[.func (.yield (w.heap.size+1)) #[] #[]]++lb,W1,?_,?_,?_,?_,λ_=>h1,?_⟩
 ·rw[<-hW1,hrec];exact run_enterLoop_outer _ _ _ _ _
 ·simp only[resolve,hg];simp[go_sem]
 ·intro f' hf';simp[Target.leads]at hf';subst hf';exact hFg
 ·simp[invoke,go_sem,eg]
 have blk:∀{A B:World} {k:Nat} {o:Obj},Bw A B->A.heap[k]?=some o->B.heap[k]?=some o:=λhb h=>(hb.block _ (jcs.1 h).1).trans h
 refine(hseq (w.heap.size+1)
  (λpre W=>I pre W/\W.heap[w.heap.size+1]?=some (.loop (rec .ready none))/\W.heap[w.heap.size]?=some (.deferred (some [])))
  W1 hb1 (λs A hs=>hIN s A hs.1) (λs A B hs hb=>⟨hIb s A B hs.1 hb,blk hb hs.2.1,blk hb hs.2.2⟩) ?_ ⟨hI1,hL1,hK1⟩).mono ?_
 ·rintro pre x rest W ⟨hi,hl,hk⟩ hx;have hlt:=(jcs.1 hl).1;have hy:=run_yield (P:=P) (args:=encs x) hl (by rw[hrec];exact hps x);rw[hrec]at hy;refine⟨fn,_,assign,body,hy,roundIn_of_wpIn hfn (hassign _ x W _ ⟨_,run_beginRound hl (by rw[hrec]),?_⟩)⟩;have hl2:(W.putObj (w.heap.size+1) (.loop {rec .ready none with state:=.busy})).heap[w.heap.size+1]?=some (.loop {rec .ready none with state:=.busy}):=World.putObj_heap_same hlt;have hk2:(W.putObj (w.heap.size+1) (.loop {rec .ready none with state:=.busy})).heap[w.heap.size]?=some (.deferred (some [])):=(World.putObj_heap_other (by omega)).trans hk;refine wpIn_mono (hbody _ pre x rest _ hx (by simp;omega) (hIl _ _ _ hi)) ?_;rintro e a3 W3 hp;cases e with
  |normal=>
   obtain⟨hk3,hi3⟩:=hp;have hl3:=hk3.b.trans hl2;have hr:=run_endRound (P:=P) none hl3;rw[hrec]at hr;exact⟨_,_,hr,rfl,hIl _ _ _ hi3,by rw[hrec];exact World.putObj_heap_same (jcs.1 hl3).1,(World.putObj_heap_other (by omega)).trans (hk3.a.trans hk2)⟩
  |ret=>exact hp.elim
  |exit id=>exact hp.elim
  |goto t=>exact hp.elim
  |panic ch=>exact hp.elim
  |outgrown=>exact hp.elim
 rintro e W2 ⟨⟨v,rfl⟩,hi,hl,hk⟩;exact⟨none,_,by have:=run_endLoop (P:=P) hl (by rw[hrec];simp);rw[hrec]at this;exact this,hdone _ (hIl _ _ _ hi) ((World.putObj_heap_other (by omega)).trans hk)⟩
end Go.Proofs.YtoanjdndmlffdaaGreatDoor
