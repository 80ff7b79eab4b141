import Derived.Test.YtoanjdndmlffdaaGreatDoorSiteM
import Derived.Shelf.Strings.BuilderK
import Derived.Shelf.Sort.Plain
set_option maxHeartbeats 24000000
set_option maxRecDepth 100000
namespace Go.Proofs.YtoanjdndmlffdaaGreatDoor
section
open Go.RowKit
structure qhm (w:World) (b:Nat) (vs:List Value):Prop where
 cell:∀j v,vs[j]?=some v->w.cell? (AD b j)=some v
 lt:b<w.heap.size
variable {w w':World} {b:Nat} {vs:List Value}
theorem qhm.kept (h:qhm w b vs) (e:w'.heap[b]?=w.heap[b]?) (c:w.heap.size<=w'.heap.size):qhm w' b vs:=
 ⟨λj v d=>by rw[jch (w:=w) e];exact h.cell j v d,jci h.lt c⟩
theorem qhm.later (h:qhm w b vs) (c:Bw w w'):qhm w' b vs:=h.kept (c.block b h.lt) c.size
theorem qhm.far (h:qhm w b vs) (p:Addr) (u:Value) (c:p.block≠b):qhm (w.setCell p u) b vs:=h.kept (jce _ _ _ _ (Ne.symm c)) (by simp[World.setCell])
theorem qhm.boxed (h:qhm w b vs) (o:Obj):qhm (w.alloc o) b vs:=h.kept (jdg _ _ _ h.lt) (by simp)
theorem qhm.drew (h:qhm w b vs):qhm w.drew b vs:=h.kept rfl (jcd _)
structure jbx (W:WoS) (k a0 a1 a2 a3 wn vn er:Int) (tx:List ByteArray):Prop where
 cmd:qaa 14 W [k] ⟨#[]⟩ W er (if er=0 then qv [a0,a1,a2,a3]++[44,32]++qv [wn,vn]++[44,32]++Lib.join (tx.map (·.data.toList)) [32]else [])
 wf:∀x∈[a0,a1,a2,a3,wn,vn],wfI x
 tl:tx.length=8
 ts:∀x∈tx,x.size<=13
def jae (w w':World) (tx:List ByteArray) (v:Value):Prop:=∃tb tc,v=.slice (PT tb) 8 tc/\8<=tc/\qhm w' tb (tx.map Value.string)/\w.heap.size<=tb
theorem qno {a0 a1 a2 a3:Int} {l:List Hd} {key:Int} (h:∀x∈l,qau x.v=true):(qdf a0 a1 a2 a3 l key).size<=13:=by
 unfold qdf;split
 ·have:=qnf (key:=key) (a0:=a0) (a1:=a1) (a2:=a2) (a3:=a3) h;rw[jc4];show 1+_<=13;omega
 exact jcw _
theorem q0p {G:Nat->Prop} {W:WoS} (k:Int) (B:DkI W):∃a0 a1 a2 a3 r s er t,jbx W k a0 a1 a2 a3 r s er t/\∀w,PW w b G W->Ca 114 #[PP b,U k] w λe w'=>∃v,e=.returned (.tuple #[.agg #[U a0,U a1,U a2,U a3],U r,v,U s,jc er])/\Hid (er=0->jae w w' t v)/\Bw w w':=by
 obtain⟨j,o⟩:=B.pl;by_cases m:ye k W.n
 ·obtain⟨i,rfl,hi,e⟩:=zq m;have d:=o.wf.inv i hi;have L:=o.wf.wt i hi;have M:=d.len;have N:=d.log;refine⟨_,_,_,_,_,_,0,(List.range 8).map (λ(q:Nat)=>qdf (W.S i).a0 (W.S i).a1 (W.S i).a2 (W.S i).a3 (W.S i).l q),⟨⟨rfl,by rw[if_pos m,if_pos rfl];exact⟨by unfold qmb qc0;rw[List.map_map];rfl,rfl⟩⟩,λx c=>?_,by simp,λx c=>?_⟩,λw h=>(jab w h o.wf hi).mono λe w' ⟨v,p,f,C⟩=>⟨v,p,λ_=>?_,C⟩⟩
  ·simp only[jdd,List.not_mem_nil,or_false]at c;rcases c with rfl|rfl|rfl|rfl|rfl|rfl
   ·exact j1 d.a0
   ·exact j1 d.a1
   ·exact j1 d.a2
   ·exact j1 d.a3
   ·exact⟨by omega,by omega⟩
   exact⟨by omega,by omega⟩
  ·obtain⟨q,_,rfl⟩:=jcz.1 c;exact qno d.ok
  obtain⟨u,z,rfl,D,E⟩:=f.form (by decide);have F:=f.cells (g:=u) rfl
  have H:8<=z:=by
   rcases f.2 with ⟨h,_⟩|⟨g',O,cur,I,_,_,J,_⟩
   ·cases h
   cases I;exact J
  refine⟨u,z,rfl,H,⟨λq y A=>?_,E⟩,D⟩;rw[List.map_map]at A;have:=F q y A;rcases Nat.eq_zero_or_pos q with rfl|K
  ·simpa[Addr.add]using this
  simpa[Addr.add,Nat.ne_of_gt K]using this
 refine⟨0,0,0,0,0,0,2,List.replicate 8 ⟨#[]⟩,⟨⟨rfl,by rw[if_neg m];exact⟨rfl,rfl⟩⟩,λx c=>?_,rfl,λx c=>?_⟩,λw h=>(qxw k w h m).mono λe w' ⟨p,f⟩=>⟨_,p,λe=>(by cases e),f⟩⟩
 ·simp at c;subst c;exact⟨by decide,by decide⟩
 rw[(List.mem_replicate.1 c).2];decide
section
variable {cb mb b j cap:Nat} {Gw G:Nat->Prop} {W:WoS} {a:Option Addr} {l:List ByteArray}
theorem q8r (w:World) (h:vk w cb mb b Gw G W j a cap l) (c:ju 1 l=none):Ca 60 #[PP cb,.slice a l.length cap] w (jm 14 W l w cb mb G):=by
 have f:=hd1 h
 have g:Hid (∀w',Bw w w'->Ca 95 #[.slice a l.length cap] w' λe w2=>e=qc7 3/\Bw w' w2):=λw' d=>(qi1 h.sm w' (h.gl.later d) (h.st.later d)).mono λe w2 ⟨i,k⟩=>by
  rcases k with ⟨v,m,_⟩|⟨_,n⟩
  ·rw[m.out]at c;cases c
  exact⟨n,i⟩
 have p:=h.ck.cell0;have q:=hd1 c;have s:=λo=>cell_later (boxed (jcc _ w) o) p;clear h c;go_enter Tryz.func60,Tryz.ntmps60
 go_wp2
 go_region_dies
 all_goals
  refine(g.out _ (by repeat (first|(with_reducible exact jcc _ _)|(with_reducible refine boxed ?_ _)|(with_reducible refine jc6 ?_)))).mono ?_;rintro e t ⟨rfl,r⟩;exact⟨rfl,f.out.no (by decide) q.out (qa (by repeat (first|(with_reducible exact jcc _ _)|(with_reducible refine boxed ?_ _)|(with_reducible refine jc6 ?_))) r)⟩
end
end
section
open Go.RowKit
section
variable {cb mb b j cap:Nat} {Gw G:Nat->Prop} {W:WoS} {a:Option Addr} {l:List ByteArray}
theorem q65 (w:World) (h:vk w cb mb b Gw G W j a cap l) {r:List Int} (k:ju 1 l=some r):Ca 60 #[PP cb,.slice a l.length cap] w (jm 14 W l w cb mb G):=by
 have z:Hid (vk w cb mb b Gw G W j a cap l):=h
 obtain⟨v,rfl⟩:∃v,r=[v]:=by
  unfold ju at k;split at k
  ·rename_i q;exact List.length_eq_one_iff.1 ((qbb k).trans q)
  cases k
 have R:Hid (∀w',Bw w w'->Ca 95 #[.slice a l.length cap] w' λe w2=>e=.returned (U v)/\Bw w' w2):=λw' t=>(qi1 h.sm w' (h.gl.later t) (h.st.later t)).mono λe w2 ⟨h1,B⟩=>by
  rcases B with ⟨u,M,he⟩|⟨M,_⟩
  ·have:=M.out;rw[k]at this;injection this with this;injection this with this;rw[this];exact⟨he,h1⟩
  have:=M.out;rw[k]at this;cases this
 obtain⟨a0,a1,a2,a3,c,d,er,i,S,V⟩:=q0p (b:=b) (G:=Gw) v h.di;have X:Hid (∀w',Bw w w'->Ca 114 #[PP b,U v] w' λe w2=>∃v,e=.returned (.tuple #[.agg #[U a0,U a1,U a2,U a3],U c,v,U d,jc er])/\Hid (er=0->jae w' w2 i v)/\Bw w' w2):=λw' t=>V w' (h.ck.later t).pw;have g:Hid (jbx W v a0 a1 a2 a3 c d er i/\ju 1 l=some [v]):=⟨S,k⟩;have Y:=h.ck.cell0;have X0:=λ(w':World) (h:Bw w w')=>cell_later h Y;clear h k V S Y;go_enter Tryz.func60,Tryz.ntmps60
 go_wp2
 go_cut [5,6,7,8,9] (λt5 t6 t7 t8 t9 N=>∃C:Nat,t5=.pointer (PT C)/\t6=U c/\t8=U d/\t9=jc er/\Bw w N/\qo N C a0 a1 a2 a3/\Hid (er=0->∃n p,t7=.slice (PT n) 8 p/\8<=p/\qhm N n (i.map Value.string)))
 case first=>
  go_region_held3 (λw'=>Bw w w') ((repeat (first|(with_reducible assumption)|(with_reducible refine boxed ?_ _)|(with_reducible refine jc6 ?_)|(with_reducible refine jdz ?_ (by first|(simp;done)|(simp;omega)) _)|(with_reducible exact jcc _ _))))
   (first|(go_at_call 95;refine(R.out _ (by with_reducible assumption)).mono ?_;rintro e Z ⟨rfl,s⟩;have hS:Bw w Z:=qa (by with_reducible assumption) s;have hla:=hS.size;obtain⟨hc1,hf1⟩:=qdb s;have hz1:=blt s;have n1:=bne s;have m1:=jbf s)|(go_at_call 114;refine(X.out _ (by with_reducible assumption)).mono ?_;rintro e wb ⟨v7,rfl,hT,D⟩;have hSb:Bw w wb:=qa (by with_reducible assumption) D;have hlb:=hSb.size;have hab:Bw Z wb:=(by first|exact D|exact qa (boxed (jcc _ _) _) D);have h12:=qa s hab;obtain⟨hc2,hf2⟩:=qdb D;obtain⟨hc3,hf3⟩:=qdb h12;have hz2:=blt D;have hz3:=blt h12))
  all_goals
   go_wp2
   go_meet
   case rel=>
        refine⟨_,rfl,rfl,rfl,rfl,by assumption,?_,?_⟩
        ·(repeat (first|(with_reducible refine qo.newest ?_;(first|rfl|(simp;done)))|(with_reducible refine qo.boxed ?_ _)|(with_reducible refine qo.set (a0:=0) (a1:=0) (a2:=0) (a3:=0) ?_)|(with_reducible refine qo.far4 ?_ ?_;rotate_left;(first|(simp;done)|(simp;omega)|omega))));all_goals (constructor<;>go_simp)
        intro m;obtain⟨n,p,e1,e2,e3,e4⟩:=hT.out m;have e5:=e3.lt;have q1:=s.size
        try simp at e4
        try simp at q1
        refine⟨n,p,e1,e2,?_⟩
        repeat (first|(with_reducible exact e3)|(with_reducible refine qhm.boxed ?_ _)|(with_reducible refine qhm.drew ?_)|(with_reducible refine qhm.far ?_ _ _ ?_;rotate_left;(first|(simp;done)|(simp;omega)|omega)))
 obtain⟨C,rfl,rfl,rfl,rfl,O,R5,HT⟩:=hcut;have K:Hid (Bw w wc/\qo wc C a0 a1 a2 a3):=⟨O,R5⟩;have MU:=qda er wc (z.out.gl.later O);clear O R5 X0 R X
 go_wp2_with fail
 refine MU.mono ?_;rintro e E ⟨F,(⟨m,rfl⟩|⟨m,rfl⟩)⟩
 rotate_left
 ·exact⟨rfl,z.out.told (by decide) g.out.2 g.out.1.cmd (qa K.out.1 F) (.inr ⟨m,rfl⟩)⟩
 obtain⟨n,p,rfl,h8,hR⟩:=HT.out m;have L:=qa K.out.1 F;have H:=g.out.1.wf;have Q:=qb1 (b:=C) (o:=0) (cap:=4) (l:=[a0,a1,a2,a3]) (by simp) (by simp) (λx f=>H x (by simp at f ⊢;rcases f with e|e|e|e<;>simp[e])) E (z.out.gl.later L) (K.out.2.later F).lt (qm2 (K.out.2.later F));have BLB:Hid (∀w',Bw E w'->Ca 102 #[.slice (PT w'.heap.size) 2 2] (w'.alloc (.cells #[U c,U d] 3)) λe w2=>e=.returned (.string (bya (qv [c,d])))/\Below (w'.alloc (.cells #[U c,U d] 3)).heap.size (w'.alloc (.cells #[U c,U d] 3)) w2):=λw' B=>qb1 (b:=w'.heap.size) (o:=0) (cap:=2) (l:=[c,d]) (by simp) (by simp) (λx f=>H x (by simp at f ⊢;rcases f with e|e<;>simp[e])) _ (z.out.gl.later (boxed (qa L B) _)) (by simp) (qee (w:=w') (T:=3) [c,d])
 have JN:Hid (∀w',Bw E w'->Ca 42 #[.slice (PT n) 8 p,.string ⟨#[32]⟩] w' λe w2=>e=.returned (.string (bya (Lib.join (i.map (·.data.toList)) [32])))/\Bw w' w2):=λw' B=>by
  have hr:=(hR.later F).later B
  have J:=jd1 n 0 p i ⟨#[32]⟩ w' (λq y I=>by rw[Nat.zero_add];exact hr.cell q _ (by rw[jcv,I];rfl)) hr.lt (by rw[g.out.1.tl];decide) (by rw[g.out.1.tl];exact h8) (by
   have:=qgl 13 (i.map (·.data.toList)) (λy I=>by obtain⟨x,f,rfl⟩:=jcz.1 I;exact g.out.1.ts x f);rw[jdh,g.out.1.tl]at this
   exact jcn this (by decide))
  rw[g.out.1.tl]at J;exact J
 have l1:(qv [a0,a1,a2,a3]).length<=88:=by have:=ze (l:=[a0,a1,a2,a3]) (λx f=>H x (by simp at f ⊢;rcases f with e|e|e|e<;>simp[e]));simpa using this
 have l2:(qv [c,d]).length<=44:=by have:=ze (l:=[c,d]) (λx f=>H x (by simp at f ⊢;rcases f with e|e<;>simp[e]));simpa using this
 have l3:(Lib.join (i.map (·.data.toList)) [32]).length<=112:=by
  have:=qgl 13 (i.map (·.data.toList)) (λy I=>by obtain⟨x,f,rfl⟩:=jcz.1 I;exact g.out.1.ts x f);rw[jdh,g.out.1.tl]at this;exact this
 have A1:=λw=>qfi (P:=Tryz.prog) (bya (qv [a0,a1,a2,a3])) ⟨#[44,32]⟩ (by simp[zo];omega) w;have A2:=λw=>qfi (P:=Tryz.prog) (bya (qv [a0,a1,a2,a3])++⟨#[44,32]⟩) (bya (qv [c,d])) (by simp[zo];omega) w;have A3:=λw=>qfi (P:=Tryz.prog) (bya (qv [a0,a1,a2,a3])++⟨#[44,32]⟩++bya (qv [c,d])) ⟨#[44,32]⟩ (by simp[zo];omega) w;have A4:=λw=>qfi (P:=Tryz.prog) (bya (qv [a0,a1,a2,a3])++⟨#[44,32]⟩++bya (qv [c,d])++⟨#[44,32]⟩) (bya (Lib.join (i.map (·.data.toList)) [32])) (by simp[zo];omega) w;have HF:Hid (∀w',Bw w w'->jm 14 W l w cb mb G (.returned (.string (bya (qv [a0,a1,a2,a3]++[44,32]++qv [c,d]++[44,32]++Lib.join (i.map (·.data.toList)) [32])))) w'):=λw' t=>z.out.told (by decide) g.out.2 g.out.1.cmd t (.inl ⟨m,by rw[if_pos m]⟩);have HX3:Hid (Bw w E):=L
 dsimp only[List.length_cons,List.length_nil,Nat.reduceAdd]at Q
 clear l1 l2 l3 m L H MU g HT hR
 go_wp2_with fail
 refine Q.mono ?_;rintro e w4 ⟨rfl,hb4⟩;have BL2:=BLB.out w4 hb4
 go_wp2_with fail
 refine BL2.mono ?_;rintro e w5 ⟨rfl,hb5⟩;have hb53:Bw E w5:=qa (boxed hb4 _) hb5;have U:=JN.out w5 hb53
 go_wp2_with fail
 refine U.mono ?_;rintro e w6 ⟨rfl,hb6⟩;have HF0:=HF.out w6 (qa (qa HX3.out hb53) hb6)
 rw[show bya (qv [a0,a1,a2,a3]++[44,32]++qv [c,d]++[44,32]++Lib.join (i.map (·.data.toList)) [32])=bya (qv [a0,a1,a2,a3])++⟨#[44,32]⟩++bya (qv [c,d])++⟨#[44,32]⟩++bya (Lib.join (i.map (·.data.toList)) [32]) by
  rw[show (⟨#[44,32]⟩:ByteArray)=bya [44,32]from rfl,jz,jz,jz,jz]]at HF0
 clear BLB JN HF Q BL2 U
 go_wp2
 go_ret;exact HF0
theorem q9k (w:World) (h:vk w cb mb b Gw G W j a cap l):Ca 60 #[PP cb,.slice a l.length cap] w (jm 14 W l w cb mb G):=by
 cases hn:ju 1 l with
 |none=>exact q8r w h hn
 |some r=>exact q65 w h hn
end
end
section
open Go.RowKit
structure jb3 (W:WoS) (k site seq wall count d0 d1 d2 d3 er:Int) (W':WoS) (told:List UInt8):Prop where
 cmd:qaa 5 W [k] ⟨#[]⟩ W' er told
 yes:er=0->told=if seq=0 then [110,111,116,104,105,110,103]else qv [site,seq,wall,count]++[58,32]++qv [d0,d1,d2,d3]
 wf:∀x∈[site,seq,wall,count,d0,d1,d2,d3],wfI x
theorem jaq {t:TxP} (h:okT t=true):∀x∈[t.site,t.seq,t.wall,t.count,t.d0,t.d1,t.d2,t.d3],wfI x:=by
 simp only[okT,jt,jb,qi,jct,jk,decide_eq_true_eq]at h;intro x c;simp only[jdd,List.not_mem_nil,or_false]at c
 rcases c with rfl|rfl|rfl|rfl|rfl|rfl|rfl|rfl<;>exact⟨by omega,by omega⟩
variable {W:WoS}
theorem q61 {k:Nat} (i:DkI W) (g:k<W.c):∀x∈[(wcT W k).site,(wcT W k).seq,(wcT W k).wall,(wcT W k).count,(wcT W k).d0,(wcT W k).d1,(wcT W k).d2,(wcT W k).d3],wfI x:=by
 obtain⟨j,d⟩:=i.pl;by_cases q:0<(wcT W k).seq
 ·exact jaq (d.told g q).1
 have z:wcT W k=⟨0,0,0,0,0,0,0,0,[]⟩:=by
  unfold wcT qce at q ⊢;split at q
  ·rename_i e;rw[if_pos e]
  rename_i e;rw[if_neg e];unfold qha at q ⊢;split at q
  ·rename_i f
   exfalso
   apply q
   have:=qis (ws:=jh (W.ses k).ws) (d.wf.inv _ (d.wf.at_ k g)) f;simp only[okT,jt,jct,jk]at this;have:=this.1.1.1.1.2.1;omega
  rename_i f;rw[if_neg f]
 rw[z];intro x h;simp at h;subst h;exact⟨by decide,by decide⟩
theorem qrx {b:Nat} {G:Nat->Prop} (k:Int) (o:DkI W):∃p r wall s u v y z er W' told,jb3 W k p r wall s u v y z er W' told/\∀w,PW w b G W->Ca 103 #[PP b,U k] w λe w'=>∃C n wc,e=.returned (.tuple #[.agg (List.toArray (T9 p r wall s u v y z C n wc)),jc er])/\vh w b G W' w':=by
 obtain⟨j,A⟩:=o.pl;by_cases d:ye k W.c
 ·obtain⟨i,rfl,hi,e⟩:=zq d
  refine⟨_,_,_,_,_,_,_,_,_,_,_,⟨by
   show qaa 5 W [(i:Int)] ⟨#[]⟩ (wcW W i) (wcE W i) (qgx W i);unfold qaa;simp only;rw[if_pos d]
   exact⟨rfl,rfl,rfl⟩,λ_=>rfl,q61 o hi⟩,λw h=>(q04 w h A.wf hi (λq=>(A.told hi q).1)).mono λe w' ⟨m,f,g,D⟩=>?_⟩
  obtain⟨_,E,p1,p2,p3,_⟩:=D.out;refine⟨m.wa,m.t.ws.length,m.wc,?_,E,p1,p2,p3⟩;rw[f];unfold txV;rw[g]
 refine⟨0,0,0,0,0,0,0,0,2,W,[],⟨by
  show if ye k W.c then _ else _
  rw[if_neg d]
  exact⟨rfl,rfl,rfl⟩,λe=>(by cases e),λx B=>?_⟩,λw h=>(qsr k w h d).mono λe w' ⟨f,g⟩=>⟨none,0,0,f,vh.same h g⟩⟩
 simp at B;subst B;exact⟨by decide,by decide⟩
section
variable {cb mb b j cap:Nat} {Gw G:Nat->Prop} {W:WoS} {a:Option Addr} {l:List ByteArray}
theorem vk.opAt {w o s p:World} {W':WoS} {i:Nat} (h:vk w cb mb b Gw G W j a cap l) (f:Bw w o) (t:vh o b Gw W' s) (B:w.heap.size<=i) (C:i<o.heap.size) (c:qc (λk=>k=i) s p):qbi (ckP cb mb W') w G p/\Gl p:=by
 obtain⟨r,p1,p2,d⟩:=t;have n:=h.ck.later f;have lc:=n.ltc;have u:=n.map.lt;have D:=h.ck.ltc;have E:=h.ck.map.lt
 have v:¬r i:=λe=>by
  rcases p2 i e with q|q
  ·have:=h.ck.pw.lt i q;omega
  omega
 have F:=d.size;refine⟨⟨λk=>k=cb\/k=mb\/r k,⟨b,r,⟨(c.block cb (by omega) (by omega)).trans ((d.block cb lc h.ck.n2).trans n.box),(n.map.kept (d.block mb u h.ck.n3)).kept (c.block mb (by omega) (by omega)),p1.kept (λk e=>c.block k (p1.lt k e) (λx=>v (x▸e))) c.size,h.ck.n1,λe=>?_,λe=>?_⟩,λ_=>jdl⟩,λk m=>?_,?_⟩,?_⟩
 ·rcases p2 cb e with q|q
  ·exact h.ck.n2 q
  omega
 ·rcases p2 mb e with q|q
  ·exact h.ck.n3 q
  omega
 ·rcases m with rfl|rfl|e
  ·exact .inl ((h.g k).2 (.inl rfl))
  ·exact .inl ((h.g k).2 (.inr (.inl rfl)))
  rcases p2 k e with q|q
  ·exact .inl ((h.g k).2 (.inr (.inr q)))
  exact .inr (jcn f.size q)
 ·refine⟨c.os.trans (d.os.trans f.os),c.tape.trans (d.tape.trans f.tape),c.output.trans (d.output.trans f.output),jcn f.size (jcn d.size c.size),λk m y=>?_⟩;have z:=jci m f.size;rw[c.block k (by omega) (by omega),d.block k z (λe=>y ((h.g k).2 (.inr (.inr e)))),f.block k m]
 have A:=h.gl.later f;have H:=h.gl.sz;refine A.kept (λk m=>?_) (jcn d.size c.size);rw[c.block k (by omega) (by omega),d.block k (by omega) (λe=>h.gn k m ((h.g k).2 (.inr (.inr e))))]
theorem q2v (w:World) (h:vk w cb mb b Gw G W j a cap l) (c:ju 1 l=none):Ca 51 #[PP cb,.slice a l.length cap] w (jm 5 W l w cb mb G):=by
 have f:=hd1 h
 have g:Hid (∀w',Bw w w'->Ca 95 #[.slice a l.length cap] w' λe w2=>e=qc7 3/\Bw w' w2):=λw' d=>(qi1 h.sm w' (h.gl.later d) (h.st.later d)).mono λe w2 ⟨i,k⟩=>by
  rcases k with ⟨v,m,_⟩|⟨_,n⟩
  ·rw[m.out]at c;cases c
  exact⟨n,i⟩
 have p:=h.ck.cell0;have q:=hd1 c;have s:=λo=>cell_later (boxed (jcc _ w) o) p;clear h c;go_enter Tryz.func51,Tryz.ntmps51
 go_wp2
 go_region_dies
 all_goals
  refine(g.out _ (by repeat (first|(with_reducible exact jcc _ _)|(with_reducible refine boxed ?_ _)|(with_reducible refine jc6 ?_)))).mono ?_;rintro e t ⟨rfl,r⟩;exact⟨rfl,f.out.no (by decide) q.out (qa (by repeat (first|(with_reducible exact jcc _ _)|(with_reducible refine boxed ?_ _)|(with_reducible refine jc6 ?_))) r)⟩
end
end
section
open Go.RowKit
variable {g:Nat} {vs:List Value} {wb w wa w1:World} {W':WoS} {T:TypeId} {d0 d1 d2 d3:Int} {v:Value}
section
variable {cb mb b j cap:Nat} {Gw G:Nat->Prop} {W:WoS} {a:Option Addr} {l:List ByteArray}
theorem q3j {W':World} (x0 x1 x2 x3 d e f h i:Value):qc (λk=>k=g) W' (((((((((W'.setCell (AD g 0) x0).setCell (AD g 1) x1).setCell (AD g 2) x2).setCell (AD g 3) x3).setCell (AD g 4) d).setCell (AD g 5) e).setCell (AD g 6) f).setCell (AD g 7) h).setCell (AD g 8) i):=by
 have c:(λk=>k=g) g:=rfl;exact((((((((qc.setCell _ _ _ c).trans (qc.setCell _ _ _ c)).trans (qc.setCell _ _ _ c)).trans (qc.setCell _ _ _ c)).trans (qc.setCell _ _ _ c)).trans (qc.setCell _ _ _ c)).trans (qc.setCell _ _ _ c)).trans (qc.setCell _ _ _ c)).trans (qc.setCell _ _ _ c)
theorem ja7 {W':World} (h:qd W' g vs) (k:vs.length=9) (x0 x1 x2 x3 c d e f i:Value):qd (((((((((W'.setCell (AD g 0) x0).setCell (AD g 1) x1).setCell (AD g 2) x2).setCell (AD g 3) x3).setCell (AD g 4) c).setCell (AD g 5) d).setCell (AD g 6) e).setCell (AD g 7) f).setCell (AD g 8) i) g [x0,x1,x2,x3,c,d,e,f,i]:=by
 match vs,k with
 |[y0,y1,y2,y3,y4,y5,y6,y7,y8],_=>exact((((((((h.set 0 x0 (by simp)).set 1 x1 (by simp)).set 2 x2 (by simp)).set 3 x3 (by simp)).set 4 c (by simp)).set 5 d (by simp)).set 6 e (by simp)).set 7 f (by simp)).set 8 i (by simp)
theorem qwa {w':World} {n k:Nat} (d:∀k,Gw k->k<n) (e:vh w' b Gw W' wb) (h:qd w' k vs) (f:n<=k):qd wb k vs:=by
 obtain⟨i,p1,p2,c⟩:=e;exact h.kept (c.block k h.lt (λq=>by have:=d k q;omega)) c.size
theorem jca (c:∀k,Gw k->k<w.heap.size) (d:w.heap.size<=wa.heap.size) (e:vh (wa.alloc (.cells ZA T)) b Gw W' wb):qd wb wa.heap.size ZL:=qwa c e (qd.new (w:=wa) (T:=T) ZL rfl) d
theorem jb2 (c:∀k,Gw k->k<w.heap.size) (d:Below ((w.alloc (.cells ZA T)).drew).heap.size ((w.alloc (.cells ZA T)).drew) wa) (e:vh wa b Gw W' wb):qd wb w.heap.size ZL:=qwa c e (((qd.new (w:=w) (T:=T) ZL rfl).drew).later d) (jcd _)
def q0v (w:World) (cb mb:Nat) (G:Nat->Prop) (W':WoS) (b5:Nat) (site seq wall count d0 d1 d2 d3:Int) (wx:World):Prop:=qbi (ckP cb mb W') w G wx/\Gl wx/\∃v,qd wx b5 [U site,U seq,U wall,U count,U d0,U d1,U d2,U d3,v]
theorem jby {c:Nat} {d e wall f:Int} (h:vk w cb mb b Gw G W j a cap l) (i:Bw w w1) (k:vh w1 b Gw W' wb) (m:w.heap.size<=c) (n:c<w1.heap.size) (R:qd wb c ZL):
 q0v w cb mb G W' c d e wall f d0 d1 d2 d3 (((((((((wb.setCell (AD c 0) (U d)).setCell (AD c 1) (U e)).setCell (AD c 2) (U wall)).setCell (AD c 3) (U f)).setCell (AD c 4) (U d0)).setCell (AD c 5) (U d1)).setCell (AD c 6) (U d2)).setCell (AD c 7) (U d3)).setCell (AD c 8) v):=by
 obtain⟨o,p⟩:=h.opAt i k m n (q3j (W':=wb) (g:=c) (U d) (U e) (U wall) (U f) (U d0) (U d1) (U d2) (U d3) v);exact⟨o,p,v,ja7 R rfl _ _ _ _ _ _ _ _ _⟩
theorem jb9 {c d wall e:Int} (h:vk w cb mb b Gw G W j a cap l) (f:Bw w w1) (i:vh w1 b Gw W' wb):
 q0v w cb mb G W' wb.heap.size c d wall e d0 d1 d2 d3 (wb.alloc (.cells #[U c,U d,U wall,U e,U d0,U d1,U d2,U d3,v] T)):=by
 have k:=boxed (jcc wb.heap.size wb) (.cells #[U c,U d,U wall,U e,U d0,U d1,U d2,U d3,v] T);exact⟨qe3.after (h.ck.op h.g f i) k,(h.gl2 f i).later k,v,qd.new (w:=wb) (T:=T) [U c,U d,U wall,U e,U d0,U d1,U d2,U d3,v] rfl⟩
theorem qx3 (w:World) (h:vk w cb mb b Gw G W j a cap l) {r:List Int} (t:ju 1 l=some r):Ca 51 #[PP cb,.slice a l.length cap] w (jm 5 W l w cb mb G):=by
 have S:=hd1 h
 obtain⟨v,rfl⟩:∃v,r=[v]:=by
  unfold ju at t;split at t
  ·rename_i q;exact List.length_eq_one_iff.1 ((qbb t).trans q)
  cases t
 have N1:Hid (∀w',Bw w w'->Ca 95 #[.slice a l.length cap] w' λe w2=>e=.returned (U v)/\Bw w' w2):=λw' B=>(qi1 h.sm w' (h.gl.later B) (h.st.later B)).mono λe w2 ⟨V,C⟩=>by
  rcases C with ⟨u,X,he⟩|⟨X,_⟩
  ·have:=X.out;rw[t]at this;injection this with this;injection this with this;rw[this];exact⟨he,V⟩
  have:=X.out;rw[t]at this;cases this
 obtain⟨p,m,wall,s,d0,d1,d2,d3,er,W',told,HCm,OP0⟩:=qrx (b:=b) (G:=Gw) v h.di;have OP:=hd1 (λw' B=>OP0 w' (h.ck.later B).pw);have D:=hd2 HCm t;have N:=h.ck.cell0;have c0a:=λo=>cell_later (boxed (jcc _ w) o) N;have E:=hd1 h.ck.pw.lt;clear h t OP0 HCm;go_enter Tryz.func51,Tryz.ntmps51
 go_wp2
 go_cut [5,6] (λt5 t6 wx=>∃I:Nat,t5=.pointer (PT I)/\t6=jc er/\Hid (q0v w cb mb G W' I p m wall s d0 d1 d2 d3 wx))
 case first=>
  go_region_with (first|(go_at_call 95;refine(N1.out _ (by repeat (first|(with_reducible exact jcc _ _)|(with_reducible refine boxed ?_ _)|(with_reducible refine jc6 ?_)))).mono ?_;rintro e wa ⟨rfl,Y⟩;have y:Bw w wa:=qa (by repeat (first|(with_reducible exact jcc _ _)|(with_reducible refine boxed ?_ _)|(with_reducible refine jc6 ?_))) Y;have x0:=cell_later y N;have x0a:=λo=>cell_later (boxed y o) N)|(go_at_call 103;refine(OP.out _ (by first|exact y|exact boxed y _)).mono ?_;rintro e wb ⟨ya,yn,yc,rfl,J⟩;have hla:=y.size;(first|(have d:=jca E.out hla J;have e0:=d.c 0;have f0:=d.f 0;have e1:=d.c 1;have f1:=d.f 1;have e2:=d.c 2;have f2:=d.f 2;have e3:=d.c 3;have f3:=d.f 3;have e4:=d.c 4;have f4:=d.f 4;have e5:=d.c 5;have f5:=d.f 5;have e6:=d.c 6;have f6:=d.f 6;have e7:=d.c 7;have f7:=d.f 7;have e8:=d.c 8;have f8:=d.f 8)|(have d:=jb2 E.out Y J;have e0:=d.c 0;have f0:=d.f 0;have e1:=d.c 1;have f1:=d.f 1;have e2:=d.c 2;have f2:=d.f 2;have e3:=d.c 3;have f3:=d.f 3;have e4:=d.c 4;have f4:=d.f 4;have e5:=d.c 5;have f5:=d.f 5;have e6:=d.c 6;have f6:=d.f 6;have e7:=d.c 7;have f7:=d.f 7;have e8:=d.c 8;have f8:=d.f 8)|skip)))
  all_goals
   go_wp2
   go_meet
   case rel=>
        refine⟨_,rfl,rfl,?_⟩;show q0v w cb mb G W' _ p m wall s d0 d1 d2 d3 _
        first
         |(have RB':=d
           first
            |(with_reducible exact jby S.out (boxed y _) J hla (by simp) RB')
            |(with_reducible exact jby S.out y J (jcd _) (by have q:=Y.size;simp at q;omega) RB'))
         |(with_reducible exact jb9 S.out y J)
 obtain⟨I,rfl,rfl,K⟩:=hcut;have Z:=qda er wc K.out.2.1;have L:Hid (∀e w',qbi (ckP cb mb W') w G w'->qlx er told e->jm 5 W l w cb mb G e w'):=λe w' V C=>⟨W',er,told,by unfold qc2;rw[if_neg (by decide)];show match ju 1 l with|none=>_|some ns=>_;rw[D.out.2];exact D.out.1.cmd.data (by decide),C,V⟩;clear N1 OP N c0a E
 go_wp2_with fail
 refine Z.mono ?_;rintro e k ⟨O,(⟨z,rfl⟩|⟨z,rfl⟩)⟩
 rotate_left
 ·exact⟨rfl,L.out _ _ (qe3.after K.out.1 O) (.inr ⟨z,rfl⟩)⟩
 obtain⟨HL,E,v9,R0⟩:=K.out;have R:=R0.later O;have aa:=E.later O;have e1:=R.c 1;have lt5:=R.lt;have F:=D.out.1.wf;have HL3:=hd1 (qe3.after HL O);have H:=D.out.1.yes z;by_cases hs:m=0
 ·subst hs;rw[if_pos rfl]at H;have Q:=L.out (.returned (.string ⟨#[110,111,116,104,105,110,103]⟩)) k HL3.out (.inl ⟨z,by rw[H]⟩);clear Z L K D F z H
  go_wp2
  go_ret;exact Q
 rw[if_neg hs]at H
 have l1:(qv [p,m,wall,s]).length<=88:=by have:=ze (l:=[p,m,wall,s]) (λx i=>F x (by simp at i ⊢;rcases i with e|e|e|e<;>simp[e]));simpa using this
 have l2:(qv [d0,d1,d2,d3]).length<=88:=by have:=ze (l:=[d0,d1,d2,d3]) (λx i=>F x (by simp at i ⊢;rcases i with e|e|e|e<;>simp[e]));simpa using this
 have A1:=λw=>qfi (P:=Tryz.prog) (bya (qv [p,m,wall,s])) ⟨#[58,32]⟩ (by simp[zo];omega) w;have A2:=λw=>qfi (P:=Tryz.prog) (bya (qv [p,m,wall,s])++⟨#[58,32]⟩) (bya (qv [d0,d1,d2,d3])) (by simp[zo];omega) w;have hwx:Bw k ((k.alloc (.cells #[U p,U m,U wall,U s] 3)).drew):=(boxed (jcc _ k) _).drew;have ab:=qb1 (b:=k.heap.size) (o:=0) (cap:=4) (l:=[p,m,wall,s]) (by simp) (by simp) (λx i=>F x (by simp at i ⊢;rcases i with e|e|e|e<;>simp[e])) ((k.alloc (.cells #[U p,U m,U wall,U s] 3)).drew) (aa.later hwx) (by simp) (qee (w:=k) (T:=3) [p,m,wall,s])
 have BLD:Hid (∀w',Bw k w'->Ca 102 #[.slice (some (AD I 4)) 4 4] w' λe w2=>e=.returned (.string (bya (qv [d0,d1,d2,d3])))/\Bw w' w2):=λw' C=>by
  have M:=R.later C
  exact qb1 (b:=I) (o:=4) (cap:=4) (l:=[d0,d1,d2,d3]) (by simp) (by simp) (λx i=>F x (by simp at i ⊢;rcases i with e|e|e|e<;>simp[e])) w' (aa.later C) M.lt (λq x i=>by
   match q,i with
   |0,i=>simp at i;subst i;exact M.c 4
   |1,i=>simp at i;subst i;exact M.c 5
   |2,i=>simp at i;subst i;exact M.c 6
   |3,i=>simp at i;subst i;exact M.c 7
   |n+4,i=>simp at i)
 have Q:Hid (∀w',Bw k w'->jm 5 W l w cb mb G (.returned (.string (bya (qv [p,m,wall,s])++⟨#[58,32]⟩++bya (qv [d0,d1,d2,d3])))) w'):=λw' B=>L.out _ _ (qe3.after HL3.out B) (.inl ⟨z,by rw[H,<-jz,<-jz]⟩)
 dsimp only[List.length_cons,List.length_nil,Nat.reduceAdd]at ab
 have X0:=λ(w':World) (h:Bw k w')=>(R.later h).c 0;have X1:=λ(w':World) (h:Bw k w')=>(R.later h).c 1;have X2:=λ(w':World) (h:Bw k w')=>(R.later h).c 2;have X3:=λ(w':World) (h:Bw k w')=>(R.later h).c 3;clear l1 l2 z F Z D H L K R R0 HL E aa
 go_wp2
 go_region_held3 (λw'=>Bw k w') ((repeat (first|(with_reducible assumption)|(with_reducible refine boxed ?_ _)|(with_reducible refine jc6 ?_)|(with_reducible exact jcc _ _))))
  (first|(go_at_call 102;(with_reducible refine ab.mono ?_);rintro e w4 ⟨rfl,hb4⟩;have hb43:=qa hwx hb4;have BL2:=BLD.out w4 hb43)|(go_at_call 102;(with_reducible refine BL2.mono ?_);rintro e w5 ⟨rfl,hb5⟩;have hb53:=qa hb43 hb5;have HF0:=Q.out w5 hb53))
 all_goals
  clear ab BL2 Q BLD
  go_wp2
  go_ret;exact HF0
theorem q3k (w:World) (h:vk w cb mb b Gw G W j a cap l):Ca 51 #[PP cb,.slice a l.length cap] w (jm 5 W l w cb mb G):=by
 cases hn:ju 1 l with
 |none=>exact q2v w h hn
 |some r=>exact qx3 w h hn
end
end
section
open Go.RowKit Go.Maps
def qmx (i:Nat):Prop:=∀{w:World} {cb mb b j cap:Nat} {Gw G:Nat->Prop} {W:WoS} {a:Option Addr} {l:List ByteArray},vk w cb mb b Gw G W j a cap l->Ca (q3p i) #[PP cb,.slice a l.length cap] w (jm i W l w cb mb G)
theorem qvl (hh:qmx 9):∀i,i<19->qmx i
 |0,_=>λh=>q4h _ h
 |1,_=>λh=>ja5 _ h
 |2,_=>λh=>q5e _ h
 |3,_=>λh=>q8k _ h
 |4,_=>λh=>q3r _ h
 |5,_=>λh=>q3k _ h
 |6,_=>λh=>qze _ h
 |7,_=>λh=>q8p _ h
 |8,_=>λh=>q92 _ h
 |9,_=>hh
 |10,_=>λh=>q8t _ h
 |11,_=>λh=>q9x _ h
 |12,_=>λh=>q8m _ h
 |13,_=>λh=>q8w _ h
 |14,_=>λh=>q9k _ h
 |15,_=>λh=>q59 _ h
 |16,_=>λh=>q6l _ h
 |17,_=>λh=>q4x _ h
 |18,_=>λh=>q6z _ h
 |n+19,h=>absurd h (by omega)
theorem qr4 (w:World):(zeroValue 65).run Tryz.prog w=.ok .nilFunc w:=by kernel_rfl
variable {w:World} {mb cb i:Nat} {s:ByteArray}
theorem zm.held (h:zm w mb cb 19) (hz:s.size<=maxLen) (hi:i<19) (hs:s.data.toList=qn i):(Instr.lookup 55 (.map (some mb)) (.string s) false).run Tryz.prog w=.ok (doV cb i) w:=by
 obtain⟨D,o,d⟩:=h;obtain⟨v,ps,hr,hv⟩:=o.lookup qhg Tryz.underlying55 (qr4 w) (zd:=.held .nilFunc) (zp:=[]) rfl (qps hz);rw[hs,(d.has i hi).2]at hv
 have:v=doV cb i:=by
  unfold qcd at hv;injection hv with hv;injection hv with hv;injection hv
 rw[hr,this]
theorem zm.lacks (h:zm w mb cb 19) (hz:s.size<=maxLen) (hs:∀i,i<19->s.data.toList≠qn i):(Instr.lookup 55 (.map (some mb)) (.string s) false).run Tryz.prog w=.ok .nilFunc w:=by
 obtain⟨D,o,d⟩:=h;obtain⟨v,ps,hr,hv⟩:=o.lookup qhg Tryz.underlying55 (qr4 w) (zd:=.held .nilFunc) (zp:=[]) rfl (qps hz);rw[(d.no _ hs).2]at hv
 have:v=.nilFunc:=by
  unfold qcd at hv;injection hv with hv;injection hv with hv;injection hv
 rw[hr,this]
theorem qfj.tail {A o cap:Nat} {x:ByteArray} {l:List ByteArray} (h:qfj w (some (AD A o)) cap (x::l)):qfj w (some (AD A (o+1))) (cap-1) l:=
 ⟨by have:=h.cap;simp at this;omega,λj y hy=>by
   obtain⟨b,p,e,h2,h3⟩:=h.cell (j+1) y (by simpa using hy);injection e with e;injection e with e1 e2;subst e1;subst e2
   exact⟨A,o+1,rfl,h2,by rw[show o+1+j=o+(j+1) by omega];exact h3⟩⟩
theorem qmv {s:List UInt8} (h:qc9.idxOf? s=some i):i<19/\s=qn i:=by
 rw[List.idxOf?_eq_some_iff]at h;obtain⟨hi,he,_⟩:=h;refine⟨hi,?_⟩;unfold qn;rw[jdp,jcg hi];simpa using he.symm
theorem quh {s:List UInt8} (h:qc9.idxOf? s=none):∀i,i<19->s≠qn i:=λi hi e=>by
 rw[List.idxOf?_eq_none_iff]at h
 apply h
 rw[e];unfold qn;rw[jdp,jcg (show i<qc9.length from hi)];exact jdr _
end
section
theorem q7d {a b c d:Int} (h:∀x∈[a,b,c,d],wfI x):(qv [a,b,c,d]).length<=88:=by have:=ze h;simpa using this
variable {W W':WoS} {t:List UInt8}
theorem qaa.len {i:Nat} {l:List Int} {d:ByteArray} {er:Int} (g:DkI W) (h:qaa i W l d W' er t) (v:er=0):t.length<=400:=by
 have n:=h;unfold qaa at h;split at h
 case h_5 k=>
  obtain⟨at_,p0,p1,p2,p3,s0,s1,s2,s3,I,e,C,_⟩:=qq2 (b:=0) (G:=λ_=>False) k g;rw[(qaa.det (n.data (d':=⟨#[]⟩) (by decide)) C.cmd).2.2];split
  ·have l1:(qv [at_]).length<=22:=by have:=ze (l:=[at_]) (λx f=>C.wf x (by simp at f;simp[f]));simpa using this
   have p:=q7d (a:=p0) (b:=p1) (c:=p2) (d:=p3) (λx f=>C.wf x (by simp at f ⊢;rcases f with e|e|e|e<;>simp[e]));have o:=q7d (a:=s0) (b:=s1) (c:=s2) (d:=s3) (λx f=>C.wf x (by simp at f ⊢;rcases f with e|e|e|e<;>simp[e]))
   split<;>simp only[jcl,List.length_cons,List.length_nil]<;>omega
  simp
 case h_6 k=>
  obtain⟨a,b,c,d,w,z,A,B,e,J,told,C,_⟩:=qrx (b:=0) (G:=λ_=>False) k g;obtain⟨_,D,E⟩:=qaa.det (n.data (d':=⟨#[]⟩) (by decide)) C.cmd;rw[E,C.yes (D▸v)];have p:=q7d (a:=a) (b:=b) (c:=c) (d:=d) (λx f=>C.wf x (by simp at f ⊢;rcases f with e|e|e|e<;>simp[e]));have o:=q7d (a:=w) (b:=z) (c:=A) (d:=B) (λx f=>C.wf x (by simp at f ⊢;rcases f with e|e|e|e<;>simp[e]));split
  ·decide
  simp only[jcl,List.length_cons,List.length_nil];omega
 case h_12=>
  obtain⟨j,m⟩:=g.pl;have:=m.wf.net;rw[h.1]
  have l1:=ze (l:=[(W.net.length:Int),W.lost]) (λx f=>by
   simp at f;rcases f with rfl|rfl
   ·exact⟨by omega,by omega⟩
   exact g.lost)
  simp at l1;omega
 case h_14 k key=>
  have h:=h.2;split at h
  ·rename_i q;obtain⟨i,rfl,hi,e⟩:=zq q;obtain⟨j,m⟩:=g.pl;have:=qjc (S:=W.S (W.at_ i)) (s:=W.ses i) (key:=key) (g.ses i hi) (m.wf.inv _ (m.wf.at_ i hi));rw[h.1,e];rw[Lib.size_eq]at this;simp only[jcl,List.length_cons,List.length_nil];omega
  rw[h.1];simp
 case h_15 k=>
  obtain⟨a0,a1,a2,a3,r,u,e,F,C,_⟩:=q0p (b:=0) (G:=λ_=>False) k g;rw[(qaa.det (n.data (d':=⟨#[]⟩) (by decide)) C.cmd).2.2];split
  ·have p:=q7d (a:=a0) (b:=a1) (c:=a2) (d:=a3) (λx f=>C.wf x (by simp at f ⊢;rcases f with e|e|e|e<;>simp[e]))
   have l1:(qv [r,u]).length<=44:=by have:=ze (l:=[r,u]) (λx f=>C.wf x (by simp at f ⊢;rcases f with e|e<;>simp[e]));simpa using this
   have o:=qgl 13 (F.map (·.data.toList)) (λy H=>by obtain⟨x,f,rfl⟩:=jcz.1 H;exact C.ts x f);rw[jdh,C.tl]at o;simp only[jcl,List.length_cons,List.length_nil];omega
  simp
 case h_20=>exact h.elim
 all_goals (rw[h.1];decide)
theorem qas.len {c:ByteArray} (d:DkI W) (h:qas W c W' t):t.length<=400:=by
 have er:∀n:Int,Few n->(qgt n).length<=400:=λn b=>by
  have:=Lib.itoa_length_le n b.wf.1 b.wf.2;unfold qgt;simp only[jcl,List.length_cons,List.length_nil];omega
 unfold qas at h;split at h
 ·rw[h.2];decide
 split at h
 ·rw[h.2];exact er 3 jaf
 obtain⟨e,u,a,rfl⟩:=h;split
 ·rename_i f;unfold qc2 at a;split at a
  ·rw[a.2.2];simp
  exact a.len d f
 exact er e a.few
theorem qas.keeps {b:ByteArray} (a:DkI W) (h:qas W b W' t):DkI W':=by
 unfold qas at h;split at h
 ·rw[h.1];exact a
 split at h
 ·rw[h.1];exact a
 obtain⟨e,u,c,_⟩:=h;exact a.does c
end
theorem qd8.len {W A:WoS} {l:List ByteArray} {s:List UInt8} (b:DkI W) (h:qd8 W l s A):s.length<=401*l.length/\DkI A:=by
 induction h with
 |nil=>exact⟨by simp,b⟩
 |snoc h1 h2 ih=>
  obtain⟨c,a⟩:=ih;have:=h2.len a;refine⟨?_,h2.keeps a⟩;simp only[jcl,List.length_cons,List.length_nil];omega
theorem qvc (s:List UInt8):(qao s).length<=s.length+1/\∀x∈qao s,x.length<=s.length:=by
 induction s with
 |nil=>simp[qao]
 |cons c r ih=>
  rw[qg4];by_cases e:c=10
  ·rw[if_pos e];refine⟨by simp only[List.length_cons];have:=ih.1;omega,λx a=>?_⟩;rcases jdd.1 a with rfl|q
   ·simp
   have:=ih.2 x q;simp only[List.length_cons];omega
  rw[if_neg e];cases h:qao r with
  |nil=>exact absurd h (qrs r)
  |cons y z=>
   rw[h]at ih;refine⟨by have:=ih.1;simp only[List.length_cons]at this ⊢;omega,λx a=>?_⟩;rcases jdd.1 a with rfl|q
   ·have:=ih.2 y (by simp);simp only[List.length_cons];omega
   have:=ih.2 x (by simp[q]);simp only[List.length_cons];omega
theorem q4v (s:List UInt8):(Lib.trimSuffix s [10]).length<=s.length:=by
 unfold Lib.trimSuffix;split
 ·simp
 exact jcd _
theorem qu7 (s:List UInt8):(qfq s).length<=s.length+1/\∀x∈qfq s,x.length<=s.length:=by
 have h:=qvc (Lib.trimSuffix s [10]);have:=q4v s;exact⟨by have:=h.1;unfold qfq;omega,λx a=>jcn (h.2 x a) this⟩
section
open Tryz Go.RowKit
structure qlo (w:World) (cb mb b:Nat) (Gw G:Nat->Prop) (W:WoS) (j:Nat):Prop where
 ck:qe3 w cb mb b Gw W
 g:∀k,G k↔(k=cb\/k=mb\/Gw k)
 gl:Gl w
 gn:∀k,k<10->¬G k
 wi:PlI j W
 di:DkI W
def qig (W:WoS) (line:ByteArray) (w:World) (cb mb:Nat) (G:Nat->Prop) (e:Ending) (w':World):Prop:=
 ∃told,e=.returned (.string (bya told))/\∃W',qas W line W' told/\qbi (ckP cb mb W') w G w'
variable {w:World} {B:Nat} {v:Value}
theorem qlg {tmps:Array Value} (a:w.cell? (AD B 0)=some v) (c:tmps[4]?=some (PP B)):(results f11 tmps).run prog w=.ok v w:=by
 simp[results,results11,go_sem,a,c]
variable {w1 wt:World} {cb mb:Nat} {G:Nat->Prop} {W':WoS}
theorem qwn {a:World} (c:Bw w w1) (h:qbi (ckP cb mb W') w1 G wt) (f:w.heap.size<=B) (r:B<w1.heap.size) (g:∀k,G k->k<w.heap.size) (m:Bw wt a):qbi (ckP cb mb W') w G (a.setCell (AD B 0) v):=by
 obtain⟨d,p1,p2,o⟩:=qe3.after h m
 have n:∀k,d k->k≠B:=λk p e=>by
  subst e;rcases p2 k p with q|q
  ·have:=g k q;omega
  omega
 refine⟨d,p1.kept (λk e=>jce _ _ _ _ (n k e)) (by simp[World.setCell]),λk e=>?_,qbl ((qc.ofBelow c).trans o) f v⟩;rcases p2 k e with q|q
 ·exact .inl q
 exact .inr (jcn c.size q)
theorem qlt {n:Nat} (R:qd w1 B [v]) (h:qbi (ckP cb mb W') w1 G wt) (c:∀k,G k->k<n) (d:n<=B):qd wt B [v]:=by
 obtain⟨e,p1,p2,a⟩:=h;exact R.kept (a.block B R.lt (λq=>by have:=c B q;omega)) a.size
theorem q72 (g:Gl w1) (h:qbi (ckP cb mb W') w1 G wt) (c:∀k,k<10->¬G k):Gl wt:=by
 obtain⟨e,p1,p2,a⟩:=h;have:=g.sz;exact g.kept (λk d=>a.block k (by omega) (c k d)) a.size
variable {b j:Nat} {Gw:Nat->Prop} {W:WoS}
theorem qlo.ltG (h:qlo w cb mb b Gw G W j):∀k,G k->k<w.heap.size:=λk a=>by
 rcases(h.g k).1 a with rfl|rfl|e
 ·exact h.ck.ltc
 ·exact h.ck.map.lt
 exact h.ck.pw.lt k e
theorem qoj {g:ByteArray} {n:Int} {tmps:Array Value} (h:qlo w cb mb b Gw G W j) (k:Bw w w1) (R:qd w1 w.heap.size [v]) (a:qbi (ckP cb mb W') w1 G wt) (o:wfI n) (p:qas W g W' (qgt n)) (q:tmps[4]?=some (PP w.heap.size)):
 Leaves prog f11 tmps (qig W g w cb mb G) [{target:=.fn (.func 25) #[PP w.heap.size],args:=#[]}] (.panicking [{v:=.iface 26 (U n),recovered:=false}]) wt:=by
 have d:=qlt R a h.ltG (jcd _);refine leaves_cons (f:=25) (args:=#[PP w.heap.size]) (by simp) (by simp[go_sem]) ?_;refine(qny (AD w.heap.size 0) v n o [] wt (q72 (h.gl.later k) a h.gn) (d.c 0) (d.f 0)).mono ?_;rintro e r s ⟨rfl,rfl,w2,m,rfl⟩;exact⟨_,qlg (((d.later m).set 0 (.string (bya (qgt n))) (by simp)).c 0) q,qgt n,rfl,W',p,qwn k a (jcd _) R.lt h.ltG m⟩
theorem q0g {a:ByteArray} {told:List UInt8} {tmps:Array Value} (h:qlo w cb mb b Gw G W j) (g:Bw w w1) (R:qd w1 w.heap.size [v]) (d:qbi (ckP cb mb W') w1 G wt) (k:qas W a W' told) (m:tmps[4]?=some (PP w.heap.size)):
 Leaves prog f11 tmps (qig W a w cb mb G) [{target:=.fn (.func 25) #[PP w.heap.size],args:=#[]}] .returning (wt.setCell (AD w.heap.size 0) (.string (bya told))):=by
 have n:=qlt R d h.ltG (jcd _);refine leaves_cons (f:=25) (args:=#[PP w.heap.size]) (by simp) (by simp[go_sem]) ?_;refine(qo4 (AD w.heap.size 0) _).mono ?_;rintro e o w2 ⟨rfl,rfl,rfl⟩;exact⟨_,qlg ((n.set 0 (.string (bya told)) (by simp)).c 0) m,told,rfl,W',k,qwn g d (jcd _) R.lt h.ltG (jcc _ _)⟩
theorem qsp (h:qlo w cb mb b Gw G W j) {a:ByteArray} (t:a.size<=20000) (d:qa9 a=[]):
 Ca 11 #[PP cb,.string a] w (qig W a w cb mb G):=by
 have hmf:∀(fn:Fn) (first cap:Array Value) (w:World),(Instr.makeFunc fn first cap).run prog w=.ok (.func fn first cap) w:=λ_ _ _ _=>rfl;have k:=qkj a (by omega) (w.alloc (.cells #[.string ⟨#[]⟩] 9));rw[d]at k;have m:=hd2 h d;have p:=boxed (jcc w.heap.size w) (.cells #[.string ⟨#[]⟩] 9);clear h d
 go_enter_defers func11,ntmps11
 go_wp2_with fail
 refine k.mono ?_;rintro e w1 ⟨A,rfl,u,q,n⟩;have o:=(qd.new (w:=w) (T:=9) [.string ⟨#[]⟩] rfl).later n;have y:=o.c 0;have f1:=o.f 0
 have r:Hid (qig W a w cb mb G (.returned (.string ⟨#[111,107]⟩)) (w1.setCell (AD w.heap.size 0) (.string ⟨#[111,107]⟩))):=by
  refine⟨[111,107],rfl,W,?_,m.out.1.ck.same m.out.1.g (jdz (qa p n) (jcd _) _)⟩;unfold qas;rw[m.out.2];exact⟨rfl,rfl⟩
 have s:=(o.set 0 (.string ⟨#[111,107]⟩) (by simp)).c 0;clear n p q k
 go_wp2
 refine leaves_cons (f:=25) (args:=#[PP w.heap.size]) (by simp) (by simp[go_sem]) ?_;refine(qo4 (AD w.heap.size 0) _).mono ?_;rintro e z w2 ⟨rfl,rfl,rfl⟩;exact⟨_,qlg s rfl,r.out⟩
variable {x:ByteArray} {l:List ByteArray}
theorem qt5 (h:qlo w cb mb b Gw G W j) {a:ByteArray} (D:a.size<=20000) (n:qa9 a=x::l) (z:x.size<=maxLen) (t:qc9.idxOf? x.data.toList=none):
 Ca 11 #[PP cb,.string a] w (qig W a w cb mb G):=by
 have hmf:∀(fn:Fn) (first cap:Array Value) (w:World),(Instr.makeFunc fn first cap).run prog w=.ok (.func fn first cap) w:=λ_ _ _ _=>rfl;have o:=qkj a (by omega) (w.alloc (.cells #[.string ⟨#[]⟩] 9));rw[n]at o;have d:=hd3 h n t;have u:=boxed (jcc w.heap.size w) (.cells #[.string ⟨#[]⟩] 9);clear h n
 go_enter_defers func11,ntmps11
 go_wp2_with fail
 refine o.mono ?_;rintro e w1 ⟨A,rfl,E,y,p⟩;have k:=(qd.new (w:=w) (T:=9) [.string ⟨#[]⟩] rfl).later p;have F:=k.c 0;have f1:=k.f 0;have q:=qa u p;have m:=d.out.1.ck.later q;have H:=m.cell1;obtain⟨I,J,r,K,L⟩:=y.cell 0 x rfl;injection r with r;injection r with e1 e2;subst e1;subst e2;have M:=zm.lacks (w:=w1.drew) (m.map.kept rfl) z (quh t);have s:=hd3 q k (m.same d.out.1.g (jcc _ _).drew)
 have C:Hid (qas W a W (qgt 3)):=by
  show qas W a W (qgt 3);unfold qas;rw[d.out.2.1]
  dsimp only
  rw[d.out.2.2];exact⟨rfl,rfl⟩
 clear p u y o m q k
 dsimp only[List.length_cons]at*
 have N:∀w:World,(binOp .eql 65 .nilFunc .nilFunc).run prog w=.ok (.bool true) w:=λ_=>by kernel_rfl
 go_wp2
 go_region
 all_goals
  go_wp2
  exact qoj d.out.1 s.out.1 s.out.2.1 s.out.2.2 ⟨by decide,by decide⟩ C.out rfl
theorem qrl:∀i,i<19->∀(args:Array Value) (w:World),(callFunc (q3p i) args).run prog w=.ok (.enter (q3p i) args) w
 |0,_=>λ_ _=>by kernel_rfl
 |1,_=>λ_ _=>by kernel_rfl
 |2,_=>λ_ _=>by kernel_rfl
 |3,_=>λ_ _=>by kernel_rfl
 |4,_=>λ_ _=>by kernel_rfl
 |5,_=>λ_ _=>by kernel_rfl
 |6,_=>λ_ _=>by kernel_rfl
 |7,_=>λ_ _=>by kernel_rfl
 |8,_=>λ_ _=>by kernel_rfl
 |9,_=>λ_ _=>by kernel_rfl
 |10,_=>λ_ _=>by kernel_rfl
 |11,_=>λ_ _=>by kernel_rfl
 |12,_=>λ_ _=>by kernel_rfl
 |13,_=>λ_ _=>by kernel_rfl
 |14,_=>λ_ _=>by kernel_rfl
 |15,_=>λ_ _=>by kernel_rfl
 |16,_=>λ_ _=>by kernel_rfl
 |17,_=>λ_ _=>by kernel_rfl
 |18,_=>λ_ _=>by kernel_rfl
 |n+19,h=>absurd h (by omega)
variable {i:Nat}
theorem qx8 (Q:qmx 9) (h:qlo w cb mb b Gw G W j) {m:ByteArray} (hl:m.size<=20000) (s:qa9 m=[x]) (R:x.size<=maxLen) (t:qc9.idxOf? x.data.toList=some i):
 Ca 11 #[PP cb,.string m] w (qig W m w cb mb G):=by
 have hmf:∀(fn:Fn) (first cap:Array Value) (w:World),(Instr.makeFunc fn first cap).run prog w=.ok (.func fn first cap) w:=λ_ _ _ _=>rfl;obtain⟨hi,L⟩:=qmv t;have u:=qkj m (by omega) (w.alloc (.cells #[.string ⟨#[]⟩] 9));rw[s]at u;have k:=hd3 h s t;have M:=boxed (jcc w.heap.size w) (.cells #[.string ⟨#[]⟩] 9);clear h s
 go_enter_defers func11,ntmps11
 go_wp2_with fail
 refine u.mono ?_;rintro e w1 ⟨A,rfl,hA,N,z⟩;have p:=(qd.new (w:=w) (T:=9) [.string ⟨#[]⟩] rfl).later z;have c1:=p.c 0;have f1:=p.f 0;have C:=qa M z;have q:=k.out.1.ck.later C;have cm:=q.cell1;have r:Bw w1 w1.drew:=(jcc _ _).drew;have D:=qa C r;have O:=qvl Q i hi (w:=w1.drew) (cb:=cb) (mb:=mb) (b:=b) (j:=j) (cap:=0) (Gw:=Gw) (G:=G) (W:=W) (a:=some (AD A 0)) (l:=[]) ⟨q.later r,k.out.1.g,k.out.1.gl.later D,k.out.1.gn,k.out.1.wi,k.out.1.di,⟨by simp,λj y S=>by simp at S⟩,by simp⟩;obtain⟨A',o',E,hlt,cx⟩:=N.cell 0 x rfl;injection E with E;injection E with e1 e2;subst e1;subst e2;have V:(Instr.lookup 55 (.map (some mb)) (.string x) false).run prog w1.drew=.ok (.func (.func (q3p i)) #[PP cb] #[]) w1.drew:=zm.held (w:=w1.drew) (q.map.kept rfl) R hi L;have FE:=qrl i hi;have o:=hd2 D (p.later r)
 have eqn:∀(w:World) (f:Fn) (c d:Array Value),(binOp .eql 65 (.func f c d) .nilFunc).run prog w=.ok (.bool false) w:=λ_ _ _ _=>by kernel_rfl
 clear z M N u q C p r D t L
 dsimp only[List.length_cons,List.length_nil,Nat.reduceAdd]at*
 go_wp2
 go_region
 all_goals
  go_wp2_with fail
  refine O.mono ?_;rintro e w2 ⟨W',er,told,F,X,H⟩;have P:=hd1 H;have Y:=F.few.wf
  have I:Hid (qas W m W' (if er=0 then told else qgt er)):=by
   show qas W m W' (if er=0 then told else qgt er);unfold qas;rw[k.out.2.1]
   dsimp only
   rw[k.out.2.2];exact⟨er,told,F,rfl⟩
  have J:=qlt o.out.2 H k.out.1.ltG (jcd _);have c2:=J.c 0;have f2:=J.f 0;clear H F O J V;rcases X with ⟨K,rfl⟩|⟨K,rfl⟩
  ·have n:=I.out;rw[if_pos K]at n;have Z:=hd1 n;clear n I
   go_wp2
   exact q0g k.out.1 o.out.1 o.out.2 P.out Z.out rfl
  have n:=I.out;rw[if_neg K]at n;exact qoj k.out.1 o.out.1 o.out.2 P.out Y n rfl
theorem qyh (R:qmx 9) (h:qlo w cb mb b Gw G W j) {m y:ByteArray} (hl:m.size<=20000) (s:qa9 m=x::y::l) (S:x.size<=maxLen) (V:∀z∈y::l,z.size<=1000000) (t:qc9.idxOf? x.data.toList=some i):
 Ca 11 #[PP cb,.string m] w (qig W m w cb mb G):=by
 have hmf:∀(fn:Fn) (first cap:Array Value) (w:World),(Instr.makeFunc fn first cap).run prog w=.ok (.func fn first cap) w:=λ_ _ _ _=>rfl;obtain⟨hi,N⟩:=qmv t;have u:=qkj m (by omega) (w.alloc (.cells #[.string ⟨#[]⟩] 9));rw[s]at u;have k:=hd3 h s t;have O:=boxed (jcc w.heap.size w) (.cells #[.string ⟨#[]⟩] 9);clear h s
 go_enter_defers func11,ntmps11
 go_wp2_with fail
 refine u.mono ?_;rintro e w1 ⟨A,rfl,hA,C,D⟩;have q:=(qd.new (w:=w) (T:=9) [.string ⟨#[]⟩] rfl).later D;have c1:=q.c 0;have f1:=q.f 0;have E:=qa O D;have r:=k.out.1.ck.later E;have cm:=r.cell1;have o:Bw w1 w1.drew:=(jcc _ _).drew;have F:=qa E o
 have P:=qvl R i hi (w:=w1.drew) (cb:=cb) (mb:=mb) (b:=b) (j:=j) (cap:=l.length+1) (Gw:=Gw) (G:=G) (W:=W) (a:=some (AD A 1)) (l:=y::l) ⟨r.later o,k.out.1.g,k.out.1.gl.later F,k.out.1.gn,k.out.1.wi,k.out.1.di,by
  have:=(C.later o).tail
  simpa using this,V⟩
 obtain⟨A',o',H,hlt,cx⟩:=C.cell 0 x rfl;injection H with H;injection H with e1 e2;subst e1;subst e2;have X:(Instr.lookup 55 (.map (some mb)) (.string x) false).run prog w1.drew=.ok (.func (.func (q3p i)) #[PP cb] #[]) w1.drew:=zm.held (w:=w1.drew) (r.map.kept rfl) S hi N;have FE:=qrl i hi;have p:=hd2 F (q.later o)
 have eqn:∀(w:World) (f:Fn) (c d:Array Value),(binOp .eql 65 (.func f c d) .nilFunc).run prog w=.ok (.bool false) w:=λ_ _ _ _=>by kernel_rfl
 clear D O C u r E q o F t N
 dsimp only[List.length_cons]at*
 go_wp2
 go_region
 all_goals
  go_wp2_with fail
  refine P.mono ?_;rintro e w2 ⟨W',er,told,I,Y,J⟩;have Q:=hd1 J;have Z:=I.few.wf
  have K:Hid (qas W m W' (if er=0 then told else qgt er)):=by
   show qas W m W' (if er=0 then told else qgt er);unfold qas;rw[k.out.2.1]
   dsimp only
   rw[k.out.2.2];exact⟨er,told,I,rfl⟩
  have L:=qlt p.out.2 J k.out.1.ltG (jcd _);have c2:=L.c 0;have f2:=L.f 0;clear J I P L X;rcases Y with ⟨M,rfl⟩|⟨M,rfl⟩
  ·have n:=K.out;rw[if_pos M]at n;have HA:=hd1 n;clear n K
   go_wp2
   exact q0g k.out.1 p.out.1 p.out.2 Q.out HA.out rfl
  have n:=K.out;rw[if_neg M]at n;exact qoj k.out.1 p.out.1 p.out.2 Q.out Z n rfl
end
section
open Go.RowKit
theorem qx4 (s:ByteArray):∀x∈qa9 s,x.size<=s.size:=λx a=>by
 unfold qa9 Lib.goFieldsP at a;obtain⟨p,_,rfl⟩:=jcz.1 a;rw[ByteArray.size_extract];omega
theorem qy1 (f:qmx 9) {w:World} {cb mb b j:Nat} {Gw G:Nat->Prop} {W:WoS} (h:qlo w cb mb b Gw G W j) {a:ByteArray} (c:a.size<=20000):
 Ca 11 #[PP cb,.string a] w (qig W a w cb mb G):=by
 have d:=qx4 a;cases hw:qa9 a with
 |nil=>exact qsp h c hw
 |cons x l=>
  rw[hw]at d
  have e:x.size<=maxLen:=by have:=d x (by simp);simp only[maxLen];omega
  cases hn:qc9.idxOf? x.data.toList with
  |none=>exact qt5 h c hw e hn
  |some i=>
   cases l with
   |nil=>exact qx8 f h c hw e hn
   |cons y l=>exact qyh f h c hw e (λz q=>by have:=d z (by simp only[jdd]at q ⊢;exact .inr q);omega) hn
end
section
open Go.RowKit
theorem q9g:qmx 9:=λ{w cb mb b j cap Gw G W a l} h=>by
 show Ca 55 #[PP cb,.slice a l.length cap] w (jm 9 W l w cb mb G);have m:=hd1 h;have s:=qpc h.sm w h.gl h.st;clear h;go_enter Tryz.func55,Tryz.ntmps55
 go_wp2_with fail
 refine s.mono ?_;rintro e t ⟨f,(⟨n,rfl⟩|⟨n,rfl⟩)⟩
 ·have o:=m.out.ck.later f;have X:=o.cell1;obtain⟨D,own,d⟩:=o.map;have u:=callsIn_wide.1 (jef (some mb) t);have z:=callsIn_wide.1 (jd3 mb 19 D qcd t own (by rw[d.size];decide) (by rw[d.size];decide));have B:=hd2 own d;have M:=hd1 f;clear o own d s f
  go_wp2_with fail
  refine u.mono ?_;rintro e w2 ⟨rfl,rfl⟩
  go_wp2_with fail
  refine z.mono ?_;rintro e i ⟨v,N,rfl,C,k,_,F⟩;have E:=qup B.out.1 B.out.2 C
  have O:N.length=19:=by have:=congrArg List.length E;rw[List.length_mergeSort]at this;exact this
  rw[E,O]at k;obtain⟨_,(⟨_,P⟩|⟨g,H,cur,rfl,Y,I,Q,Z,R,S⟩)⟩:=id k
  ·cases P
  have p:=jd1 g 0 H (qc9.map bya) ⟨#[32]⟩ i (λq y J=>by
   rw[Nat.zero_add];rw[jcv]at J;obtain⟨x,K,rfl⟩:=Option.map_eq_some_iff.1 J;have T:q<19:=(jck.1 K).1;rw[k.cellAt q (by rw[Nat.mul_one];exact T),jcv,K]
   rfl) (jcs.1 I).1 (by decide) Q (by decide)
  replace p:Ca 42 #[.slice (PT g) 19 H,.string ⟨#[32]⟩] i λe w'=>e=.returned (.string (bya (Lib.join qc9 [32])))/\Bw i w':=p;have L:Hid (∀c,Bw i c->jm 9 W l w cb mb G (.returned (.string (bya (Lib.join qc9 [32])))) c):=λc r=>m.out.told (by decide) n.out ⟨rfl,rfl,rfl⟩ (qa (qa (boxed M.out _) F) r) (.inl ⟨rfl,rfl⟩);clear k I S R C E F z u
  go_wp2_with fail
  refine p.mono ?_;rintro e c ⟨rfl,r⟩;have V:=L.out c r;clear L
  go_wp2
  go_ret;exact V
 exact⟨rfl,m.out.no (by decide) n.out f⟩
end
section
open Tryz Go.RowKit
def qht (B b:Nat) (l:List UInt8) (w:World) (G:Nat->Prop):Prop:=
 B<=b/\∃p v,(p=.pointer none\/p=.pointer (PT b))/\w.heap[b]?=some (.cells #[p,v] 32 (0,0))/\w.ownsRow B 5 1 v (Lib.byteCells l).length (Lib.byteCells l)/\v.ownBlock≠some b/\∀k,G k↔(k=b\/v.ownBlock=some k)
variable {B b:Nat} {l:List UInt8} {w:World} {G:Nat->Prop}
theorem qht.lt (h:qht B b l w G):∀k,G k->k<w.heap.size:=λk a=>by
 obtain⟨_,p,v,_,c,d,_,f⟩:=h;rcases(f k).1 a with rfl|e
 ·exact(jcs.1 c).1
 exact(d.lt k e).2
theorem qht.kept {w':World} (h:qht B b l w G) (c:∀k,G k->w'.heap[k]?=w.heap[k]?):qht B b l w' G:=by
 obtain⟨d,p,v,f,g,i,j,a⟩:=h;exact⟨d,p,v,f,(c b ((a b).2 (.inl rfl))).trans g,qf i (λk e=>c k ((a k).2 (.inr e))),j,a⟩
def q2z (B b:Nat) (l:List UInt8):qfr:=⟨λw G=>qht B b l w G,λ_ _ h=>h.lt,λ_ _ _ h hk _=>h.kept hk⟩
theorem qht.is (h:qht B b l w G):Lib.IsBuilder 32 5 B b (Lib.byteCells l) w:=by
 obtain⟨a,p,v,f,c,d,e,g⟩:=h;rcases f with rfl|rfl
 ·exact .inl ⟨a,v,c,d,e⟩
 exact .inr ⟨a,v,c,d,e⟩
theorem qt2:(prog.info? 5).map (λi=>(i.zero,i.size,i.bytes))=some (some (.int .u8 0),1,1):=by kernel_rfl
theorem qz6:(prog.info? 32).map (·.size)=some 2:=by kernel_rfl
theorem q8h:liesAt prog prog.depth 32 (2/prog.cellsOf 32) 0 32 1=true:=by kernel_rfl
theorem qpg (b:Nat) (w:World) (c:w.cell? (AD b 0)=some (PP b)):
 Ca 24 #[PP b] w λe w'=>e=.returned (.tuple #[])/\w'=w:=by
 obtain⟨j,a,_⟩:=Option.map_eq_some_iff.1 qz6;go_enter func24,ntmps24
 go_wp2
 rw[Lib.run_neq_ptr_same w _ underlying29 a]
 go_wp2
 go_end0;exact⟨rfl,rfl⟩
theorem qnp (b:Nat) (w:World) (f:w.cell? (AD b 0)=some (.pointer none)) (a:w.shape? b=some (32,2)) (g:w.frozen? (AD b 0)=false):
 Ca 24 #[PP b] w λe w'=>e=.returned (.tuple #[])/\w'=w.setCell (AD b 0) (PP b):=by
 obtain⟨j,c,d⟩:=Option.map_eq_some_iff.1 qz6;have h:=@run_callFunc_extern prog 69 _ Extern.AbiNoEscape.same func69 (by kernel_rfl) (by kernel_rfl) (by kernel_rfl) (by kernel_rfl);have i:=λx w=>Lib.run_noEscape (P:=prog) (w:=w) x;have k:=Lib.run_to_unsafe (P:=prog) w (AD b 0) underlying29 underlying117 c (by rw[d];decide) a (Nat.zero_lt_succ 1);have m:=Lib.run_from_unsafe (P:=prog) w (AD b 0) underlying117 underlying29 c a q8h;go_enter func24,ntmps24
 go_wp2
 go_end0;exact⟨rfl,rfl⟩
theorem qkv (w:World) (h:qht B b l w G):
 Ca 24 #[PP b] w λe w'=>e=.returned (.tuple #[])/\∃v,w'.heap[b]?=some (.cells #[PP b,v] 32 (0,0))/\w'.ownsRow B 5 1 v (Lib.byteCells l).length (Lib.byteCells l)/\v.ownBlock≠some b/\(∀k,G k↔(k=b\/v.ownBlock=some k))/\qc G w w':=by
 obtain⟨m,p,v,i,a,g,c,d⟩:=h;rcases i with rfl|rfl
 ·refine(qnp b w (by rw[Lib.cell_of_heap a];rfl) (by simp[World.shape?,a]) (Lib.frozen_of_heap a 0)).mono ?_;rintro e w' ⟨rfl,rfl⟩;refine⟨rfl,v,by simp[World.setCell,Array.getElem?_modify,a],qf g (λk e=>jce _ _ _ _ (λf=>c (by rw[e,f]))),c,d,rfl,rfl,rfl,by simp[World.setCell],λk _ j=>jce _ _ _ _ (λf=>j ((d k).2 (.inl f)))⟩
 refine(qpg b w (by rw[Lib.cell_of_heap a];rfl)).mono ?_;rintro e w' ⟨rfl,rfl⟩;exact⟨rfl,v,a,g,c,d,qc.ofBelow (jcc _ _)⟩
theorem q0u {g:List UInt8} {v v':Value} {a w2:World} (p:B<=b) (c:qc G w a) (d:∀k,G k↔(k=b\/v.ownBlock=some k))
 (m:w2.heap[b]?=some (.cells #[PP b,v] 32 (0,0))) (n:w2.ownsRow B 5 1 v' (Lib.byteCells g).length (Lib.byteCells g)) (q:∀k,v'.ownBlock=some k->v.ownBlock=some k\/a.heap.size<=k)
 (r:a.heap.size<=w2.heap.size/\w2.os=a.os/\w2.tape=a.tape/\w2.output=a.output/\∀k,k<a.heap.size->v.ownBlock≠some k->w2.heap[k]?=a.heap[k]?):
 qbi (q2z B b g) w G (w2.setCell (AD b 1) v'):=by
 have o:=Lib.ownBlock_ne n m (by decide);obtain⟨s,t,u,x,y⟩:=r;refine⟨λk=>k=b\/v'.ownBlock=some k,⟨p,PP b,v',.inr rfl,by simp[World.setCell,Array.getElem?_modify,m],qf n (λk e=>jce _ _ _ _ (λi=>o (by rw[e,i]))),o,λ_=>jdl⟩,λk f=>?_,?_⟩
 ·rcases f with rfl|e
  ·exact .inl ((d k).2 (.inl rfl))
  rcases q k e with h|h
  ·exact .inl ((d k).2 (.inr h))
  exact .inr (jcn c.size h)
 refine⟨t.trans c.os,u.trans c.tape,x.trans c.output,jcn c.size (by simp[World.setCell];exact s),λk f j=>?_⟩;rw[jce _ _ _ _ (λi=>j ((d k).2 (.inl i))),y k (jci f c.size) (λe=>j ((d k).2 (.inr e))),c.block k f j]
theorem qkw (a b:List UInt8):Lib.byteCells (a++b)=Lib.byteCells a++Lib.byteCells b:=by simp[Lib.byteCells]
theorem qfd (a:List UInt8):(Lib.byteCells a).length=a.length:=by simp[Lib.byteCells]
variable {P:Program}
theorem qqm (w:World) (r:Nat) (t u c e:TypeId) (i:TypeInfo) (d:P.underlying t=some (.slice e)) (f:P.underlying u=some .string) (hi:P.info? e=some i) (m:i.zero=some (.int .u8 0)) (h:i.size=1) (o:i.bytes=1)
 (v:Value) (n:Nat) (xs:List Value) (j:w.ownsRow r e 1 v n xs) (s:ByteArray) (x:n+s.size<=maxLen) (D:n+s.size<=140737488355328):
 ∃v' w',(Builtin.append_ #[t,u] c #[v,.string s]).run P w=.ok v' w'/\∀k,v'.ownBlock=some k->v.ownBlock=some k\/k=w.heap.size:=by
 have E:n+s.size<=9223372036854775807:=by simp only[maxLen]at x;omega
 have y:xs.length=n:=by simpa using j.1
 rcases j.2 with ⟨rfl,rfl⟩|⟨g,cap,cur,rfl,F,z,H,I,J,K⟩
 ·by_cases p:s.size=0
  ·refine⟨.slice none 0 0,w,?_,λk a=>.inl a⟩;have q:=Lib.run_firstCells_string (P:=P) w 1 s;rw[p]at q;simp[Builtin.append_,run_underlying d,run_underlying f,sizeOf,typeInfo,hi,h,Builtin.lenOf,p,q]
  exact⟨_,_,run_append_nil_string (P:=P) w t u c e i (.int .u8 0) d f hi m s (by omega) (by omega) (by rw[o];omega),λk a=>.inr (by simpa[Value.ownBlock,eq_comm]using a)⟩
 by_cases A:n+s.size<=cap
 ·exact⟨_,_,Lib.run_append_room_string (P:=P) w t u c e i d f hi h g n cap cur z s A (by omega),λk a=>.inl (by simpa[Value.ownBlock]using a)⟩
 have C:=j.cells (g:=g) rfl;exact⟨_,_,Lib.run_append_grow_string (P:=P) w t u c e i (.int .u8 0) d f hi m (AD g 0) n cap xs (by rw[h];simpa using y) C s (by omega) (by omega) (by rw[o];exact growslice_fits (by omega) (by omega)),λk a=>.inr (by simpa[Value.ownBlock,eq_comm]using a)⟩
theorem ql8 (w:World) {d:Array Oper} {rest:List Oper} {o:Oper} {a:Act} {Q:Exit->Act->World->Prop} (D:o.guard=none) (f x:Operand) (t u:TypeId)
 (E:o.op=.call {callee:=.builtin .append,args:=#[f,x],argTypes:=#[t,u]})
 (c:Nat) (e:TypeId) (i:TypeInfo) (g:P.underlying t=some (.slice e)) (j:P.underlying u=some .string) (hi:P.info? e=some i) (m:i.zero=some (.int .u8 0))
 (p:i.size=1) (q:i.bytes=1)
 (v:Value) (n:Nat) (xs:List Value) (F:a.eval f=v) (r:w.ownsRow c e 1 v n xs) (s:ByteArray) (H:a.eval x=.string s)
 (y:n+s.size<=maxLen) (z:n+s.size<=140737488355328) (I:c<=w.heap.size)
 (h:∀v' w',w'.ownsRow c e 1 v' (n+s.size) (xs++Lib.strCells s)->w.grownBy w' v.ownBlock->(∀k,v'.ownBlock=some k->v.ownBlock=some k\/k=w.heap.size)->wpList P d Q rest (a.put o.dst v') w'):wpList P d Q (o::rest) a w:=by
 refine wpList_plain D λK J=>?_;obtain⟨v',w',A,L,M,O⟩:=Lib.run_append_own_string (P:=P) w c t u o.type e i g j hi m p q v n xs r s y z I;obtain⟨R,w2,C,N⟩:=qqm (P:=P) w c t u o.type e i g j hi m p q v n xs r s y z;rw[A]at C;injection C with e1 e2;subst e1;unfold Oper.wp execOp;simp only[E,resolve,invoke,builtin,Sem.run_bind,Sem.run_pure,Result.andThen_ok,List.map_toArray,List.map_cons,List.map_nil,F,H,A];exact J _ _ (h v' w' L M N)
theorem qnq (s:ByteArray) (w:World) (h:qht B b l w G) (J:l.length+s.size<=140737488355328) (K:B<=w.heap.size):
 Ca 10 #[PP b,.string s] w λe w'=>e=.returned (.tuple #[U s.size,.nilIface])/\qbi (q2z B b (l++s.data.toList)) w G w':=by
 obtain⟨u,hi,x,y,z⟩:=info_parts qt2;have o:=qkv w h;have C:=hd1 h.1;clear h;go_enter func10,ntmps10
 go_wp2_with fail
 refine o.mono ?_;clear o;rintro e D ⟨rfl,v,c,p,q,r,f⟩
 have L:D.cell? (AD b 1)=some v:=by rw[Lib.cell_of_heap c];rfl
 go_wp2_with (at_builtin;refine ql8 _ rfl _ _ 30 9 rfl B 5 u underlying30 underlying9 hi x y z _ _ _ rfl p s rfl ?c3 ?c4 ?c5 ?_)
 case c3=>rw[qfd];unfold maxLen;omega
 case c4=>rw[qfd];omega
 case c5=>have:=f.size;omega
 intro v' w2 i a t;have E:=(jcs.1 c).1;have d:=(a.block b E (λe=>q e.symm)).trans c
 have M:w2.cell? (AD b 1)=some v:=by rw[Lib.cell_of_heap d];rfl
 have f1:=Lib.frozen_of_heap d 1
 obtain⟨j,m,cap,rfl⟩:∃j m cap,v'=.slice j m cap:=by
  rcases i.2 with ⟨n,_⟩|⟨g,cap,cur,n,_⟩
  ·exact⟨_,_,_,n⟩
  exact⟨_,_,_,n⟩
 have F:Hid (qbi (q2z B b (l++s.data.toList)) w G (w2.setCell (AD b 1) (.slice j m cap))):=
  q0u C.out f r d (by rw[qkw,jcl];simpa[Lib.strCells_length,Lib.strCells,Lib.byteCells]using i) (λk e=>(t k e).imp_right (λe=>by omega)) ⟨a.size,a.os,a.tape,a.output,λk H I=>a.block k H (λe=>I e.symm)⟩
 clear i a t r f p c q d
 go_wp2
 go_ret2;exact⟨rfl,F.out⟩
theorem qql (c:UInt8) (z:Int) (o:z=c.toNat) (w:World) (h:qht B b l w G) (O:l.length+1<=140737488355328) (Q:B<=w.heap.size):
 Ca 12 #[PP b,.int .u8 z] w λe w'=>e=.returned .nilIface/\qbi (q2z B b (l++[c])) w G w':=by
 obtain⟨D,hi,E,F,H⟩:=info_parts qt2;have p:=qkv w h;have I:=hd1 h.1;have J:=hd1 o;clear h o;go_enter func12,ntmps12
 go_wp2_with fail
 refine p.mono ?_;clear p;rintro e d ⟨rfl,v,f,q,r,s,n⟩;have K:=(jcs.1 f).1
 have t:d.cell? (AD b 1)=some v:=by rw[Lib.cell_of_heap f];rfl
 go_wp2_with (at_builtin;refine wpList_append_lies _ rfl _ _ 30 rfl B 5 D (.int .u8 0) 1 1 underlying30 hi E F H rfl (by decide) _ _ _ rfl (q.alloc _) (AD d.heap.size 0) 1 1 [.int .u8 z] rfl rfl ?t ?c2 (by decide) ?c3 ?c4 ?c5 _ rfl ?_)
 case t=>
  intro j u i
  match j,i with
  |0,i=>simp at i;subst i;simp[Addr.add]
 case c2=>intro u x;simp at x;subst x;rfl
 case c3=>rw[qfd];unfold maxLen;omega
 case c4=>rw[qfd];omega
 case c5=>have:=n.size;simp;omega
 intro g cap w2 y a C R
 have m:w2.heap[b]?=some (.cells #[PP b,v] 32 (0,0)):=by
  rw[a.block b (by simp;omega) (λe=>r e.symm),Lib.alloc_old d _ b K];exact f
 have S:w2.cell? (AD b 1)=some v:=by rw[Lib.cell_of_heap m];rfl
 have f1:=Lib.frozen_of_heap m 1
 have L:Hid (qbi (q2z B b (l++[c])) w G (w2.setCell (AD b 1) (.slice (PT g) ((Lib.byteCells l).length+1) cap))):=
  q0u I.out n s m (by rw[qkw,jcl];simpa[Lib.byteCells,J.out]using y) (λk e=>by
   simp[Value.ownBlock]at e;subst e;rcases C with h|h
   ·exact .inl h
   exact .inr (by rw[h];simp)) ⟨by have:=a.size;simp at this;omega,a.os,a.tape,a.output,λk M N=>(a.block k (by simp;omega) (λe=>N e.symm)).trans (Lib.alloc_old d _ k M)⟩
 clear y a C s n q f r m
 go_wp2
 go_ret;exact⟨rfl,L.out⟩
end
section
open Go.RowKit
structure qko (w0:World) (B cb mb tb:Nat) (X Z:Nat->Prop) (W:WoS) (out:List UInt8) (A:World) (G H:Nat->Prop):Prop where
 ck:qvq cb mb W A G
 bl:qht B tb out A H
 ap:∀k,G k->¬H k
 xz:∀k,X k->Z k/\k<w0.heap.size
 gx:∀k,k<10->X k
 z:∀k,Z k->¬G k/\¬H k
 gl:Gl A
 kp:jg X w0 A
section
variable {w0 A A':World} {B cb mb tb:Nat} {X Z G H:Nat->Prop} {W W':WoS} {out out':List UInt8}
theorem qko.later (h:qko w0 B cb mb tb X Z W out A G H) (a:Bw A A'):qko w0 B cb mb tb X Z W out A' G H:=
 ⟨h.ck.kept (λk e=>a.block k (h.ck.lt k e)) a.size,h.bl.kept (λk e=>a.block k (h.bl.lt k e)),h.ap,h.xz,h.gx,h.z,h.gl.later a,h.kp.trans ⟨a.os,a.tape,a.output,a.size,λk e=>a.block k (jci (h.xz k e).2 h.kp.size)⟩⟩
theorem qko.puts (h:qko w0 B cb mb tb X Z W out A G H) {q:Nat} (d:Z q) (f:¬X q) (o:Obj):qko w0 B cb mb tb X Z W out (A.putObj q o) G H:=by
 have b:∀k,k≠q->(A.putObj q o).heap[k]?=A.heap[k]?:=λk g=>World.putObj_heap_other g
 have c:A.heap.size<=(A.putObj q o).heap.size:=by simp
 exact⟨h.ck.kept (λk e=>b k (λa=>(h.z q d).1 (a▸e))) c,h.bl.kept (λk e=>b k (λa=>(h.z q d).2 (a▸e))),h.ap,h.xz,h.gx,h.z,h.gl.kept (λk e=>b k (λa=>f (a▸h.gx k e))) c,h.kp.trans ⟨rfl,rfl,rfl,c,λk e=>b k (λa=>f (a▸e))⟩⟩
theorem qko.ans (h:qko w0 B cb mb tb X Z W out A G H) (f:∀k,Z k->k<A.heap.size) (g:qbi (ckP cb mb W') A G A'):∃c,qko w0 B cb mb tb X Z W' out A' c H/\jg Z A A':=by
 obtain⟨c,p1,p2,a⟩:=g;have d:jg Z A A':=⟨a.os,a.tape,a.output,a.size,λk e=>a.block k (f k e) (h.z k e).1⟩;refine⟨c,⟨p1,h.bl.kept (λk e=>a.block k (h.bl.lt k e) (λq=>h.ap k q e)),λk e b=>?_,h.xz,h.gx,λk e=>⟨λb=>?_,(h.z k e).2⟩,h.gl.kept (λk e=>d.block k (h.xz k (h.gx k e)).1) a.size,h.kp.trans ⟨a.os,a.tape,a.output,a.size,λk e=>d.block k (h.xz k e).1⟩⟩,d⟩
 ·rcases p2 k e with q|q
  ·exact h.ap k q b
  have:=h.bl.lt k b;omega
 rcases p2 k b with q|q
 ·exact(h.z k e).1 q
 have:=f k e;omega
theorem qko.wrote (h:qko w0 B cb mb tb X Z W out A G H) (f:∀k,Z k->k<A.heap.size) (g:qbi (q2z B tb out') A H A'):∃b,qko w0 B cb mb tb X Z W out' A' G b/\jg Z A A':=by
 obtain⟨b,p1,p2,a⟩:=g;have c:jg Z A A':=⟨a.os,a.tape,a.output,a.size,λk e=>a.block k (f k e) (h.z k e).2⟩;refine⟨b,⟨h.ck.kept (λk e=>a.block k (h.ck.lt k e) (h.ap k e)) a.size,p1,λk e d=>?_,h.xz,h.gx,λk e=>⟨(h.z k e).1,λd=>?_⟩,h.gl.kept (λk e=>c.block k (h.xz k (h.gx k e)).1) a.size,h.kp.trans ⟨a.os,a.tape,a.output,a.size,λk e=>c.block k (h.xz k e).1⟩⟩,c⟩
 ·rcases p2 k d with q|q
  ·exact h.ap k e q
  have:=h.ck.lt k e;omega
 rcases p2 k d with q|q
 ·exact(h.z k e).2 q
 have:=f k e;omega
theorem qko.answer (h:qko w0 B cb mb tb X Z W out A G H) (c:DkI W) {a:ByteArray} (d:a.size<=20000):
 Ca 11 #[PP cb,.string a] A (qig W a A cb mb G):=by
 obtain⟨b,Gw,f,g⟩:=h.ck;obtain⟨j,i⟩:=c.pl;exact qy1 q9g ⟨f,g,h.gl,λk e=>(h.z k (h.xz k (h.gx k e)).1).1,i,c⟩ d
end
def SsI (w0:World) (B cb mb tb:Nat) (X Z:Nat->Prop) (pre:List ByteArray) (A:World):Prop:=∃W out G H,qd8 (qcb 2 2) pre out W/\qko w0 B cb mb tb X Z W out A G H
end
section
open Go.RowKit
theorem q60 (s:ByteArray) (w:World):Ca 9 #[.string s] w λe w'=>e=.returned (.func (.func 21) #[] #[PP w.heap.size])/\w'=w.alloc (.cells #[.string s] 9):=by
 have hmf:∀(fn:Fn) (first cap:Array Value) (w:World),(Instr.makeFunc fn first cap).run Tryz.prog w=.ok (.func fn first cap) w:=λ_ _ _ _=>rfl;go_enter Tryz.func9,Tryz.ntmps9
 go_wp2
 go_ret;exact⟨rfl,rfl⟩
def jam (s:List UInt8) (pre:List ByteArray) (rest:List UInt8) (more:Bool):Prop:=rest.length<=s.length/\(qfq s).map bya=pre++if more=true then (qao rest).map bya else []
def q6r:Value->Nat
 |.string b=>b.size
 |_=>0
def jao:Value->Nat
 |.bool true=>1
 |_=>0
theorem qym (n:Nat) (hn:1<=n) (s:ByteArray) (M:s.size<=20000) (B:Nat) (w:World) (N:B<w.heap.size) (t:w.cell? (AD B 0)=some (.string s)):
 q6w Fence.wide n Tryz.prog 21 #[PP B] (λx:ByteArray=>#[.string x]) ((qfq s.data.toList).map bya) Gl w:=λl J W v O P C Q=>by
 have R:=(v.cell (p:=AD B 0) N).trans t
 have S:s.data.toList.length<=20000:=by rw[<-Lib.size_eq];exact M
 have D:=jd7 s ⟨#[10]⟩ W (by omega);refine callsIn_of_wp Tryz.func21 rfl trivial ?_ rfl;simp only[Tryz.ntmps21,List.size_toArray,List.length_cons,List.length_nil,Nat.reduceAdd,Nat.reduceSub,Array.replicate_succ,Array.replicate_zero,List.push_toArray,List.append_toArray,jda,jdj]
 gi_wp2_with (refine⟨trivial,?_⟩;gi_at_call 22;refine(callsIn_wide.2 D).mono ?_;rintro e w' ⟨rfl,rfl⟩)
 clear D R v t;have T:=hd1 S
 gi_loopw [3,4] (λd g wr=>∃(a:List ByteArray) (r:List UInt8) (m:Bool),d=.string ⟨r.toArray⟩/\g=.bool m/\Hid (jam s.data.toList a r m)/\J a wr) (λd g _=>q6r d+jao g)
 case atStart=>exact⟨[],_,true,rfl,rfl,⟨by unfold Lib.trimSuffix;split<;>simp,by simp[qfq]⟩,Q⟩
 obtain⟨a,r,m,rfl,rfl,b,h⟩:=hrel;cases m with
 |false=>
  gi_wp2
  go_end0;have e:=b.out.2;simp only[Bool.false_eq_true,if_false,jdx]at e;rw[e];exact⟨⟨_,rfl⟩,h⟩
 |true=>
  obtain⟨k,E⟩:=(O _ _ h).ml;have i:=jer ⟨r.toArray⟩ ⟨#[10]⟩ k wr (by have:=b.out.1;have:=T.out;show r.toArray.size<_;simp;omega) E;obtain⟨⟨x,y,f⟩,c⟩:∃z,Lib.cut r [10]=z:=⟨_,rfl⟩;have j:=qxi r;have o:=q4q r;rw[c]at j o
  replace i:Ca 23 #[.string ⟨r.toArray⟩,.string ⟨#[10]⟩] wr λe w'=>e=.returned (.tuple #[.string ⟨x.toArray⟩,.string ⟨y.toArray⟩,.bool f])/\∃q,w'=wr.drewN q:=i.mono λe w' ⟨F,q,V⟩=>by
   have X:Lib.cut (⟨r.toArray⟩:ByteArray).data.toList (⟨#[10]⟩:ByteArray).data.toList=(x,y,f):=c;rw[X]at F;exact⟨F,q,V⟩
  have Y:=b.out.1;have e:=b.out.2;rw[if_pos rfl,j]at e
  have G:Hid (∃rest,(qfq s.data.toList).map bya=a++bya x::rest/\jam s.data.toList (a++[bya x]) y f/\y.length+(if f=true then 1 else 0)<r.length+1):=by
   cases f with
   |true=>
    have l1:=o rfl;simp only at l1;simp only[if_true]at e ⊢;exact⟨(qao y).map bya,by rw[e];rfl,⟨by omega,by rw[e];simp⟩,by omega⟩
   |false=>
    simp only[Bool.false_eq_true,if_false]at e ⊢
    have Z:y=[]:=by
     have q:(Lib.cut r [10]).2.2=false:=by rw[c]
     have:(Lib.cut r [10]).2.1=[]:=by
         unfold Lib.cut at q ⊢;split at q
         ·cases q
         rename_i u;rw[if_neg u]
     rw[c]at this;exact this
    subst Z;exact⟨[],by rw[e];rfl,⟨by simp,by rw[e];simp⟩,by simp⟩
  obtain⟨rest,H,I,K⟩:=G.out;have L:=hd2 I K;have YY:Hid (∀q,YieldAt Fence.wide (n-1) Tryz.prog l #[.string ⟨x.toArray⟩] (wr.drewN q) λe W'=>e=.returned (.bool true)/\J (a++[bya x]) W'):=λq=>C a (bya x) rest (wr.drewN q) (P _ _ _ h ⟨rfl,rfl,rfl,jcd _,λ_ _=>rfl⟩) H;clear C Y e H I K G b j o E c
  gi_wp2_with (refine⟨trivial,?_⟩;gi_at_call 23;refine(callsIn_wide.2 i).mono ?_;rintro e w' ⟨rfl,q,rfl⟩)
  obtain⟨fn,tmps,assign,body,hyy,hR⟩:=YY.out q;rw[hyy]
  gi_wp2
  refine hR.mono ?_;rintro e W3 ⟨rfl,hJ3⟩
  gi_wp2
  go_roundw
  case rel=>exact⟨_,y,f,rfl,rfl,L.out.1,hJ3⟩
  have:=L.out.2
  cases f<;>simp[q6r,jao,Lib.size_eq]at this ⊢<;>omega
end
section
open Go.RowKit Go.Shelf
attribute [local go_sem] Oper.semAt_some
theorem qqq {B b:Nat} {l:List UInt8} {G:Nat->Prop} (w:World) (h:qht B b l w G) (c:B<=w.heap.size):
 Ca 13 #[PP b] w λe w'=>e=.returned (.string (bya l))/\Below B w w'/\∀(k:Nat) D,w.heap[k]?=some (Obj.deferred D)->w'.heap[k]?=some (Obj.deferred D):=
 (Any.Builder_String_any_k je5 jd8 B b l w (Lib.IsBuilderF.of h.is) c).mono λe w' ⟨d,_,f,g⟩=>⟨d,f,λk D a=>g k _ a (λe=>by
  injection e with e;subst e;obtain⟨_,_,_,_,q,_⟩:=h;rw[a]at q
  cases q) (λ_ _ e=>by cases e)⟩
def jad (s:ByteArray) (out:List UInt8):Prop:=∃A,qd8 (qcb 2 2) ((qfq s.data.toList).map bya) out A
theorem quu (s:ByteArray) (S:s.size<=20000) (w:World) (g:Gl w):
 Ca 5 #[.string s] w λe w'=>∃d,e=.returned (.string (bya d))/\jad s d/\Bw w w':=by
 refine(callsIn_wide (n:=6)).1 ?_;have V:=qsk w g;have HG:=hd1 g
 have hmany:¬20000<(s.size:Int):=by omega
 have X:=hd1 S;clear g S;refine callsIn_of_wp_marks Tryz.func5 rfl trivial ?_ rfl;simp only[Tryz.ntmps5,List.size_toArray,List.length_cons,List.length_nil,Nat.reduceAdd,Nat.reduceSub,Array.replicate_succ,Array.replicate_zero,List.push_toArray,List.append_toArray,jda,jdj]
 gi_wp2_with (refine⟨trivial,?_⟩;gi_at_call 8;refine(callsIn_wide.2 V).mono ?_;rintro e a ⟨cb,rfl,HN⟩)
 gi_wp2_with (refine⟨trivial,?_⟩;gi_at_call 9;refine(callsIn_wide.2 (q60 s _)).mono ?_;rintro e w' ⟨rfl,rfl⟩)
 obtain⟨mb,G,C,Y,D,Z⟩:=HN;obtain⟨b,i⟩:∃b,((a.alloc (.cells #[PP cb] 27)).alloc (.cells #[.pointer none,.slice none 0 0] 32)).alloc (.cells #[.string s] 9)=b:=⟨_,rfl⟩
 have r:Bw a b:=by rw[<-i];exact boxed (boxed (boxed (jcc _ a) _) _) _
 have sz0:b.heap.size=a.heap.size+3:=by rw[<-i];simp
 have RC:qd b a.heap.size [PP cb]:=by rw[<-i];exact((qd.new (w:=a) (T:=27) [PP cb] rfl).boxed _).boxed _
 have RL:qd b (a.heap.size+1+1) [.string s]:=by rw[<-i];exact qd.new (w:=(a.alloc (.cells #[PP cb] 27)).alloc (.cells #[.pointer none,.slice none 0 0] 32)) (T:=9) (n:=a.heap.size+1+1) [.string s] (by simp)
 have hbx:b.heap[a.heap.size+1]?=some (.cells #[.pointer none,.slice none 0 0] 32 (0,0)):=by
  rw[<-i];refine(jdg _ _ _ (by simp)).trans ?_;have:=World.alloc_heap_new (a.alloc (.cells #[PP cb] 27)) (.cells #[.pointer none,.slice none 0 0] 32 (0,0))
  rwa [jdi]at this
 rw[i];clear i;have ls:=D.size
 have E:qko b a.heap.size cb mb (a.heap.size+1) (λk=>k<w.heap.size\/k=a.heap.size) (λk=>k<w.heap.size\/k=a.heap.size\/k=b.heap.size\/k=b.heap.size+1) (qcb 2 2) [] b G (λk=>k=a.heap.size+1):=by
  have F:=C.lt;refine⟨C.kept (λk e=>r.block k (F k e)) r.size,⟨by omega,.pointer none,.slice none 0 0,.inl rfl,hbx,⟨rfl,.inl ⟨rfl,rfl⟩⟩,by simp[Value.ownBlock],λk=>by simp[Value.ownBlock]⟩,λk e e2=>?_,λk e=>?_,λk e=>?_,λk e=>?_,Z.later r,jg.refl _ _⟩
  ·have:=F k e;omega
  ·rcases e with e|e
   ·exact⟨.inl e,by omega⟩
   exact⟨.inr (.inl e),by omega⟩
  ·exact .inl (jci e HG.out.sz)
  refine⟨λq=>?_,?_⟩
  ·have:=Y k q;have:=F k q;omega
  omega
 have hd0:DkI (qcb 2 2):=DkI.new (by decide) (by decide) (by decide);have hmanyL:=qu7 s.data.toList
 have hsl:s.data.toList.length<=20000:=by rw[<-Lib.size_eq];exact X.out
 have I:=qym 5 (by decide) s X.out (a.heap.size+1+1) b (by omega) (RL.c 0);have HB:=hd2 D r;clear V C Y Z D r hbx RL
 refine qli rfl (by decide) (gf:=21) (lb:=#[PP (a.heap.size+1+1)]) rfl trivial (enters_of Tryz.func21 (by kernel_rfl) rfl) I (jcc _ _) (λ_=>rfl)
  (SsI b a.heap.size cb mb (a.heap.size+1) (λk=>k<w.heap.size\/k=a.heap.size) (λk=>k<w.heap.size\/k=a.heap.size\/k=b.heap.size\/k=b.heap.size+1))
  (λ_ _ ⟨_,_,_,_,_,h⟩=>h.gl) (λ_ _ _ ⟨j,d,G,H,J,h⟩ hb=>⟨j,d,G,H,J,h.later hb⟩) (λ_ _ o ⟨j,d,G,H,J,h⟩=>⟨j,d,G,H,J,h.puts (by simp) (by omega) o⟩) ⟨_,_,_,_,.nil,E⟩
  (λx=>{tmps:=#[.string s,undef,.string ⟨#[]⟩,PP a.heap.size,PP (a.heap.size+1),.string x,.string s,U s.size,.bool false,undef,undef,PP cb,.string s,.func (.func 21) #[] #[PP (a.heap.size+1+1)],.string x,undef,undef,undef,undef,undef,undef],defers:=[]})
  ?assign ?body ?done
 case assign=>
  intro l x W K u
  gi_wp2
  exact u
 case body=>
  rintro l pre x rest W L hsz2 ⟨j,d,G,H,m,f⟩;clear E I;obtain⟨hol,M⟩:=m.len hd0
  have hxl:x.size<=20000:=by
   have hm:x∈(qfq s.data.toList).map bya:=by rw[L];simp
   obtain⟨y,hy,rfl⟩:=jcz.1 hm;have:=hmanyL.2 y hy;rw[Lib.size_eq];show y.length<=20000;omega
  have hpl:pre.length<=20001:=by
   have:=congrArg List.length L;simp only[jdh,jcl,List.length_cons]at this;omega
  have hz:∀k,(k<w.heap.size\/k=a.heap.size\/k=b.heap.size\/k=b.heap.size+1)->k<W.heap.size:=λk e=>by omega
  have c0:=(RC.keeps f.kp (.inr rfl)).c 0;have AN:=f.answer M hxl;have p:=hd4 hol hpl m M;have v:=hd1 f;have HZ:=hd1 hz;clear m f L M hol hpl hz hmanyL
  gi_wp2_with (refine⟨trivial,?_⟩;gi_at_call 11;refine(CallsIn.inRound l (callsIn_wide.2 AN)).mono ?_;rintro e W3 ⟨told,rfl,Wd',N,hL⟩)
  obtain⟨G3,z,O⟩:=v.out.ans HZ.out hL;have tl:=N.len p.out.2.2.2;have hz3:=λk e=>jci (HZ.out k e) O.size;have WS:=qnq (bya told) W3 z.bl (by rw[Lib.size_eq];show d.length+told.length<=_;have:=p.out.1;have:=p.out.2.1;omega) (by have:=z.kp.size;omega);have H3:=hd2 N O;have HS3:=hd1 z;have HZ3:=hd1 hz3;clear N hL z O hz3 AN
  gi_wp2_with (refine⟨trivial,?_⟩;gi_at_call 10;refine(CallsIn.inRound l (callsIn_wide.2 WS)).mono ?_;rintro e W4 ⟨rfl,hL4⟩)
  obtain⟨H4,B,P⟩:=HS3.out.wrote HZ3.out hL4;have hz4:=λk e=>jci (HZ3.out k e) P.size;have WB:=qql 10 10 rfl W4 B.bl (by rw[jcl];show d.length+told.length+1<=_;have:=p.out.1;have:=p.out.2.1;omega) (by have:=B.kp.size;omega);have Q:=hd3 P B hz4;clear hL4 B P hz4 WS
  gi_wp2_with (refine⟨trivial,?_⟩;gi_at_call 12;refine(CallsIn.inRound l (callsIn_wide.2 WB)).mono ?_;rintro e W5 ⟨rfl,hL5⟩)
  obtain⟨H5,S5,K5⟩:=Q.out.2.1.wrote Q.out.2.2 hL5;have KA:=(H3.out.2.trans Q.out.1).trans K5;exact⟨⟨KA.block _ (by simp),KA.block _ (by simp)⟩,Wd',_,G3,H5,.snoc p.out.2.2.1 H3.out.1,S5⟩
 rintro W ⟨j,d,G,H,m,f⟩ u;have ST:=qqq W f.bl (by have:=f.kp.size;omega);have v:=hd2 f.kp m;clear E I f m
 gi_wp2_with (refine⟨trivial,?_⟩;gi_at_call 13;refine(callsIn_wide.2 ST).mono ?_;rintro e W6 ⟨rfl,hb6,hd6⟩)
 rw[sz0]at u;refine⟨by simp,.inl ⟨_,_,rfl,run_takeDeferred (hd6 _ _ u),?_⟩⟩;have t:=((HB.out.1.trans (HB.out.2.mono ls)).trans (v.out.1.below (λk R=>.inl R))).trans (hb6.mono ls);exact⟨_,results_tmp rfl _ _ _,d,rfl,⟨j,v.out.2⟩,t.os,t.tape,t.output,jcn t.size (by simp),λk R=>(World.putObj_heap_other (by omega)).trans (t.block k R)⟩
end
section
open Go.Shelf
def jen:Go.Shelf.Ren:=⟨λ|192=>44|190=>92|125=>133|258=>132|128=>194|129=>195|302=>185|303=>186|304=>187|305=>188|306=>189|307=>190|308=>191|309=>192|310=>193|333=>232|329=>233|330=>234|334=>235|335=>236|336=>237|344=>267|n=>n,λ|31=>42|0=>0|9=>9|3=>3|46=>190|51=>250|53=>192|4=>4|183=>244|182=>243|131=>93|5=>5|218=>289|222=>293|228=>327|229=>144|n=>n,λ|n=>n⟩
theorem jez:Go.Proofs.Lays.n192 Tryz.prog jen:=by constructor<;>intros<;>kernel_rfl
open Go.Sort Go.RowKit in
theorem jek (a c cap:Nat) (b:List (List UInt8)) (w:World) (d:Holds encStr w a c b.toArray) (f:a<w.heap.size) (g:b.length<4611686018427387904):
 Ca 44 #[.slice (some (AD a c)) b.length cap] w λe w'=>
  e=.returned (.tuple #[])/\∃n os,w'=grow (putRow encStr (Sort.ahead w n) a c (b.mergeSort λx y=>decide (x<=y)).toArray) os:=Any.sort_Strings jez a c cap b w d f g
end
open Go.RowKit
theorem qti (s:ByteArray) (c:20000<s.size) (h:s.size<=1000000) (w:World) (g:Gl w):
 Ca 5 #[.string s] w (Rn (.string (bya [101,114,114,111,114,32,52,10])) w):=by
 have a:=qq7 4 ⟨by decide,by decide⟩ w g
 have i:20000<(s.size:Int):=by omega
 have b:qgt 4=[101,114,114,111,114,32,52]:=by unfold qgt;simp[Lib.itoa,Lib.decDigits]
 rw[b]at a;have j:=λw=>qfi (P:=Tryz.prog) (bya [101,114,114,111,114,32,52]) ⟨#[10]⟩ (by decide) w
 have d:Hid (bya [101,114,114,111,114,32,52]++⟨#[10]⟩=bya [101,114,114,111,114,32,52,10]):=by
  show _=_;rw[show (⟨#[10]⟩:ByteArray)=bya [10]from rfl,jz];rfl
 clear c b g;go_enter Tryz.func5,Tryz.ntmps5
 go_wp2_with fail
 refine a.mono ?_;rintro e k ⟨rfl,f⟩
 go_wp2
 rw[d.out];go_ret;exact⟨rfl,f⟩
end Go.Proofs.YtoanjdndmlffdaaGreatDoor
