import Derived.Test.YtoanjdndmlffdaaGreatDoorSiteC
set_option maxHeartbeats 16000000
set_option maxRecDepth 100000
namespace Go.Proofs.YtoanjdndmlffdaaGreatDoor
open Go.RowKit
section
open Tryz
theorem q2h (w:World):Ca 118 #[] w λe w'=>e=.returned (PP w.heap.size)/\PSe w' w.heap.size (λk=>k=w.heap.size) qez/\Bw w w':=by
 go_enter func118,ntmps118
 go_wp2_with fail
 go_ret;exact⟨rfl,q9y _,boxed (jcc _ w) _⟩
variable {b:Nat} {G:Nat->Prop} {s:qy}
theorem qmk (w:World) (h:PSe w b G s):
 Ca 149 #[PP b] w (Rn (.bool s.opn) w):=by
 obtain⟨a,B,_⟩:=h;have d:=B.c 4;go_enter func149,ntmps149
 go_wp2_with fail
 go_ret;exact⟨rfl,jcc _ _⟩
theorem qm7 {f:Func} {tmps:Array Value} {w:World} {x0 x1 x2 x3:Int} (a:f.results=#[.cell 2 77]) (h:qd w b [U x0,U x1,U x2,U x3]) (d:tmps[2]?=some (PP b)):
 (results f tmps).run prog w=.ok (.agg #[U x0,U x1,U x2,U x3]) w:=by
 have e:=h.c 0;have g:=h.c 1;have i:=h.c 2;have j:=h.c 3;simp[results,a,go_sem,d,e,g,i,j]
theorem q00 (w:World) (h:PSe w b G s):
 Ca 147 #[PP b] w (Rn (.agg #[U s.p0,U s.p1,U s.p2,U s.p3]) w):=by
 obtain⟨a,B,_⟩:=h;have d:=B.c 0;have e:=B.c 1;have f:=B.c 2;have g:=B.c 3;have i:=B.lt;go_enter func147,ntmps147
 go_wp2_with fail
 exact bodyPost_ret (qm7 results147 (qd.new (w:=w) (T:=77) [U s.p0,U s.p1,U s.p2,U s.p3] rfl) rfl) rfl ⟨rfl,boxed (jcc _ w) _⟩
theorem qrq (w:World) (h:PSe w b G s):
 Ca 148 #[PP b] w (Rn (.agg #[U s.s0,U s.s1,U s.s2,U s.s3]) w):=by
 obtain⟨a,B,_⟩:=h;have d:=B.c 5;have e:=B.c 6;have f:=B.c 7;have g:=B.c 8;have i:=B.lt;go_enter func148,ntmps148
 go_wp2_with fail
 exact bodyPost_ret (qm7 results148 (qd.new (w:=w) (T:=77) [U s.s0,U s.s1,U s.s2,U s.s3] rfl) rfl) rfl ⟨rfl,boxed (jcc _ w) _⟩
theorem qom (w:World) (h:PSe w b G s):
 Ca 200 #[PP b] w λe w'=>e=.returned (.tuple #[])/\qc8 w b G (qc3 s) w':=by
 have i:=h.own;obtain⟨l,B,_⟩:=h;have j:=hd1 B;have f:Bw w w.drew:=(jcc _ w).drew;have d:=B.later f;go_enter func200,ntmps200
 go_wp2_with fail
 have m:=d.c 0;have n:=d.c 1;have o:=d.c 2;have p:=d.c 3;have q:=d.c 5;have r:=d.c 6;have t:=d.c 7;have u:=d.c 8
 go_region_law (refine je rfl 240 #[.agg #[U s.p0,U s.p1,U s.p2,U s.p3],.agg #[U s.s0,U s.s1,U s.s2,U s.s3]] (by go_simp) (qzz s.p0 s.p1 s.p2 s.p3 s.s0 s.s1 s.s2 s.s3 _) ?_
                rintro e v ⟨rfl,k⟩;refine⟨_,rfl,?_⟩;have g:=qa f k;have a:=j.out.later g;have x:=a.c 0;have y:=a.c 1;have z:=a.c 2;have C:=a.c 3;have D:=a.c 4;have E:=a.c 5;have F:=a.c 6;have H:=a.c 7;have I:=a.c 8;have J:=a.c 9;have K:=a.free 0 (by simp[yj]);have f1:=a.free 1 (by simp[yj]);have L:=a.free 2 (by simp[yj]);have M:=a.free 3 (by simp[yj]);have N:=a.free 4 (by simp[yj]);have O:=a.free 5 (by simp[yj]);have P:=a.free 6 (by simp[yj]);have Q:=a.free 7 (by simp[yj]);have R:=a.free 8 (by simp[yj])
                have S:=a.free 9 (by simp[yj]))
 all_goals
  go_wp2_with fail
  go_end0;exact⟨rfl,q8i i g a _ _ _ _⟩
theorem qw7 (w:World) (h:PSe w b G s):
 Ca 139 #[PP b] w λe w'=>e=.returned (jc (qi5 s))/\qc8 w b G (qhh s) w':=by
 have d:=hd1 h;obtain⟨j,B,_⟩:=h;have f:=B.c 4;cases ho:s.opn
 ·rw[ho]at f;have a:Hid (qi5 s=6/\qhh s=s):=⟨by unfold qi5;rw[ho];rfl,by unfold qhh;rw[ho];rfl⟩;go_enter func139,ntmps139
  go_wp2_with fail
  go_ret;refine⟨by rw[a.out.1];rfl,?_⟩;rw[a.out.2];exact qc8.same d.out (jcc _ _)
 rw[ho]at f;have a:Hid (qi5 s=0/\qhh s=qc3 s):=⟨by unfold qi5;rw[ho];rfl,by unfold qhh;rw[ho];rfl⟩;have g:=qom w d.out;go_enter func139,ntmps139
 go_wp2_with fail
 refine g.mono ?_;rintro e k ⟨rfl,i⟩
 go_wp2_with fail
 go_ret;refine⟨by rw[a.out.1];rfl,?_⟩;rw[a.out.2];exact i
theorem qyu {j:Nat} {o:Nat->Prop} {S:qe} (w:World) (h:PSe w b G s) (p:PS w j o S):
 Ca 145 #[PP b,PP j] w λe w'=>e=.returned (jc (qhl S s))/\qc8 w b G (qhd S s) w':=by
 have q:=h.own;have f:=hd2 h p;have y:=qb.one;have z:=@run_makeMap prog;obtain⟨C,B,_⟩:=h;have r:=hd1 B;have t:=hd1 B.lt;have k:=B.c 4;cases ho:s.opn
 ·rw[ho]at k;have D:=qb.cell (B.c 0);have l1:=qb.cell (B.c 1);have E:=qb.cell (B.c 2);have F:=qb.cell (B.c 3);have l:=hd1 ho;cases hc:qa8 S.a0 S.a1 S.a2 S.a3 s.p0 s.p1 s.p2 s.p3
  ·have g:=hd1 hc
   have d:Hid (qhl S s=10):=by show _=_;unfold qhl;rw[l.out,g.out];rfl
   go_enter func145,ntmps145
   go_wp2_with fail
   refine wrl ?_
   repeat (go_big_quiet_step (first|rfl|(go_at_call 143;with_reducible exact qg (qff _ (f.out.2.later (qb.below _))))|(go_at_call 205;with_reducible exact qg (qh3 g.out _))))
   refine wpQuiet_nil ?_;rintro w2 ⟨⟨_,i⟩,rfl⟩
   go_wp2_with fail
   go_ret;refine⟨by rw[d.out];rfl,?_⟩;rw[show qhd S s=s by unfold qhd;rw[if_neg (by rw[d.out];decide)]];exact qc8.same f.out.1 i
  have g:=hd1 hc
  have d:Hid (qhl S s=0):=by show _=_;unfold qhl;rw[l.out,g.out];rfl
  go_enter func145,ntmps145
  go_wp2_with fail
  refine wrl ?_
  repeat (go_big_quiet_step (first|rfl|(go_at_call 143;with_reducible exact qg (qff _ (f.out.2.later (qb.below _))))|(go_at_call 205;with_reducible exact qg (qh3 g.out _))))
  refine wpQuiet_nil ?_;rintro w2 ⟨⟨_,i⟩,rfl⟩;have u:=qff _ (f.out.2.later i)
  go_wp2_with fail
  refine u.mono ?_;rintro e v ⟨rfl,m⟩;have n:=boxed (qa i m) (.map #[] 0);have a:=r.out.later n;have H:=a.c 4;have I:=a.c 5;have J:=a.c 6;have K:=a.c 7;have L:=a.c 8;have M:=a.c 9;have N:=a.free 4 (by simp[yj]);have O:=a.free 5 (by simp[yj]);have P:=a.free 6 (by simp[yj]);have Q:=a.free 7 (by simp[yj]);have R:=a.free 8 (by simp[yj]);have T:=a.free 9 (by simp[yj]);have x:=(qa i m).size
  go_wp2_with fail
  go_ret;refine⟨by rw[d.out];rfl,?_⟩;rw[show qhd S s={s with opn:=true,s0:=S.a0,s1:=S.a1,s2:=S.a2,s3:=S.a3,ws:=[]} by unfold qhd;rw[if_pos d.out]];exact q37 q n a (qes.made v) x t.out S.a0 S.a1 S.a2 S.a3
 rw[ho]at k
 have d:Hid (qhl S s=6):=by show _=_;unfold qhl;rw[ho];rfl
 go_enter func145,ntmps145
 go_wp2_with fail
 go_ret;refine⟨by rw[d.out];rfl,?_⟩;rw[show qhd S s=s by unfold qhd;rw[if_neg (by rw[d.out];decide)]];exact qc8.same f.out.1 (jcc _ _)
end
section
theorem qut (l:List TxM):(zw l).length=l.length*9:=by
 induction l with
 |nil=>rfl
 |cons x l ih=>
  show (txC x++zw l).length=_;rw[jcl,ih];simp[txC];omega
theorem q51 (l:List TxM):∀u∈zw l,u.oneCell'=true:=by
 intro u a;obtain⟨x,_,b⟩:=List.mem_flatMap.1 a;exact qih x u b
theorem quv:∀(l:List TxM) (j:Nat) (u:Value),(zw l)[j]?=some u->∃m,l[j/9]?=some m/\(txC m)[j%9]?=some u
 |[],j,u,h=>by simp[zw]at h
 |x::l,j,u,h=>by
  have e:zw (x::l)=txC x++zw l:=rfl;rw[e]at h;have a:(txC x).length=9:=rfl;by_cases b:j<9
  ·rw[jc3 (by rw[a];exact b)]at h;exact⟨x,by rw[Nat.div_eq_of_lt b];rfl,by rw[Nat.mod_eq_of_lt b];exact h⟩
  rw[jc0 (by rw[a];omega),a]at h;obtain⟨m,d,f⟩:=quv l (j-9) u h;refine⟨m,?_,?_⟩
  ·rw[show j/9=(j-9)/9+1 by omega];simpa using d
  rw[show j%9=(j-9)%9 by omega];exact f
variable {l:List TxM}
theorem q5c {w:World} {a b:Nat} (h:∀i m r u,l[i]?=some m->(txC m)[r]?=some u->w.cell? (AD a (b+(i*9+r)))=some u):∀j u,(zw l)[j]?=some u->w.cell? (((AD a b):Addr).add j)=some u:=λj u d=>by
 obtain⟨m,e,f⟩:=quv l j u d
 have k:((AD a b):Addr).add j=(AD a (b+j)):=by unfold Addr.add;split<;>simp_all
 rw[k];have:=h (j/9) m (j%9) u e f;rw[show j/9*9+j%9=j by omega]at this;exact this
theorem qnv (w:World) (a:TypeId) (g n cap c:Nat) (b:n<=cap):(Builtin.append_ #[80,80] a #[.slice (PT g) n cap,.slice none 0 c]).run Tryz.prog w=.ok (.slice (PT g) n cap) w:=by
 simp[Builtin.append_,go_sem,Builtin.lenOf,Builtin.firstCells,b]
variable {g n c:Nat} {xs:List Value}
theorem qqd (w:World) (f:TypeId) {cap:Nat} (b:w.ownsRow 0 102 9 (.slice (PT g) n cap) n xs) {a:Option Addr} (m:qdy w a c l) (E:n+l.length<=2000):
 ∃g' d w',(Builtin.append_ #[80,80] f #[.slice (PT g) n cap,.slice a l.length c]).run Tryz.prog w=.ok (.slice (PT g') (n+l.length) d) w'/\
  w'.ownsRow 0 102 9 (.slice (PT g') (n+l.length) d) (n+l.length) (xs++zw l)/\w.grownBy w' (some g)/\(g'=g\/g'=w.heap.size)/\g'<w'.heap.size:=by
 obtain⟨o,hi,p,q,r⟩:=info_parts qpi;have s:=(b.lt g (by simp[Value.ownBlock])).2
 have t:n<=cap:=by
  rcases b.2 with ⟨h,_⟩|⟨F,G,cur,e,_,_,i,_⟩
  ·cases h
  injection e with _ _ e3;rw[e3];exact i
 cases a with
 |none=>
  have v:l=[]:=by
   rcases m.held with h|⟨_,_,h,_⟩
   ·exact h
   cases h
  subst v;refine⟨g,cap,w,qnv w f g n cap c t,?_,⟨rfl,rfl,rfl,jcd _,λ_ _ _=>rfl⟩,.inl rfl,s⟩;show w.ownsRow 0 _ 9 _ n (xs++[]);rw[jdx];exact b
 |some ad=>
  have x:∀j u,(zw l)[j]?=some u->w.cell? (ad.add j)=some u:=by
   rcases m.held with h|⟨H,I,h,y⟩
   ·subst h;intro j u z;simp[zw]at z
   injection h with h;subst h;exact q5c y
  obtain⟨v',w',B,k,i,C,D⟩:=run_append_own_at (P:=Tryz.prog) w 0 80 f 102 o (.agg ZA) 9 88 Tryz.underlying80 hi p q r rfl (by decide) (.slice (PT g) n cap) n xs b ad l.length c (zw l) (qut l) x (q51 l) (by simp only[maxLen];omega) (by omega) (jcw _);rcases k.2 with ⟨e,_⟩|⟨g',d,cur,rfl,_,_⟩
  ·have:=(C.1 e).1;cases this
  refine⟨g',d,w',B,k,i,?_,(k.lt g' (by simp[Value.ownBlock])).2⟩;rcases D with h|h
  ·exact .inl (by simpa[Value.ownBlock]using h)
  exact .inr (by simpa[Value.ownBlock]using h)
theorem vt {d:Array Oper} {o:Oper} {a:Act} {K:Act->World->Prop} {Q:Exit->Act->World->Prop} {E:Prop} (w:World) (e:o.guard=none) (s x:Operand) (f:o.op=.call {callee:=.builtin .append,args:=#[s,x],argTypes:=#[80,80]})
 {cap:Nat} (i:a.eval s=.slice (PT g) n cap) (j:w.ownsRow 0 102 9 (.slice (PT g) n cap) n xs) {sa:Option Addr} (k:a.eval x=.slice sa l.length c) (m:qdy w sa c l) (p:n+l.length<=2000)
 (h:∀g' b w',w'.ownsRow 0 102 9 (.slice (PT g') (n+l.length) b) (n+l.length) (xs++zw l)->w.grownBy w' (some g)->(g'=g\/g'=w.heap.size)->g'<w'.heap.size->K (a.put o.dst (.slice (PT g') (n+l.length) b)) w'):
 if Region.wanted o (yielded d a.tmps)=true then Oper.wp Tryz.prog o a w K Q else E:=by
 have q:Region.wanted o (yielded d a.tmps)=true:=by simp[Region.wanted,e]
 rw[if_pos q];obtain⟨g',b,w',r,t,u,v,y⟩:=qqd w o.type j m p;unfold Oper.wp execOp;simp only[f,resolve,invoke,builtin,Sem.run_bind,Sem.run_pure,Result.andThen_ok,List.map_toArray,List.map_cons,List.map_nil,i,k,r];exact h g' b w' t u v y
end
section
theorem qh4 (w:World) {n:Nat} (T:TypeId) (a:w.heap.size=n):(w.alloc (.cells #[] T)).ownsRow 0 T 9 (.slice (PT n) 0 0) 0 []:=by
 subst a;exact⟨rfl,.inr ⟨w.heap.size,0,#[],rfl,jcw _,heap_alloc_new w (.cells #[] T),jcd _,by decide,rfl,rfl⟩⟩
variable {w:World}
theorem qdy.one {M:Nat} {m:TxM} (h:qd w M (txC m)):qdy w (PT M) 1 [m]:=by
 refine⟨jcd _,by omega,.inr ⟨M,0,rfl,λi x r u hi a=>?_⟩⟩
 have b:i=0:=by
  have:=(jck.1 hi).1;simp at this;exact this
 subst b;simp at hi;subst hi;simpa using h.cell r u a
variable {wb c:Nat} {l:List TxM}
theorem qdy.take {b:Nat} (h:qdy w (some (AD wb b)) c l) (k:Nat) (o:k<=l.length):qdy w (some (AD wb b)) c (l.take k):=by
 refine⟨by rw[jc5];have:=h.len;omega,h.cap,?_⟩;rcases h.held with d|⟨f,g,e,j⟩
 ·exact .inl (by rw[d];simp)
 refine .inr ⟨f,g,e,λi m r u a n=>j i m r u ?_ n⟩;rw[List.getElem?_take]at a;split at a
 ·exact a
 cases a
theorem qdy.drop {a:Nat} (h:qdy w (some (AD wb a)) c l) (k:Nat) (j:k<=l.length):qdy w (some (AD wb (a+k*9))) (c-k) (l.drop k):=by
 refine⟨by rw[jdt];have:=h.len;omega,by have:=h.cap;omega,?_⟩;rcases h.held with d|⟨n,o,e,f⟩
 ·exact .inl (by rw[d];simp)
 injection e with e;injection e with e1 e2;subst e1 e2;refine .inr ⟨_,_,rfl,λi m r u b g=>?_⟩;rw[List.getElem?_drop]at b;have:=f (k+i) m r u b g;rw[show a+k*9+(i*9+r)=a+((k+i)*9+r) by omega];exact this
theorem qjs (l a:List TxM):zw (l++a)=zw l++zw a:=by simp[zw]
end
theorem qtk {b:Nat} {G:Nat->Prop} {S:qe} (now j o q r:Int) {a:Option Addr} {cap:Nat} {ws:List Wr} (w:World) (h:PS w b G S) (hI:j3 S) (hW:qr w a cap ws) (hX:∀k off,ws≠[]->a=some (AD k off)->¬G k):
 Ca 206 #[PP b,U now,.agg #[U j,U o,U q,U r],.slice a ws.length cap] w (qsw w b G S now j o q r ws):=by
 have u:=(qo.new w 77 j o q r).boxed (.cells ZA 102);have d:qd ((w.alloc (.cells #[U j,U o,U q,U r] 77)).alloc (.cells ZA 102)) (w.heap.size+1) txZ:=qd.new (w:=w.alloc (.cells #[U j,U o,U q,U r] 77)) (T:=102) (n:=w.heap.size+1) ZL (by simp);have f:=boxed (boxed (jcc _ w) (.cells #[U j,U o,U q,U r] 77)) (.cells ZA 102);have WI:=hW.later f;have Y:=hd1 h;have HW:=hd1 hW;have HX:=hd1 hX;have HI:=hd1 hI
 have Z:w.heap.size<=w.heap.size+1:=by omega
 have P:=hI.id0;have Q:=hI.id3
 have aa:Hid (∀(w9:World) (ev:Int),qfl S now j o q r ws=ev->ev≠0->Bw w w9->Hid (qsw w b G S now j o q r ws (.returned (.tuple #[txV tx0,jc ev])) w9)):=λw9 ev h1 h2 h3=>by
  refine⟨tx0,G,by rw[h1],?_,⟨⟨jcd _,by decide,.inl rfl⟩,?_,λk R=>.inl R,qc.ofBelow h3,λk R=>absurd rfl R.1⟩⟩
  ·unfold qha;rw[if_neg (by rw[h1];exact h2)];rfl
  unfold qf3;rw[if_neg (by rw[h1];exact h2)];exact Y.out.later h3
 go_enter Tryz.func206,Tryz.ntmps206
 go_wp2_with fail
 refine(qog WI).mono ?_;rintro e w1 ⟨rfl,hb1⟩;replace u:=u.later hb1;replace d:=d.later hb1;replace f:=qa f hb1;cases hok:qad ws
 ·have E:Hid (qfl S now j o q r ws=1):=by show ji _ _ _ _ _ _ _ _=1;unfold ji;rw[if_pos hok]
  have r0:=d.c 0;have p0:=d.free 0 (by simp[txZ]);have r1:=d.c 1;have p1:=d.free 1 (by simp[txZ]);have r2:=d.c 2;have p2:=d.free 2 (by simp[txZ]);have r3:=d.c 3;have p3:=d.free 3 (by simp[txZ]);have r4:=d.c 4;have p4:=d.free 4 (by simp[txZ]);have r5:=d.c 5;have p5:=d.free 5 (by simp[txZ]);have r6:=d.c 6;have p6:=d.free 6 (by simp[txZ]);have r7:=d.c 7;have p7:=d.free 7 (by simp[txZ]);have r8:=d.c 8;have p8:=d.free 8 (by simp[txZ]);have B:=yz d rfl 0 0 0 0 0 0 0 0 (.slice none 0 0);have J:=qd9 f Z 0 0 0 0 0 0 0 0 (.slice none 0 0);have z:=aa.out _ 1 E.out (by decide) J
  go_wp2_with fail
  exact bodyPost_ret (qba (m:=tx0) (ev:=jc 1) B rfl rfl) rfl z.out
 have HOK:=hd1 hok;obtain⟨lv,bm,F,log,waits,PM,hl,hw,hG⟩:=Y.out.later f;have K:=hd3 hl hw hG
 have hll:log.length=S.log.length:=by rw[<-hl];simp
 have M1:=hd1 PM;have c0:=qb.cell u.c0;have c1:=qb.cell u.c1;have c2:=qb.cell u.c2;have c3:=qb.cell u.c3;have k1:=qb.cell (M1.out.box.c 1);have k2:=qb.cell (M1.out.box.c 2);have k3:=qb.cell (M1.out.box.c 3);have k4:=qb.cell (M1.out.box.c 4);cases hv:jb j o q r
 ·have M:=hd1 hv
  have E:Hid (qfl S now j o q r ws=10):=by show ji _ _ _ _ _ _ _ _=10;unfold ji;rw[if_neg (by rw[HOK.out];decide),if_pos hv]
  go_wp2_with fail
  refine wrl ?_
  repeat (go_big_quiet_step (first|rfl|(go_at_call 203;with_reducible exact qg (qh7 M.out _))))
  refine wpQuiet_nil ?_;rintro w2 ⟨⟨_,I⟩,rfl⟩;replace d:=d.later I;replace f:=qa f I;have r0:=d.c 0;have p0:=d.free 0 (by simp[txZ]);have r1:=d.c 1;have p1:=d.free 1 (by simp[txZ]);have r2:=d.c 2;have p2:=d.free 2 (by simp[txZ]);have r3:=d.c 3;have p3:=d.free 3 (by simp[txZ]);have r4:=d.c 4;have p4:=d.free 4 (by simp[txZ]);have r5:=d.c 5;have p5:=d.free 5 (by simp[txZ]);have r6:=d.c 6;have p6:=d.free 6 (by simp[txZ]);have r7:=d.c 7;have p7:=d.free 7 (by simp[txZ]);have r8:=d.c 8;have p8:=d.free 8 (by simp[txZ]);have B:=yz d rfl 0 0 0 0 0 0 0 0 (.slice none 0 0);have J:=qd9 f Z 0 0 0 0 0 0 0 0 (.slice none 0 0);have z:=aa.out _ 10 E.out (by decide) J
  go_wp2_with fail
  exact bodyPost_ret (qba (m:=tx0) (ev:=jc 10) B rfl rfl) rfl z.out
 have M:=hd1 hv;cases hc:qa8 S.a0 S.a1 S.a2 S.a3 j o q r
 ·have HC:=hd1 hc
  have E:Hid (qfl S now j o q r ws=10):=by show ji _ _ _ _ _ _ _ _=10;unfold ji;rw[if_neg (by rw[HOK.out];decide),if_neg (by rw[M.out];decide),if_pos hc]
  go_wp2_with fail
  refine wrl ?_
  repeat (go_big_quiet_step (first|rfl|(go_at_call 203;with_reducible exact qg (qh7 M.out _))|(go_at_call 205;with_reducible exact qg (qh3 HC.out _))))
  refine wpQuiet_nil ?_;rintro w2 ⟨⟨_,I⟩,rfl⟩;replace d:=d.later I;replace f:=qa f I;have r0:=d.c 0;have p0:=d.free 0 (by simp[txZ]);have r1:=d.c 1;have p1:=d.free 1 (by simp[txZ]);have r2:=d.c 2;have p2:=d.free 2 (by simp[txZ]);have r3:=d.c 3;have p3:=d.free 3 (by simp[txZ]);have r4:=d.c 4;have p4:=d.free 4 (by simp[txZ]);have r5:=d.c 5;have p5:=d.free 5 (by simp[txZ]);have r6:=d.c 6;have p6:=d.free 6 (by simp[txZ]);have r7:=d.c 7;have p7:=d.free 7 (by simp[txZ]);have r8:=d.c 8;have p8:=d.free 8 (by simp[txZ]);have B:=yz d rfl 0 0 0 0 0 0 0 0 (.slice none 0 0);have J:=qd9 f Z 0 0 0 0 0 0 0 0 (.slice none 0 0);have z:=aa.out _ 10 E.out (by decide) J
  go_wp2_with fail
  exact bodyPost_ret (qba (m:=tx0) (ev:=jc 10) B rfl rfl) rfl z.out
 have HC:=hd1 hc
 go_wp2_with fail
 refine wrl ?_
 repeat (go_big_quiet_step (first|rfl|(go_at_call 203;with_reducible exact qg (qh7 M.out _))|(go_at_call 205;with_reducible exact qg (qh3 HC.out _))))
 refine wpQuiet_nil ?_;rintro w2 ⟨⟨_,I⟩,rfl⟩;replace d:=d.later I;replace u:=u.later I;replace f:=qa f I;have M2:=hd1 (M1.out.later I);by_cases L:200<=log.length
 ·have E:Hid (qfl S now j o q r ws=12):=by show ji _ _ _ _ _ _ _ _=12;unfold ji;rw[if_neg (by rw[HOK.out];decide),if_neg (by rw[M.out];decide),if_neg (by rw[HC.out];decide),if_pos (by omega)]
  have IF:=qe0 (decide_eq_true L) w2 M2.out
  go_wp2_with fail
  refine IF.mono ?_;rintro e w3 ⟨rfl,N⟩;replace d:=d.later N;replace f:=qa f N;have r0:=d.c 0;have p0:=d.free 0 (by simp[txZ]);have r1:=d.c 1;have p1:=d.free 1 (by simp[txZ]);have r2:=d.c 2;have p2:=d.free 2 (by simp[txZ]);have r3:=d.c 3;have p3:=d.free 3 (by simp[txZ]);have r4:=d.c 4;have p4:=d.free 4 (by simp[txZ]);have r5:=d.c 5;have p5:=d.free 5 (by simp[txZ]);have r6:=d.c 6;have p6:=d.free 6 (by simp[txZ]);have r7:=d.c 7;have p7:=d.free 7 (by simp[txZ]);have r8:=d.c 8;have p8:=d.free 8 (by simp[txZ]);have B:=yz d rfl 0 0 0 0 0 0 0 0 (.slice none 0 0);have J:=qd9 f Z 0 0 0 0 0 0 0 0 (.slice none 0 0);have z:=aa.out _ 12 E.out (by decide) J
  go_wp2_with fail
  exact bodyPost_ret (qba (m:=tx0) (ev:=jc 12) B rfl rfl) rfl z.out
 have IF:=qe0 (decide_eq_false L) w2 M2.out;obtain⟨⟨s,t,V⟩,hnx⟩:∃x,qcp S.lw S.lc now=x:=⟨_,rfl⟩
 have HN:Hid (qfl S now j o q r ws=V):=by show ji _ _ _ _ _ _ _ _=V;unfold ji;rw[if_neg (by rw[HOK.out];decide),if_neg (by rw[M.out];decide),if_neg (by rw[HC.out];decide),if_neg (by omega),hnx]
 have HNX:=hd1 hnx
 have HF:Hid (S.log.length<200):=by show _<_;omega
 go_wp2_with fail
 refine IF.mono ?_;rintro e w3 ⟨rfl,N⟩;replace d:=d.later N;replace u:=u.later N;replace f:=qa f N;have M3:=hd1 (M2.out.later N);have k5:=M3.out.box.c 5;have k6:=M3.out.box.c 6
 go_wp2_with fail
 refine(q62 HNX.out _).mono ?_;rintro e w4 ⟨rfl,hb4⟩;have HSZ:=hd1 ((d.later hb4).lt);replace d:=(d.later hb4).boxed (.cells #[U s,U t] 79);replace u:=(u.later hb4).boxed (.cells #[U s,U t] 79);replace f:=boxed (qa f hb4) (.cells #[U s,U t] 79);have RS:=qd.new (w:=w4) (T:=79) [U s,U t] rfl;have M4:Hid (zf (w4.alloc (.cells #[U s,U t] 79)) b lv bm F S log waits):=M3.out.later (boxed hb4 _);by_cases hne:V=0
 rotate_left
 ·have ee:jc V=.iface 26 (U V):=by unfold jc;rw[if_neg hne]
  rw[ee];have HEE:=hd1 ee;have r0:=d.c 0;have p0:=d.free 0 (by simp[txZ]);have r1:=d.c 1;have p1:=d.free 1 (by simp[txZ]);have r2:=d.c 2;have p2:=d.free 2 (by simp[txZ]);have r3:=d.c 3;have p3:=d.free 3 (by simp[txZ]);have r4:=d.c 4;have p4:=d.free 4 (by simp[txZ]);have r5:=d.c 5;have p5:=d.free 5 (by simp[txZ]);have r6:=d.c 6;have p6:=d.free 6 (by simp[txZ]);have r7:=d.c 7;have p7:=d.free 7 (by simp[txZ]);have r8:=d.c 8;have p8:=d.free 8 (by simp[txZ]);have B:=yz d rfl 0 0 0 0 0 0 0 0 (.slice none 0 0);have J:=qd9 f Z 0 0 0 0 0 0 0 0 (.slice none 0 0);have z:=aa.out _ V HN.out hne J;rw[HEE.out]at z
  go_wp2_with fail
  exact bodyPost_ret (qba (m:=tx0) B rfl rfl) rfl z.out
 subst hne;rw[show jc 0=.nilIface from rfl];obtain⟨D,hD⟩:∃D,qp S.id S.a0 S.a1 S.a2 S.a3=D:=⟨_,rfl⟩;have hd:=HI.out.dep S.id;rw[hD]at hd;have hwr:=qd1 hd
 have HCT0:zv S now j o q r ws=⟨S.id,D+1,s,t,qch S.id D j,qcl S.id D o,qck S.id D q,qcj S.id D r,ws⟩:=by unfold zv;rw[hD,HNX.out]
 obtain⟨CI,w15,HF2,ho⟩:=qpk HI.out HN.out;have HL5:=hd2 w15 HF2
 go_wp2_with fail
 obtain⟨W4,hW4⟩:∃W4,w4.alloc (.cells #[U s,U t] 79)=W4:=⟨_,rfl⟩;rw[hW4]at d u f RS M4 ⊢;have k0:=M4.out.box.c 0;have ks:=M4.out.box.cell _ _ (qmz P Q);rw[hD]at ks;have v1:=qk9 u P Q;have v2:=qwc u P Q
 have hi4:S.id<4:=by omega
 have HD:=hd1 hD;have HGS:=hd1 Y.out.lt
 have nb:b≠w.heap.size:=by have:=HGS.out b ((K.out.2.2 b).2 (.inl (.inl rfl)));omega
 go_region
 have O:=(q0b u P Q D).drew;have RT5:=(d.far (AD w.heap.size S.id.toNat) (U D) (by simp)).drew;have RS5:=(RS.far (AD w.heap.size S.id.toNat) (U D) (by have:=HSZ.out;simp only;omega)).drew;have hb5:=(f.setCell (p:=AD w.heap.size S.id.toNat) (jcd _) (U D)).drew;have P5:=hd1 (Y.out.later hb5);obtain⟨g,hW5⟩:∃g,(W4.setCell (AD w.heap.size S.id.toNat) (U D)).drew=g:=⟨_,rfl⟩;rw[hW5]at O RT5 RS5 hb5 P5 ⊢;obtain⟨C,he0⟩:∃x,qch S.id D j=x:=⟨_,rfl⟩;obtain⟨v,he1⟩:∃x,qcl S.id D o=x:=⟨_,rfl⟩;obtain⟨y,he2⟩:∃x,qck S.id D q=x:=⟨_,rfl⟩;obtain⟨H,he3⟩:∃x,qcj S.id D r=x:=⟨_,rfl⟩;rw[he0,he1,he2,he3]at O HCT0;have HCT:=hd1 HCT0
 have M5:Hid (zf g b lv bm F S log waits):=by
  have hbb:Bw W4 W4:=jcc _ _
  have:=M4.out.kept (w':=g) (λk R=>by
   rw[<-hW5];have hkk:=HGS.out k ((K.out.2.2 k).2 R)
   exact jce _ _ _ _ (by simp only;omega)) (by rw[<-hW5];simp[World.setCell,World.drew])
  exact this
 have k0:=M5.out.box.c 0;have ks:=M5.out.box.cell _ _ (qmz P Q);rw[HD.out]at ks;have y0:=RS5.c 0;have y1:=RS5.c 1;have v0:=O.c0;have v1:=O.c1;have v2:=O.c2;have v3:=O.c3;have l1:=M5.out.box.lt;have l2:=RS5.lt;have l3:=O.lt;have Y0:=λ(w':World) (h:Bw g w')=>cell_later h k0;have Y1:=λ(w':World) (h:Bw g w')=>cell_later h ks;have Y2:=λ(w':World) (h:Bw g w')=>cell_later h y0;have Y3:=λ(w':World) (h:Bw g w')=>cell_later h y1;have Y4:=λ(w':World) (h:Bw g w')=>cell_later h v0;have Y5:=λ(w':World) (h:Bw g w')=>cell_later h v1;have Y6:=λ(w':World) (h:Bw g w')=>cell_later h v2;have Y7:=λ(w':World) (h:Bw g w')=>cell_later h v3;have hb50:=(jcc g.heap.size g).drew
 go_wp2_with fail
 go_region_held3 (λw'=>Bw g w') (repeat (first|(with_reducible assumption)|(with_reducible exact jcc _ _)|(with_reducible refine boxed ?_ _)|(with_reducible refine jc6 ?_)|(refine jdz ?_ (jcd _) _))) (fail)
 have hw2:IntKind.i64.wrap (D+1)=D+1:=by rw[<-qd1 hd];unfold wrap64 IntKind.wrap;simp[IntKind.signed,IntKind.bits];omega
 all_goals
  rw[hw2];have hx6:=boxed (jcc _ g) (.cells (List.toArray (T9 S.id (D+1) s t C v y H a ws.length cap)) 102);have RX6:=(qd.new (w:=g) (T:=102) (T9 S.id (D+1) s t C v y H a ws.length cap) rfl).drew;change qd (g.alloc (.cells (List.toArray (T9 S.id (D+1) s t C v y H a ws.length cap)) 102)).drew g.heap.size (T9 S.id (D+1) s t C v y H a ws.length cap)at RX6;have RT6:=(RT5.later hx6).drew;have hb6:=(qa hb5 hx6).drew;have M6:=hd1 ((M5.out.later hx6).later (jcc _ _).drew);have HS6:=hd2 RT5.lt RX6.lt;obtain⟨W6,hW6⟩:∃W6,(g.alloc (.cells (List.toArray (T9 S.id (D+1) s t C v y H a ws.length cap)) 102)).drew=W6:=⟨_,rfl⟩;rw[hW6]at RX6 RT6 hb6 M6 HS6 ⊢;obtain⟨x0,x1,x2,x3,x4,x5,x6,x7,x8⟩:=RX6.c9;have CP:=qgq ⟨⟨S.id,D+1,s,t,C,v,y,H,ws⟩,a,cap⟩ W6 (HW.out.later hb6) HL5.out.1 (by have:=HL5.out;simp only;omega);simp only[txV]at CP
  have HLL:Hid (log.length=S.log.length):=by show _=_;rw[<-K.out.1];simp
  go_wp2_with fail
  refine CP.mono ?_;rintro e w7 ⟨m1,W,rfl,W71,hk1,hb7⟩;have HM1:=hd3 W W71 hk1
  have AP:=qr3 m1 w7 (M6.out.later hb7) ⟨W71,λk e L=>by
   have q1:=hk1 k e;have q2:=M6.out.lt k L
   omega⟩ (by rw[W];exact P) (by rw[W];exact Q) (by rw[W];have q1:=HI.out.len;have q2:=HF.out;have q3:=HL5.out;show S.l.length+ws.length<=1000;omega) (by have q1:=HLL.out;have q2:=HF.out;omega)
  have RX7:=RX6.later hb7;have RT7:=RT6.later hb7;have HB7:=hd2 (qa hb6 hb7) hb7.size;obtain⟨t1,wa1,wc1⟩:=m1;simp only at W;subst W
  go_wp2_with fail
  refine AP.mono ?_;rintro e w8 ⟨rfl,lv',F',PM8,nf8,X⟩
  have nfx:∀k,w.heap.size<=k->¬jn b lv bm F k:=λk R L=>by
   have:=HGS.out k ((K.out.2.2 k).2 (.inl L));omega
  have RX8:=RX7.kept (X.block _ RX7.lt (nfx _ (by have:=HS6.out;omega))) X.size;have RT8:=RT7.kept (X.block _ RT7.lt (nfx _ (by omega))) X.size
  have W8:qr w8 a cap ws:=qr.kept (m:=⟨⟨S.id,D+1,s,t,C,v,y,H,ws⟩,a,cap⟩) (w:=w7) (HW.out.later HB7.out.1) (λk e=>X.block k (qr.blk_lt (m:=⟨⟨S.id,D+1,s,t,C,v,y,H,ws⟩,a,cap⟩) (HW.out.later HB7.out.1) k e) (λL=>by
   obtain⟨v,off,y⟩:=e
   exact HX.out k off v y ((K.out.2.2 k).2 (.inl L))))
  have HQ8:=hd3 PM8 nf8 X;have CP2:=qgq ⟨⟨S.id,D+1,s,t,C,v,y,H,ws⟩,a,cap⟩ w8 W8 HL5.out.1 (by have:=HL5.out;simp only;omega);simp only[txV]at CP2;obtain⟨x0,x1,x2,x3,x4,x5,x6,x7,x8⟩:=RX8.c9
  go_wp2_with fail
  refine CP2.mono ?_;rintro e w9 ⟨m2,hm2,rfl,W92,hk2,hb9⟩;obtain⟨t2,wa2,wc2⟩:=m2;simp only at hm2 W92;subst hm2;have i:=RT8.later hb9;have z:=qzm (wa2:=wa2) (wc2:=wc2) Y.out HB7.out.1 (by have:=HS6.out;have:=HB7.out.2;omega) HQ8.out.1 HQ8.out.2.1 HQ8.out.2.2 (λk e=>by have:=HM1.out.2.2 k e;have:=HS6.out;omega) K.out.1 K.out.2.1 K.out.2.2 hb9 W92 (λk e=>⟨by have:=hk2 k e;have:=HS6.out;have:=HB7.out.2;have:=HQ8.out.2.2.size;omega,hk2 k e⟩) (by rw[HCT.out]) HN.out;simp only[txV];have r0:=i.c 0;have p0:=i.free 0 (by simp[txZ]);have r1:=i.c 1;have p1:=i.free 1 (by simp[txZ]);have r2:=i.c 2;have p2:=i.free 2 (by simp[txZ]);have r3:=i.c 3;have p3:=i.free 3 (by simp[txZ]);have r4:=i.c 4;have p4:=i.free 4 (by simp[txZ]);have r5:=i.c 5;have p5:=i.free 5 (by simp[txZ]);have r6:=i.c 6;have p6:=i.free 6 (by simp[txZ]);have r7:=i.c 7;have p7:=i.free 7 (by simp[txZ]);have r8:=i.c 8;have p8:=i.free 8 (by simp[txZ]);have B:=yz i rfl S.id (D+1) s t C v y H (.slice wa2 ws.length wc2)
  go_wp2_with fail
  exact bodyPost_ret (qba (m:=⟨⟨S.id,D+1,s,t,C,v,y,H,ws⟩,wa2,wc2⟩) B rfl rfl) rfl z.out
theorem qq1 {b so:Nat} {F:Nat->Prop} {l:List Hd} (key a0 a1 a2 a3:Int) (w:World) (hS:qir w b so F l) (hl:l.length<=1000) (ha:qfk l) (ho:∀h∈l,qau h.v=true):
 Ca 259 #[.pointer (some (AD b so)),U key,.agg #[U a0,U a1,U a2,U a3]] w λe w'=>e=.returned (.tuple #[.agg (qh (zz key a0 a1 a2 a3 l).1).toArray,jc (zz key a0 a1 a2 a3 l).2])/\Bw w w':=by
 have RA:=(qd.new (w:=w) (T:=77) [U a0,U a1,U a2,U a3] rfl).boxed (.cells YA 130);have s:=qd.new (w:=w.alloc (.cells #[U a0,U a1,U a2,U a3] 77)) (T:=130) (n:=w.heap.size+1) (qh jq) (by simp);change qd ((w.alloc (.cells #[U a0,U a1,U a2,U a3] 77)).alloc (.cells YA 130)) (w.heap.size+1) (qh jq)at s;have t:=boxed (boxed (jcc _ w) (.cells #[U a0,U a1,U a2,U a3] 77)) (.cells YA 130);obtain⟨W,N⟩:∃W,(w.alloc (.cells #[U a0,U a1,U a2,U a3] 77)).alloc (.cells YA 130)=W:=⟨_,rfl⟩;obtain⟨r0,r1,r2,r3,r4,r5⟩:=s.c6;have f0:=s.free 0 (by simp[qh]);have f1:=s.free 1 (by simp[qh]);have f2:=s.free 2 (by simp[qh]);have f3:=s.free 3 (by simp[qh]);have f4:=s.free 4 (by simp[qh]);have f5:=s.free 5 (by simp[qh]);cases h:inB key 0 7
 ·have H:=hd1 h
  have G:Hid (zz key a0 a1 a2 a3 l=(jq,2)):=by show zz key a0 a1 a2 a3 l=_;unfold zz;rw[h];rfl
  clear h;rw[N]at r0 r1 r2 r3 r4 r5 f0 f1 f2 f3 f4 f5;go_enter Tryz.func259,Tryz.ntmps259
  go_wp2_with fail
  rw[N]at RA s t;clear N;refine(qj4 H.out _).mono ?_;rintro e d ⟨rfl,rfl⟩
  go_wp2_with fail
  rw[G.out];refine bodyPost_ret (qa2 (v:=jq) (s.verSet jq) rfl rfl) rfl ⟨rfl,jp t (by omega) jq⟩
 have hk:=jk.1 h;obtain⟨k,rfl⟩:∃k:Nat,key=(k:Int):=⟨key.toNat,by omega⟩
 have O:k<8:=by omega
 have hkz:(k:Int)<8:=by omega
 obtain⟨vs,B,R,PH,hF⟩:=id hS;obtain⟨a,cap,hvk,hV⟩:=qfo (R.own k O);have hlk:=jcn (PH.len O) hl;have H:=hd1 h;have LB:=PH.qlast R ha O a0 a1 a2 a3;obtain⟨K,hbest⟩:∃K,qdi a0 a1 a2 a3 (B k)=K:=⟨_,rfl⟩
 have G:Hid (zz k a0 a1 a2 a3 l=qjj K):=by show zz k a0 a1 a2 a3 l=_;unfold zz;rw[h,LB,hbest];rfl
 have LA:=qwf a0 a1 a2 a3 (L:=B k) (a:=a) (cap:=cap);rw[hbest]at LA;have st:=PH.sites ho O;have R1:=R.later t;have V1:=hV.later t
 have k0:((w.alloc (.cells #[U a0,U a1,U a2,U a3] 77)).alloc (.cells YA 130)).cell? (AD b (so+k))=some (.slice a (B k).length cap):=by rw[<-hvk];exact R1.cell O
 obtain⟨q0,q1,q2,q3⟩:=RA.c4;rw[N]at r0 r1 r2 r3 r4 r5 f0 f1 f2 f3 f4 f5 k0 q0 q1 q2 q3 RA s t R1 V1;have BE:=hd1 hbest;have M:Hid (∀x:qb W,Ca 260 #[.slice a (B k).length cap,.agg #[U a0,U a1,U a2,U a3]] x.val λe w'=>e=.returned (.tuple #[.agg (qa6 K).toArray,.bool (qga K)])/\Below x.val.heap.size x.val w'):=λx=>LA x.val (V1.later x.below) st hlk;clear h hk LB hbest LA st;go_enter Tryz.func259,Tryz.ntmps259
 go_wp2_with fail
 clear N;refine(qj4 H.out _).mono ?_;rintro e d ⟨rfl,rfl⟩;cases K with
 |none=>
  have I:Hid (∀x:qb d,Ca 260 #[.slice a (B k).length cap,.agg #[U a0,U a1,U a2,U a3]] x.val λe w'=>e=.returned (.tuple #[.agg YA,.bool false])/\Below x.val.heap.size x.val w'):=M.out;clear M;have q:=boxed (jcc _ d) (.cells YA 130);have p0:=cell_later q q0;have p1:=cell_later q q1;have p2:=cell_later q q2;have p3:=cell_later q q3;have p4:=cell_later q k0;clear q
  go_wp2_with fail
  go_region_law (first
   |(refine je rfl 260 #[.slice a (B k).length cap,.agg #[U a0,U a1,U a2,U a3]] (by go_simp) (I.out ⟨d.drew,(jcc _ d).drew⟩) ?_
     rintro e C ⟨rfl,J⟩;refine⟨_,rfl,?_⟩;have P:=hd1 (qa (jcc _ d).drew J)
     clear J)
   |(refine je rfl 260 #[.slice a (B k).length cap,.agg #[U a0,U a1,U a2,U a3]] (by go_simp) (I.out ⟨(d.alloc (.cells YA 130)).drew,(boxed (jcc _ d) _).drew⟩) ?_
     rintro e Q ⟨rfl,f⟩;refine⟨_,rfl,?_⟩;have S:=hd1 (qa (boxed (jcc _ d) _).drew f);have p:=((qd.new (w:=d) (T:=130) (qh jq) rfl).drew).later f;obtain⟨V,X,Y,Z,z4,z5⟩:=p.c6;have y0:=p.free 0 (by simp[qh]);have y1:=p.free 1 (by simp[qh]);have y2:=p.free 2 (by simp[qh]);have y3:=p.free 3 (by simp[qh]);have y4:=p.free 4 (by simp[qh]);have y5:=p.free 5 (by simp[qh])
     clear f))
  all_goals first
   |(have f:=boxed P.out (.cells YA 130)
     have r:=qd.new (w:=C) (T:=130) (qh jq) rfl;change qd (C.alloc (.cells YA 130)) C.heap.size (qh jq)at r;have c:=s.later f;obtain⟨s0,s1,s2,s3,s4,s5⟩:=c.c6;have g0:=c.free 0 (by simp[qh]);have g1:=c.free 1 (by simp[qh]);have g2:=c.free 2 (by simp[qh]);have g3:=c.free 3 (by simp[qh]);have g4:=c.free 4 (by simp[qh]);have g5:=c.free 5 (by simp[qh]);obtain⟨t0,t1,t2,t3,t4,t5⟩:=r.c6;have D:=jp (qa t f) (b:=w.heap.size+1) (by omega) jq;have E:=c.verSet jq;clear f c r
     go_wp2_with fail
     rw[G.out]
     refine bodyPost_ret (qa2 (v:=jq) E rfl rfl) rfl ⟨rfl,D⟩)
   |(obtain⟨y,z⟩:∃y,((((((Q.setCell (AD d.heap.size 0) (U 0)).setCell (AD d.heap.size 1) (U 0)).setCell (AD d.heap.size 2) (U 0)).setCell (AD d.heap.size 3) (U 0)).setCell (AD d.heap.size 4) (.string ⟨#[]⟩)).setCell (AD d.heap.size 5) (.bool false))=y:=⟨_,rfl⟩
     have f:Bw d y:=by rw[<-z];exact jp S.out (b:=d.heap.size) (jcd _) jq
     have r:qd y d.heap.size (qh jq):=by rw[<-z];exact p.verSet jq
     rw[z];clear z V X Y Z z4 z5 y0 y1 y2 y3 y4 y5;have c:=s.later f;obtain⟨s0,s1,s2,s3,s4,s5⟩:=c.c6;have g0:=c.free 0 (by simp[qh]);have g1:=c.free 1 (by simp[qh]);have g2:=c.free 2 (by simp[qh]);have g3:=c.free 3 (by simp[qh]);have g4:=c.free 4 (by simp[qh]);have g5:=c.free 5 (by simp[qh]);obtain⟨t0,t1,t2,t3,t4,t5⟩:=r.c6;have D:=jp (qa t f) (b:=w.heap.size+1) (by omega) jq;have E:=c.verSet jq;clear f c r
     go_wp2_with fail
     rw[G.out]
     refine bodyPost_ret (qa2 (v:=jq) E rfl rfl) rfl ⟨rfl,D⟩)
 |some u=>
  obtain⟨g,i,j,m,o,ug⟩:=u;cases ug
  ·have I:Hid (∀x:qb d,Ca 260 #[.slice a (B k).length cap,.agg #[U a0,U a1,U a2,U a3]] x.val λe w'=>e=.returned (.tuple #[.agg #[U g,U i,U j,U m,.string o,.bool false],.bool true])/\Below x.val.heap.size x.val w'):=M.out;clear M;have q:=boxed (jcc _ d) (.cells YA 130);have p0:=cell_later q q0;have p1:=cell_later q q1;have p2:=cell_later q q2;have p3:=cell_later q q3;have p4:=cell_later q k0;clear q
   go_wp2_with fail
   go_region_law (first
        |(refine je rfl 260 #[.slice a (B k).length cap,.agg #[U a0,U a1,U a2,U a3]] (by go_simp) (I.out ⟨d.drew,(jcc _ d).drew⟩) ?_
          rintro e C ⟨rfl,J⟩;refine⟨_,rfl,?_⟩;have P:=hd1 (qa (jcc _ d).drew J)
          clear J)
        |(refine je rfl 260 #[.slice a (B k).length cap,.agg #[U a0,U a1,U a2,U a3]] (by go_simp) (I.out ⟨(d.alloc (.cells YA 130)).drew,(boxed (jcc _ d) _).drew⟩) ?_
          rintro e Q ⟨rfl,f⟩;refine⟨_,rfl,?_⟩;have S:=hd1 (qa (boxed (jcc _ d) _).drew f);have p:=((qd.new (w:=d) (T:=130) (qh jq) rfl).drew).later f;obtain⟨V,X,Y,Z,z4,z5⟩:=p.c6;have y0:=p.free 0 (by simp[qh]);have y1:=p.free 1 (by simp[qh]);have y2:=p.free 2 (by simp[qh]);have y3:=p.free 3 (by simp[qh]);have y4:=p.free 4 (by simp[qh]);have y5:=p.free 5 (by simp[qh])
          clear f))
   all_goals first
        |(have f:=boxed P.out (.cells #[U g,U i,U j,U m,.string o,.bool false] 130)
          have r:=qd.new (w:=C) (T:=130) (qh ⟨g,i,j,m,o,false⟩) rfl;change qd (C.alloc (.cells #[U g,U i,U j,U m,.string o,.bool false] 130)) C.heap.size (qh ⟨g,i,j,m,o,false⟩)at r;have c:=s.later f;obtain⟨s0,s1,s2,s3,s4,s5⟩:=c.c6;have g0:=c.free 0 (by simp[qh]);have g1:=c.free 1 (by simp[qh]);have g2:=c.free 2 (by simp[qh]);have g3:=c.free 3 (by simp[qh]);have g4:=c.free 4 (by simp[qh]);have g5:=c.free 5 (by simp[qh]);obtain⟨t0,t1,t2,t3,t4,t5⟩:=r.c6;have D:=jp (qa t f) (b:=w.heap.size+1) (by omega) jq;have E:=c.verSet jq;have hbu:=jp (qa t f) (b:=w.heap.size+1) (by omega) ⟨g,i,j,m,o,false⟩;have RU2:=c.verSet ⟨g,i,j,m,o,false⟩;clear f c r
          go_wp2_with fail
          rw[G.out];have e:qjj (some ⟨g,i,j,m,o,false⟩)=(⟨g,i,j,m,o,false⟩,0):=rfl;rw[e]
          refine bodyPost_ret (qa2 (v:=⟨g,i,j,m,o,false⟩) RU2 rfl rfl) rfl ⟨rfl,hbu⟩)
        |(obtain⟨y,z⟩:∃y,((((((Q.setCell (AD d.heap.size 0) (U g)).setCell (AD d.heap.size 1) (U i)).setCell (AD d.heap.size 2) (U j)).setCell (AD d.heap.size 3) (U m)).setCell (AD d.heap.size 4) (.string o)).setCell (AD d.heap.size 5) (.bool false))=y:=⟨_,rfl⟩
          have f:Bw d y:=by rw[<-z];exact jp S.out (b:=d.heap.size) (jcd _) ⟨g,i,j,m,o,false⟩
          have r:qd y d.heap.size (qh ⟨g,i,j,m,o,false⟩):=by rw[<-z];exact p.verSet ⟨g,i,j,m,o,false⟩
          rw[z];clear z V X Y Z z4 z5 y0 y1 y2 y3 y4 y5;have c:=s.later f;obtain⟨s0,s1,s2,s3,s4,s5⟩:=c.c6;have g0:=c.free 0 (by simp[qh]);have g1:=c.free 1 (by simp[qh]);have g2:=c.free 2 (by simp[qh]);have g3:=c.free 3 (by simp[qh]);have g4:=c.free 4 (by simp[qh]);have g5:=c.free 5 (by simp[qh]);obtain⟨t0,t1,t2,t3,t4,t5⟩:=r.c6;have D:=jp (qa t f) (b:=w.heap.size+1) (by omega) jq;have E:=c.verSet jq;have hbu:=jp (qa t f) (b:=w.heap.size+1) (by omega) ⟨g,i,j,m,o,false⟩;have RU2:=c.verSet ⟨g,i,j,m,o,false⟩;clear f c r
          go_wp2_with fail
          rw[G.out];have e:qjj (some ⟨g,i,j,m,o,false⟩)=(⟨g,i,j,m,o,false⟩,0):=rfl;rw[e]
          refine bodyPost_ret (qa2 (v:=⟨g,i,j,m,o,false⟩) RU2 rfl rfl) rfl ⟨rfl,hbu⟩)
  have I:Hid (∀x:qb d,Ca 260 #[.slice a (B k).length cap,.agg #[U a0,U a1,U a2,U a3]] x.val λe w'=>e=.returned (.tuple #[.agg #[U g,U i,U j,U m,.string o,.bool true],.bool true])/\Below x.val.heap.size x.val w'):=M.out;clear M;have q:=boxed (jcc _ d) (.cells YA 130);have p0:=cell_later q q0;have p1:=cell_later q q1;have p2:=cell_later q q2;have p3:=cell_later q q3;have p4:=cell_later q k0;clear q
  go_wp2_with fail
  go_region_law (first
   |(refine je rfl 260 #[.slice a (B k).length cap,.agg #[U a0,U a1,U a2,U a3]] (by go_simp) (I.out ⟨d.drew,(jcc _ d).drew⟩) ?_
     rintro e C ⟨rfl,J⟩;refine⟨_,rfl,?_⟩;have P:=hd1 (qa (jcc _ d).drew J)
     clear J)
   |(refine je rfl 260 #[.slice a (B k).length cap,.agg #[U a0,U a1,U a2,U a3]] (by go_simp) (I.out ⟨(d.alloc (.cells YA 130)).drew,(boxed (jcc _ d) _).drew⟩) ?_
     rintro e Q ⟨rfl,f⟩;refine⟨_,rfl,?_⟩;have S:=hd1 (qa (boxed (jcc _ d) _).drew f);have p:=((qd.new (w:=d) (T:=130) (qh jq) rfl).drew).later f;obtain⟨V,X,Y,Z,z4,z5⟩:=p.c6;have y0:=p.free 0 (by simp[qh]);have y1:=p.free 1 (by simp[qh]);have y2:=p.free 2 (by simp[qh]);have y3:=p.free 3 (by simp[qh]);have y4:=p.free 4 (by simp[qh]);have y5:=p.free 5 (by simp[qh])
     clear f))
  all_goals first
   |(have f:=boxed P.out (.cells #[U g,U i,U j,U m,.string o,.bool true] 130)
     have r:=qd.new (w:=C) (T:=130) (qh ⟨g,i,j,m,o,true⟩) rfl;change qd (C.alloc (.cells #[U g,U i,U j,U m,.string o,.bool true] 130)) C.heap.size (qh ⟨g,i,j,m,o,true⟩)at r;have c:=s.later f;obtain⟨s0,s1,s2,s3,s4,s5⟩:=c.c6;have g0:=c.free 0 (by simp[qh]);have g1:=c.free 1 (by simp[qh]);have g2:=c.free 2 (by simp[qh]);have g3:=c.free 3 (by simp[qh]);have g4:=c.free 4 (by simp[qh]);have g5:=c.free 5 (by simp[qh]);obtain⟨t0,t1,t2,t3,t4,t5⟩:=r.c6;have D:=jp (qa t f) (b:=w.heap.size+1) (by omega) jq;have E:=c.verSet jq;have hbu:=jp (qa t f) (b:=w.heap.size+1) (by omega) ⟨g,i,j,m,o,true⟩;have RU2:=c.verSet ⟨g,i,j,m,o,true⟩;clear f c r
     go_wp2_with fail
     rw[G.out];have e:qjj (some ⟨g,i,j,m,o,true⟩)=(jq,8):=rfl;rw[e]
     refine bodyPost_ret (qa2 (v:=jq) E rfl rfl) rfl ⟨rfl,D⟩)
   |(obtain⟨y,z⟩:∃y,((((((Q.setCell (AD d.heap.size 0) (U g)).setCell (AD d.heap.size 1) (U i)).setCell (AD d.heap.size 2) (U j)).setCell (AD d.heap.size 3) (U m)).setCell (AD d.heap.size 4) (.string o)).setCell (AD d.heap.size 5) (.bool true))=y:=⟨_,rfl⟩
     have f:Bw d y:=by rw[<-z];exact jp S.out (b:=d.heap.size) (jcd _) ⟨g,i,j,m,o,true⟩
     have r:qd y d.heap.size (qh ⟨g,i,j,m,o,true⟩):=by rw[<-z];exact p.verSet ⟨g,i,j,m,o,true⟩
     rw[z];clear z V X Y Z z4 z5 y0 y1 y2 y3 y4 y5;have c:=s.later f;obtain⟨s0,s1,s2,s3,s4,s5⟩:=c.c6;have g0:=c.free 0 (by simp[qh]);have g1:=c.free 1 (by simp[qh]);have g2:=c.free 2 (by simp[qh]);have g3:=c.free 3 (by simp[qh]);have g4:=c.free 4 (by simp[qh]);have g5:=c.free 5 (by simp[qh]);obtain⟨t0,t1,t2,t3,t4,t5⟩:=r.c6;have D:=jp (qa t f) (b:=w.heap.size+1) (by omega) jq;have E:=c.verSet jq;have hbu:=jp (qa t f) (b:=w.heap.size+1) (by omega) ⟨g,i,j,m,o,true⟩;have RU2:=c.verSet ⟨g,i,j,m,o,true⟩;clear f c r
     go_wp2_with fail
     rw[G.out];have e:qjj (some ⟨g,i,j,m,o,true⟩)=(jq,8):=rfl;rw[e]
     refine bodyPost_ret (qa2 (v:=jq) E rfl rfl) rfl ⟨rfl,D⟩)
section
variable {b:Nat}
theorem qku {tmps:Array Value} {w:World} {v:Ver} {ev:Value} (h:qd w b (qh v)) (a:tmps[6]?=some (PP b)) (c:tmps[7]?=some ev):
 (results Tryz.f216 tmps).run Tryz.prog w=.ok (.tuple #[.agg (qh v).toArray,ev]) w:=by
 obtain⟨d,e,f,g,i,j⟩:=h.c6;simp[results,Tryz.results216,go_sem,a,c,d,e,f,g,i,j,qh]
theorem q3x {lv:Value} {bm:Nat} {F:Nat->Prop} {S:qe} {log waits:List TxM} (key a0 a1 a2 a3:Int) (w:World) (h:zf w b lv bm F S log waits) (r:j3 S):
 Ca 216 #[PP b,U key,.agg #[U a0,U a1,U a2,U a3]] w λe w'=>
  e=.returned (.tuple #[.agg (qh (qbq S key a0 a1 a2 a3).1).toArray,jc (qbq S key a0 a1 a2 a3).2])/\Bw w w':=by
 have d:=(qo.new w 77 a0 a1 a2 a3).boxed (.cells YA 130);have a:qd ((w.alloc (.cells #[U a0,U a1,U a2,U a3] 77)).alloc (.cells YA 130)) (w.heap.size+1) (qh jq):=qd.new (w:=w.alloc (.cells #[U a0,U a1,U a2,U a3] 77)) (T:=130) (n:=w.heap.size+1) YL (by simp);have g:=boxed (boxed (jcc _ w) (.cells #[U a0,U a1,U a2,U a3] 77)) (.cells YA 130);have f:Hid (zf _ b lv bm F S log waits):=h.later g;have HH:=hd1 h;clear h;have C:=qb.cell (f.out.box.cell 1 _ rfl);have D:=qb.cell (f.out.box.cell 2 _ rfl);have E:=qb.cell (f.out.box.cell 3 _ rfl);have G:=qb.cell (f.out.box.cell 4 _ rfl);have H:=qb.cell d.c0;have I:=qb.cell d.c1;have J:=qb.cell d.c2;have K:=qb.cell d.c3;go_enter Tryz.func216,Tryz.ntmps216
 go_wp2_with fail
 refine wrl ?_
 repeat (go_big_quiet_step (first|rfl|(go_at_call 205;exact qg (qox _ _ _ _ _ _ _ _ _))))
 refine wpQuiet_nil ?_;rintro t ⟨⟨_,i⟩,rfl⟩;replace a:=a.later i;replace d:=qo.later i d;replace g:=qa g i;have L:=hd1 (f.out.later i);clear f C D E G H I J K i;cases hc:qa8 S.a0 S.a1 S.a2 S.a3 a0 a1 a2 a3
 ·have u:Hid (qbq S key a0 a1 a2 a3=(jq,10)):=by show qbq S key a0 a1 a2 a3=(jq,10);unfold qbq;rw[hc];rfl
  have M:=a.cell 0 _ rfl;have p0:=a.free 0 (by simp[qh]);have N:=a.cell 1 _ rfl;have p1:=a.free 1 (by simp[qh]);have O:=a.cell 2 _ rfl;have p2:=a.free 2 (by simp[qh]);have P:=a.cell 3 _ rfl;have p3:=a.free 3 (by simp[qh]);have Q:=a.cell 4 _ rfl;have R:=a.free 4 (by simp[qh]);have V:=a.cell 5 _ rfl;have W:=a.free 5 (by simp[qh]);have y:=qn6 a 0 0 0 0 ⟨#[]⟩ false;have z:=qn3 g (show w.heap.size<=w.heap.size+1 by omega) 0 0 0 0 ⟨#[]⟩ false;clear hc
  go_wp2_with fail
  refine bodyPost_ret (qku (v:=jq) (ev:=jc 10) y rfl rfl) rfl ⟨?_,z⟩;rw[u.out]
 obtain⟨⟨⟨j,k,m,o,p,q⟩,ev⟩,s⟩:∃x,zz key a0 a1 a2 a3 S.l=x:=⟨_,rfl⟩
 have u:Hid (qbq S key a0 a1 a2 a3=(⟨j,k,m,o,p,q⟩,ev)):=by show qbq S key a0 a1 a2 a3=_;unfold qbq;rw[hc,<-s];rfl
 have X:Hid (Ca 259 #[.pointer (some (AD b 25)),U key,.agg #[U a0,U a1,U a2,U a3]] t.drew λe w'=>e=.returned (.tuple #[.agg #[U j,U k,U m,U o,.string p,.bool q],jc ev])/\qo w' w.heap.size a0 a1 a2 a3/\qd w' (w.heap.size+1) (qh jq)/\Bw w w'):=by
  refine(qq1 key a0 a1 a2 a3 t.drew (L.out.later (jcc _ t).drew).st (by have:=r.len;have:=r.log;omega) r.apart r.ok).mono ?_;rintro e w' ⟨rfl,B⟩;refine⟨by rw[s];rfl,qo.later B d.drew,a.drew.later B,qa g.drew B⟩
 have HRV:=hd1 s;have T0:=λ(w':World) (h:qo w' w.heap.size a0 a1 a2 a3)=>h.c0;have T1:=λ(w':World) (h:qo w' w.heap.size a0 a1 a2 a3)=>h.c1;have T2:=λ(w':World) (h:qo w' w.heap.size a0 a1 a2 a3)=>h.c2;have T3:=λ(w':World) (h:qo w' w.heap.size a0 a1 a2 a3)=>h.c3;have RA0:=d.drew
 have Y:w.heap.size+1≠w.heap.size:=by omega
 clear hc s d a
 go_wp2_with fail
 go_region_held3 (λw'=>qo w' w.heap.size a0 a1 a2 a3) (first|(with_reducible assumption)|(with_reducible exact qt0 (by with_reducible assumption) Y _ _ _ _ _ _))
  (first|(go_at_call 259;with_reducible refine X.out.mono ?_;rintro e w5 ⟨rfl,RA5,c,Z⟩;have M:=c.cell 0 _ rfl;have p0:=c.free 0 (by simp[qh]);have N:=c.cell 1 _ rfl;have p1:=c.free 1 (by simp[qh]);have O:=c.cell 2 _ rfl;have p2:=c.free 2 (by simp[qh]);have P:=c.cell 3 _ rfl;have p3:=c.free 3 (by simp[qh]);have Q:=c.cell 4 _ rfl;have R:=c.free 4 (by simp[qh]);have V:=c.cell 5 _ rfl;have W:=c.free 5 (by simp[qh])))
 all_goals
  have y:=qn6 c j k m o p q;have z:=qn3 Z (show w.heap.size<=w.heap.size+1 by omega) j k m o p q
  go_wp2_with fail
  refine bodyPost_ret (qku (v:=⟨j,k,m,o,p,q⟩) (ev:=jc ev) y rfl rfl) rfl ⟨?_,z⟩;rw[u.out]
end
theorem qyr {b:Nat} {G:Nat->Prop} {S:qe} (key a0 a1 a2 a3:Int) (w:World) (h:PS w b G S) (a:j3 S):
 Ca 216 #[PP b,U key,.agg #[U a0,U a1,U a2,U a3]] w λe w'=>
  e=.returned (.tuple #[.agg (qh (qbq S key a0 a1 a2 a3).1).toArray,jc (qbq S key a0 a1 a2 a3).2])/\Bw w w':=by
 obtain⟨lv,bm,F,log,waits,h,_,_,_⟩:=h;exact q3x key a0 a1 a2 a3 w h a
section
open Tryz Go.Maps
variable {k:Int}
theorem q0f (h:(Lit.int .i64 k).wf=true):keyOf prog 3 (.int .i64 k)=some (.int .i64 k):=by
 unfold keyOf;rw[underlying3];simp[mapKey,h,underlying3]
variable {bm:Nat} {v:Bool}
theorem qcy {f:Array Oper} {rest:List Oper} {o:Oper} {a:Act} {Q:Exit->Act->World->Prop} (w:World) (g:o.guard=none) (c d:Operand) (h:o.op=Op.lookup 221 c d true) {n:Nat} {D:DataW Value} {u:Value}
 (i:a.eval c=.map (some bm)) (j:w.ownsMap prog 3 qcd bm n D) (m:a.eval d=.int .i64 k) (p:keyOf prog 3 (.int .i64 k)=some (.int .i64 k)) (q:Maps.has D (.int .i64 k)=v) (r:D.atKey (.int .i64 k) (.held qqt)=.held u)
 (t:wpList prog f Q rest (a.put o.dst (.tuple #[u,.bool v])) w):wpList prog f Q (o::rest) a w:=by
 refine wpList_lookup_own_ok w g c d 221 h 3 100 qtl underlying221 qcd (q82 w) (.held qqt) [] rfl bm n D i j (.int .i64 k) (.int .i64 k) m p ?_;intro y ps x;have e:=qmj x;rw[r]at e;injection e with e;rw[<-e,q];exact t
variable {w:World} {l:List Wr}
theorem qes.look (h:qes w bm l) (k:Int):∃D,w.ownsMap prog 3 qcd bm (jh l).length D/\Maps.has D (.int .i64 k)=(qay l k).isSome/\D.atKey (.int .i64 k) (.held qqt)=.held (wrV (qav l k)):=by
 obtain⟨_,D,c,a⟩:=h;refine⟨D,c,?_⟩;cases ho:qay l k with
 |none=>
  have e:qav l k=⟨0,⟨#[]⟩,false⟩:=by unfold qav;rw[ho];rfl
  rw[e];exact⟨(a.no k ho).1,(a.no k ho).2 _⟩
 |some x=>
  have e:qav l k=x:=by unfold qav;rw[ho];rfl
  rw[e];exact⟨(a.has k x ho).1,(a.has k x ho).2 _⟩
theorem qes.len (h:qes w bm l) (a:TypeId):(Builtin.len_ #[221] a #[.map (some bm)]).run prog w=.ok (.int .i64 (jh l).length) w:=by
 obtain⟨_,D,c,d⟩:=h;have:=c.len underlying221 a;rw[d.size]at this;exact this
theorem qes.later {w':World} (h:qes w bm l) (a:Bw w w'):qes w' bm l:=h.kept (a.block bm h.lt)
def q89 (x:Wr):Int:=if x.gone=true then 8 else 0
def q9c (x:Wr):ByteArray:=if x.gone=true then ⟨#[]⟩else x.data
theorem qwg (x:Wr) (w:World):
 Ca 215 #[wrV x] w (Rn (.tuple #[.string (q9c x),jc (q89 x)]) w):=by
 obtain⟨c,d,a⟩:=x;show Ca 215 #[.agg #[.int .i64 c,.string d,.bool a]] w _;have e:=boxed (jcc _ w) (.cells #[.int .i64 c,.string d,.bool a] 100);cases a
 ·go_enter func215,ntmps215
  go_wp2_with fail
  go_ret2;exact⟨rfl,boxed (jcc _ w) _⟩
 go_enter func215,ntmps215
 go_wp2_with fail
 go_ret2;exact⟨rfl,boxed (jcc _ w) _⟩
variable {b:Nat} {s:qy}
theorem qxe {I:Nat} {G T:Nat->Prop} {S:qe} (key:Int) (V:(Lit.int .i64 key).wf=true) (w:World) (h:PSe w b G s) (W:PS w I T S) (X:j3 S):
 Ca 158 #[PP b,PP I,.int .i64 key] w (Rn (.tuple #[.string (vi S s key).1,jc (vi S s key).2]) w):=by
 have J:=hd1 (q0f V);have K:=hd2 W X;obtain⟨mv,B,Y⟩:=h;have Z:=hd1 B;have L:=B.c 4;rcases Y with ⟨g,rfl,_,_⟩|⟨g,bm,rfl,_,hM,_⟩
 ·rw[g]at L
  have i:Hid (vi S s key=(⟨#[]⟩,6)):=by show _=_;unfold vi;rw[g];rfl
  rw[i.out];go_enter func158,ntmps158
  go_wp2_with fail
  go_ret2;exact⟨rfl,jcc _ _⟩
 rw[g]at L;have k9:=B.c 9;obtain⟨D,M,m,n⟩:=hM.look key;cases hw:qay s.ws key with
 |none=>
  have q:qav s.ws key=⟨0,⟨#[]⟩,false⟩:=by unfold qav;rw[hw];rfl
  rw[hw]at m;rw[q]at n;have r:Hid (Maps.has D (.int .i64 key)=false):=m;have t:Hid (D.atKey (.int .i64 key) (.held qqt)=.held (.agg #[.int .i64 0,.string ⟨#[]⟩,.bool false])):=n;obtain⟨⟨⟨y,z,rs,C,o,E⟩,N⟩,O⟩:∃x,qbq S key s.s0 s.s1 s.s2 s.s3=x:=⟨_,rfl⟩
  have i:Hid (vi S s key=(o,N)):=by show _=_;unfold vi;rw[g,hw,O];rfl
  have j:=boxed (jcc _ w) (.cells #[.int .i64 0,.string ⟨#[]⟩,.bool false] 100);have P:=qyr key s.s0 s.s1 s.s2 s.s3 _ (K.out.1.later j) K.out.2;rw[O]at P;have p:=Z.out.later j;have y5:=p.c 5;have y6:=p.c 6;have y7:=p.c 7;have y8:=p.c 8;rw[i.out];go_enter func158,ntmps158
  go_wp2_with (at_lookup;refine qcy _ rfl _ _ rfl (u:=.agg #[.int .i64 0,.string ⟨#[]⟩,.bool false]) rfl M rfl J.out r.out t.out ?_)
  refine P.mono ?_;rintro e w3 ⟨rfl,F⟩;rw[show qh ((⟨y,z,rs,C,o,E⟩,N):Ver×Int).1=[.int .i64 y,.int .i64 z,.int .i64 rs,.int .i64 C,.string o,.bool E]from rfl];have hb4:=boxed (qa j F) (.cells #[.int .i64 y,.int .i64 z,.int .i64 rs,.int .i64 C,.string o,.bool E] 130)
  go_wp2_with fail
  go_ret2;exact⟨rfl,hb4⟩
 |some x=>
  obtain⟨d,f,a⟩:=x
  have q:qav s.ws key=⟨d,f,a⟩:=by unfold qav;rw[hw];rfl
  rw[hw]at m;rw[q]at n;have r:Hid (Maps.has D (.int .i64 key)=true):=m;have t:Hid (D.atKey (.int .i64 key) (.held qqt)=.held (.agg #[.int .i64 d,.string f,.bool a])):=n
  have i:Hid (vi S s key=(q9c ⟨d,f,a⟩,q89 ⟨d,f,a⟩)):=by show _=_;unfold vi q9c q89;rw[g,hw];cases a<;>rfl
  have H:=qwg ⟨d,f,a⟩ (w.alloc (.cells #[.int .i64 d,.string f,.bool a] 100));have j:=boxed (jcc _ w) (.cells #[.int .i64 d,.string f,.bool a] 100);obtain⟨Q,hvd⟩:∃Q,q9c ⟨d,f,a⟩=Q:=⟨_,rfl⟩;obtain⟨R,hve⟩:∃R,q89 ⟨d,f,a⟩=R:=⟨_,rfl⟩;rw[hvd,hve]at H i;rw[show wrV ⟨d,f,a⟩=.agg #[.int .i64 d,.string f,.bool a]from rfl]at H;rw[i.out];go_enter func158,ntmps158
  go_wp2_with (at_lookup;refine qcy _ rfl _ _ rfl (u:=.agg #[.int .i64 d,.string f,.bool a]) rfl M rfl J.out r.out t.out ?_)
  refine H.mono ?_;rintro e w3 ⟨rfl,F⟩
  go_wp2_with fail
  go_ret2;exact⟨rfl,qa j F⟩
theorem qu3 (key:Int) (y:(Lit.int .i64 key).wf=true) (w:World) (B:qd w b (yj s (.map (some bm)))) (p:qes w bm s.ws) (q:decide (qay s.ws key=none/\5<=(jh s.ws).length)=!v):
 Ca 213 #[PP b,.int .i64 key] w (Rn (.bool v) w):=by
 have r:=hd1 (q0f y);have C:=B.c 9;obtain⟨D,t,d,f⟩:=p.look key;cases hw:qay s.ws key with
 |none=>
  have m:qav s.ws key=⟨0,⟨#[]⟩,false⟩:=by unfold qav;rw[hw];rfl
  rw[hw]at d;rw[m]at f;have n:Hid (Maps.has D (.int .i64 key)=false):=d;have o:Hid (D.atKey (.int .i64 key) (.held qqt)=.held (.agg #[.int .i64 0,.string ⟨#[]⟩,.bool false])):=f;have a:=boxed (jcc _ w) (.cells #[.int .i64 0,.string ⟨#[]⟩,.bool false] 100);have E:=(p.later a).len;have F:=(B.later a).c 9
  have e:decide (((jh s.ws).length:Int)<5)=v:=by
   cases v
   ·have:=of_decide_eq_true q;exact decide_eq_false (by omega)
   have:=of_decide_eq_false q;refine decide_eq_true ?_;have G:¬5<=(jh s.ws).length:=λh=>this ⟨hw,h⟩;omega
  go_enter func213,ntmps213
  go_wp2_with (at_lookup;refine qcy _ rfl _ _ rfl (u:=.agg #[.int .i64 0,.string ⟨#[]⟩,.bool false]) rfl t rfl r.out n.out o.out ?_)
  go_ret;refine⟨?_,a⟩
  first|rfl|(simp[e])|(rw[e])
 |some x=>
  obtain⟨g,i,j⟩:=x
  have m:qav s.ws key=⟨g,i,j⟩:=by unfold qav;rw[hw];rfl
  rw[hw]at d;rw[m]at f;have n:Hid (Maps.has D (.int .i64 key)=true):=d;have o:Hid (D.atKey (.int .i64 key) (.held qqt)=.held (.agg #[.int .i64 g,.string i,.bool j])):=f;have a:=boxed (jcc _ w) (.cells #[.int .i64 g,.string i,.bool j] 100)
  have z:v=true:=by cases v<;>simp_all
  subst z;go_enter func213,ntmps213
  go_wp2_with (at_lookup;refine qcy _ rfl _ _ rfl (u:=.agg #[.int .i64 g,.string i,.bool j]) rfl t rfl r.out n.out o.out ?_)
  go_ret;exact⟨rfl,a⟩
theorem qya (w:World) (B:qd w b (yj s (.map (some bm)))) (M:qes w bm s.ws):
 Ca 207 #[PP b] w λe w'=>∃v,e=.returned v/\w'.ownsRow w.heap.size 100 3 v (jh s.ws).length (qcf (jh s.ws))/\Bw w w':=by
 have F:=hd2 B M;obtain⟨N,hi,O,P,Q⟩:=info_parts qmn;go_enter func207,ntmps207
 go_wp2_with fail
 go_loopw [3,7] (λR iv wr=>∃(k:Nat) (z:Int),k<=8/\z=k/\iv=.int .i64 z/\wr.ownsRow w.heap.size 100 3 R (qak s.ws k).length (qcf (qak s.ws k))/\Bw w wr) (λ_ i _=>8-(intOf i).toNat)
 case atStart=>exact⟨0,0,by omega,rfl,rfl,jcx _ _ _ _,jcc _ _⟩
 obtain⟨k,z,hk,o,rfl,own,m⟩:=hrel;have p:=hd1 o;have hal:=qkg s.ws k;have k9:=(F.out.1.later m).c 9;by_cases hlt:k<8
 ·have S:z<8:=by omega
  have h0:0<=z:=by omega
  have G:Hid (keyOf prog 3 (.int .i64 z)=some (.int .i64 z)):=q4f ⟨by omega,by omega⟩;obtain⟨D,H,g,h⟩:=(F.out.2.later m).look z;have I:Hid (qak s.ws (k+1)=qak s.ws k++(match qay s.ws (k:Int)with|some x=>[x]|none=>[])):=qim s.ws k;rw[o]at g h;cases ho:qay s.ws (k:Int)with
  |none=>
   have t:qav s.ws (k:Int)=⟨0,⟨#[]⟩,false⟩:=by unfold qav;rw[ho];rfl
   have y:Hid (qak s.ws (k+1)=qak s.ws k):=by show _=_;rw[I.out,ho];simp
   rw[ho]at g;rw[t]at h;rw[<-o]at g h;have C:Hid (Maps.has D (.int .i64 z)=false):=g;have E:Hid (D.atKey (.int .i64 z) (.held qqt)=.held (.agg #[.int .i64 0,.string ⟨#[]⟩,.bool false])):=h;have V:=own.alloc (.cells #[.int .i64 0,.string ⟨#[]⟩,.bool false] 100);have W:=boxed m (.cells #[.int .i64 0,.string ⟨#[]⟩,.bool false] 100)
   go_wp2_with (at_lookup;refine qcy _ rfl _ _ rfl (u:=.agg #[.int .i64 0,.string ⟨#[]⟩,.bool false]) rfl H rfl G.out C.out E.out ?_)
   go_roundw
   case rel=>exact⟨k+1,z+1,by omega,by have:=p.out;omega,by go_num,by rw[y.out];exact V,W⟩
   simp[intOf];have:=p.out;omega
  |some x=>
   obtain⟨a,d,f⟩:=x
   have t:qav s.ws (k:Int)=⟨a,d,f⟩:=by unfold qav;rw[ho];rfl
   have y:Hid (qak s.ws (k+1)=qak s.ws k++[⟨a,d,f⟩]):=by show _=_;rw[I.out,ho]
   rw[ho]at g;rw[t]at h;rw[<-o]at g h;have C:Hid (Maps.has D (.int .i64 z)=true):=g;have E:Hid (D.atKey (.int .i64 z) (.held qqt)=.held (.agg #[.int .i64 a,.string d,.bool f])):=h;have q:=own.alloc (.cells #[.int .i64 a,.string d,.bool f] 100);have n:=qd.new (w:=wr) (T:=100) [.int .i64 a,.string d,.bool f] rfl;change qd (wr.alloc (.cells #[.int .i64 a,.string d,.bool f] 100)) wr.heap.size [.int .i64 a,.string d,.bool f]at n;have r:=boxed m (.cells #[.int .i64 a,.string d,.bool f] 100);obtain⟨W1,J⟩:∃W1,wr.alloc (.cells #[.int .i64 a,.string d,.bool f] 100)=W1:=⟨_,rfl⟩;rw[J]at q n r;have y0:=n.c 0;have y1:=n.c 1;have y2:=n.c 2;obtain⟨X,Y,rfl,K⟩:=qbg q;have hcl:=K.len;have hcc:=K.cap
   go_wp2_with (first|(at_lookup;refine qcy _ rfl _ _ rfl (u:=.agg #[.int .i64 a,.string d,.bool f]) rfl H rfl G.out C.out E.out ?_)|(rw[J])|(at_builtin;refine wpList_append_lies _ rfl (.tmp 20) (.tmp 22) 88 rfl w.heap.size 100 N (.agg #[.int .i64 0,.string ⟨#[]⟩,.bool false]) 3 32 underlying88 hi O P Q rfl (by decide) (.slice X (qak s.ws k).length Y) (qak s.ws k).length (qcf (qak s.ws k)) rfl (q.alloc _) (AD W1.heap.size 0) 1 1 (wrC ⟨a,d,f⟩) rfl rfl (World.news_of_block (heap_alloc_new W1 (.cells #[.int .i64 a,.string d,.bool f] 100))) (by intro u L;simp[wrC]at L;rcases L with rfl|rfl|rfl<;>rfl) (by decide) (by simp only[maxLen];omega) (by omega) (by have:=r.size;simp;omega) _ rfl ?_;intro g9 cap9 wE Z aa egE ltE))
   have ab:=(boxed r (.cells #[.int .i64 a,.string d,.bool f] 100)).grown aa (by have:=r.size;simp;omega) (λj hj=>by have:=(q.lt _ hj).1;omega)
   go_roundw
   case rel=>exact⟨k+1,z+1,by omega,by have:=p.out;omega,by go_num,by rw[y.out,qkh,jcl];exact Z,ab⟩
   simp[intOf];have:=p.out;omega
 have S:¬z<8:=by omega
 have hkk:k=8:=by omega
 subst hkk
 go_wp2_with fail
 go_ret;exact⟨_,rfl,own,m⟩
end
section
open Tryz Go.Maps
variable {b:Nat} {G:Nat->Prop} {s:qy}
theorem qz7 {w a w2:World} {bm:Nat} {x:Wr} (c:∀k,G k↔(k=b\/k=bm)) (f:bm≠b) (h:s.opn=true) (i:Bw w a) (B:qd a b (yj s (.map (some bm)))) (j:qes w2 bm (s.ws++[x])) (g:a.grownBy w2 (some bm)):qc8 w b G {s with ws:=s.ws++[x]} w2:=by
 refine⟨G,⟨.map (some bm),B.grown g (λe=>f (by injection e with e;exact e.symm)),.inr ⟨h,bm,rfl,f,j,c⟩⟩,λk l=>.inl l,?_⟩;exact(qc.ofBelow i).trans (qc.grown g (λk e=>(c k).2 (.inr (by injection e with e;exact e.symm))))
variable {d:ByteArray}
theorem qxq (h:d.toList.isEmpty=false):d.size≠0:=λe=>by
 rw[qca]at h;have:=yh d;rw[e]at this;rw[List.length_eq_zero_iff.1 this]at h;cases h
theorem qva (h:d.toList.isEmpty=true):d.size=0:=by
 rw[qca,List.isEmpty_iff]at h;rw[<-yh,h];rfl
theorem qxg (x:Wr) (w:World) (h:PSe w b G s):
 Ca 155 #[PP b,wrV x] w λe w'=>e=.returned (jc (qaj s x))/\qc8 w b G (qd2 s x) w':=by
 have NO:∀M ev,qaj s x=ev->ev≠0->Bw w M->Hid ((.returned (jc ev):Ending)=.returned (jc (qaj s x))/\qc8 w b G (qd2 s x) M):=λM ev I N e3=>by
  show _/\_;rw[I,show qd2 s x=s by unfold qd2;rw[if_neg (by rw[I];exact N)]];exact⟨rfl,qc8.same h e3⟩
 obtain⟨a,f,i⟩:=x;obtain⟨mv,B0,hm⟩:=h;have m:=boxed (jcc _ w) (.cells #[.int .i64 a,.string f,.bool i] 100);have O:=qd.new (w:=w) (T:=100) [.int .i64 a,.string f,.bool i] rfl;change qd (w.alloc (.cells #[.int .i64 a,.string f,.bool i] 100)) w.heap.size [.int .i64 a,.string f,.bool i]at O;have B:=B0.later m;have r:=hd1 NO;show Ca 155 #[PP b,.agg #[.int .i64 a,.string f,.bool i]] w _;have k4:=B.c 4;rcases hm with ⟨t,rfl,_,_⟩|⟨t,bm,rfl,hne,hM,hG⟩;rw[t]at k4
 have E:qaj s ⟨a,f,i⟩=6:=by unfold qaj;rw[if_pos t]
 have n:=(r.out _ 6 E (by decide) m).out
 rotate_left
 rw[t]at k4
 have u:¬s.opn=false:=by rw[t];decide
 by_cases hk0:a<0
 have E:qaj s ⟨a,f,i⟩=2:=by unfold qaj;rw[if_neg u,if_pos (.inl hk0)]
 have n:=(r.out _ 2 E (by decide) m).out
 rotate_left
 by_cases hk8:8<=a
 have E:qaj s ⟨a,f,i⟩=2:=by unfold qaj;rw[if_neg u,if_pos (.inr hk8)]
 have n:=(r.out _ 2 E (by decide) m).out
 rotate_left
 have J:¬(a<0\/8<=a):=by omega
 by_cases hlen:12<(f.size:Int)
 have E:qaj s ⟨a,f,i⟩=4:=by unfold qaj;rw[if_neg u,if_neg J,if_pos (by show 12<f.size;omega)]
 have n:=(r.out _ 4 E (by decide) m).out
 rotate_left
 have P:¬12<f.size:=by omega
 have TAIL:∀g:Bool,i=g->(g=false\/f.toList.isEmpty=true)->Hid (¬(i=true/\f.size≠0)):=λg e h=>by
  show ¬_;rintro ⟨I,N⟩;rcases h with h|h
  ·rw[I]at e;rw[<-e]at h;cases h
  exact N (qva h)
 have RM:Hid (∀{v:Bool},decide (qay s.ws a=none/\5<=(jh s.ws).length)=!v->Ca 213 #[PP b,.int .i64 a] (w.alloc (.cells #[.int .i64 a,.string f,.bool i] 100)) λe w'=>e=.returned (.bool v)/\Below (w.alloc (.cells #[.int .i64 a,.string f,.bool i] 100)).heap.size (w.alloc (.cells #[.int .i64 a,.string f,.bool i] 100)) w'):=λy=>qu3 a (q8f ⟨by omega,by omega⟩) _ B (hM.later m) y;have KEY:Hid (keyOf prog 3 (.int .i64 a)=some (.int .i64 a)):=q4f ⟨by omega,by omega⟩;have l:Hid (qd w b (yj s (.map (some bm)))/\qes w bm s.ws/\bm≠b/\(∀k,G k↔(k=b\/k=bm))/\s.opn=true/\¬s.opn=false/\¬(a<0\/8<=a)/\¬12<f.size/\0<=a/\a<8):=⟨B0,hM,hne,hG,t,u,J,P,by omega,by omega⟩;cases hgg:(i&&!f.toList.isEmpty)
 ·have HT:Hid (¬(i=true/\f.size≠0)):=by
   cases i
   ·exact TAIL false rfl (.inl rfl)
   exact TAIL true rfl (.inr (by simpa using hgg))
  cases y:decide (qay s.ws a=none/\5<=(jh s.ws).length)
  ·have K:=RM.out (v:=true) (by rw[y];rfl)
   have L:Hid (qaj s ⟨a,f,i⟩=0):=by
        show _=_;unfold qaj;rw[if_neg l.out.2.2.2.2.2.1,if_neg l.out.2.2.2.2.2.2.1,if_neg l.out.2.2.2.2.2.2.2.1,if_neg HT.out,if_neg (of_decide_eq_false y)]
   have HRX:=hd1 O;have GO:Hid (∀j,Below (w.alloc (.cells #[.int .i64 a,.string f,.bool i] 100)).heap.size (w.alloc (.cells #[.int .i64 a,.string f,.bool i] 100)) j->qd j b (yj s (.map (some bm)))/\qes j bm s.ws/\qd j w.heap.size [.int .i64 a,.string f,.bool i]/\Bw w j):=λj z=>⟨(l.out.1.later m).later z,(l.out.2.1.later m).later z,HRX.out.later z,qa m z⟩;cases i
   ·clear hgg O;go_enter func155,ntmps155
    go_wp2_with fail
    refine K.mono ?_;rintro e j ⟨rfl,C⟩;obtain⟨F,Q,p,R⟩:=GO.out j C;obtain⟨S,D,H,V⟩:=Q;have q:=hd3 S H V;have W:j.drew.ownsMap prog 3 qcd bm (jh s.ws).length D:=H;have X:=hd1 F;have Y:Hid ((jh s.ws).length<=8):=qkg s.ws 8;obtain⟨Z,hrun,aa,ab⟩:=W.store qtl underlying221 (by have:=Y.out;simp only[maxLen];omega) KEY.out (val:=.agg #[.int .i64 a,.string f,.bool false]) (d:=.held (.agg #[.int .i64 a,.string f,.bool false])) (ps:=[]) rfl
    go_wp2_with fail
    have k9:=F.c 9;have x0:=p.c 0;have x1:=p.c 1;have x2:=p.c 2
    go_region
    all_goals
     have M7:=qes.put q.out.1 q.out.2.1 q.out.2.2 (x:=⟨a,f,false⟩) l.out.2.2.2.2.2.2.2.2.1 l.out.2.2.2.2.2.2.2.2.2 aa;have o:=ab.grown;have gr:j.grownBy Z (some bm):=⟨o.os,o.tape,o.output,o.size,o.block⟩;have n:=qz7 l.out.2.2.2.1 l.out.2.2.1 l.out.2.2.2.2.1 R X.out M7 gr
     go_wp2_with fail
     go_ret;refine⟨by rw[L.out];rfl,?_⟩;rw[show qd2 s ⟨a,f,false⟩={s with ws:=s.ws++[⟨a,f,false⟩]} by unfold qd2;rw[if_pos L.out]];exact n
   have hee:f.toList.isEmpty=true:=by simpa using hgg
   go_enter func155,ntmps155
   go_wp2_with fail
   refine K.mono ?_;rintro e j ⟨rfl,C⟩;obtain⟨F,Q,p,R⟩:=GO.out j C;obtain⟨S,D,H,V⟩:=Q;have q:=hd3 S H V;have W:j.drew.ownsMap prog 3 qcd bm (jh s.ws).length D:=H;have X:=hd1 F;have Y:Hid ((jh s.ws).length<=8):=qkg s.ws 8;obtain⟨Z,hrun,aa,ab⟩:=W.store qtl underlying221 (by have:=Y.out;simp only[maxLen];omega) KEY.out (val:=.agg #[.int .i64 a,.string f,.bool true]) (d:=.held (.agg #[.int .i64 a,.string f,.bool true])) (ps:=[]) rfl
   go_wp2_with fail
   have k9:=F.c 9;have x0:=p.c 0;have x1:=p.c 1;have x2:=p.c 2
   go_region
   all_goals
        have M7:=qes.put q.out.1 q.out.2.1 q.out.2.2 (x:=⟨a,f,true⟩) l.out.2.2.2.2.2.2.2.2.1 l.out.2.2.2.2.2.2.2.2.2 aa;have o:=ab.grown;have gr:j.grownBy Z (some bm):=⟨o.os,o.tape,o.output,o.size,o.block⟩;have n:=qz7 l.out.2.2.2.1 l.out.2.2.1 l.out.2.2.2.2.1 R X.out M7 gr
        go_wp2_with fail
        go_ret;refine⟨by rw[L.out];rfl,?_⟩;rw[show qd2 s ⟨a,f,true⟩={s with ws:=s.ws++[⟨a,f,true⟩]} by unfold qd2;rw[if_pos L.out]];exact n
  have K:=RM.out (v:=false) (by rw[y];rfl)
  have E:qaj s ⟨a,f,i⟩=12:=by unfold qaj;rw[if_neg u,if_neg J,if_neg P,if_neg HT.out,if_pos (of_decide_eq_true y)]
  have n:Hid (∀j,Below (w.alloc (.cells #[.int .i64 a,.string f,.bool i] 100)).heap.size (w.alloc (.cells #[.int .i64 a,.string f,.bool i] 100)) j->(.returned (jc 12):Ending)=.returned (jc (qaj s ⟨a,f,i⟩))/\qc8 w b G (qd2 s ⟨a,f,i⟩) j):=λj z=>(r.out _ 12 E (by decide) (qa m z)).out;cases i
  all_goals
   (try have hee:f.toList.isEmpty=true:=by simpa using hgg)
   go_enter func155,ntmps155
   go_wp2_with fail
   refine K.mono ?_;rintro e j ⟨rfl,C⟩
   go_wp2_with fail
   go_ret;exact n.out j C
 simp only[jct,Bool.not_eq_true']at hgg;obtain⟨rfl,hee⟩:=hgg
 have E:qaj s ⟨a,f,true⟩=1:=by unfold qaj;rw[if_neg u,if_neg J,if_neg P,if_pos ⟨rfl,qxq hee⟩]
 have n:=(r.out _ 1 E (by decide) m).out
 all_goals
  go_enter func155,ntmps155
  go_wp2_with fail
  go_ret;exact n
end
section
def qep (w:World) (b:Nat) (wv:Value) (s':qy) (w':World):Prop:=
 ∃wv',qgs w' b wv' s'/\(∀k,wv'.ownBlock=some k->wv.ownBlock=some k\/w.heap.size<=k)/\qc (λk=>k=b\/wv.ownBlock=some k) w w'
variable {w w':World} {b:Nat} {wv:Value} {s:qy}
theorem qep.same (h:qgs w b wv s) (a:Bw w w'):qep w b wv s w':=⟨wv,h.later a,λ_ e=>.inl e,qc.ofBelow a⟩
theorem qvt {a:World} {d:qy} (c:Bw w a) (g:∀k,k≠b->w'.heap[k]?=a.heap[k]?) (h:w'.os=a.os) (i:w'.tape=a.tape) (j:w'.output=a.output) (l:a.heap.size<=w'.heap.size) (m:qd w' b (jr d (.slice none 0 0))) (f:d.ws=[]):qep w b wv d w':=by
 refine⟨.slice none 0 0,⟨m,by rw[f];exact jcx _ _ _ _,by simp[Value.ownBlock]⟩,λk e=>by simp[Value.ownBlock]at e,⟨h.trans c.os,i.trans c.tape,j.trans c.output,jcn c.size l,λk n f=>?_⟩⟩;have o:k≠b:=λe=>f (.inl e);exact(g k o).trans (c.block k n)
theorem q9v {w2:World} {c:Value} (d:Bw w w2) (B:qd w2 b (jr s c)) (a0 a1 a2 a3:Int):
 qep w b wv {s with opn:=true,s0:=a0,s1:=a1,s2:=a2,s3:=a3,ws:=[]} ((((((w2.setCell (AD b 8) (.bool true)).setCell (AD b 4) (U a0)).setCell (AD b 5) (U a1)).setCell (AD b 6) (U a2)).setCell (AD b 7) (U a3)).setCell (AD b 9) (.slice none 0 0)):=by
 have e:=B.set 8 (.bool true) (by simp[jr]);have f:=e.set 4 (U a0) (by simp[jr]);have g:=f.set 5 (U a1) (by simp[jr]);have h:=g.set 6 (U a2) (by simp[jr]);have i:=h.set 7 (U a3) (by simp[jr]);have j:=i.set 9 (.slice none 0 0) (by simp[jr]);refine qvt d (λk a=>?_) ?_ ?_ ?_ ?_ j rfl
 ·rw[jce _ _ _ _ a,jce _ _ _ _ a,jce _ _ _ _ a,jce _ _ _ _ a,jce _ _ _ _ a,jce _ _ _ _ a]
 ·simp only[World.setCell]
 ·simp only[World.setCell]
 ·simp only[World.setCell]
 simp only[World.setCell,Array.size_modify,jcd]
end
section
def qeu (b:Nat) (S:qe) (Y:Nat->Prop):qfr:=⟨λw G=>PS w b G S/\∀k,Y k->¬G k,λ_ _ h=>h.1.lt,λ_ _ _ h a c=>⟨h.1.kept a c,h.2⟩⟩
def q33 (w:World) (b bx:Nat) (G Gx:Nat->Prop) (S:qe) (s:qy) (now:Int) (e:Ending) (w':World):Prop:=
 ∃m:TxM,e=.returned (.tuple #[txV m,jc (qeg S s now)])/\m.t=qce S s now/\Hid (qr w' m.wa m.wc m.t.ws/\qfx (qix b (j0 S s now)) (qeu bx (qcc S s now) m.blk) w G Gx m.blk w')
section
variable {p:qfr} {w w':World} {G Gx Y Z:Nat->Prop} {bx:Nat} {S:qe}
theorem qtr (h:qfx p (qfp bx S) w G Gx Z w') (b:∀k,¬Y k):qfx p (qeu bx S Y) w G Gx Y w':=by
 obtain⟨c,d,p1,e,p2,f,g,_,i⟩:=h;exact⟨c,d,p1,⟨e,λk a=>absurd a (b k)⟩,p2,f,g,λk a=>absurd a (b k),i⟩
theorem q74 (h:qfx p (qeu bx S Y) w G Gx Z w'):qfx p (qfp bx S) w G Gx NoY w':=by
 obtain⟨a,b,p1,c,p2,d,e,_,f⟩:=h;exact⟨a,b,p1,c.1,p2,d,e,λk g=>g.elim,f⟩
end
end
section
variable {w w':World} {G:Nat->Prop}
section
variable {p q:qfr} {w wA wB wC wD wF:World} {G Gx Y N:Nat->Prop}
theorem qz8 (i:∀k,G k->k<w.heap.size) (j:∀k,G k->¬Gx k) (a:Bw w wA) (l:∀k,N k->w.heap.size<=k/\k<wA.heap.size) (m:qbi q wA Gx wB) (d:qc N wB wC):(∀k,G k->wC.heap[k]?=w.heap[k]?)/\w.heap.size<=wC.heap.size:=by
 obtain⟨o,r,t,c⟩:=m;refine⟨λk f=>?_,jcn a.size (jcn c.size d.size)⟩;have g:=i k f;have h:=jci g a.size;exact(d.block k (jci h c.size) (λe=>by have:=(l k e).1;omega)).trans ((c.block k h (j k f)).trans (a.block k g))
theorem qid (l:∀k,G k->k<w.heap.size) (E:∀k,Gx k->k<w.heap.size) (F:∀k,G k->¬Gx k) (g:Bw w wA) (m:∀k,N k->w.heap.size<=k/\k<wA.heap.size) (H:qbi q wA Gx wB) (o:∀k,Y k->wA.heap.size<=k/\k<wB.heap.size)
 (d:qc N wB wC) (I:qbi p wC G wD) (c:qc N wD wF):qfx p q w G Gx Y wF/\∀k,Y k->wF.heap[k]?=wB.heap[k]?:=by
 obtain⟨t,v,u,i⟩:=H;obtain⟨x,p1,ps,f⟩:=I;have P:=g.size;have Q:=i.size;have J:=d.size;have K:=f.size;have z:=c.size;have r:=λk a=>q.lt _ _ v k a
 have A:∀k,t k->¬N k:=λk a e=>by
  have:=m k e;rcases u k a with h|h
  ·have:=E k h;omega
  omega
 have B:∀k,t k->¬G k:=λk a e=>by
  rcases u k a with h|h
  ·exact F k e h
  have:=l k e;omega
 have L:∀k,x k->¬N k:=λk a e=>by
  have:=m k e;rcases ps k a with h|h
  ·have:=l k h;omega
  omega
 refine⟨⟨x,t,?_,?_,λk a=>?_,λk a=>?_,λk a C=>?_,λk a=>⟨?_,?_,λe=>?_⟩,⟨?_,?_,?_,?_,λk a D=>?_⟩⟩,λk a=>?_⟩
 ·exact p.kept _ _ _ p1 (λk a=>c.block k (p.lt _ _ p1 k a) (L k a)) z
 ·have M:=q.kept _ _ _ v (λk a=>d.block k (r k a) (A k a)) J;have O:=q.kept _ _ _ M (λk a=>f.block k (by have:=r k a;omega) (B k a)) K;exact q.kept _ _ _ O (λk a=>c.block k (by have:=r k a;omega) (A k a)) z
 ·rcases ps k a with h|h
  ·exact .inl h
  exact .inr (by omega)
 ·rcases u k a with h|h
  ·exact .inl h
  exact .inr (by omega)
 ·rcases ps k a with h|h
  ·exact B k C h
  have:=r k C;omega
 ·have:=(o k a).1;omega
 ·have:=(o k a).2;omega
 ·have:=o k a;rcases ps k e with h|h
  ·have:=l k h;omega
  omega
 ·exact c.os.trans (f.os.trans (d.os.trans (i.os.trans g.os)))
 ·exact c.tape.trans (f.tape.trans (d.tape.trans (i.tape.trans g.tape)))
 ·exact c.output.trans (f.output.trans (d.output.trans (i.output.trans g.output)))
 ·omega
 ·have j:¬N k:=λe=>by have:=(m k e).1;omega
  exact(c.block k (by omega) j).trans ((f.block k (by omega) (λe=>D (.inl e))).trans ((d.block k (by omega) j).trans ((i.block k (by omega) (λe=>D (.inr e))).trans (g.block k a))))
 have y:=o k a
 have j:¬N k:=λe=>by have:=(m k e).2;omega
 exact(c.block k (by omega) j).trans ((f.block k (by omega) (λe=>by have:=l k e;omega)).trans (d.block k (by omega) j))
theorem qod {p q:qfr} {Gx:Nat->Prop} (d:p.is w G) (e:q.is w Gx) (f:∀k,G k->¬Gx k) (c:Bw w w') (Y:Nat->Prop) (g:∀k,¬Y k):qfx p q w G Gx Y w':=
 ⟨G,Gx,p.kept _ _ _ d (λk a=>c.block k (p.lt _ _ d k a)) c.size,q.kept _ _ _ e (λk a=>c.block k (q.lt _ _ e k a)) c.size,λ_ a=>.inl a,λ_ a=>.inl a,f,λk a=>absurd a (g k),qc.ofBelow c⟩
end
variable {b:Nat}
theorem qaz {F:Nat->Prop} {W:World} (h:qc F w W) (a:F b) (x0 x1 x2 x3 c d e f:Int) (v:Value):qc F w (js W b x0 x1 x2 x3 c d e f v):=
 ((((((((h.trans (qc.setCell _ _ _ a)).trans (qc.setCell _ _ _ a)).trans (qc.setCell _ _ _ a)).trans (qc.setCell _ _ _ a)).trans (qc.setCell _ _ _ a)).trans (qc.setCell _ _ _ a)).trans (qc.setCell _ _ _ a)).trans (qc.setCell _ _ _ a)).trans (qc.setCell _ _ _ a)
def qnk (n:Nat) (x:Int) (s:qy):qy:={s with p0:=if n=0 then x else s.p0,p1:=if n=1 then x else s.p1,p2:=if n=2 then x else s.p2,p3:=if n=3 then x else s.p3}
variable {s:qy} {wv:Value} {n:Int}
theorem q86 (c:0<=n) (d:n<=3):(jr s wv)[n.toNat]?=some (U (qp n s.p0 s.p1 s.p2 s.p3)):=by
 have a:n=0\/n=1\/n=2\/n=3:=by omega
 rcases a with rfl|rfl|rfl|rfl<;>rfl
theorem q5u {a:Value} (d:0<=n) (e:n<=3):(yj s a)[n.toNat]?=some (U (qp n s.p0 s.p1 s.p2 s.p3)):=by
 have c:n=0\/n=1\/n=2\/n=3:=by omega
 rcases c with rfl|rfl|rfl|rfl<;>rfl
theorem qlh {a c:Int} (e:0<=a) (f:a<=3):atLeast a c s=qnk a.toNat (jd (qp a s.p0 s.p1 s.p2 s.p3) c) s:=by
 have d:a=0\/a=1\/a=2\/a=3:=by omega
 rcases d with rfl|rfl|rfl|rfl<;>rfl
theorem qwy {a c:Int} (d:0<=a) (e:a<=3) (h:¬qp a s.p0 s.p1 s.p2 s.p3<c):atLeast a c s=s:=by
 have f:a=0\/a=1\/a=2\/a=3:=by omega
 rw[qlh d e,qh1 h]
 rcases f with rfl|rfl|rfl|rfl<;>rfl
theorem qgs.keptB (h:qgs w b wv s) (a:∀k,(k=b\/wv.ownBlock=some k)->w'.heap[k]?=w.heap[k]?) (c:w.heap.size<=w'.heap.size):qgs w' b wv s:=⟨h.box.kept (a b (.inl rfl)) c,qf h.row (λk e=>a k (.inr e)),h.nb⟩
variable {w1 w2:World}
theorem qep.after (h:qep w b wv s w1) (a:Bw w1 w2):qep w b wv s w2:=by
 obtain⟨c,d,e,f⟩:=h;exact⟨c,d.later a,e,f.trans (qc.ofBelow a)⟩
theorem qep.past (h:qep w b wv s w1) {n:Nat} (c:n<4) (x:Int):qep w b wv (qnk n x s) (w1.setCell (AD b n) (U x)):=by
 obtain⟨d,a,f,g⟩:=h;have R:=a.box.set n (U x) (by simp[jr];omega);refine⟨d,⟨?_,qf a.row (λk e=>jce _ _ _ _ (λi=>a.nb (by have j:k=b:=i;rw[<-j];exact e))),a.nb⟩,f,g.trans (qc.setCell _ _ _ (.inl rfl))⟩
 match n,c with
 |0,_=>exact R
 |1,_=>exact R
 |2,_=>exact R
 |3,_=>exact R
theorem qc8.after (h:qc8 w b G s w1) (a:Bw w1 w2):qc8 w b G s w2:=by
 obtain⟨c,d,e,f⟩:=h;exact⟨c,d.later a,e,f.trans (qc.ofBelow a)⟩
theorem qc8.past (a:G b) (h:qc8 w b G s w1) {n:Nat} (c:n<4) (x:Int):qc8 w b G (qnk n x s) (w1.setCell (AD b n) (U x)):=by
 obtain⟨g,d,e,f⟩:=h;exact q7c d e a f n c x
theorem qk4 (w:World):qr w tx0.wa tx0.wc tx0.t.ws:=⟨jcd _,by decide,.inl rfl⟩
theorem qfb (k:Nat):¬tx0.blk k:=λh=>absurd rfl h.1
variable {S:qe}
theorem qjx {now:Int} (e:s.opn=true) (a:(jh s.ws).length≠0):
 qeg S s now=qfl S now s.s0 s.s1 s.s2 s.s3 (jh s.ws)/\qce S s now=qha S now s.s0 s.s1 s.s2 s.s3 (jh s.ws)/\qcc S s now=qf3 S now s.s0 s.s1 s.s2 s.s3 (jh s.ws):=by
 have c:¬s.opn=false:=by rw[e];decide
 have d:¬(s.opn=false\/(jh s.ws).length=0):=by rintro (h|h);exact c h;exact a h
 exact⟨by unfold qeg;rw[if_neg c,if_neg a],by unfold qce;rw[if_neg d],by unfold qcc;rw[if_neg d]⟩
theorem qml {now:Int} (c:s.opn=true) (a:(jh s.ws).length=0):
 qeg S s now=0/\qce S s now=tx0.t/\qcc S s now=S/\j0 S s now=qc3 s:=by
 have d:¬s.opn=false:=by rw[c];decide
 have E:qeg S s now=0:=by unfold qeg;rw[if_neg d,if_pos a]
 exact⟨E,by unfold qce;rw[if_pos (.inr a)];rfl,by unfold qcc;rw[if_pos (.inr a)],by unfold j0;rw[if_neg (by rw[E];decide),if_pos a]⟩
theorem qmm {now:Int} (a:s.opn=false):
 qeg S s now=6/\qce S s now=tx0.t/\qcc S s now=S/\j0 S s now=s:=by
 have E:qeg S s now=6:=by unfold qeg;rw[if_pos a]
 exact⟨E,by unfold qce;rw[if_pos (.inl a)];rfl,by unfold qcc;rw[if_pos (.inl a)],by unfold j0;rw[if_pos (by rw[E];decide)]⟩
theorem qp7 {now:Int} (c:s.opn=true) (d:(jh s.ws).length≠0) (a:qfl S now s.s0 s.s1 s.s2 s.s3 (jh s.ws)≠0):j0 S s now=s/\qf3 S now s.s0 s.s1 s.s2 s.s3 (jh s.ws)=S/\qha S now s.s0 s.s1 s.s2 s.s3 (jh s.ws)=tx0.t:=by
 refine⟨by unfold j0;rw[if_pos (by rw[(qjx c d).1];exact a)],by unfold qf3;rw[if_neg a],by unfold qha;rw[if_neg a];rfl⟩
theorem qrv {now:Int} (d:s.opn=true) (a:(jh s.ws).length≠0) (c:qfl S now s.s0 s.s1 s.s2 s.s3 (jh s.ws)=0):j0 S s now=atLeast (qha S now s.s0 s.s1 s.s2 s.s3 (jh s.ws)).site (qha S now s.s0 s.s1 s.s2 s.s3 (jh s.ws)).seq (qc3 s)/\(qha S now s.s0 s.s1 s.s2 s.s3 (jh s.ws)).site=S.id:=by
 have y:=qjx (S:=S) (now:=now) d a;refine⟨by unfold j0;rw[if_neg (by rw[y.1,c];decide),if_neg a,y.2.1],by unfold qha;rw[if_pos c];rfl⟩
end
section
def qlv (a0 a1 a2 a3:Int) (l:List Hd) (k:Nat):List Value:=qej a0 a1 a2 a3 l k++List.replicate (8-k) (.string ⟨#[]⟩)
theorem qij (a0 a1 a2 a3:Int) (l:List Hd) (k:Nat):(qej a0 a1 a2 a3 l k).length=k:=by simp[qej]
variable {a0 a1 a2 a3:Int} {l:List Hd} {k:Nat}
theorem q38 (a:k<8):(qlv a0 a1 a2 a3 l k).set k (.string (qdf a0 a1 a2 a3 l k))=qlv a0 a1 a2 a3 l (k+1):=by
 unfold qlv;rw[List.set_append_right _ _ (by rw[qij];omega),qij,Nat.sub_self,qi3,show 8-k=8-(k+1)+1 by omega,List.replicate_succ,List.set_cons_zero,jcy];rfl
theorem q25 (a:k<8) (h:qdf a0 a1 a2 a3 l k=⟨#[]⟩):qlv a0 a1 a2 a3 l k=qlv a0 a1 a2 a3 l (k+1):=by
 unfold qlv;rw[qi3,h,show 8-k=8-(k+1)+1 by omega,List.replicate_succ,jcy];rfl
end
theorem q6v {b L:Nat} {F:Nat->Prop} {l:List Hd} (a0 a1 a2 a3:Int) (w:World) (M:qir w b L F l) (hl:l.length<=1000) (N:qfk l) (O:∀h∈l,qau h.v=true):
 Ca 217 #[.pointer (some (AD b L)),.agg #[U a0,U a1,U a2,U a3]] w λe w'=>∃v,e=.returned v/\w'.ownsRow w.heap.size 9 1 v 8 (qej a0 a1 a2 a3 l 8)/\Bw w w':=by
 have m:=qd.new (w:=w) (T:=77) [U a0,U a1,U a2,U a3] rfl;have a:=boxed (jcc _ w) (.cells #[U a0,U a1,U a2,U a3] 77);have Q:=hd1 M;have HA:=hd1 N;have R:=hd1 O;clear M N O;obtain⟨i0,hi,S,V,W⟩:=info_parts qki;obtain⟨X,B,C,D⟩:=run_make_full (P:=Tryz.prog) (w.alloc (.cells #[U a0,U a1,U a2,U a3] 77)) w.heap.size 42 9 i0 (.string ⟨#[]⟩) 1 Tryz.underlying42 hi S V .i64 .i64 8 (by rw[W];decide) (by simp[maxLen]) (by simp)
 have hmk2:(Instr.makeSlice 42 (U 8) (U 8)).run Tryz.prog (w.alloc (.cells #[U a0,U a1,U a2,U a3] 77))=.ok (.slice (PT (w.heap.size+1)) 8 8) X:=by
  rw[jdi]at B;exact B
 have Y:X.ownsRow w.heap.size 9 1 (.slice (PT (w.heap.size+1)) 8 8) 8 (qlv a0 a1 a2 a3 l 0):=by
  rw[jdi,show (Value.string ⟨#[]⟩).cells=#[Value.string ⟨#[]⟩]from rfl,toList_madeCells_one]at C;exact C
 have Z:=m.grown D (by simp);have f:=a.grown D a.size (λk e=>by cases e);clear B C m a D hi S V W;go_enter Tryz.func217,Tryz.ntmps217
 go_wp2_with fail
 clear hmk2
 go_loopw [12] (λiv wr=>∃(k:Nat) (z:Int),k<=8/\z=k/\iv=U z/\wr.ownsRow w.heap.size 9 1 (.slice (PT (w.heap.size+1)) 8 8) 8 (qlv a0 a1 a2 a3 l k)/\qd wr w.heap.size [U a0,U a1,U a2,U a3]/\Bw w wr) (λi _=>8-(intOf i).toNat)
 case atStart=>exact⟨0,0,by omega,rfl,rfl,Y,Z,f⟩
 clear Y Z f;obtain⟨k,z,hk,E,rfl,g,m,a⟩:=hrel;have s:=hd1 E;by_cases aa:k<8
 ·have h1:z<8:=by omega
  have h3:0<=z:=by omega
  have h2:z.toNat=k:=by omega
  have S4:=Q.out.kept (λj G=>a.block j (Q.out.lt j G)) a.size;obtain⟨c0,c1,c2,c3⟩:=m.c4;clear E
  go_wp2_with fail
  refine(qq1 z a0 a1 a2 a3 _ S4 hl HA.out R.out).mono ?_;rintro e w2 ⟨rfl,f⟩;clear c0 c1 c2 c3 S4;have H:=qoc (key:=z) (a0:=a0) (a1:=a1) (a2:=a2) (a3:=a3) R.out
  have r:Hid (qdf a0 a1 a2 a3 l k=if (zz z a0 a1 a2 a3 l).2=0 then (⟨#[61]⟩:ByteArray)++(zz z a0 a1 a2 a3 l).1.data else ⟨#[]⟩):=by
   show qdf a0 a1 a2 a3 l k=_;rw[s.out];rfl
  obtain⟨⟨rv,I⟩,hrd⟩:∃x,zz z a0 a1 a2 a3 l=x:=⟨_,rfl⟩;rw[hrd]at r H ⊢;simp only at r H ⊢;clear hrd;obtain⟨n,o,bs,p,d,q⟩:=rv;simp only at r H;rw[show qh ⟨n,o,bs,p,d,q⟩=[U n,U o,U bs,U p,.string d,.bool q]from rfl];replace m:=(m.later f).boxed (.cells #[U n,U o,U bs,U p,.string d,.bool q] 130);have ownk1:=g.kept (row:=none) ⟨f.os,f.tape,f.output,f.size,λj G _=>f.block j G⟩ (by simp[Value.ownBlock]);replace g:=ownk1.alloc (.cells #[U n,U o,U bs,U p,.string d,.bool q] 130);replace a:=boxed (qa a f) (.cells #[U n,U o,U bs,U p,.string d,.bool q] 130);have RB:=qd.new (w:=w2) (T:=130) [U n,U o,U bs,U p,.string d,.bool q] rfl;clear f ownk1;have d3:=RB.c 4;clear RB;by_cases J:I=0
  ·subst J
   have K:Hid (qdf a0 a1 a2 a3 l k=(⟨#[61]⟩:ByteArray)++d):=by show qdf a0 a1 a2 a3 l k=_;rw[r.out,if_pos rfl]
   have ad:=λw=>qfi (P:=Tryz.prog) (⟨#[61]⟩:ByteArray) d (by have z:(⟨#[61]⟩:ByteArray).size=1:=rfl;omega) w;have ev:jc 0=.nilIface:=rfl;rw[ev];have cc:=g.cellAt k (by omega);have cx:∃u,(qlv a0 a1 a2 a3 l k)[k]?=some u:=⟨_,jcg (by simp[qlv,qij];omega)⟩;obtain⟨ux,hux⟩:=cx;rw[hux]at cc;have ff:=g.frozenAt k;have y:=g.stored k (.string ((⟨#[61]⟩:ByteArray)++d));have hbl:=m.lt;have RA9:=m.grown y.2 (by simp);have hb9:=a.grown y.2 (by have:=a.size;omega) (λj e=>by cases e;omega)
   have t:((w2.alloc (.cells #[U n,U o,U bs,U p,.string d,.bool q] 130)).setCell (AD (w.heap.size+1) k) (.string ((⟨#[61]⟩:ByteArray)++d))).ownsRow w.heap.size 9 1 (.slice (PT (w.heap.size+1)) 8 8) 8 (qlv a0 a1 a2 a3 l (k+1)):=by
        rw[<-q38 aa,K.out];exact y.1
   clear r hux y g
   go_wp2_with fail
   go_roundw
   case rel=>exact⟨k+1,z+1,by omega,by have:=s.out;omega,by go_num,t,RA9,hb9⟩
   simp[intOf];have:=s.out;omega
  have ev:jc I=.iface 26 (U I):=by unfold jc;rw[if_neg J]
  rw[ev]
  have K:Hid (qdf a0 a1 a2 a3 l k=⟨#[]⟩):=by show qdf a0 a1 a2 a3 l k=_;rw[r.out,if_neg J]
  have t:(w2.alloc (.cells #[U n,U o,U bs,U p,.string d,.bool q] 130)).ownsRow w.heap.size 9 1 (.slice (PT (w.heap.size+1)) 8 8) 8 (qlv a0 a1 a2 a3 l (k+1)):=by
   rw[<-q25 aa K.out];exact g
  clear r g ev
  go_wp2_with fail
  go_roundw
  case rel=>exact⟨k+1,z+1,by omega,by have:=s.out;omega,by go_num,t,m,a⟩
  simp[intOf];have:=s.out;omega
 obtain rfl:k=8:=by omega
 have h1:¬z<8:=by omega
 clear E
 have t:wr.ownsRow w.heap.size 9 1 (.slice (PT (w.heap.size+1)) 8 8) 8 (qej a0 a1 a2 a3 l 8):=by
  have e:qlv a0 a1 a2 a3 l 8=qej a0 a1 a2 a3 l 8:=by unfold qlv;simp
  rw[<-e];exact g
 clear g
 go_wp2_with fail
 go_ret;exact⟨_,rfl,t,a⟩
end Go.Proofs.YtoanjdndmlffdaaGreatDoor
