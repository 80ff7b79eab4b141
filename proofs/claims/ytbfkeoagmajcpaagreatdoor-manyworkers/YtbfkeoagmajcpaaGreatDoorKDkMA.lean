import Derived.Test.YtbfkeoagmajcpaaGreatDoorSiteK
set_option maxHeartbeats 24000000
set_option maxRecDepth 100000
set_option linter.defProp false
namespace Go.Proofs.YtbfkeoagmajcpaaGreatDoor
open _root_.Go.Proofs.Tryz Go.RowKit
variable {g:Nat} {vs:Lv} {wb w wa w1:Wl} {W':WoS} {T:Tp} {d0 d1 d2 d3:Int} {v:Vl}
section
variable {cb mb b j A:Nat} {Gw G:Np} {W:WoS} {a:Oa} {l:List By}
def q3j {W':Wl} (m o q r d e f h i:Vl):qc (λk=>k=g) W' (((((((((W'.setCell (AD g 0) m).setCell (AD g 1) o).setCell (AD g 2) q).setCell (AD g 3) r).setCell (AD g 4) d).setCell (AD g 5) e).setCell (AD g 6) f).setCell (AD g 7) h).setCell (AD g 8) i):=by
 have c:(λk=>k=g) g:=rfl;exact((((((((qc.setCell _ _ _ c).trans (qc.setCell _ _ _ c)).trans (qc.setCell _ _ _ c)).trans (qc.setCell _ _ _ c)).trans (qc.setCell _ _ _ c)).trans (qc.setCell _ _ _ c)).trans (qc.setCell _ _ _ c)).trans (qc.setCell _ _ _ c)).trans (qc.setCell _ _ _ c)
def ja7 {W':Wl} (h:qd W' g vs) (k:vs.length=9) (m o q r c d e f i:Vl):qd (((((((((W'.setCell (AD g 0) m).setCell (AD g 1) o).setCell (AD g 2) q).setCell (AD g 3) r).setCell (AD g 4) c).setCell (AD g 5) d).setCell (AD g 6) e).setCell (AD g 7) f).setCell (AD g 8) i) g [m,o,q,r,c,d,e,f,i]:=by
 match vs,k with
 |[y0,y1,y2,y3,y4,y5,y6,y7,y8],_=>exact((((((((h.set 0 m oi).set 1 o oi).set 2 q oi).set 3 r oi).set 4 c oi).set 5 d oi).set 6 e oi).set 7 f oi).set 8 i oi
def qwa {w':Wl} {n k:Nat} (d:∀k,Gw k->k<n) (e:vh w' b Gw W' wb) (h:qd w' k vs) (f:n<=k):qd wb k vs:=by
 obtain⟨i,p1,p2,c⟩:=e;exact h.kept (c.block k h.lt (λq=>by have:=d k q;omega)) c.size
def jca (c:∀k,Gw k->k<w.heap.size) (d:w.heap.size<=wa.heap.size) (e:vh (wa.alloc (.cells ZA T)) b Gw W' wb):qd wb wa.heap.size ZL:=qwa c e (qd.new (w:=wa) (T:=T) ZL rfl) d
def jb2 (c:∀k,Gw k->k<w.heap.size) (d:Below ((w.alloc (.cells ZA T)).drew).heap.size ((w.alloc (.cells ZA T)).drew) wa) (e:vh wa b Gw W' wb):qd wb w.heap.size ZL:=qwa c e (((qd.new (w:=w) (T:=T) ZL rfl).drew).later d) (jcd _)
def q0v (w:Wl) (cb mb:Nat) (G:Np) (W':WoS) (b5:Nat) (site seq wall count d0 d1 d2 d3:Int) (wx:Wl):Prop:=qbi (ckP cb mb W') w G wx/\Gl wx/\∃v,qd wx b5 [U site,U seq,U wall,U count,U d0,U d1,U d2,U d3,v]
def jby {c:Nat} {d e wall f:Int} (h:vk w cb mb b Gw G W j a A l) (i:Bw w w1) (k:vh w1 b Gw W' wb) (m:w.heap.size<=c) (n:c<w1.heap.size) (R:qd wb c ZL):
 q0v w cb mb G W' c d e wall f d0 d1 d2 d3 (((((((((wb.setCell (AD c 0) (U d)).setCell (AD c 1) (U e)).setCell (AD c 2) (U wall)).setCell (AD c 3) (U f)).setCell (AD c 4) (U d0)).setCell (AD c 5) (U d1)).setCell (AD c 6) (U d2)).setCell (AD c 7) (U d3)).setCell (AD c 8) v):=by
 obtain⟨o,p⟩:=h.opAt i k m n (q3j (W':=wb) (g:=c) (U d) (U e) (U wall) (U f) (U d0) (U d1) (U d2) (U d3) v);exact⟨o,p,v,ja7 R rfl _ _ _ _ _ _ _ _ _⟩
def jb9 {c d wall e:Int} (h:vk w cb mb b Gw G W j a A l) (f:Bw w w1) (i:vh w1 b Gw W' wb):
 q0v w cb mb G W' wb.heap.size c d wall e d0 d1 d2 d3 (wb.alloc (.cells #[U c,U d,U wall,U e,U d0,U d1,U d2,U d3,v] T)):=by
 have k:=boxed (jcc wb.heap.size wb) (.cells #[U c,U d,U wall,U e,U d0,U d1,U d2,U d3,v] T);exact⟨qe3.after (h.ck.op h.g f i) k,(h.gl2 f i).later k,v,qd.new (w:=wb) (T:=T) [U c,U d,U wall,U e,U d0,U d1,U d2,U d3,v] rfl⟩
def qx3 (w:Wl) (h:vk w cb mb b Gw G W j a A l) {r:List Int} (t:ju 1 l=some r):Ca 57 #[PP cb,.slice a l.length A] w (jm 5 W l w cb mb G):=by
 have S:=hd1 h;obtain⟨v,rfl⟩:∃v,r=[v]:=by
  unfold ju at t;split at t
  .rename_i q;exact List.length_eq_one_iff.1 ((qbb t).trans q)
  cases t
 have N1:Hid (∀w',Bw w w'->Ca 80 #[.slice a l.length A] w' λe w2=>e=.returned (U v)/\Bw w' w2):=λw' B=>(qi1 h.sm w' (h.gl.later B) (h.st.later B)).mono λe w2 ⟨V,C⟩=>by
  obtain⟨u,X,he⟩|⟨X,_⟩:=C
  .have:=X.out;rw[t]at this;injection this with this;injection this with this;rw[this];exact⟨he,V⟩
  have:=X.out;rw[t]at this;cases this
 obtain⟨p,m,wall,s,d0,d1,d2,d3,er,W',told,HCm,OP0⟩:=qrx (b:=b) (G:=Gw) v h.di;have OP:=hd1 (λw' B=>OP0 w' (h.ck.later B).pw);have D:=hd2 HCm t;have N:=h.ck.cell0;have c0a:=λo=>cell_later (boxed (jcc _ w) o) N;have E:=hd1 h.ck.pw.lt;clear h t OP0 HCm;go_enter func57,ntmps57
 go_wp2;go_cut [5,6] (λt5 t6 wx=>∃I:Nat,t5=.pointer (PT I)/\t6=jc er/\Hid (q0v w cb mb G W' I p m wall s d0 d1 d2 d3 wx))
 case first=>
  go_region_with (first|(go_at_call 80;refine(N1.out _ oy).mono ?_;rintro e wa ⟨rfl,Y⟩;have y:Bw w wa:=qa oy Y;have x0:=cell_later y N;have x0a:=λo=>cell_later (boxed y o) N)|(go_at_call 88;refine(OP.out _ (by first|exact y|exact boxed y _)).mono ?_;rintro e wb ⟨ya,yn,yc,rfl,J⟩;have hla:=y.size;(first|(have d:=jca E.out hla J;have e0:=d.c 0;have f0:=d.f 0;have e1:=d.c 1;have f1:=d.f 1;have e2:=d.c 2;have f2:=d.f 2;have e3:=d.c 3;have f3:=d.f 3;have e4:=d.c 4;have f4:=d.f 4;have e5:=d.c 5;have f5:=d.f 5;have e6:=d.c 6;have f6:=d.f 6;have e7:=d.c 7;have f7:=d.f 7;have e8:=d.c 8;have f8:=d.f 8)|(have d:=jb2 E.out Y J;have e0:=d.c 0;have f0:=d.f 0;have e1:=d.c 1;have f1:=d.f 1;have e2:=d.c 2;have f2:=d.f 2;have e3:=d.c 3;have f3:=d.f 3;have e4:=d.c 4;have f4:=d.f 4;have e5:=d.c 5;have f5:=d.f 5;have e6:=d.c 6;have f6:=d.f 6;have e7:=d.c 7;have f7:=d.f 7;have e8:=d.c 8;have f8:=d.f 8)|skip)))
  all_goals
   go_wp2;go_meet
   case rel=>
        refine⟨_,rfl,rfl,?_⟩;show q0v w cb mb G W' _ p m wall s d0 d1 d2 d3 _;first
         |(have RB':=d
           first
            |(with_reducible exact jby S.out (boxed y _) J hla oi RB')
            |(with_reducible exact jby S.out y J (jcd _) (by have q:=Y.size;simp at q;omega) RB'))
         |(with_reducible exact jb9 S.out y J)
 obtain⟨I,rfl,rfl,K⟩:=hcut;have Z:=qda er wc K.out.2.1;have L:Hid (∀e w',qbi (ckP cb mb W') w G w'->qlx er told e->jm 5 W l w cb mb G e w'):=λe w' V C=>⟨W',er,told,by unfold qc2;rw[if_neg oj];show match ju 1 l with|none=>_|some ns=>_;rw[D.out.2];exact D.out.1.cmd.data oj,C,V⟩;clear N1 OP N c0a E
 go_wp2_with fail
 refine Z.mono ?_;rintro e k ⟨O,(⟨z,rfl⟩|⟨z,rfl⟩)⟩;rotate_left
 .exact⟨rfl,L.out _ _ (qe3.after K.out.1 O) (.inr ⟨z,rfl⟩)⟩
 obtain⟨HL,E,v9,R0⟩:=K.out;have R:=R0.later O;have aa:=E.later O;have e1:=R.c 1;have lt5:=R.lt;have F:=D.out.1.wf;have HL3:=hd1 (qe3.after HL O);have H:=D.out.1.yes z;by_cases hs:m=0
 .subst hs;rw[if_pos rfl]at H;have Q:=L.out (.returned (.string ⟨#[110,111,116,104,105,110,103]⟩)) k HL3.out (.inl ⟨z,by rw[H]⟩);clear Z L K D F z H;go_wp2;go_ret;exact Q
 rw[if_neg hs]at H;have l1:(qv [p,m,wall,s]).length<=88:=by have:=ze (l:=[p,m,wall,s]) (λx i=>F x (by simp at i ⊢;obtain e|e|e|e:=i<;>simp[e]));simpa using this
 have l2:(qv [d0,d1,d2,d3]).length<=88:=by have:=ze (l:=[d0,d1,d2,d3]) (λx i=>F x (by simp at i ⊢;obtain e|e|e|e:=i<;>simp[e]));simpa using this
 have A1:=λw=>qfi (P:=prog) (bya (qv [p,m,wall,s])) ⟨#[58,32]⟩ mh w;have A2:=λw=>qfi (P:=prog) (bya (qv [p,m,wall,s])++⟨#[58,32]⟩) (bya (qv [d0,d1,d2,d3])) mh w;have hwx:Bw k ((k.alloc (.cells #[U p,U m,U wall,U s] 3)).drew):=(boxed (jcc _ k) _).drew;have ab:=qb1 (b:=k.heap.size) (o:=0) (cap:=4) (l:=[p,m,wall,s]) oi oi (λx i=>F x (by simp at i ⊢;obtain e|e|e|e:=i<;>simp[e])) ((k.alloc (.cells #[U p,U m,U wall,U s] 3)).drew) (aa.later hwx) oi (qee (w:=k) (T:=3) [p,m,wall,s])
 have BLD:Hid (∀w',Bw k w'->Ca 87 #[.slice (some (AD I 4)) 4 4] w' λe w2=>e=.returned (.string (bya (qv [d0,d1,d2,d3])))/\Bw w' w2):=λw' C=>by
  have M:=R.later C;exact qb1 (b:=I) (o:=4) (cap:=4) (l:=[d0,d1,d2,d3]) oi oi (λx i=>F x (by simp at i ⊢;obtain e|e|e|e:=i<;>simp[e])) w' (aa.later C) M.lt (λq x i=>by
   match q,i with
   |0,i=>simp at i;subst i;exact M.c 4
   |1,i=>simp at i;subst i;exact M.c 5
   |2,i=>simp at i;subst i;exact M.c 6
   |3,i=>simp at i;subst i;exact M.c 7
   |n+4,i=>simp at i)
 have Q:Hid (∀w',Bw k w'->jm 5 W l w cb mb G (.returned (.string (bya (qv [p,m,wall,s])++⟨#[58,32]⟩++bya (qv [d0,d1,d2,d3])))) w'):=λw' B=>L.out _ _ (qe3.after HL3.out B) (.inl ⟨z,by rw[H,<-jz,<-jz]⟩)
 dsimp only[List.length_cons,List.length_nil,Nat.reduceAdd]at ab;have X0:=λ(w':Wl) (h:Bw k w')=>(R.later h).c 0;have X1:=λ(w':Wl) (h:Bw k w')=>(R.later h).c 1;have X2:=λ(w':Wl) (h:Bw k w')=>(R.later h).c 2;have X3:=λ(w':Wl) (h:Bw k w')=>(R.later h).c 3;clear l1 l2 z F Z D H L K R R0 HL E aa
 go_wp2;go_region_held3 (λw'=>Bw k w') ((repeat (first|(with_reducible assumption)|(with_reducible refine boxed ?_ _)|(with_reducible refine jc6 ?_)|(with_reducible exact jcc _ _))))
  (first|(go_at_call 87;(with_reducible refine ab.mono ?_);rintro e w4 ⟨rfl,hb4⟩;have hb43:=qa hwx hb4;have BL2:=BLD.out w4 hb43)|(go_at_call 87;(with_reducible refine BL2.mono ?_);rintro e w5 ⟨rfl,hb5⟩;have hb53:=qa hb43 hb5;have HF0:=Q.out w5 hb53))
 all_goals
  clear ab BL2 Q BLD;go_wp2;go_ret;exact HF0
def q3k (w:Wl) (h:vk w cb mb b Gw G W j a A l):Ca 57 #[PP cb,.slice a l.length A] w (jm 5 W l w cb mb G):=by
 cases hn:ju 1 l with
 |none=>exact q2v w h hn
 |some r=>exact qx3 w h hn
end
end Go.Proofs.YtbfkeoagmajcpaaGreatDoor
