import Derived.Test.YtoanjdndmlffdaaGreatDoorSiteO
import Derived.Shelf.Strings.BuilderK
set_option maxHeartbeats 24000000
set_option maxRecDepth 100000
namespace Go.Proofs.YtoanjdndmlffdaaGreatDoor
open Go.RowKit
section
variable {g:Nat} {vs:List Value} {wb w wa w1:World} {W':WoS} {T:TypeId} {d0 d1 d2 d3:Int} {v:Value}
section
variable {cb mb b j cap:Nat} {Gw G:Nat->Prop} {W:WoS} {a:Option Addr} {l:List ByteArray}
theorem q3j {W':World} (x0 x1 x2 x3 d e f h i:Value):qc (λk=>k=g) W' (((((((((W'.setCell (AD g 0) x0).setCell (AD g 1) x1).setCell (AD g 2) x2).setCell (AD g 3) x3).setCell (AD g 4) d).setCell (AD g 5) e).setCell (AD g 6) f).setCell (AD g 7) h).setCell (AD g 8) i):=by
 have c:(λk=>k=g) g:=rfl;exact((((((((qc.setCell _ _ _ c).trans (qc.setCell _ _ _ c)).trans (qc.setCell _ _ _ c)).trans (qc.setCell _ _ _ c)).trans (qc.setCell _ _ _ c)).trans (qc.setCell _ _ _ c)).trans (qc.setCell _ _ _ c)).trans (qc.setCell _ _ _ c)).trans (qc.setCell _ _ _ c)
theorem ja7 {W':World} (h:qd W' g vs) (k:vs.length=9) (x0 x1 x2 x3 c d e f i:Value):qd (((((((((W'.setCell (AD g 0) x0).setCell (AD g 1) x1).setCell (AD g 2) x2).setCell (AD g 3) x3).setCell (AD g 4) c).setCell (AD g 5) d).setCell (AD g 6) e).setCell (AD g 7) f).setCell (AD g 8) i) g [x0,x1,x2,x3,c,d,e,f,i]:=by
 match vs,k with
 |[y0,y1,y2,y3,y4,y5,y6,y7,y8],_=>exact((((((((h.set 0 x0 (by simp)).set 1 x1 (by simp)).set 2 x2 (by simp)).set 3 x3 (by simp)).set 4 c (by simp)).set 5 d (by simp)).set 6 e (by simp)).set 7 f (by simp)).set 8 i (by simp)
theorem qwa {w':World} {n k:Nat} (d:∀k,Gw k->k<n) (e:vh w' b Gw W' wb) (h:qd w' k vs) (f:n<=k):qd wb k vs:=by
 obtain⟨i,p1,p2,c⟩:=e;exact h.kept (c.block k h.lt (λq=>by have:=d k q;omega)) c.size
theorem jca (c:∀k,Gw k->k<w.heap.size) (d:w.heap.size<=wa.heap.size) (e:vh (wa.alloc (.cells ZA T)) b Gw W' wb):qd wb wa.heap.size ZL:=qwa c e (qd.new (w:=wa) (T:=T) ZL rfl) d
theorem jb2 (c:∀k,Gw k->k<w.heap.size) (d:Below ((w.alloc (.cells ZA T)).drew).heap.size ((w.alloc (.cells ZA T)).drew) wa) (e:vh wa b Gw W' wb):qd wb w.heap.size ZL:=qwa c e (((qd.new (w:=w) (T:=T) ZL rfl).drew).later d) (jcd _)
def q0v (w:World) (cb mb:Nat) (G:Nat->Prop) (W':WoS) (b5:Nat) (site seq wall count d0 d1 d2 d3:Int) (wx:World):Prop:=qbi (ckP cb mb W') w G wx/\Gl wx/\∃v,qd wx b5 [U site,U seq,U wall,U count,U d0,U d1,U d2,U d3,v]
theorem jby {c:Nat} {d e wall f:Int} (h:vk w cb mb b Gw G W j a cap l) (i:Bw w w1) (k:vh w1 b Gw W' wb) (m:w.heap.size<=c) (n:c<w1.heap.size) (R:qd wb c ZL):
 q0v w cb mb G W' c d e wall f d0 d1 d2 d3 (((((((((wb.setCell (AD c 0) (U d)).setCell (AD c 1) (U e)).setCell (AD c 2) (U wall)).setCell (AD c 3) (U f)).setCell (AD c 4) (U d0)).setCell (AD c 5) (U d1)).setCell (AD c 6) (U d2)).setCell (AD c 7) (U d3)).setCell (AD c 8) v):=by
 obtain⟨o,p⟩:=h.opAt i k m n (q3j (W':=wb) (g:=c) (U d) (U e) (U wall) (U f) (U d0) (U d1) (U d2) (U d3) v);exact⟨o,p,v,ja7 R rfl _ _ _ _ _ _ _ _ _⟩
theorem jb9 {c d wall e:Int} (h:vk w cb mb b Gw G W j a cap l) (f:Bw w w1) (i:vh w1 b Gw W' wb):
 q0v w cb mb G W' wb.heap.size c d wall e d0 d1 d2 d3 (wb.alloc (.cells #[U c,U d,U wall,U e,U d0,U d1,U d2,U d3,v] T)):=by
 have k:=boxed (jcc wb.heap.size wb) (.cells #[U c,U d,U wall,U e,U d0,U d1,U d2,U d3,v] T);exact⟨qe3.after (h.ck.op h.g f i) k,(h.gl2 f i).later k,v,qd.new (w:=wb) (T:=T) [U c,U d,U wall,U e,U d0,U d1,U d2,U d3,v] rfl⟩
theorem qx3 (w:World) (h:vk w cb mb b Gw G W j a cap l) {r:List Int} (t:ju 1 l=some r):Ca 51 #[PP cb,.slice a l.length cap] w (jm 5 W l w cb mb G):=by
 have S:=hd1 h
 obtain⟨v,rfl⟩:∃v,r=[v]:=by
  unfold ju at t;split at t
  ·rename_i q;exact List.length_eq_one_iff.1 ((qbb t).trans q)
  cases t
 have N1:Hid (∀w',Bw w w'->Ca 95 #[.slice a l.length cap] w' λe w2=>e=.returned (U v)/\Bw w' w2):=λw' B=>(qi1 h.sm w' (h.gl.later B) (h.st.later B)).mono λe w2 ⟨V,C⟩=>by
  rcases C with ⟨u,X,he⟩|⟨X,_⟩
  ·have:=X.out;rw[t]at this;injection this with this;injection this with this;rw[this];exact⟨he,V⟩
  have:=X.out;rw[t]at this;cases this
 obtain⟨p,m,wall,s,d0,d1,d2,d3,er,W',told,HCm,OP0⟩:=qrx (b:=b) (G:=Gw) v h.di;have OP:=hd1 (λw' B=>OP0 w' (h.ck.later B).pw);have D:=hd2 HCm t;have N:=h.ck.cell0;have c0a:=λo=>cell_later (boxed (jcc _ w) o) N;have E:=hd1 h.ck.pw.lt;clear h t OP0 HCm;go_enter Tryz.func51,Tryz.ntmps51
 go_wp2
 go_cut [5,6] (λt5 t6 wx=>∃I:Nat,t5=.pointer (PT I)/\t6=jc er/\Hid (q0v w cb mb G W' I p m wall s d0 d1 d2 d3 wx))
 case first=>
  go_region_with (first|(go_at_call 95;refine(N1.out _ (by repeat (first|(with_reducible exact jcc _ _)|(with_reducible refine boxed ?_ _)|(with_reducible refine jc6 ?_)))).mono ?_;rintro e wa ⟨rfl,Y⟩;have y:Bw w wa:=qa (by repeat (first|(with_reducible exact jcc _ _)|(with_reducible refine boxed ?_ _)|(with_reducible refine jc6 ?_))) Y;have x0:=cell_later y N;have x0a:=λo=>cell_later (boxed y o) N)|(go_at_call 103;refine(OP.out _ (by first|exact y|exact boxed y _)).mono ?_;rintro e wb ⟨ya,yn,yc,rfl,J⟩;have hla:=y.size;(first|(have d:=jca E.out hla J;have e0:=d.c 0;have f0:=d.f 0;have e1:=d.c 1;have f1:=d.f 1;have e2:=d.c 2;have f2:=d.f 2;have e3:=d.c 3;have f3:=d.f 3;have e4:=d.c 4;have f4:=d.f 4;have e5:=d.c 5;have f5:=d.f 5;have e6:=d.c 6;have f6:=d.f 6;have e7:=d.c 7;have f7:=d.f 7;have e8:=d.c 8;have f8:=d.f 8)|(have d:=jb2 E.out Y J;have e0:=d.c 0;have f0:=d.f 0;have e1:=d.c 1;have f1:=d.f 1;have e2:=d.c 2;have f2:=d.f 2;have e3:=d.c 3;have f3:=d.f 3;have e4:=d.c 4;have f4:=d.f 4;have e5:=d.c 5;have f5:=d.f 5;have e6:=d.c 6;have f6:=d.f 6;have e7:=d.c 7;have f7:=d.f 7;have e8:=d.c 8;have f8:=d.f 8)|skip)))
  all_goals
   go_wp2
   go_meet
   case rel=>
        refine⟨_,rfl,rfl,?_⟩;show q0v w cb mb G W' _ p m wall s d0 d1 d2 d3 _
        first
         |(have RB':=d
           first
            |(with_reducible exact jby S.out (boxed y _) J hla (by simp) RB')
            |(with_reducible exact jby S.out y J (jcd _) (by have q:=Y.size;simp at q;omega) RB'))
         |(with_reducible exact jb9 S.out y J)
 obtain⟨I,rfl,rfl,K⟩:=hcut;have Z:=qda er wc K.out.2.1;have L:Hid (∀e w',qbi (ckP cb mb W') w G w'->qlx er told e->jm 5 W l w cb mb G e w'):=λe w' V C=>⟨W',er,told,by unfold qc2;rw[if_neg (by decide)];show match ju 1 l with|none=>_|some ns=>_;rw[D.out.2];exact D.out.1.cmd.data (by decide),C,V⟩;clear N1 OP N c0a E
 go_wp2_with fail
 refine Z.mono ?_;rintro e k ⟨O,(⟨z,rfl⟩|⟨z,rfl⟩)⟩
 rotate_left
 ·exact⟨rfl,L.out _ _ (qe3.after K.out.1 O) (.inr ⟨z,rfl⟩)⟩
 obtain⟨HL,E,v9,R0⟩:=K.out;have R:=R0.later O;have aa:=E.later O;have e1:=R.c 1;have lt5:=R.lt;have F:=D.out.1.wf;have HL3:=hd1 (qe3.after HL O);have H:=D.out.1.yes z;by_cases hs:m=0
 ·subst hs;rw[if_pos rfl]at H;have Q:=L.out (.returned (.string ⟨#[110,111,116,104,105,110,103]⟩)) k HL3.out (.inl ⟨z,by rw[H]⟩);clear Z L K D F z H
  go_wp2
  go_ret;exact Q
 rw[if_neg hs]at H
 have l1:(qv [p,m,wall,s]).length<=88:=by have:=ze (l:=[p,m,wall,s]) (λx i=>F x (by simp at i ⊢;rcases i with e|e|e|e<;>simp[e]));simpa using this
 have l2:(qv [d0,d1,d2,d3]).length<=88:=by have:=ze (l:=[d0,d1,d2,d3]) (λx i=>F x (by simp at i ⊢;rcases i with e|e|e|e<;>simp[e]));simpa using this
 have A1:=λw=>qfi (P:=Tryz.prog) (bya (qv [p,m,wall,s])) ⟨#[58,32]⟩ (by simp[zo];omega) w;have A2:=λw=>qfi (P:=Tryz.prog) (bya (qv [p,m,wall,s])++⟨#[58,32]⟩) (bya (qv [d0,d1,d2,d3])) (by simp[zo];omega) w;have hwx:Bw k ((k.alloc (.cells #[U p,U m,U wall,U s] 3)).drew):=(boxed (jcc _ k) _).drew;have ab:=qb1 (b:=k.heap.size) (o:=0) (cap:=4) (l:=[p,m,wall,s]) (by simp) (by simp) (λx i=>F x (by simp at i ⊢;rcases i with e|e|e|e<;>simp[e])) ((k.alloc (.cells #[U p,U m,U wall,U s] 3)).drew) (aa.later hwx) (by simp) (qee (w:=k) (T:=3) [p,m,wall,s])
 have BLD:Hid (∀w',Bw k w'->Ca 102 #[.slice (some (AD I 4)) 4 4] w' λe w2=>e=.returned (.string (bya (qv [d0,d1,d2,d3])))/\Bw w' w2):=λw' C=>by
  have M:=R.later C
  exact qb1 (b:=I) (o:=4) (cap:=4) (l:=[d0,d1,d2,d3]) (by simp) (by simp) (λx i=>F x (by simp at i ⊢;rcases i with e|e|e|e<;>simp[e])) w' (aa.later C) M.lt (λq x i=>by
   match q,i with
   |0,i=>simp at i;subst i;exact M.c 4
   |1,i=>simp at i;subst i;exact M.c 5
   |2,i=>simp at i;subst i;exact M.c 6
   |3,i=>simp at i;subst i;exact M.c 7
   |n+4,i=>simp at i)
 have Q:Hid (∀w',Bw k w'->jm 5 W l w cb mb G (.returned (.string (bya (qv [p,m,wall,s])++⟨#[58,32]⟩++bya (qv [d0,d1,d2,d3])))) w'):=λw' B=>L.out _ _ (qe3.after HL3.out B) (.inl ⟨z,by rw[H,<-jz,<-jz]⟩)
 dsimp only[List.length_cons,List.length_nil,Nat.reduceAdd]at ab
 have X0:=λ(w':World) (h:Bw k w')=>(R.later h).c 0;have X1:=λ(w':World) (h:Bw k w')=>(R.later h).c 1;have X2:=λ(w':World) (h:Bw k w')=>(R.later h).c 2;have X3:=λ(w':World) (h:Bw k w')=>(R.later h).c 3;clear l1 l2 z F Z D H L K R R0 HL E aa
 go_wp2
 go_region_held3 (λw'=>Bw k w') ((repeat (first|(with_reducible assumption)|(with_reducible refine boxed ?_ _)|(with_reducible refine jc6 ?_)|(with_reducible exact jcc _ _))))
  (first|(go_at_call 102;(with_reducible refine ab.mono ?_);rintro e w4 ⟨rfl,hb4⟩;have hb43:=qa hwx hb4;have BL2:=BLD.out w4 hb43)|(go_at_call 102;(with_reducible refine BL2.mono ?_);rintro e w5 ⟨rfl,hb5⟩;have hb53:=qa hb43 hb5;have HF0:=Q.out w5 hb53))
 all_goals
  clear ab BL2 Q BLD
  go_wp2
  go_ret;exact HF0
theorem q3k (w:World) (h:vk w cb mb b Gw G W j a cap l):Ca 51 #[PP cb,.slice a l.length cap] w (jm 5 W l w cb mb G):=by
 cases hn:ju 1 l with
 |none=>exact q2v w h hn
 |some r=>exact qx3 w h hn
end
end
section
open Go.Maps
def qmx (i:Nat):Prop:=∀{w:World} {cb mb b j cap:Nat} {Gw G:Nat->Prop} {W:WoS} {a:Option Addr} {l:List ByteArray},vk w cb mb b Gw G W j a cap l->Ca (q3p i) #[PP cb,.slice a l.length cap] w (jm i W l w cb mb G)
theorem qvl (hh:qmx 9):∀i,i<19->qmx i
 |0,_=>λh=>q4h _ h
 |1,_=>λh=>ja5 _ h
 |2,_=>λh=>q5e _ h
 |3,_=>λh=>q8k _ h
 |4,_=>λh=>q3r _ h
 |5,_=>λh=>q3k _ h
 |6,_=>λh=>qze _ h
 |7,_=>λh=>q8p _ h
 |8,_=>λh=>q92 _ h
 |9,_=>hh
 |10,_=>λh=>q8t _ h
 |11,_=>λh=>q9x _ h
 |12,_=>λh=>q8m _ h
 |13,_=>λh=>q8w _ h
 |14,_=>λh=>q9k _ h
 |15,_=>λh=>q59 _ h
 |16,_=>λh=>q6l _ h
 |17,_=>λh=>q4x _ h
 |18,_=>λh=>q6z _ h
 |n+19,h=>absurd h (by omega)
theorem qr4 (w:World):(zeroValue 65).run Tryz.prog w=.ok .nilFunc w:=by kernel_rfl
variable {w:World} {mb cb i:Nat} {s:ByteArray}
theorem zm.held (h:zm w mb cb 19) (hz:s.size<=maxLen) (hi:i<19) (hs:s.data.toList=qn i):(Instr.lookup 55 (.map (some mb)) (.string s) false).run Tryz.prog w=.ok (doV cb i) w:=by
 obtain⟨D,o,d⟩:=h;obtain⟨v,ps,hr,hv⟩:=o.lookup qhg Tryz.underlying55 (qr4 w) (zd:=.held .nilFunc) (zp:=[]) rfl (qps hz);rw[hs,(d.has i hi).2]at hv
 have:v=doV cb i:=by
  unfold qcd at hv;injection hv with hv;injection hv with hv;injection hv
 rw[hr,this]
theorem zm.lacks (h:zm w mb cb 19) (hz:s.size<=maxLen) (hs:∀i,i<19->s.data.toList≠qn i):(Instr.lookup 55 (.map (some mb)) (.string s) false).run Tryz.prog w=.ok .nilFunc w:=by
 obtain⟨D,o,d⟩:=h;obtain⟨v,ps,hr,hv⟩:=o.lookup qhg Tryz.underlying55 (qr4 w) (zd:=.held .nilFunc) (zp:=[]) rfl (qps hz);rw[(d.no _ hs).2]at hv
 have:v=.nilFunc:=by
  unfold qcd at hv;injection hv with hv;injection hv with hv;injection hv
 rw[hr,this]
theorem qfj.tail {A o cap:Nat} {x:ByteArray} {l:List ByteArray} (h:qfj w (some (AD A o)) cap (x::l)):qfj w (some (AD A (o+1))) (cap-1) l:=
 ⟨by have:=h.cap;simp at this;omega,λj y hy=>by
   obtain⟨b,p,e,h2,h3⟩:=h.cell (j+1) y (by simpa using hy);injection e with e;injection e with e1 e2;subst e1;subst e2
   exact⟨A,o+1,rfl,h2,by rw[show o+1+j=o+(j+1) by omega];exact h3⟩⟩
theorem qmv {s:List UInt8} (h:qc9.idxOf? s=some i):i<19/\s=qn i:=by
 rw[List.idxOf?_eq_some_iff]at h;obtain⟨hi,he,_⟩:=h;refine⟨hi,?_⟩;unfold qn;rw[jdp,jcg hi];simpa using he.symm
theorem quh {s:List UInt8} (h:qc9.idxOf? s=none):∀i,i<19->s≠qn i:=λi hi e=>by
 rw[List.idxOf?_eq_none_iff]at h
 apply h
 rw[e];unfold qn;rw[jdp,jcg (show i<qc9.length from hi)];exact jdr _
end
section
open Tryz
structure qlo (w:World) (cb mb b:Nat) (Gw G:Nat->Prop) (W:WoS) (j:Nat):Prop where
 ck:qe3 w cb mb b Gw W
 g:∀k,G k↔(k=cb\/k=mb\/Gw k)
 gl:Gl w
 gn:∀k,k<10->¬G k
 wi:PlI j W
 di:DkI W
def qig (W:WoS) (line:ByteArray) (w:World) (cb mb:Nat) (G:Nat->Prop) (e:Ending) (w':World):Prop:=
 ∃told,e=.returned (.string (bya told))/\∃W',qas W line W' told/\qbi (ckP cb mb W') w G w'
variable {w:World} {B:Nat} {v:Value}
theorem qlg {tmps:Array Value} (a:w.cell? (AD B 0)=some v) (c:tmps[4]?=some (PP B)):(results f11 tmps).run prog w=.ok v w:=by
 simp[results,results11,go_sem,a,c]
variable {w1 wt:World} {cb mb:Nat} {G:Nat->Prop} {W':WoS}
theorem qwn {a:World} (c:Bw w w1) (h:qbi (ckP cb mb W') w1 G wt) (f:w.heap.size<=B) (r:B<w1.heap.size) (g:∀k,G k->k<w.heap.size) (m:Bw wt a):qbi (ckP cb mb W') w G (a.setCell (AD B 0) v):=by
 obtain⟨d,p1,p2,o⟩:=qe3.after h m
 have n:∀k,d k->k≠B:=λk p e=>by
  subst e;rcases p2 k p with q|q
  ·have:=g k q;omega
  omega
 refine⟨d,p1.kept (λk e=>jce _ _ _ _ (n k e)) (by simp[World.setCell]),λk e=>?_,qbl ((qc.ofBelow c).trans o) f v⟩;rcases p2 k e with q|q
 ·exact .inl q
 exact .inr (jcn c.size q)
theorem qlt {n:Nat} (R:qd w1 B [v]) (h:qbi (ckP cb mb W') w1 G wt) (c:∀k,G k->k<n) (d:n<=B):qd wt B [v]:=by
 obtain⟨e,p1,p2,a⟩:=h;exact R.kept (a.block B R.lt (λq=>by have:=c B q;omega)) a.size
theorem q72 (g:Gl w1) (h:qbi (ckP cb mb W') w1 G wt) (c:∀k,k<10->¬G k):Gl wt:=by
 obtain⟨e,p1,p2,a⟩:=h;have:=g.sz;exact g.kept (λk d=>a.block k (by omega) (c k d)) a.size
variable {b j:Nat} {Gw:Nat->Prop} {W:WoS}
theorem qlo.ltG (h:qlo w cb mb b Gw G W j):∀k,G k->k<w.heap.size:=λk a=>by
 rcases(h.g k).1 a with rfl|rfl|e
 ·exact h.ck.ltc
 ·exact h.ck.map.lt
 exact h.ck.pw.lt k e
theorem qoj {g:ByteArray} {n:Int} {tmps:Array Value} (h:qlo w cb mb b Gw G W j) (k:Bw w w1) (R:qd w1 w.heap.size [v]) (a:qbi (ckP cb mb W') w1 G wt) (o:wfI n) (p:qas W g W' (qgt n)) (q:tmps[4]?=some (PP w.heap.size)):
 Leaves prog f11 tmps (qig W g w cb mb G) [{target:=.fn (.func 25) #[PP w.heap.size],args:=#[]}] (.panicking [{v:=.iface 26 (U n),recovered:=false}]) wt:=by
 have d:=qlt R a h.ltG (jcd _);refine leaves_cons (f:=25) (args:=#[PP w.heap.size]) (by simp) (by simp[go_sem]) ?_;refine(qny (AD w.heap.size 0) v n o [] wt (q72 (h.gl.later k) a h.gn) (d.c 0) (d.f 0)).mono ?_;rintro e r s ⟨rfl,rfl,w2,m,rfl⟩;exact⟨_,qlg (((d.later m).set 0 (.string (bya (qgt n))) (by simp)).c 0) q,qgt n,rfl,W',p,qwn k a (jcd _) R.lt h.ltG m⟩
theorem q0g {a:ByteArray} {told:List UInt8} {tmps:Array Value} (h:qlo w cb mb b Gw G W j) (g:Bw w w1) (R:qd w1 w.heap.size [v]) (d:qbi (ckP cb mb W') w1 G wt) (k:qas W a W' told) (m:tmps[4]?=some (PP w.heap.size)):
 Leaves prog f11 tmps (qig W a w cb mb G) [{target:=.fn (.func 25) #[PP w.heap.size],args:=#[]}] .returning (wt.setCell (AD w.heap.size 0) (.string (bya told))):=by
 have n:=qlt R d h.ltG (jcd _);refine leaves_cons (f:=25) (args:=#[PP w.heap.size]) (by simp) (by simp[go_sem]) ?_;refine(qo4 (AD w.heap.size 0) _).mono ?_;rintro e o w2 ⟨rfl,rfl,rfl⟩;exact⟨_,qlg ((n.set 0 (.string (bya told)) (by simp)).c 0) m,told,rfl,W',k,qwn g d (jcd _) R.lt h.ltG (jcc _ _)⟩
theorem qsp (h:qlo w cb mb b Gw G W j) {a:ByteArray} (t:a.size<=20000) (d:qa9 a=[]):
 Ca 11 #[PP cb,.string a] w (qig W a w cb mb G):=by
 have hmf:∀(fn:Fn) (first cap:Array Value) (w:World),(Instr.makeFunc fn first cap).run prog w=.ok (.func fn first cap) w:=λ_ _ _ _=>rfl;have k:=qkj a (by omega) (w.alloc (.cells #[.string ⟨#[]⟩] 9));rw[d]at k;have m:=hd2 h d;have p:=boxed (jcc w.heap.size w) (.cells #[.string ⟨#[]⟩] 9);clear h d
 go_enter_defers func11,ntmps11
 go_wp2_with fail
 refine k.mono ?_;rintro e w1 ⟨A,rfl,u,q,n⟩;have o:=(qd.new (w:=w) (T:=9) [.string ⟨#[]⟩] rfl).later n;have y:=o.c 0;have f1:=o.f 0
 have r:Hid (qig W a w cb mb G (.returned (.string ⟨#[111,107]⟩)) (w1.setCell (AD w.heap.size 0) (.string ⟨#[111,107]⟩))):=by
  refine⟨[111,107],rfl,W,?_,m.out.1.ck.same m.out.1.g (jdz (qa p n) (jcd _) _)⟩;unfold qas;rw[m.out.2];exact⟨rfl,rfl⟩
 have s:=(o.set 0 (.string ⟨#[111,107]⟩) (by simp)).c 0;clear n p q k
 go_wp2
 refine leaves_cons (f:=25) (args:=#[PP w.heap.size]) (by simp) (by simp[go_sem]) ?_;refine(qo4 (AD w.heap.size 0) _).mono ?_;rintro e z w2 ⟨rfl,rfl,rfl⟩;exact⟨_,qlg s rfl,r.out⟩
variable {x:ByteArray} {l:List ByteArray}
theorem qt5 (h:qlo w cb mb b Gw G W j) {a:ByteArray} (D:a.size<=20000) (n:qa9 a=x::l) (z:x.size<=maxLen) (t:qc9.idxOf? x.data.toList=none):
 Ca 11 #[PP cb,.string a] w (qig W a w cb mb G):=by
 have hmf:∀(fn:Fn) (first cap:Array Value) (w:World),(Instr.makeFunc fn first cap).run prog w=.ok (.func fn first cap) w:=λ_ _ _ _=>rfl;have o:=qkj a (by omega) (w.alloc (.cells #[.string ⟨#[]⟩] 9));rw[n]at o;have d:=hd3 h n t;have u:=boxed (jcc w.heap.size w) (.cells #[.string ⟨#[]⟩] 9);clear h n
 go_enter_defers func11,ntmps11
 go_wp2_with fail
 refine o.mono ?_;rintro e w1 ⟨A,rfl,E,y,p⟩;have k:=(qd.new (w:=w) (T:=9) [.string ⟨#[]⟩] rfl).later p;have F:=k.c 0;have f1:=k.f 0;have q:=qa u p;have m:=d.out.1.ck.later q;have H:=m.cell1;obtain⟨I,J,r,K,L⟩:=y.cell 0 x rfl;injection r with r;injection r with e1 e2;subst e1;subst e2;have M:=zm.lacks (w:=w1.drew) (m.map.kept rfl) z (quh t);have s:=hd3 q k (m.same d.out.1.g (jcc _ _).drew)
 have C:Hid (qas W a W (qgt 3)):=by
  show qas W a W (qgt 3);unfold qas;rw[d.out.2.1]
  dsimp only
  rw[d.out.2.2];exact⟨rfl,rfl⟩
 clear p u y o m q k
 dsimp only[List.length_cons]at*
 have N:∀w:World,(binOp .eql 65 .nilFunc .nilFunc).run prog w=.ok (.bool true) w:=λ_=>by kernel_rfl
 go_wp2
 go_region
 all_goals
  go_wp2
  exact qoj d.out.1 s.out.1 s.out.2.1 s.out.2.2 ⟨by decide,by decide⟩ C.out rfl
theorem qrl:∀i,i<19->∀(args:Array Value) (w:World),(callFunc (q3p i) args).run prog w=.ok (.enter (q3p i) args) w
 |0,_=>λ_ _=>by kernel_rfl
 |1,_=>λ_ _=>by kernel_rfl
 |2,_=>λ_ _=>by kernel_rfl
 |3,_=>λ_ _=>by kernel_rfl
 |4,_=>λ_ _=>by kernel_rfl
 |5,_=>λ_ _=>by kernel_rfl
 |6,_=>λ_ _=>by kernel_rfl
 |7,_=>λ_ _=>by kernel_rfl
 |8,_=>λ_ _=>by kernel_rfl
 |9,_=>λ_ _=>by kernel_rfl
 |10,_=>λ_ _=>by kernel_rfl
 |11,_=>λ_ _=>by kernel_rfl
 |12,_=>λ_ _=>by kernel_rfl
 |13,_=>λ_ _=>by kernel_rfl
 |14,_=>λ_ _=>by kernel_rfl
 |15,_=>λ_ _=>by kernel_rfl
 |16,_=>λ_ _=>by kernel_rfl
 |17,_=>λ_ _=>by kernel_rfl
 |18,_=>λ_ _=>by kernel_rfl
 |n+19,h=>absurd h (by omega)
variable {i:Nat}
theorem qx8 (Q:qmx 9) (h:qlo w cb mb b Gw G W j) {m:ByteArray} (hl:m.size<=20000) (s:qa9 m=[x]) (R:x.size<=maxLen) (t:qc9.idxOf? x.data.toList=some i):
 Ca 11 #[PP cb,.string m] w (qig W m w cb mb G):=by
 have hmf:∀(fn:Fn) (first cap:Array Value) (w:World),(Instr.makeFunc fn first cap).run prog w=.ok (.func fn first cap) w:=λ_ _ _ _=>rfl;obtain⟨hi,L⟩:=qmv t;have u:=qkj m (by omega) (w.alloc (.cells #[.string ⟨#[]⟩] 9));rw[s]at u;have k:=hd3 h s t;have M:=boxed (jcc w.heap.size w) (.cells #[.string ⟨#[]⟩] 9);clear h s
 go_enter_defers func11,ntmps11
 go_wp2_with fail
 refine u.mono ?_;rintro e w1 ⟨A,rfl,hA,N,z⟩;have p:=(qd.new (w:=w) (T:=9) [.string ⟨#[]⟩] rfl).later z;have c1:=p.c 0;have f1:=p.f 0;have C:=qa M z;have q:=k.out.1.ck.later C;have cm:=q.cell1;have r:Bw w1 w1.drew:=(jcc _ _).drew;have D:=qa C r;have O:=qvl Q i hi (w:=w1.drew) (cb:=cb) (mb:=mb) (b:=b) (j:=j) (cap:=0) (Gw:=Gw) (G:=G) (W:=W) (a:=some (AD A 0)) (l:=[]) ⟨q.later r,k.out.1.g,k.out.1.gl.later D,k.out.1.gn,k.out.1.wi,k.out.1.di,⟨by simp,λj y S=>by simp at S⟩,by simp⟩;obtain⟨A',o',E,hlt,cx⟩:=N.cell 0 x rfl;injection E with E;injection E with e1 e2;subst e1;subst e2;have V:(Instr.lookup 55 (.map (some mb)) (.string x) false).run prog w1.drew=.ok (.func (.func (q3p i)) #[PP cb] #[]) w1.drew:=zm.held (w:=w1.drew) (q.map.kept rfl) R hi L;have FE:=qrl i hi;have o:=hd2 D (p.later r)
 have eqn:∀(w:World) (f:Fn) (c d:Array Value),(binOp .eql 65 (.func f c d) .nilFunc).run prog w=.ok (.bool false) w:=λ_ _ _ _=>by kernel_rfl
 clear z M N u q C p r D t L
 dsimp only[List.length_cons,List.length_nil,Nat.reduceAdd]at*
 go_wp2
 go_region
 all_goals
  go_wp2_with fail
  refine O.mono ?_;rintro e w2 ⟨W',er,told,F,X,H⟩;have P:=hd1 H;have Y:=F.few.wf
  have I:Hid (qas W m W' (if er=0 then told else qgt er)):=by
   show qas W m W' (if er=0 then told else qgt er);unfold qas;rw[k.out.2.1]
   dsimp only
   rw[k.out.2.2];exact⟨er,told,F,rfl⟩
  have J:=qlt o.out.2 H k.out.1.ltG (jcd _);have c2:=J.c 0;have f2:=J.f 0;clear H F O J V;rcases X with ⟨K,rfl⟩|⟨K,rfl⟩
  ·have n:=I.out;rw[if_pos K]at n;have Z:=hd1 n;clear n I
   go_wp2
   exact q0g k.out.1 o.out.1 o.out.2 P.out Z.out rfl
  have n:=I.out;rw[if_neg K]at n;exact qoj k.out.1 o.out.1 o.out.2 P.out Y n rfl
theorem qyh (R:qmx 9) (h:qlo w cb mb b Gw G W j) {m y:ByteArray} (hl:m.size<=20000) (s:qa9 m=x::y::l) (S:x.size<=maxLen) (V:∀z∈y::l,z.size<=1000000) (t:qc9.idxOf? x.data.toList=some i):
 Ca 11 #[PP cb,.string m] w (qig W m w cb mb G):=by
 have hmf:∀(fn:Fn) (first cap:Array Value) (w:World),(Instr.makeFunc fn first cap).run prog w=.ok (.func fn first cap) w:=λ_ _ _ _=>rfl;obtain⟨hi,N⟩:=qmv t;have u:=qkj m (by omega) (w.alloc (.cells #[.string ⟨#[]⟩] 9));rw[s]at u;have k:=hd3 h s t;have O:=boxed (jcc w.heap.size w) (.cells #[.string ⟨#[]⟩] 9);clear h s
 go_enter_defers func11,ntmps11
 go_wp2_with fail
 refine u.mono ?_;rintro e w1 ⟨A,rfl,hA,C,D⟩;have q:=(qd.new (w:=w) (T:=9) [.string ⟨#[]⟩] rfl).later D;have c1:=q.c 0;have f1:=q.f 0;have E:=qa O D;have r:=k.out.1.ck.later E;have cm:=r.cell1;have o:Bw w1 w1.drew:=(jcc _ _).drew;have F:=qa E o
 have P:=qvl R i hi (w:=w1.drew) (cb:=cb) (mb:=mb) (b:=b) (j:=j) (cap:=l.length+1) (Gw:=Gw) (G:=G) (W:=W) (a:=some (AD A 1)) (l:=y::l) ⟨r.later o,k.out.1.g,k.out.1.gl.later F,k.out.1.gn,k.out.1.wi,k.out.1.di,by
  have:=(C.later o).tail
  simpa using this,V⟩
 obtain⟨A',o',H,hlt,cx⟩:=C.cell 0 x rfl;injection H with H;injection H with e1 e2;subst e1;subst e2;have X:(Instr.lookup 55 (.map (some mb)) (.string x) false).run prog w1.drew=.ok (.func (.func (q3p i)) #[PP cb] #[]) w1.drew:=zm.held (w:=w1.drew) (r.map.kept rfl) S hi N;have FE:=qrl i hi;have p:=hd2 F (q.later o)
 have eqn:∀(w:World) (f:Fn) (c d:Array Value),(binOp .eql 65 (.func f c d) .nilFunc).run prog w=.ok (.bool false) w:=λ_ _ _ _=>by kernel_rfl
 clear D O C u r E q o F t N
 dsimp only[List.length_cons]at*
 go_wp2
 go_region
 all_goals
  go_wp2_with fail
  refine P.mono ?_;rintro e w2 ⟨W',er,told,I,Y,J⟩;have Q:=hd1 J;have Z:=I.few.wf
  have K:Hid (qas W m W' (if er=0 then told else qgt er)):=by
   show qas W m W' (if er=0 then told else qgt er);unfold qas;rw[k.out.2.1]
   dsimp only
   rw[k.out.2.2];exact⟨er,told,I,rfl⟩
  have L:=qlt p.out.2 J k.out.1.ltG (jcd _);have c2:=L.c 0;have f2:=L.f 0;clear J I P L X;rcases Y with ⟨M,rfl⟩|⟨M,rfl⟩
  ·have n:=K.out;rw[if_pos M]at n;have HA:=hd1 n;clear n K
   go_wp2
   exact q0g k.out.1 p.out.1 p.out.2 Q.out HA.out rfl
  have n:=K.out;rw[if_neg M]at n;exact qoj k.out.1 p.out.1 p.out.2 Q.out Z n rfl
end
theorem qx4 (s:ByteArray):∀x∈qa9 s,x.size<=s.size:=λx a=>by
 unfold qa9 Lib.goFieldsP at a;obtain⟨p,_,rfl⟩:=jcz.1 a;rw[ByteArray.size_extract];omega
theorem qy1 (f:qmx 9) {w:World} {cb mb b j:Nat} {Gw G:Nat->Prop} {W:WoS} (h:qlo w cb mb b Gw G W j) {a:ByteArray} (c:a.size<=20000):
 Ca 11 #[PP cb,.string a] w (qig W a w cb mb G):=by
 have d:=qx4 a;cases hw:qa9 a with
 |nil=>exact qsp h c hw
 |cons x l=>
  rw[hw]at d
  have e:x.size<=maxLen:=by have:=d x (by simp);simp only[maxLen];omega
  cases hn:qc9.idxOf? x.data.toList with
  |none=>exact qt5 h c hw e hn
  |some i=>
   cases l with
   |nil=>exact qx8 f h c hw e hn
   |cons y l=>exact qyh f h c hw e (λz q=>by have:=d z (by simp only[jdd]at q ⊢;exact .inr q);omega) hn
theorem q9g:qmx 9:=λ{w cb mb b j cap Gw G W a l} h=>by
 show Ca 55 #[PP cb,.slice a l.length cap] w (jm 9 W l w cb mb G);have m:=hd1 h;have s:=qpc h.sm w h.gl h.st;clear h;go_enter Tryz.func55,Tryz.ntmps55
 go_wp2_with fail
 refine s.mono ?_;rintro e t ⟨f,(⟨n,rfl⟩|⟨n,rfl⟩)⟩
 ·have o:=m.out.ck.later f;have X:=o.cell1;obtain⟨D,own,d⟩:=o.map;have u:=callsIn_wide.1 (jef (some mb) t);have z:=callsIn_wide.1 (jd3 mb 19 D qcd t own (by rw[d.size];decide) (by rw[d.size];decide));have B:=hd2 own d;have M:=hd1 f;clear o own d s f
  go_wp2_with fail
  refine u.mono ?_;rintro e w2 ⟨rfl,rfl⟩
  go_wp2_with fail
  refine z.mono ?_;rintro e i ⟨v,N,rfl,C,k,_,F⟩;have E:=qup B.out.1 B.out.2 C
  have O:N.length=19:=by have:=congrArg List.length E;rw[List.length_mergeSort]at this;exact this
  rw[E,O]at k;obtain⟨_,(⟨_,P⟩|⟨g,H,cur,rfl,Y,I,Q,Z,R,S⟩)⟩:=id k
  ·cases P
  have p:=jd1 g 0 H (qc9.map bya) ⟨#[32]⟩ i (λq y J=>by
   rw[Nat.zero_add];rw[jcv]at J;obtain⟨x,K,rfl⟩:=Option.map_eq_some_iff.1 J;have T:q<19:=(jck.1 K).1;rw[k.cellAt q (by rw[Nat.mul_one];exact T),jcv,K]
   rfl) (jcs.1 I).1 (by decide) Q (by decide)
  replace p:Ca 42 #[.slice (PT g) 19 H,.string ⟨#[32]⟩] i λe w'=>e=.returned (.string (bya (Lib.join qc9 [32])))/\Bw i w':=p;have L:Hid (∀c,Bw i c->jm 9 W l w cb mb G (.returned (.string (bya (Lib.join qc9 [32])))) c):=λc r=>m.out.told (by decide) n.out ⟨rfl,rfl,rfl⟩ (qa (qa (boxed M.out _) F) r) (.inl ⟨rfl,rfl⟩);clear k I S R C E F z u
  go_wp2_with fail
  refine p.mono ?_;rintro e c ⟨rfl,r⟩;have V:=L.out c r;clear L
  go_wp2
  go_ret;exact V
 exact⟨rfl,m.out.no (by decide) n.out f⟩
section
structure qko (w0:World) (B cb mb tb:Nat) (X Z:Nat->Prop) (W:WoS) (out:List UInt8) (A:World) (G H:Nat->Prop):Prop where
 ck:qvq cb mb W A G
 bl:qht B tb out A H
 ap:∀k,G k->¬H k
 xz:∀k,X k->Z k/\k<w0.heap.size
 gx:∀k,k<10->X k
 z:∀k,Z k->¬G k/\¬H k
 gl:Gl A
 kp:jg X w0 A
section
variable {w0 A A':World} {B cb mb tb:Nat} {X Z G H:Nat->Prop} {W W':WoS} {out out':List UInt8}
theorem qko.later (h:qko w0 B cb mb tb X Z W out A G H) (a:Bw A A'):qko w0 B cb mb tb X Z W out A' G H:=
 ⟨h.ck.kept (λk e=>a.block k (h.ck.lt k e)) a.size,h.bl.kept (λk e=>a.block k (h.bl.lt k e)),h.ap,h.xz,h.gx,h.z,h.gl.later a,h.kp.trans ⟨a.os,a.tape,a.output,a.size,λk e=>a.block k (jci (h.xz k e).2 h.kp.size)⟩⟩
theorem qko.puts (h:qko w0 B cb mb tb X Z W out A G H) {q:Nat} (d:Z q) (f:¬X q) (o:Obj):qko w0 B cb mb tb X Z W out (A.putObj q o) G H:=by
 have b:∀k,k≠q->(A.putObj q o).heap[k]?=A.heap[k]?:=λk g=>World.putObj_heap_other g
 have c:A.heap.size<=(A.putObj q o).heap.size:=by simp
 exact⟨h.ck.kept (λk e=>b k (λa=>(h.z q d).1 (a▸e))) c,h.bl.kept (λk e=>b k (λa=>(h.z q d).2 (a▸e))),h.ap,h.xz,h.gx,h.z,h.gl.kept (λk e=>b k (λa=>f (a▸h.gx k e))) c,h.kp.trans ⟨rfl,rfl,rfl,c,λk e=>b k (λa=>f (a▸e))⟩⟩
theorem qko.ans (h:qko w0 B cb mb tb X Z W out A G H) (f:∀k,Z k->k<A.heap.size) (g:qbi (ckP cb mb W') A G A'):∃c,qko w0 B cb mb tb X Z W' out A' c H/\jg Z A A':=by
 obtain⟨c,p1,p2,a⟩:=g;have d:jg Z A A':=⟨a.os,a.tape,a.output,a.size,λk e=>a.block k (f k e) (h.z k e).1⟩;refine⟨c,⟨p1,h.bl.kept (λk e=>a.block k (h.bl.lt k e) (λq=>h.ap k q e)),λk e b=>?_,h.xz,h.gx,λk e=>⟨λb=>?_,(h.z k e).2⟩,h.gl.kept (λk e=>d.block k (h.xz k (h.gx k e)).1) a.size,h.kp.trans ⟨a.os,a.tape,a.output,a.size,λk e=>d.block k (h.xz k e).1⟩⟩,d⟩
 ·rcases p2 k e with q|q
  ·exact h.ap k q b
  have:=h.bl.lt k b;omega
 rcases p2 k b with q|q
 ·exact(h.z k e).1 q
 have:=f k e;omega
theorem qko.wrote (h:qko w0 B cb mb tb X Z W out A G H) (f:∀k,Z k->k<A.heap.size) (g:qbi (q2z B tb out') A H A'):∃b,qko w0 B cb mb tb X Z W out' A' G b/\jg Z A A':=by
 obtain⟨b,p1,p2,a⟩:=g;have c:jg Z A A':=⟨a.os,a.tape,a.output,a.size,λk e=>a.block k (f k e) (h.z k e).2⟩;refine⟨b,⟨h.ck.kept (λk e=>a.block k (h.ck.lt k e) (h.ap k e)) a.size,p1,λk e d=>?_,h.xz,h.gx,λk e=>⟨(h.z k e).1,λd=>?_⟩,h.gl.kept (λk e=>c.block k (h.xz k (h.gx k e)).1) a.size,h.kp.trans ⟨a.os,a.tape,a.output,a.size,λk e=>c.block k (h.xz k e).1⟩⟩,c⟩
 ·rcases p2 k d with q|q
  ·exact h.ap k e q
  have:=h.ck.lt k e;omega
 rcases p2 k d with q|q
 ·exact(h.z k e).2 q
 have:=f k e;omega
theorem qko.answer (h:qko w0 B cb mb tb X Z W out A G H) (c:DkI W) {a:ByteArray} (d:a.size<=20000):
 Ca 11 #[PP cb,.string a] A (qig W a A cb mb G):=by
 obtain⟨b,Gw,f,g⟩:=h.ck;obtain⟨j,i⟩:=c.pl;exact qy1 q9g ⟨f,g,h.gl,λk e=>(h.z k (h.xz k (h.gx k e)).1).1,i,c⟩ d
end
def SsI (w0:World) (B cb mb tb:Nat) (X Z:Nat->Prop) (pre:List ByteArray) (A:World):Prop:=∃W out G H,qd8 (qcb 2 2) pre out W/\qko w0 B cb mb tb X Z W out A G H
end
open Go.Shelf
attribute [local go_sem] Oper.semAt_some
theorem qqq {B b:Nat} {l:List UInt8} {G:Nat->Prop} (w:World) (h:qht B b l w G) (c:B<=w.heap.size):
 Ca 13 #[PP b] w λe w'=>e=.returned (.string (bya l))/\Below B w w'/\∀(k:Nat) D,w.heap[k]?=some (Obj.deferred D)->w'.heap[k]?=some (Obj.deferred D):=
 (Any.Builder_String_any_k je5 jd8 B b l w (Lib.IsBuilderF.of h.is) c).mono λe w' ⟨d,_,f,g⟩=>⟨d,f,λk D a=>g k _ a (λe=>by
  injection e with e;subst e;obtain⟨_,_,_,_,q,_⟩:=h;rw[a]at q
  cases q) (λ_ _ e=>by cases e)⟩
def jad (s:ByteArray) (out:List UInt8):Prop:=∃A,qd8 (qcb 2 2) ((qfq s.data.toList).map bya) out A
theorem quu (s:ByteArray) (S:s.size<=20000) (w:World) (g:Gl w):
 Ca 5 #[.string s] w λe w'=>∃d,e=.returned (.string (bya d))/\jad s d/\Bw w w':=by
 refine(callsIn_wide (n:=6)).1 ?_;have V:=qsk w g;have HG:=hd1 g
 have hmany:¬20000<(s.size:Int):=by omega
 have X:=hd1 S;clear g S;refine callsIn_of_wp_marks Tryz.func5 rfl trivial ?_ rfl;simp only[Tryz.ntmps5,List.size_toArray,List.length_cons,List.length_nil,Nat.reduceAdd,Nat.reduceSub,Array.replicate_succ,Array.replicate_zero,List.push_toArray,List.append_toArray,jda,jdj]
 gi_wp2_with (refine⟨trivial,?_⟩;gi_at_call 8;refine(callsIn_wide.2 V).mono ?_;rintro e a ⟨cb,rfl,HN⟩)
 gi_wp2_with (refine⟨trivial,?_⟩;gi_at_call 9;refine(callsIn_wide.2 (q60 s _)).mono ?_;rintro e w' ⟨rfl,rfl⟩)
 obtain⟨mb,G,C,Y,D,Z⟩:=HN;obtain⟨b,i⟩:∃b,((a.alloc (.cells #[PP cb] 27)).alloc (.cells #[.pointer none,.slice none 0 0] 32)).alloc (.cells #[.string s] 9)=b:=⟨_,rfl⟩
 have r:Bw a b:=by rw[<-i];exact boxed (boxed (boxed (jcc _ a) _) _) _
 have sz0:b.heap.size=a.heap.size+3:=by rw[<-i];simp
 have RC:qd b a.heap.size [PP cb]:=by rw[<-i];exact((qd.new (w:=a) (T:=27) [PP cb] rfl).boxed _).boxed _
 have RL:qd b (a.heap.size+1+1) [.string s]:=by rw[<-i];exact qd.new (w:=(a.alloc (.cells #[PP cb] 27)).alloc (.cells #[.pointer none,.slice none 0 0] 32)) (T:=9) (n:=a.heap.size+1+1) [.string s] (by simp)
 have hbx:b.heap[a.heap.size+1]?=some (.cells #[.pointer none,.slice none 0 0] 32 (0,0)):=by
  rw[<-i];refine(jdg _ _ _ (by simp)).trans ?_;have:=World.alloc_heap_new (a.alloc (.cells #[PP cb] 27)) (.cells #[.pointer none,.slice none 0 0] 32 (0,0))
  rwa [jdi]at this
 rw[i];clear i;have ls:=D.size
 have E:qko b a.heap.size cb mb (a.heap.size+1) (λk=>k<w.heap.size\/k=a.heap.size) (λk=>k<w.heap.size\/k=a.heap.size\/k=b.heap.size\/k=b.heap.size+1) (qcb 2 2) [] b G (λk=>k=a.heap.size+1):=by
  have F:=C.lt;refine⟨C.kept (λk e=>r.block k (F k e)) r.size,⟨by omega,.pointer none,.slice none 0 0,.inl rfl,hbx,⟨rfl,.inl ⟨rfl,rfl⟩⟩,by simp[Value.ownBlock],λk=>by simp[Value.ownBlock]⟩,λk e e2=>?_,λk e=>?_,λk e=>?_,λk e=>?_,Z.later r,jg.refl _ _⟩
  ·have:=F k e;omega
  ·rcases e with e|e
   ·exact⟨.inl e,by omega⟩
   exact⟨.inr (.inl e),by omega⟩
  ·exact .inl (jci e HG.out.sz)
  refine⟨λq=>?_,?_⟩
  ·have:=Y k q;have:=F k q;omega
  omega
 have hd0:DkI (qcb 2 2):=DkI.new (by decide) (by decide) (by decide);have hmanyL:=qu7 s.data.toList
 have hsl:s.data.toList.length<=20000:=by rw[<-Lib.size_eq];exact X.out
 have I:=qym 5 (by decide) s X.out (a.heap.size+1+1) b (by omega) (RL.c 0);have HB:=hd2 D r;clear V C Y Z D r hbx RL
 refine qli rfl (by decide) (gf:=21) (lb:=#[PP (a.heap.size+1+1)]) rfl trivial (enters_of Tryz.func21 (by kernel_rfl) rfl) I (jcc _ _) (λ_=>rfl)
  (SsI b a.heap.size cb mb (a.heap.size+1) (λk=>k<w.heap.size\/k=a.heap.size) (λk=>k<w.heap.size\/k=a.heap.size\/k=b.heap.size\/k=b.heap.size+1))
  (λ_ _ ⟨_,_,_,_,_,h⟩=>h.gl) (λ_ _ _ ⟨j,d,G,H,J,h⟩ hb=>⟨j,d,G,H,J,h.later hb⟩) (λ_ _ o ⟨j,d,G,H,J,h⟩=>⟨j,d,G,H,J,h.puts (by simp) (by omega) o⟩) ⟨_,_,_,_,.nil,E⟩
  (λx=>{tmps:=#[.string s,undef,.string ⟨#[]⟩,PP a.heap.size,PP (a.heap.size+1),.string x,.string s,U s.size,.bool false,undef,undef,PP cb,.string s,.func (.func 21) #[] #[PP (a.heap.size+1+1)],.string x,undef,undef,undef,undef,undef,undef],defers:=[]})
  ?assign ?body ?done
 case assign=>
  intro l x W K u
  gi_wp2
  exact u
 case body=>
  rintro l pre x rest W L hsz2 ⟨j,d,G,H,m,f⟩;clear E I;obtain⟨hol,M⟩:=m.len hd0
  have hxl:x.size<=20000:=by
   have hm:x∈(qfq s.data.toList).map bya:=by rw[L];simp
   obtain⟨y,hy,rfl⟩:=jcz.1 hm;have:=hmanyL.2 y hy;rw[Lib.size_eq];show y.length<=20000;omega
  have hpl:pre.length<=20001:=by
   have:=congrArg List.length L;simp only[jdh,jcl,List.length_cons]at this;omega
  have hz:∀k,(k<w.heap.size\/k=a.heap.size\/k=b.heap.size\/k=b.heap.size+1)->k<W.heap.size:=λk e=>by omega
  have c0:=(RC.keeps f.kp (.inr rfl)).c 0;have AN:=f.answer M hxl;have p:=hd4 hol hpl m M;have v:=hd1 f;have HZ:=hd1 hz;clear m f L M hol hpl hz hmanyL
  gi_wp2_with (refine⟨trivial,?_⟩;gi_at_call 11;refine(CallsIn.inRound l (callsIn_wide.2 AN)).mono ?_;rintro e W3 ⟨told,rfl,Wd',N,hL⟩)
  obtain⟨G3,z,O⟩:=v.out.ans HZ.out hL;have tl:=N.len p.out.2.2.2;have hz3:=λk e=>jci (HZ.out k e) O.size;have WS:=qnq (bya told) W3 z.bl (by rw[Lib.size_eq];show d.length+told.length<=_;have:=p.out.1;have:=p.out.2.1;omega) (by have:=z.kp.size;omega);have H3:=hd2 N O;have HS3:=hd1 z;have HZ3:=hd1 hz3;clear N hL z O hz3 AN
  gi_wp2_with (refine⟨trivial,?_⟩;gi_at_call 10;refine(CallsIn.inRound l (callsIn_wide.2 WS)).mono ?_;rintro e W4 ⟨rfl,hL4⟩)
  obtain⟨H4,B,P⟩:=HS3.out.wrote HZ3.out hL4;have hz4:=λk e=>jci (HZ3.out k e) P.size;have WB:=qql 10 10 rfl W4 B.bl (by rw[jcl];show d.length+told.length+1<=_;have:=p.out.1;have:=p.out.2.1;omega) (by have:=B.kp.size;omega);have Q:=hd3 P B hz4;clear hL4 B P hz4 WS
  gi_wp2_with (refine⟨trivial,?_⟩;gi_at_call 12;refine(CallsIn.inRound l (callsIn_wide.2 WB)).mono ?_;rintro e W5 ⟨rfl,hL5⟩)
  obtain⟨H5,S5,K5⟩:=Q.out.2.1.wrote Q.out.2.2 hL5;have KA:=(H3.out.2.trans Q.out.1).trans K5;exact⟨⟨KA.block _ (by simp),KA.block _ (by simp)⟩,Wd',_,G3,H5,.snoc p.out.2.2.1 H3.out.1,S5⟩
 rintro W ⟨j,d,G,H,m,f⟩ u;have ST:=qqq W f.bl (by have:=f.kp.size;omega);have v:=hd2 f.kp m;clear E I f m
 gi_wp2_with (refine⟨trivial,?_⟩;gi_at_call 13;refine(callsIn_wide.2 ST).mono ?_;rintro e W6 ⟨rfl,hb6,hd6⟩)
 rw[sz0]at u;refine⟨by simp,.inl ⟨_,_,rfl,run_takeDeferred (hd6 _ _ u),?_⟩⟩;have t:=((HB.out.1.trans (HB.out.2.mono ls)).trans (v.out.1.below (λk R=>.inl R))).trans (hb6.mono ls);exact⟨_,results_tmp rfl _ _ _,d,rfl,⟨j,v.out.2⟩,t.os,t.tape,t.output,jcn t.size (by simp),λk R=>(World.putObj_heap_other (by omega)).trans (t.block k R)⟩
end Go.Proofs.YtoanjdndmlffdaaGreatDoor
