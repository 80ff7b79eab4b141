import Derived.Test.YtoanjdndmlffdaaGreatDoorSiteM
import Derived.Shelf.Strings.BuilderK
set_option maxHeartbeats 24000000
set_option maxRecDepth 1000000
namespace Go.Proofs.YtoanjdndmlffdaaGreatDoor
open Go.RowKit
section
variable {g:Nat} {vs:List Value} {wb w wa w1:World} {W':WoS} {T:TypeId} {d0 d1 d2 d3:Int} {v:Value}
section
variable {cb mb b j cap:Nat} {Gw G:Nat->Prop} {W:WoS} {a:Option Addr} {l:List ByteArray}
theorem q3j {W':World} (x0 x1 x2 x3 d e f h i:Value):qc (λk=>k=g) W' (((((((((W'.setCell (AD g 0) x0).setCell (AD g 1) x1).setCell (AD g 2) x2).setCell (AD g 3) x3).setCell (AD g 4) d).setCell (AD g 5) e).setCell (AD g 6) f).setCell (AD g 7) h).setCell (AD g 8) i):=by
 have c:(λk=>k=g) g:=rfl;exact((((((((qc.setCell _ _ _ c).trans (qc.setCell _ _ _ c)).trans (qc.setCell _ _ _ c)).trans (qc.setCell _ _ _ c)).trans (qc.setCell _ _ _ c)).trans (qc.setCell _ _ _ c)).trans (qc.setCell _ _ _ c)).trans (qc.setCell _ _ _ c)).trans (qc.setCell _ _ _ c)
theorem ja7 {W':World} (h:qd W' g vs) (k:vs.length=9) (x0 x1 x2 x3 c d e f i:Value):qd (((((((((W'.setCell (AD g 0) x0).setCell (AD g 1) x1).setCell (AD g 2) x2).setCell (AD g 3) x3).setCell (AD g 4) c).setCell (AD g 5) d).setCell (AD g 6) e).setCell (AD g 7) f).setCell (AD g 8) i) g [x0,x1,x2,x3,c,d,e,f,i]:=by
 match vs,k with
 |[y0,y1,y2,y3,y4,y5,y6,y7,y8],_=>exact((((((((h.set 0 x0 (by simp)).set 1 x1 (by simp)).set 2 x2 (by simp)).set 3 x3 (by simp)).set 4 c (by simp)).set 5 d (by simp)).set 6 e (by simp)).set 7 f (by simp)).set 8 i (by simp)
theorem qwa {w':World} {n k:Nat} (d:∀k,Gw k->k<n) (e:vh w' b Gw W' wb) (h:qd w' k vs) (f:n<=k):qd wb k vs:=by
 obtain⟨i,p1,p2,c⟩:=e;exact h.kept (c.block k h.lt (λq=>by have:=d k q;omega)) c.size
theorem jca (c:∀k,Gw k->k<w.heap.size) (d:w.heap.size<=wa.heap.size) (e:vh (wa.alloc (.cells ZA T)) b Gw W' wb):qd wb wa.heap.size ZL:=qwa c e (qd.new (w:=wa) (T:=T) ZL rfl) d
theorem jb2 (c:∀k,Gw k->k<w.heap.size) (d:Below ((w.alloc (.cells ZA T)).drew).heap.size ((w.alloc (.cells ZA T)).drew) wa) (e:vh wa b Gw W' wb):qd wb w.heap.size ZL:=qwa c e (((qd.new (w:=w) (T:=T) ZL rfl).drew).later d) (jcd _)
def q0v (w:World) (cb mb:Nat) (G:Nat->Prop) (W':WoS) (b5:Nat) (site seq wall count d0 d1 d2 d3:Int) (wx:World):Prop:=qbi (ckP cb mb W') w G wx/\Gl wx/\∃v,qd wx b5 [U site,U seq,U wall,U count,U d0,U d1,U d2,U d3,v]
theorem jby {c:Nat} {d e wall f:Int} (h:vk w cb mb b Gw G W j a cap l) (i:Bw w w1) (k:vh w1 b Gw W' wb) (m:w.heap.size<=c) (n:c<w1.heap.size) (R:qd wb c ZL):
 q0v w cb mb G W' c d e wall f d0 d1 d2 d3 (((((((((wb.setCell (AD c 0) (U d)).setCell (AD c 1) (U e)).setCell (AD c 2) (U wall)).setCell (AD c 3) (U f)).setCell (AD c 4) (U d0)).setCell (AD c 5) (U d1)).setCell (AD c 6) (U d2)).setCell (AD c 7) (U d3)).setCell (AD c 8) v):=by
 obtain⟨o,p⟩:=h.opAt i k m n (q3j (W':=wb) (g:=c) (U d) (U e) (U wall) (U f) (U d0) (U d1) (U d2) (U d3) v);exact⟨o,p,v,ja7 R rfl _ _ _ _ _ _ _ _ _⟩
theorem jb9 {c d wall e:Int} (h:vk w cb mb b Gw G W j a cap l) (f:Bw w w1) (i:vh w1 b Gw W' wb):
 q0v w cb mb G W' wb.heap.size c d wall e d0 d1 d2 d3 (wb.alloc (.cells #[U c,U d,U wall,U e,U d0,U d1,U d2,U d3,v] T)):=by
 have k:=boxed (jcc wb.heap.size wb) (.cells #[U c,U d,U wall,U e,U d0,U d1,U d2,U d3,v] T);exact⟨qe3.after (h.ck.op h.g f i) k,(h.gl2 f i).later k,v,qd.new (w:=wb) (T:=T) [U c,U d,U wall,U e,U d0,U d1,U d2,U d3,v] rfl⟩
theorem qx3 (w:World) (h:vk w cb mb b Gw G W j a cap l) {r:List Int} (t:ju 1 l=some r):Ca 51 #[PP cb,.slice a l.length cap] w (jm 5 W l w cb mb G):=by
 have S:=hd1 h
 obtain⟨v,rfl⟩:∃v,r=[v]:=by
  unfold ju at t;split at t
  ·rename_i q;exact List.length_eq_one_iff.1 ((qbb t).trans q)
  cases t
 have N1:Hid (∀w',Bw w w'->Ca 95 #[.slice a l.length cap] w' λe w2=>e=.returned (U v)/\Bw w' w2):=λw' B=>(qi1 h.sm w' (h.gl.later B) (h.st.later B)).mono λe w2 ⟨V,C⟩=>by
  rcases C with ⟨u,X,he⟩|⟨X,_⟩
  ·have:=X.out;rw[t]at this;injection this with this;injection this with this;rw[this];exact⟨he,V⟩
  have:=X.out;rw[t]at this;cases this
 obtain⟨p,m,wall,s,d0,d1,d2,d3,er,W',told,HCm,OP0⟩:=qrx (b:=b) (G:=Gw) v h.di;have OP:=hd1 (λw' B=>OP0 w' (h.ck.later B).pw);have D:=hd2 HCm t;have N:=h.ck.cell0;have c0a:=λo=>cell_later (boxed (jcc _ w) o) N;have E:=hd1 h.ck.pw.lt;clear h t OP0 HCm;go_enter Tryz.func51,Tryz.ntmps51
 go_wp2
 go_cut [5,6] (λt5 t6 wx=>∃I:Nat,t5=.pointer (PT I)/\t6=jc er/\Hid (q0v w cb mb G W' I p m wall s d0 d1 d2 d3 wx))
 case first=>
  go_region_with (first|(go_at_call 95;refine(N1.out _ (by repeat (first|(with_reducible exact jcc _ _)|(with_reducible refine boxed ?_ _)|(with_reducible refine jc6 ?_)))).mono ?_;rintro e wa ⟨rfl,Y⟩;have y:Bw w wa:=qa (by repeat (first|(with_reducible exact jcc _ _)|(with_reducible refine boxed ?_ _)|(with_reducible refine jc6 ?_))) Y;have x0:=cell_later y N;have x0a:=λo=>cell_later (boxed y o) N)|(go_at_call 103;refine(OP.out _ (by first|exact y|exact boxed y _)).mono ?_;rintro e wb ⟨ya,yn,yc,rfl,J⟩;have hla:=y.size;(first|(have d:=jca E.out hla J;have e0:=d.c 0;have f0:=d.f 0;have e1:=d.c 1;have f1:=d.f 1;have e2:=d.c 2;have f2:=d.f 2;have e3:=d.c 3;have f3:=d.f 3;have e4:=d.c 4;have f4:=d.f 4;have e5:=d.c 5;have f5:=d.f 5;have e6:=d.c 6;have f6:=d.f 6;have e7:=d.c 7;have f7:=d.f 7;have e8:=d.c 8;have f8:=d.f 8)|(have d:=jb2 E.out Y J;have e0:=d.c 0;have f0:=d.f 0;have e1:=d.c 1;have f1:=d.f 1;have e2:=d.c 2;have f2:=d.f 2;have e3:=d.c 3;have f3:=d.f 3;have e4:=d.c 4;have f4:=d.f 4;have e5:=d.c 5;have f5:=d.f 5;have e6:=d.c 6;have f6:=d.f 6;have e7:=d.c 7;have f7:=d.f 7;have e8:=d.c 8;have f8:=d.f 8)|skip)))
  all_goals
   go_wp2
   go_meet
   case rel=>
        refine⟨_,rfl,rfl,?_⟩;show q0v w cb mb G W' _ p m wall s d0 d1 d2 d3 _
        first
         |(have RB':=d
           first
            |(with_reducible exact jby S.out (boxed y _) J hla (by simp) RB')
            |(with_reducible exact jby S.out y J (jcd _) (by have q:=Y.size;simp at q;omega) RB'))
         |(with_reducible exact jb9 S.out y J)
 obtain⟨I,rfl,rfl,K⟩:=hcut;have Z:=qda er wc K.out.2.1;have L:Hid (∀e w',qbi (ckP cb mb W') w G w'->qlx er told e->jm 5 W l w cb mb G e w'):=λe w' V C=>⟨W',er,told,by unfold qc2;rw[if_neg (by decide)];show match ju 1 l with|none=>_|some ns=>_;rw[D.out.2];exact D.out.1.cmd.data (by decide),C,V⟩;clear N1 OP N c0a E
 go_wp2_with fail
 refine Z.mono ?_;rintro e k ⟨O,(⟨z,rfl⟩|⟨z,rfl⟩)⟩
 rotate_left
 ·exact⟨rfl,L.out _ _ (qe3.after K.out.1 O) (.inr ⟨z,rfl⟩)⟩
 obtain⟨HL,E,v9,R0⟩:=K.out;have R:=R0.later O;have aa:=E.later O;have e1:=R.c 1;have lt5:=R.lt;have F:=D.out.1.wf;have HL3:=hd1 (qe3.after HL O);have H:=D.out.1.yes z;by_cases hs:m=0
 ·subst hs;rw[if_pos rfl]at H;have Q:=L.out (.returned (.string ⟨#[110,111,116,104,105,110,103]⟩)) k HL3.out (.inl ⟨z,by rw[H]⟩);clear Z L K D F z H
  go_wp2
  go_ret;exact Q
 rw[if_neg hs]at H
 have l1:(qv [p,m,wall,s]).length<=88:=by have:=ze (l:=[p,m,wall,s]) (λx i=>F x (by simp at i ⊢;rcases i with e|e|e|e<;>simp[e]));simpa using this
 have l2:(qv [d0,d1,d2,d3]).length<=88:=by have:=ze (l:=[d0,d1,d2,d3]) (λx i=>F x (by simp at i ⊢;rcases i with e|e|e|e<;>simp[e]));simpa using this
 have A1:=λw=>qfi (P:=Tryz.prog) (bya (qv [p,m,wall,s])) ⟨#[58,32]⟩ (by simp[zo];omega) w;have A2:=λw=>qfi (P:=Tryz.prog) (bya (qv [p,m,wall,s])++⟨#[58,32]⟩) (bya (qv [d0,d1,d2,d3])) (by simp[zo];omega) w;have hwx:Bw k ((k.alloc (.cells #[U p,U m,U wall,U s] 3)).drew):=(boxed (jcc _ k) _).drew;have ab:=qb1 (b:=k.heap.size) (o:=0) (cap:=4) (l:=[p,m,wall,s]) (by simp) (by simp) (λx i=>F x (by simp at i ⊢;rcases i with e|e|e|e<;>simp[e])) ((k.alloc (.cells #[U p,U m,U wall,U s] 3)).drew) (aa.later hwx) (by simp) (qee (w:=k) (T:=3) [p,m,wall,s])
 have BLD:Hid (∀w',Bw k w'->Ca 102 #[.slice (some (AD I 4)) 4 4] w' λe w2=>e=.returned (.string (bya (qv [d0,d1,d2,d3])))/\Bw w' w2):=λw' C=>by
  have M:=R.later C
  exact qb1 (b:=I) (o:=4) (cap:=4) (l:=[d0,d1,d2,d3]) (by simp) (by simp) (λx i=>F x (by simp at i ⊢;rcases i with e|e|e|e<;>simp[e])) w' (aa.later C) M.lt (λq x i=>by
   match q,i with
   |0,i=>simp at i;subst i;exact M.c 4
   |1,i=>simp at i;subst i;exact M.c 5
   |2,i=>simp at i;subst i;exact M.c 6
   |3,i=>simp at i;subst i;exact M.c 7
   |n+4,i=>simp at i)
 have Q:Hid (∀w',Bw k w'->jm 5 W l w cb mb G (.returned (.string (bya (qv [p,m,wall,s])++⟨#[58,32]⟩++bya (qv [d0,d1,d2,d3])))) w'):=λw' B=>L.out _ _ (qe3.after HL3.out B) (.inl ⟨z,by rw[H,<-jz,<-jz]⟩)
 dsimp only[List.length_cons,List.length_nil,Nat.reduceAdd]at ab
 have X0:=λ(w':World) (h:Bw k w')=>(R.later h).c 0;have X1:=λ(w':World) (h:Bw k w')=>(R.later h).c 1;have X2:=λ(w':World) (h:Bw k w')=>(R.later h).c 2;have X3:=λ(w':World) (h:Bw k w')=>(R.later h).c 3;clear l1 l2 z F Z D H L K R R0 HL E aa
 go_wp2
 go_region_held3 (λw'=>Bw k w') ((repeat (first|(with_reducible assumption)|(with_reducible refine boxed ?_ _)|(with_reducible refine jc6 ?_)|(with_reducible exact jcc _ _))))
  (first|(go_at_call 102;(with_reducible refine ab.mono ?_);rintro e w4 ⟨rfl,hb4⟩;have hb43:=qa hwx hb4;have BL2:=BLD.out w4 hb43)|(go_at_call 102;(with_reducible refine BL2.mono ?_);rintro e w5 ⟨rfl,hb5⟩;have hb53:=qa hb43 hb5;have HF0:=Q.out w5 hb53))
 all_goals
  clear ab BL2 Q BLD
  go_wp2
  go_ret;exact HF0
theorem q3k (w:World) (h:vk w cb mb b Gw G W j a cap l):Ca 51 #[PP cb,.slice a l.length cap] w (jm 5 W l w cb mb G):=by
 cases hn:ju 1 l with
 |none=>exact q2v w h hn
 |some r=>exact qx3 w h hn
end
end
section
open Go.Maps
def qmx (i:Nat):Prop:=∀{w:World} {cb mb b j cap:Nat} {Gw G:Nat->Prop} {W:WoS} {a:Option Addr} {l:List ByteArray},vk w cb mb b Gw G W j a cap l->Ca (q3p i) #[PP cb,.slice a l.length cap] w (jm i W l w cb mb G)
theorem qvl (hh:qmx 9):∀i,i<19->qmx i
 |0,_=>λh=>q4h _ h
 |1,_=>λh=>ja5 _ h
 |2,_=>λh=>q5e _ h
 |3,_=>λh=>q8k _ h
 |4,_=>λh=>q3r _ h
 |5,_=>λh=>q3k _ h
 |6,_=>λh=>qze _ h
 |7,_=>λh=>q8p _ h
 |8,_=>λh=>q92 _ h
 |9,_=>hh
 |10,_=>λh=>q8t _ h
 |11,_=>λh=>q9x _ h
 |12,_=>λh=>q8m _ h
 |13,_=>λh=>q8w _ h
 |14,_=>λh=>q9k _ h
 |15,_=>λh=>q59 _ h
 |16,_=>λh=>q6l _ h
 |17,_=>λh=>q4x _ h
 |18,_=>λh=>q6z _ h
 |n+19,h=>absurd h (by omega)
theorem qr4 (w:World):(zeroValue 65).run Tryz.prog w=.ok .nilFunc w:=by kernel_rfl
variable {w:World} {mb cb i:Nat} {s:ByteArray}
theorem zm.held (h:zm w mb cb 19) (hz:s.size<=maxLen) (hi:i<19) (hs:s.data.toList=qn i):(Instr.lookup 55 (.map (some mb)) (.string s) false).run Tryz.prog w=.ok (doV cb i) w:=by
 obtain⟨D,o,d⟩:=h;obtain⟨v,ps,hr,hv⟩:=o.lookup qhg Tryz.underlying55 (qr4 w) (zd:=.held .nilFunc) (zp:=[]) rfl (qps hz);rw[hs,(d.has i hi).2]at hv
 have:v=doV cb i:=by
  unfold qcd at hv;injection hv with hv;injection hv with hv;injection hv
 rw[hr,this]
theorem zm.lacks (h:zm w mb cb 19) (hz:s.size<=maxLen) (hs:∀i,i<19->s.data.toList≠qn i):(Instr.lookup 55 (.map (some mb)) (.string s) false).run Tryz.prog w=.ok .nilFunc w:=by
 obtain⟨D,o,d⟩:=h;obtain⟨v,ps,hr,hv⟩:=o.lookup qhg Tryz.underlying55 (qr4 w) (zd:=.held .nilFunc) (zp:=[]) rfl (qps hz);rw[(d.no _ hs).2]at hv
 have:v=.nilFunc:=by
  unfold qcd at hv;injection hv with hv;injection hv with hv;injection hv
 rw[hr,this]
theorem qfj.tail {A o cap:Nat} {x:ByteArray} {l:List ByteArray} (h:qfj w (some (AD A o)) cap (x::l)):qfj w (some (AD A (o+1))) (cap-1) l:=
 ⟨by have:=h.cap;simp at this;omega,λj y hy=>by
   obtain⟨b,p,e,h2,h3⟩:=h.cell (j+1) y (by simpa using hy);injection e with e;injection e with e1 e2;subst e1;subst e2
   exact⟨A,o+1,rfl,h2,by rw[show o+1+j=o+(j+1) by omega];exact h3⟩⟩
theorem qmv {s:List UInt8} (h:qc9.idxOf? s=some i):i<19/\s=qn i:=by
 rw[List.idxOf?_eq_some_iff]at h;obtain⟨hi,he,_⟩:=h;refine⟨hi,?_⟩;unfold qn;rw[jdp,jcg hi];simpa using he.symm
theorem quh {s:List UInt8} (h:qc9.idxOf? s=none):∀i,i<19->s≠qn i:=λi hi e=>by
 rw[List.idxOf?_eq_none_iff]at h
 apply h
 rw[e];unfold qn;rw[jdp,jcg (show i<qc9.length from hi)];exact jdr _
end
section
def zr (c:UInt8) (s:ByteArray):List ByteArray:=(vm c s.data.toList).map bya
theorem qrm (c:UInt8) (s:ByteArray) (o:s.size<=1000000) (w:World) (g:Gl w):Ca 14 #[.string s,.string ⟨#[c]⟩] w λe w'=>e=.returned (.slice (PT w.heap.size) (zr c s).length (zr c s).length)/\w'=w.alloc (.cells ((zr c s).map Value.string).toArray 9):=by
 obtain⟨m,j⟩:=g.ml;have d:1<=(⟨#[c]⟩:ByteArray).size:=jcd _;have k:Lib.countB s ⟨#[c]⟩=s.data.toList.count c:=Lib.count_one c _
 have f:Lib.splitB ⟨#[c]⟩ 0 (Lib.countB s ⟨#[c]⟩) s=zr c s:=by
  have q:=Lib.splitB_data ⟨#[c]⟩ 0 (Lib.countB s ⟨#[c]⟩) s;rw[show (⟨#[c]⟩:ByteArray).data.toList=[c]from rfl,qu2 c _ _ (by rw[k];exact jcd _)]at q;unfold zr;rw[<-q,List.map_map]
  conv=>lhs;rw[<-List.map_id (Lib.splitB ⟨#[c]⟩ 0 (Lib.countB s ⟨#[c]⟩) s)]
  rfl
 have n:Lib.countB s ⟨#[c]⟩+1=(zr c s).length:=by rw[<-f,Lib.splitB_all ⟨#[c]⟩ d 0 _ s rfl]
 refine(jee s ⟨#[c]⟩ m w (by omega) j d).mono λe w' ⟨h,i⟩=>?_;rw[n]at h;rw[f]at i;exact⟨h,i⟩
def neB (y:ByteArray):Bool:=decide (y.data.toList≠[])
theorem qp4 (s:ByteArray):qa9 s=(zr 32 s).filter neB:=by
 rw[qwu];unfold zr;rw[List.filter_map];rfl
theorem qx2 (c:UInt8) (s:List UInt8):(vm c s).length<=s.length+1/\∀x∈vm c s,x.length<=s.length:=by
 induction s with
 |nil=>simp[vm]
 |cons d r ih=>
  unfold vm;by_cases e:d=c
  ·rw[if_pos e];refine⟨by simp only[List.length_cons];have:=ih.1;omega,λx f=>?_⟩;rcases jdd.1 f with rfl|q
   ·simp
   have:=ih.2 x q;simp only[List.length_cons];omega
  rw[if_neg e];cases h:vm c r with
  |nil=>exact absurd h (qh9 c r)
  |cons y z=>
   rw[h]at ih;refine⟨by have:=ih.1;simp only[List.length_cons]at this ⊢;omega,λx f=>?_⟩;rcases jdd.1 f with rfl|q
   ·have:=ih.2 y (by simp);simp only[List.length_cons];omega
   have:=ih.2 x (by simp[q]);simp only[List.length_cons];omega
theorem qle (c:UInt8) (s:ByteArray):(zr c s).length<=s.size+1/\∀x∈zr c s,x.size<=s.size:=by
 have h:=qx2 c s.data.toList;rw[<-Lib.size_eq]at h;refine⟨by unfold zr;rw[jdh];exact h.1,λx d=>?_⟩;obtain⟨y,e,rfl⟩:=jcz.1 d;have:=h.2 y e;rw[Lib.size_eq];exact this
def quw (s:ByteArray):Nat:=if 1<(zr 10 s).length/\(zr 10 s).getLast?=some ⟨#[]⟩then (zr 10 s).length-1 else (zr 10 s).length
theorem qy3 (s:ByteArray):(qfq s.data.toList).map bya=(zr 10 s).take (quw s):=by
 have d:(vm 10 s.data.toList).getLast?=some []↔(zr 10 s).getLast?=some ⟨#[]⟩:=by
  unfold zr;rw[List.getLast?_map];cases (vm 10 s.data.toList).getLast? with
  |none=>simp
  |some x=>
   simp only[Option.map_some,Option.some.injEq]
   constructor
   ·rintro rfl;rfl
   intro e;have:=congrArg (λy:ByteArray=>y.data.toList) e;simpa using this
 have c:(zr 10 s).length=(vm 10 s.data.toList).length:=by unfold zr;rw[jdh]
 rw[quq];unfold quw;by_cases q:1<(zr 10 s).length/\(zr 10 s).getLast?=some ⟨#[]⟩
 ·rw[if_pos q,if_pos ⟨by rw[<-c];exact q.1,d.2 q.2⟩,c,List.dropLast_eq_take];unfold zr;rw[List.map_take]
 rw[if_neg q,if_neg (λe=>q ⟨by rw[c];exact e.1,d.1 e.2⟩),jc9];rfl
def jai (W:WoS) (line:ByteArray) (w:World) (hb:Nat) (G:Nat->Prop) (e:Ending) (w':World):Prop:=
 ∃(t:List UInt8) (er:Int),e=.returned (.tuple #[.string (bya t),U er])/\Hid (∃W',qas W line W' (if er=0 then t else qgt er)/\wfI er/\qbi (hsP hb W') w G w')
variable {a:Option Addr} {l:List ByteArray}
theorem qt3 (m:∀i,i<19->yt i) {w:World} {n hb b j cap:Nat} {Gw G:Nat->Prop} {W:WoS} (h:qgm w n hb b Gw G W j a cap l) {d x:ByteArray} (f:qa9 d=x::l) (o:x.size<=maxLen):
 Ca 16 #[PP hb,.string x,.slice a l.length cap] w (jai W d w hb G):=by
 cases hn:qc9.idxOf? x.data.toList with
 |none=>
  refine(qzx h x o (quh hn)).mono λe w' ⟨c,p⟩=>?_;subst p;refine⟨[],3,c,W,?_,⟨by decide,by decide⟩,h.hs.same h.g (jcc _ _)⟩;unfold qas;rw[f]
  dsimp only
  rw[hn];exact⟨rfl,rfl⟩
 |some i=>
  obtain⟨hi,r⟩:=qmv hn
  obtain rfl:x=bya (qn i):=by rw[<-r]
  refine(q3b hi (m i hi) h).mono λe w' ⟨told,er,c,W',t,k,s,u⟩=>?_;refine⟨told,er,c,W',?_,k.few.wf,u⟩;unfold qas;rw[f]
  dsimp only
  rw[hn];refine⟨er,t,k,?_⟩;by_cases q:er=0
  ·rw[if_pos q,if_pos q,s q]
  rw[if_neg q,if_neg q]
def qqx (w:World):Prop:=∃bm,w.cell? (AD 0 0)=some (.map (some bm))/\qsf w bm/\bm<w.heap.size
structure qqn (w wr:World) (hb lb:Nat) (L pre:List ByteArray) (out:List UInt8) (W:WoS) (b:Nat) (Gw G:Nat->Prop):Prop where
 tk:qd8 (qcb 2 2) pre out W
 hs:qhp wr hb b Gw W
 g:∀k,G k↔(k=hb\/Gw k)
 gn:∀k,G k->w.heap.size<=k
 lo:lb<wr.heap.size/\¬G lb
 bl:Bw w wr
 cell:∀(j:Nat) x,L[j]?=some x->wr.cell? (AD lb j)=some (.string x)
def TkI (w:World) (hb lb:Nat) (L pre:List ByteArray) (out:List UInt8) (wr:World):Prop:=∃W b Gw G,qqn w wr hb lb L pre out W b Gw G
section
variable {w wr w3 w4:World} {hb lb b:Nat} {L pre:List ByteArray} {out told:List UInt8} {W W':WoS} {Gw G:Nat->Prop} {x:ByteArray}
theorem qqn.lt (h:qqn w wr hb lb L pre out W b Gw G) (k:Nat) (c:G k):k<wr.heap.size:=by
 rcases(h.g k).1 c with rfl|e
 ·exact h.hs.lt
 exact h.hs.rw.lt k e
theorem qqn.later (h:qqn w wr hb lb L pre out W b Gw G) (c:Bw wr w3):qqn w w3 hb lb L pre out W b Gw G:=
 ⟨h.tk,h.hs.later c,h.g,h.gn,⟨jci h.lo.1 c.size,h.lo.2⟩,qa h.bl c,λj x d=>(c.cell (p:=AD lb j) h.lo.1).trans (h.cell j x d)⟩
theorem qqn.step (h:qqn w w3 hb lb L pre out W b Gw G) (f:qas W x W' told) (g:qbi (hsP hb W') w3 G w4):TkI w hb lb L (pre++[x]) (out++told++[10]) w4:=by
 obtain⟨i,⟨m,n,o,p⟩,p2,c⟩:=g;have bs:=h.bl.size;refine⟨W',m,n,i,.snoc h.tk f,o,p,λk d=>?_,⟨jci h.lo.1 c.size,λd=>?_⟩,⟨c.os.trans h.bl.os,c.tape.trans h.bl.tape,c.output.trans h.bl.output,jcn bs c.size,λk d=>(c.block k (by omega) (λe=>by have:=h.gn k e;omega)).trans (h.bl.block k d)⟩,λj y r=>?_⟩
 ·rcases p2 k d with q|q
  ·exact h.gn k q
  omega
 ·rcases p2 lb d with q|q
  ·exact h.lo.2 q
  have:=h.lo.1;omega
 rw[jch (w:=w3) (a:=AD lb j) (c.block lb h.lo.1 h.lo.2)];exact h.cell j y r
theorem qqn.rd (h:qqn w w3 hb lb L pre out W b Gw G) (c:Gl w) (j:qqx w) (u:pre.length<=100000) {cap:Nat} (m:qfj w3 a cap l) (n:∀x∈l,x.size<=1000000) (q:∀d o,a=some (AD d o)->¬G d):qgm w3 w.heap.size hb b Gw G W pre.length a cap l:=by
 obtain⟨bm,f1,r,f⟩:=j;have s:DkI (qcb 2 2):=DkI.new (by decide) (by decide) (by decide);have t:PlI 0 (qcb 2 2):=PlI.new (by decide) (by decide) (by decide);have i:=h.tk.few t;rw[Nat.zero_add]at i;exact⟨h.hs,h.g,c.later h.bl,⟨bm,(h.bl.cell (p:=AD 0 0) (jci (by decide) c.sz)).trans f1,r.kept (h.bl.block bm f),f⟩,⟨c.sz,h.bl.size⟩,λk v e=>by have:=h.gn k e;omega,i,(h.tk.len s).2,m,n,q,by omega⟩
end
end
section
open Tryz
structure qlo (w:World) (cb mb b:Nat) (Gw G:Nat->Prop) (W:WoS) (j:Nat):Prop where
 ck:qe3 w cb mb b Gw W
 g:∀k,G k↔(k=cb\/k=mb\/Gw k)
 gl:Gl w
 gn:∀k,k<10->¬G k
 wi:PlI j W
 di:DkI W
def qig (W:WoS) (line:ByteArray) (w:World) (cb mb:Nat) (G:Nat->Prop) (e:Ending) (w':World):Prop:=
 ∃told,e=.returned (.string (bya told))/\∃W',qas W line W' told/\qbi (ckP cb mb W') w G w'
variable {w:World} {B:Nat} {v:Value}
theorem qlg {tmps:Array Value} (a:w.cell? (AD B 0)=some v) (c:tmps[4]?=some (PP B)):(results f11 tmps).run prog w=.ok v w:=by
 simp[results,results11,go_sem,a,c]
variable {w1 wt:World} {cb mb:Nat} {G:Nat->Prop} {W':WoS}
theorem qwn {a:World} (c:Bw w w1) (h:qbi (ckP cb mb W') w1 G wt) (f:w.heap.size<=B) (r:B<w1.heap.size) (g:∀k,G k->k<w.heap.size) (m:Bw wt a):qbi (ckP cb mb W') w G (a.setCell (AD B 0) v):=by
 obtain⟨d,p1,p2,o⟩:=qe3.after h m
 have n:∀k,d k->k≠B:=λk p e=>by
  subst e;rcases p2 k p with q|q
  ·have:=g k q;omega
  omega
 refine⟨d,p1.kept (λk e=>jce _ _ _ _ (n k e)) (by simp[World.setCell]),λk e=>?_,qbl ((qc.ofBelow c).trans o) f v⟩;rcases p2 k e with q|q
 ·exact .inl q
 exact .inr (jcn c.size q)
theorem qlt {n:Nat} (R:qd w1 B [v]) (h:qbi (ckP cb mb W') w1 G wt) (c:∀k,G k->k<n) (d:n<=B):qd wt B [v]:=by
 obtain⟨e,p1,p2,a⟩:=h;exact R.kept (a.block B R.lt (λq=>by have:=c B q;omega)) a.size
theorem q72 (g:Gl w1) (h:qbi (ckP cb mb W') w1 G wt) (c:∀k,k<10->¬G k):Gl wt:=by
 obtain⟨e,p1,p2,a⟩:=h;have:=g.sz;exact g.kept (λk d=>a.block k (by omega) (c k d)) a.size
variable {b j:Nat} {Gw:Nat->Prop} {W:WoS}
theorem qlo.ltG (h:qlo w cb mb b Gw G W j):∀k,G k->k<w.heap.size:=λk a=>by
 rcases(h.g k).1 a with rfl|rfl|e
 ·exact h.ck.ltc
 ·exact h.ck.map.lt
 exact h.ck.pw.lt k e
theorem qoj {g:ByteArray} {n:Int} {tmps:Array Value} (h:qlo w cb mb b Gw G W j) (k:Bw w w1) (R:qd w1 w.heap.size [v]) (a:qbi (ckP cb mb W') w1 G wt) (o:wfI n) (p:qas W g W' (qgt n)) (q:tmps[4]?=some (PP w.heap.size)):
 Leaves prog f11 tmps (qig W g w cb mb G) [{target:=.fn (.func 25) #[PP w.heap.size],args:=#[]}] (.panicking [{v:=.iface 26 (U n),recovered:=false}]) wt:=by
 have d:=qlt R a h.ltG (jcd _);refine leaves_cons (f:=25) (args:=#[PP w.heap.size]) (by simp) (by simp[go_sem]) ?_;refine(qny (AD w.heap.size 0) v n o [] wt (q72 (h.gl.later k) a h.gn) (d.c 0) (d.f 0)).mono ?_;rintro e r s ⟨rfl,rfl,w2,m,rfl⟩;exact⟨_,qlg (((d.later m).set 0 (.string (bya (qgt n))) (by simp)).c 0) q,qgt n,rfl,W',p,qwn k a (jcd _) R.lt h.ltG m⟩
theorem q0g {a:ByteArray} {told:List UInt8} {tmps:Array Value} (h:qlo w cb mb b Gw G W j) (g:Bw w w1) (R:qd w1 w.heap.size [v]) (d:qbi (ckP cb mb W') w1 G wt) (k:qas W a W' told) (m:tmps[4]?=some (PP w.heap.size)):
 Leaves prog f11 tmps (qig W a w cb mb G) [{target:=.fn (.func 25) #[PP w.heap.size],args:=#[]}] .returning (wt.setCell (AD w.heap.size 0) (.string (bya told))):=by
 have n:=qlt R d h.ltG (jcd _);refine leaves_cons (f:=25) (args:=#[PP w.heap.size]) (by simp) (by simp[go_sem]) ?_;refine(qo4 (AD w.heap.size 0) _).mono ?_;rintro e o w2 ⟨rfl,rfl,rfl⟩;exact⟨_,qlg ((n.set 0 (.string (bya told)) (by simp)).c 0) m,told,rfl,W',k,qwn g d (jcd _) R.lt h.ltG (jcc _ _)⟩
theorem qsp (h:qlo w cb mb b Gw G W j) {a:ByteArray} (t:a.size<=20000) (d:qa9 a=[]):
 Ca 11 #[PP cb,.string a] w (qig W a w cb mb G):=by
 have hmf:∀(fn:Fn) (first cap:Array Value) (w:World),(Instr.makeFunc fn first cap).run prog w=.ok (.func fn first cap) w:=λ_ _ _ _=>rfl;have k:=qkj a (by omega) (w.alloc (.cells #[.string ⟨#[]⟩] 9));rw[d]at k;have m:=hd2 h d;have p:=boxed (jcc w.heap.size w) (.cells #[.string ⟨#[]⟩] 9);clear h d
 go_enter_defers func11,ntmps11
 go_wp2_with fail
 refine k.mono ?_;rintro e w1 ⟨A,rfl,u,q,n⟩;have o:=(qd.new (w:=w) (T:=9) [.string ⟨#[]⟩] rfl).later n;have y:=o.c 0;have f1:=o.f 0
 have r:Hid (qig W a w cb mb G (.returned (.string ⟨#[111,107]⟩)) (w1.setCell (AD w.heap.size 0) (.string ⟨#[111,107]⟩))):=by
  refine⟨[111,107],rfl,W,?_,m.out.1.ck.same m.out.1.g (jdz (qa p n) (jcd _) _)⟩;unfold qas;rw[m.out.2];exact⟨rfl,rfl⟩
 have s:=(o.set 0 (.string ⟨#[111,107]⟩) (by simp)).c 0;clear n p q k
 go_wp2
 refine leaves_cons (f:=25) (args:=#[PP w.heap.size]) (by simp) (by simp[go_sem]) ?_;refine(qo4 (AD w.heap.size 0) _).mono ?_;rintro e z w2 ⟨rfl,rfl,rfl⟩;exact⟨_,qlg s rfl,r.out⟩
variable {x:ByteArray} {l:List ByteArray}
theorem qt5 (h:qlo w cb mb b Gw G W j) {a:ByteArray} (D:a.size<=20000) (n:qa9 a=x::l) (z:x.size<=maxLen) (t:qc9.idxOf? x.data.toList=none):
 Ca 11 #[PP cb,.string a] w (qig W a w cb mb G):=by
 have hmf:∀(fn:Fn) (first cap:Array Value) (w:World),(Instr.makeFunc fn first cap).run prog w=.ok (.func fn first cap) w:=λ_ _ _ _=>rfl;have o:=qkj a (by omega) (w.alloc (.cells #[.string ⟨#[]⟩] 9));rw[n]at o;have d:=hd3 h n t;have u:=boxed (jcc w.heap.size w) (.cells #[.string ⟨#[]⟩] 9);clear h n
 go_enter_defers func11,ntmps11
 go_wp2_with fail
 refine o.mono ?_;rintro e w1 ⟨A,rfl,E,y,p⟩;have k:=(qd.new (w:=w) (T:=9) [.string ⟨#[]⟩] rfl).later p;have F:=k.c 0;have f1:=k.f 0;have q:=qa u p;have m:=d.out.1.ck.later q;have H:=m.cell1;obtain⟨I,J,r,K,L⟩:=y.cell 0 x rfl;injection r with r;injection r with e1 e2;subst e1;subst e2;have M:=zm.lacks (w:=w1.drew) (m.map.kept rfl) z (quh t);have s:=hd3 q k (m.same d.out.1.g (jcc _ _).drew)
 have C:Hid (qas W a W (qgt 3)):=by
  show qas W a W (qgt 3);unfold qas;rw[d.out.2.1]
  dsimp only
  rw[d.out.2.2];exact⟨rfl,rfl⟩
 clear p u y o m q k
 dsimp only[List.length_cons]at*
 have N:∀w:World,(binOp .eql 65 .nilFunc .nilFunc).run prog w=.ok (.bool true) w:=λ_=>by kernel_rfl
 go_wp2
 go_region
 all_goals
  go_wp2
  exact qoj d.out.1 s.out.1 s.out.2.1 s.out.2.2 ⟨by decide,by decide⟩ C.out rfl
theorem qrl:∀i,i<19->∀(args:Array Value) (w:World),(callFunc (q3p i) args).run prog w=.ok (.enter (q3p i) args) w
 |0,_=>λ_ _=>by kernel_rfl
 |1,_=>λ_ _=>by kernel_rfl
 |2,_=>λ_ _=>by kernel_rfl
 |3,_=>λ_ _=>by kernel_rfl
 |4,_=>λ_ _=>by kernel_rfl
 |5,_=>λ_ _=>by kernel_rfl
 |6,_=>λ_ _=>by kernel_rfl
 |7,_=>λ_ _=>by kernel_rfl
 |8,_=>λ_ _=>by kernel_rfl
 |9,_=>λ_ _=>by kernel_rfl
 |10,_=>λ_ _=>by kernel_rfl
 |11,_=>λ_ _=>by kernel_rfl
 |12,_=>λ_ _=>by kernel_rfl
 |13,_=>λ_ _=>by kernel_rfl
 |14,_=>λ_ _=>by kernel_rfl
 |15,_=>λ_ _=>by kernel_rfl
 |16,_=>λ_ _=>by kernel_rfl
 |17,_=>λ_ _=>by kernel_rfl
 |18,_=>λ_ _=>by kernel_rfl
 |n+19,h=>absurd h (by omega)
variable {i:Nat}
theorem qx8 (Q:qmx 9) (h:qlo w cb mb b Gw G W j) {m:ByteArray} (hl:m.size<=20000) (s:qa9 m=[x]) (R:x.size<=maxLen) (t:qc9.idxOf? x.data.toList=some i):
 Ca 11 #[PP cb,.string m] w (qig W m w cb mb G):=by
 have hmf:∀(fn:Fn) (first cap:Array Value) (w:World),(Instr.makeFunc fn first cap).run prog w=.ok (.func fn first cap) w:=λ_ _ _ _=>rfl;obtain⟨hi,L⟩:=qmv t;have u:=qkj m (by omega) (w.alloc (.cells #[.string ⟨#[]⟩] 9));rw[s]at u;have k:=hd3 h s t;have M:=boxed (jcc w.heap.size w) (.cells #[.string ⟨#[]⟩] 9);clear h s
 go_enter_defers func11,ntmps11
 go_wp2_with fail
 refine u.mono ?_;rintro e w1 ⟨A,rfl,hA,N,z⟩;have p:=(qd.new (w:=w) (T:=9) [.string ⟨#[]⟩] rfl).later z;have c1:=p.c 0;have f1:=p.f 0;have C:=qa M z;have q:=k.out.1.ck.later C;have cm:=q.cell1;have r:Bw w1 w1.drew:=(jcc _ _).drew;have D:=qa C r;have O:=qvl Q i hi (w:=w1.drew) (cb:=cb) (mb:=mb) (b:=b) (j:=j) (cap:=0) (Gw:=Gw) (G:=G) (W:=W) (a:=some (AD A 0)) (l:=[]) ⟨q.later r,k.out.1.g,k.out.1.gl.later D,k.out.1.gn,k.out.1.wi,k.out.1.di,⟨by simp,λj y S=>by simp at S⟩,by simp⟩;obtain⟨A',o',E,hlt,cx⟩:=N.cell 0 x rfl;injection E with E;injection E with e1 e2;subst e1;subst e2;have V:(Instr.lookup 55 (.map (some mb)) (.string x) false).run prog w1.drew=.ok (.func (.func (q3p i)) #[PP cb] #[]) w1.drew:=zm.held (w:=w1.drew) (q.map.kept rfl) R hi L;have FE:=qrl i hi;have o:=hd2 D (p.later r)
 have eqn:∀(w:World) (f:Fn) (c d:Array Value),(binOp .eql 65 (.func f c d) .nilFunc).run prog w=.ok (.bool false) w:=λ_ _ _ _=>by kernel_rfl
 clear z M N u q C p r D t L
 dsimp only[List.length_cons,List.length_nil,Nat.reduceAdd]at*
 go_wp2
 go_region
 all_goals
  go_wp2_with fail
  refine O.mono ?_;rintro e w2 ⟨W',er,told,F,X,H⟩;have P:=hd1 H;have Y:=F.few.wf
  have I:Hid (qas W m W' (if er=0 then told else qgt er)):=by
   show qas W m W' (if er=0 then told else qgt er);unfold qas;rw[k.out.2.1]
   dsimp only
   rw[k.out.2.2];exact⟨er,told,F,rfl⟩
  have J:=qlt o.out.2 H k.out.1.ltG (jcd _);have c2:=J.c 0;have f2:=J.f 0;clear H F O J V;rcases X with ⟨K,rfl⟩|⟨K,rfl⟩
  ·have n:=I.out;rw[if_pos K]at n;have Z:=hd1 n;clear n I
   go_wp2
   exact q0g k.out.1 o.out.1 o.out.2 P.out Z.out rfl
  have n:=I.out;rw[if_neg K]at n;exact qoj k.out.1 o.out.1 o.out.2 P.out Y n rfl
theorem qyh (R:qmx 9) (h:qlo w cb mb b Gw G W j) {m y:ByteArray} (hl:m.size<=20000) (s:qa9 m=x::y::l) (S:x.size<=maxLen) (V:∀z∈y::l,z.size<=1000000) (t:qc9.idxOf? x.data.toList=some i):
 Ca 11 #[PP cb,.string m] w (qig W m w cb mb G):=by
 have hmf:∀(fn:Fn) (first cap:Array Value) (w:World),(Instr.makeFunc fn first cap).run prog w=.ok (.func fn first cap) w:=λ_ _ _ _=>rfl;obtain⟨hi,N⟩:=qmv t;have u:=qkj m (by omega) (w.alloc (.cells #[.string ⟨#[]⟩] 9));rw[s]at u;have k:=hd3 h s t;have O:=boxed (jcc w.heap.size w) (.cells #[.string ⟨#[]⟩] 9);clear h s
 go_enter_defers func11,ntmps11
 go_wp2_with fail
 refine u.mono ?_;rintro e w1 ⟨A,rfl,hA,C,D⟩;have q:=(qd.new (w:=w) (T:=9) [.string ⟨#[]⟩] rfl).later D;have c1:=q.c 0;have f1:=q.f 0;have E:=qa O D;have r:=k.out.1.ck.later E;have cm:=r.cell1;have o:Bw w1 w1.drew:=(jcc _ _).drew;have F:=qa E o
 have P:=qvl R i hi (w:=w1.drew) (cb:=cb) (mb:=mb) (b:=b) (j:=j) (cap:=l.length+1) (Gw:=Gw) (G:=G) (W:=W) (a:=some (AD A 1)) (l:=y::l) ⟨r.later o,k.out.1.g,k.out.1.gl.later F,k.out.1.gn,k.out.1.wi,k.out.1.di,by
  have:=(C.later o).tail
  simpa using this,V⟩
 obtain⟨A',o',H,hlt,cx⟩:=C.cell 0 x rfl;injection H with H;injection H with e1 e2;subst e1;subst e2;have X:(Instr.lookup 55 (.map (some mb)) (.string x) false).run prog w1.drew=.ok (.func (.func (q3p i)) #[PP cb] #[]) w1.drew:=zm.held (w:=w1.drew) (r.map.kept rfl) S hi N;have FE:=qrl i hi;have p:=hd2 F (q.later o)
 have eqn:∀(w:World) (f:Fn) (c d:Array Value),(binOp .eql 65 (.func f c d) .nilFunc).run prog w=.ok (.bool false) w:=λ_ _ _ _=>by kernel_rfl
 clear D O C u r E q o F t N
 dsimp only[List.length_cons]at*
 go_wp2
 go_region
 all_goals
  go_wp2_with fail
  refine P.mono ?_;rintro e w2 ⟨W',er,told,I,Y,J⟩;have Q:=hd1 J;have Z:=I.few.wf
  have K:Hid (qas W m W' (if er=0 then told else qgt er)):=by
   show qas W m W' (if er=0 then told else qgt er);unfold qas;rw[k.out.2.1]
   dsimp only
   rw[k.out.2.2];exact⟨er,told,I,rfl⟩
  have L:=qlt p.out.2 J k.out.1.ltG (jcd _);have c2:=L.c 0;have f2:=L.f 0;clear J I P L X;rcases Y with ⟨M,rfl⟩|⟨M,rfl⟩
  ·have n:=K.out;rw[if_pos M]at n;have HA:=hd1 n;clear n K
   go_wp2
   exact q0g k.out.1 p.out.1 p.out.2 Q.out HA.out rfl
  have n:=K.out;rw[if_neg M]at n;exact qoj k.out.1 p.out.1 p.out.2 Q.out Z n rfl
end
theorem qx4 (s:ByteArray):∀x∈qa9 s,x.size<=s.size:=λx a=>by
 unfold qa9 Lib.goFieldsP at a;obtain⟨p,_,rfl⟩:=jcz.1 a;rw[ByteArray.size_extract];omega
theorem qy1 (f:qmx 9) {w:World} {cb mb b j:Nat} {Gw G:Nat->Prop} {W:WoS} (h:qlo w cb mb b Gw G W j) {a:ByteArray} (c:a.size<=20000):
 Ca 11 #[PP cb,.string a] w (qig W a w cb mb G):=by
 have d:=qx4 a;cases hw:qa9 a with
 |nil=>exact qsp h c hw
 |cons x l=>
  rw[hw]at d
  have e:x.size<=maxLen:=by have:=d x (by simp);simp only[maxLen];omega
  cases hn:qc9.idxOf? x.data.toList with
  |none=>exact qt5 h c hw e hn
  |some i=>
   cases l with
   |nil=>exact qx8 f h c hw e hn
   |cons y l=>exact qyh f h c hw e (λz q=>by have:=d z (by simp only[jdd]at q ⊢;exact .inr q);omega) hn
theorem q9g:qmx 9:=λ{w cb mb b j cap Gw G W a l} h=>by
 show Ca 55 #[PP cb,.slice a l.length cap] w (jm 9 W l w cb mb G);have m:=hd1 h;have s:=qpc h.sm w h.gl h.st;clear h;go_enter Tryz.func55,Tryz.ntmps55
 go_wp2_with fail
 refine s.mono ?_;rintro e t ⟨f,(⟨n,rfl⟩|⟨n,rfl⟩)⟩
 ·have o:=m.out.ck.later f;have X:=o.cell1;obtain⟨D,own,d⟩:=o.map;have u:=callsIn_wide.1 (jef (some mb) t);have z:=callsIn_wide.1 (jd3 mb 19 D qcd t own (by rw[d.size];decide) (by rw[d.size];decide));have B:=hd2 own d;have M:=hd1 f;clear o own d s f
  go_wp2_with fail
  refine u.mono ?_;rintro e w2 ⟨rfl,rfl⟩
  go_wp2_with fail
  refine z.mono ?_;rintro e i ⟨v,N,rfl,C,k,_,F⟩;have E:=qup B.out.1 B.out.2 C
  have O:N.length=19:=by have:=congrArg List.length E;rw[List.length_mergeSort]at this;exact this
  rw[E,O]at k;obtain⟨_,(⟨_,P⟩|⟨g,H,cur,rfl,Y,I,Q,Z,R,S⟩)⟩:=id k
  ·cases P
  have p:=jd1 g 0 H (qc9.map bya) ⟨#[32]⟩ i (λq y J=>by
   rw[Nat.zero_add];rw[jcv]at J;obtain⟨x,K,rfl⟩:=Option.map_eq_some_iff.1 J;have T:q<19:=(jck.1 K).1;rw[k.cellAt q (by rw[Nat.mul_one];exact T),jcv,K]
   rfl) (jcs.1 I).1 (by decide) Q (by decide)
  replace p:Ca 42 #[.slice (PT g) 19 H,.string ⟨#[32]⟩] i λe w'=>e=.returned (.string (bya (Lib.join qc9 [32])))/\Bw i w':=p;have L:Hid (∀c,Bw i c->jm 9 W l w cb mb G (.returned (.string (bya (Lib.join qc9 [32])))) c):=λc r=>m.out.told (by decide) n.out ⟨rfl,rfl,rfl⟩ (qa (qa (boxed M.out _) F) r) (.inl ⟨rfl,rfl⟩);clear k I S R C E F z u
  go_wp2_with fail
  refine p.mono ?_;rintro e c ⟨rfl,r⟩;have V:=L.out c r;clear L
  go_wp2
  go_ret;exact V
 exact⟨rfl,m.out.no (by decide) n.out f⟩
section
structure qko (w0:World) (B cb mb tb:Nat) (X Z:Nat->Prop) (W:WoS) (out:List UInt8) (A:World) (G H:Nat->Prop):Prop where
 ck:qvq cb mb W A G
 bl:qht B tb out A H
 ap:∀k,G k->¬H k
 xz:∀k,X k->Z k/\k<w0.heap.size
 gx:∀k,k<10->X k
 z:∀k,Z k->¬G k/\¬H k
 gl:Gl A
 kp:jg X w0 A
section
variable {w0 A A':World} {B cb mb tb:Nat} {X Z G H:Nat->Prop} {W W':WoS} {out out':List UInt8}
theorem qko.later (h:qko w0 B cb mb tb X Z W out A G H) (a:Bw A A'):qko w0 B cb mb tb X Z W out A' G H:=
 ⟨h.ck.kept (λk e=>a.block k (h.ck.lt k e)) a.size,h.bl.kept (λk e=>a.block k (h.bl.lt k e)),h.ap,h.xz,h.gx,h.z,h.gl.later a,h.kp.trans ⟨a.os,a.tape,a.output,a.size,λk e=>a.block k (jci (h.xz k e).2 h.kp.size)⟩⟩
theorem qko.puts (h:qko w0 B cb mb tb X Z W out A G H) {q:Nat} (d:Z q) (f:¬X q) (o:Obj):qko w0 B cb mb tb X Z W out (A.putObj q o) G H:=by
 have b:∀k,k≠q->(A.putObj q o).heap[k]?=A.heap[k]?:=λk g=>World.putObj_heap_other g
 have c:A.heap.size<=(A.putObj q o).heap.size:=by simp
 exact⟨h.ck.kept (λk e=>b k (λa=>(h.z q d).1 (a▸e))) c,h.bl.kept (λk e=>b k (λa=>(h.z q d).2 (a▸e))),h.ap,h.xz,h.gx,h.z,h.gl.kept (λk e=>b k (λa=>f (a▸h.gx k e))) c,h.kp.trans ⟨rfl,rfl,rfl,c,λk e=>b k (λa=>f (a▸e))⟩⟩
theorem qko.ans (h:qko w0 B cb mb tb X Z W out A G H) (f:∀k,Z k->k<A.heap.size) (g:qbi (ckP cb mb W') A G A'):∃c,qko w0 B cb mb tb X Z W' out A' c H/\jg Z A A':=by
 obtain⟨c,p1,p2,a⟩:=g;have d:jg Z A A':=⟨a.os,a.tape,a.output,a.size,λk e=>a.block k (f k e) (h.z k e).1⟩;refine⟨c,⟨p1,h.bl.kept (λk e=>a.block k (h.bl.lt k e) (λq=>h.ap k q e)),λk e b=>?_,h.xz,h.gx,λk e=>⟨λb=>?_,(h.z k e).2⟩,h.gl.kept (λk e=>d.block k (h.xz k (h.gx k e)).1) a.size,h.kp.trans ⟨a.os,a.tape,a.output,a.size,λk e=>d.block k (h.xz k e).1⟩⟩,d⟩
 ·rcases p2 k e with q|q
  ·exact h.ap k q b
  have:=h.bl.lt k b;omega
 rcases p2 k b with q|q
 ·exact(h.z k e).1 q
 have:=f k e;omega
theorem qko.wrote (h:qko w0 B cb mb tb X Z W out A G H) (f:∀k,Z k->k<A.heap.size) (g:qbi (q2z B tb out') A H A'):∃b,qko w0 B cb mb tb X Z W out' A' G b/\jg Z A A':=by
 obtain⟨b,p1,p2,a⟩:=g;have c:jg Z A A':=⟨a.os,a.tape,a.output,a.size,λk e=>a.block k (f k e) (h.z k e).2⟩;refine⟨b,⟨h.ck.kept (λk e=>a.block k (h.ck.lt k e) (h.ap k e)) a.size,p1,λk e d=>?_,h.xz,h.gx,λk e=>⟨(h.z k e).1,λd=>?_⟩,h.gl.kept (λk e=>c.block k (h.xz k (h.gx k e)).1) a.size,h.kp.trans ⟨a.os,a.tape,a.output,a.size,λk e=>c.block k (h.xz k e).1⟩⟩,c⟩
 ·rcases p2 k d with q|q
  ·exact h.ap k e q
  have:=h.ck.lt k e;omega
 rcases p2 k d with q|q
 ·exact(h.z k e).2 q
 have:=f k e;omega
theorem qko.answer (h:qko w0 B cb mb tb X Z W out A G H) (c:DkI W) {a:ByteArray} (d:a.size<=20000):
 Ca 11 #[PP cb,.string a] A (qig W a A cb mb G):=by
 obtain⟨b,Gw,f,g⟩:=h.ck;obtain⟨j,i⟩:=c.pl;exact qy1 q9g ⟨f,g,h.gl,λk e=>(h.z k (h.xz k (h.gx k e)).1).1,i,c⟩ d
end
def SsI (w0:World) (B cb mb tb:Nat) (X Z:Nat->Prop) (pre:List ByteArray) (A:World):Prop:=∃W out G H,qd8 (qcb 2 2) pre out W/\qko w0 B cb mb tb X Z W out A G H
end
section
open Go.Shelf
attribute [local go_sem] Oper.semAt_some
theorem qqq {B b:Nat} {l:List UInt8} {G:Nat->Prop} (w:World) (h:qht B b l w G) (c:B<=w.heap.size):
 Ca 13 #[PP b] w λe w'=>e=.returned (.string (bya l))/\Below B w w'/\∀(k:Nat) D,w.heap[k]?=some (Obj.deferred D)->w'.heap[k]?=some (Obj.deferred D):=
 (Any.Builder_String_any_k je5 jd8 B b l w (Lib.IsBuilderF.of h.is) c).mono λe w' ⟨d,_,f,g⟩=>⟨d,f,λk D a=>g k _ a (λe=>by
  injection e with e;subst e;obtain⟨_,_,_,_,q,_⟩:=h;rw[a]at q
  cases q) (λ_ _ e=>by cases e)⟩
def jad (s:ByteArray) (out:List UInt8):Prop:=∃A,qd8 (qcb 2 2) ((qfq s.data.toList).map bya) out A
theorem quu (s:ByteArray) (S:s.size<=20000) (w:World) (g:Gl w):
 Ca 5 #[.string s] w λe w'=>∃d,e=.returned (.string (bya d))/\jad s d/\Bw w w':=by
 refine(callsIn_wide (n:=6)).1 ?_;have V:=qsk w g;have HG:=hd1 g
 have hmany:¬20000<(s.size:Int):=by omega
 have X:=hd1 S;clear g S;refine callsIn_of_wp_marks Tryz.func5 rfl trivial ?_ rfl;simp only[Tryz.ntmps5,List.size_toArray,List.length_cons,List.length_nil,Nat.reduceAdd,Nat.reduceSub,Array.replicate_succ,Array.replicate_zero,List.push_toArray,List.append_toArray,jda,jdj]
 gi_wp2_with (refine⟨trivial,?_⟩;gi_at_call 8;refine(callsIn_wide.2 V).mono ?_;rintro e a ⟨cb,rfl,HN⟩)
 gi_wp2_with (refine⟨trivial,?_⟩;gi_at_call 9;refine(callsIn_wide.2 (q60 s _)).mono ?_;rintro e w' ⟨rfl,rfl⟩)
 obtain⟨mb,G,C,Y,D,Z⟩:=HN;obtain⟨b,i⟩:∃b,((a.alloc (.cells #[PP cb] 27)).alloc (.cells #[.pointer none,.slice none 0 0] 32)).alloc (.cells #[.string s] 9)=b:=⟨_,rfl⟩
 have r:Bw a b:=by rw[<-i];exact boxed (boxed (boxed (jcc _ a) _) _) _
 have sz0:b.heap.size=a.heap.size+3:=by rw[<-i];simp
 have RC:qd b a.heap.size [PP cb]:=by rw[<-i];exact((qd.new (w:=a) (T:=27) [PP cb] rfl).boxed _).boxed _
 have RL:qd b (a.heap.size+1+1) [.string s]:=by rw[<-i];exact qd.new (w:=(a.alloc (.cells #[PP cb] 27)).alloc (.cells #[.pointer none,.slice none 0 0] 32)) (T:=9) (n:=a.heap.size+1+1) [.string s] (by simp)
 have hbx:b.heap[a.heap.size+1]?=some (.cells #[.pointer none,.slice none 0 0] 32 (0,0)):=by
  rw[<-i];refine(jdg _ _ _ (by simp)).trans ?_;have:=World.alloc_heap_new (a.alloc (.cells #[PP cb] 27)) (.cells #[.pointer none,.slice none 0 0] 32 (0,0))
  rwa [jdi]at this
 rw[i];clear i;have ls:=D.size
 have E:qko b a.heap.size cb mb (a.heap.size+1) (λk=>k<w.heap.size\/k=a.heap.size) (λk=>k<w.heap.size\/k=a.heap.size\/k=b.heap.size\/k=b.heap.size+1) (qcb 2 2) [] b G (λk=>k=a.heap.size+1):=by
  have F:=C.lt;refine⟨C.kept (λk e=>r.block k (F k e)) r.size,⟨by omega,.pointer none,.slice none 0 0,.inl rfl,hbx,⟨rfl,.inl ⟨rfl,rfl⟩⟩,by simp[Value.ownBlock],λk=>by simp[Value.ownBlock]⟩,λk e e2=>?_,λk e=>?_,λk e=>?_,λk e=>?_,Z.later r,jg.refl _ _⟩
  ·have:=F k e;omega
  ·rcases e with e|e
   ·exact⟨.inl e,by omega⟩
   exact⟨.inr (.inl e),by omega⟩
  ·exact .inl (jci e HG.out.sz)
  refine⟨λq=>?_,?_⟩
  ·have:=Y k q;have:=F k q;omega
  omega
 have hd0:DkI (qcb 2 2):=DkI.new (by decide) (by decide) (by decide);have hmanyL:=qu7 s.data.toList
 have hsl:s.data.toList.length<=20000:=by rw[<-Lib.size_eq];exact X.out
 have I:=qym 5 (by decide) s X.out (a.heap.size+1+1) b (by omega) (RL.c 0);have HB:=hd2 D r;clear V C Y Z D r hbx RL
 refine qli rfl (by decide) (gf:=21) (lb:=#[PP (a.heap.size+1+1)]) rfl trivial (enters_of Tryz.func21 (by kernel_rfl) rfl) I (jcc _ _) (λ_=>rfl)
  (SsI b a.heap.size cb mb (a.heap.size+1) (λk=>k<w.heap.size\/k=a.heap.size) (λk=>k<w.heap.size\/k=a.heap.size\/k=b.heap.size\/k=b.heap.size+1))
  (λ_ _ ⟨_,_,_,_,_,h⟩=>h.gl) (λ_ _ _ ⟨j,d,G,H,J,h⟩ hb=>⟨j,d,G,H,J,h.later hb⟩) (λ_ _ o ⟨j,d,G,H,J,h⟩=>⟨j,d,G,H,J,h.puts (by simp) (by omega) o⟩) ⟨_,_,_,_,.nil,E⟩
  (λx=>{tmps:=#[.string s,undef,.string ⟨#[]⟩,PP a.heap.size,PP (a.heap.size+1),.string x,.string s,U s.size,.bool false,undef,undef,PP cb,.string s,.func (.func 21) #[] #[PP (a.heap.size+1+1)],.string x,undef,undef,undef,undef,undef,undef],defers:=[]})
  ?assign ?body ?done
 case assign=>
  intro l x W K u
  gi_wp2
  exact u
 case body=>
  rintro l pre x rest W L hsz2 ⟨j,d,G,H,m,f⟩;clear E I;obtain⟨hol,M⟩:=m.len hd0
  have hxl:x.size<=20000:=by
   have hm:x∈(qfq s.data.toList).map bya:=by rw[L];simp
   obtain⟨y,hy,rfl⟩:=jcz.1 hm;have:=hmanyL.2 y hy;rw[Lib.size_eq];show y.length<=20000;omega
  have hpl:pre.length<=20001:=by
   have:=congrArg List.length L;simp only[jdh,jcl,List.length_cons]at this;omega
  have hz:∀k,(k<w.heap.size\/k=a.heap.size\/k=b.heap.size\/k=b.heap.size+1)->k<W.heap.size:=λk e=>by omega
  have c0:=(RC.keeps f.kp (.inr rfl)).c 0;have AN:=f.answer M hxl;have p:=hd4 hol hpl m M;have v:=hd1 f;have HZ:=hd1 hz;clear m f L M hol hpl hz hmanyL
  gi_wp2_with (refine⟨trivial,?_⟩;gi_at_call 11;refine(CallsIn.inRound l (callsIn_wide.2 AN)).mono ?_;rintro e W3 ⟨told,rfl,Wd',N,hL⟩)
  obtain⟨G3,z,O⟩:=v.out.ans HZ.out hL;have tl:=N.len p.out.2.2.2;have hz3:=λk e=>jci (HZ.out k e) O.size;have WS:=qnq (bya told) W3 z.bl (by rw[Lib.size_eq];show d.length+told.length<=_;have:=p.out.1;have:=p.out.2.1;omega) (by have:=z.kp.size;omega);have H3:=hd2 N O;have HS3:=hd1 z;have HZ3:=hd1 hz3;clear N hL z O hz3 AN
  gi_wp2_with (refine⟨trivial,?_⟩;gi_at_call 10;refine(CallsIn.inRound l (callsIn_wide.2 WS)).mono ?_;rintro e W4 ⟨rfl,hL4⟩)
  obtain⟨H4,B,P⟩:=HS3.out.wrote HZ3.out hL4;have hz4:=λk e=>jci (HZ3.out k e) P.size;have WB:=qql 10 10 rfl W4 B.bl (by rw[jcl];show d.length+told.length+1<=_;have:=p.out.1;have:=p.out.2.1;omega) (by have:=B.kp.size;omega);have Q:=hd3 P B hz4;clear hL4 B P hz4 WS
  gi_wp2_with (refine⟨trivial,?_⟩;gi_at_call 12;refine(CallsIn.inRound l (callsIn_wide.2 WB)).mono ?_;rintro e W5 ⟨rfl,hL5⟩)
  obtain⟨H5,S5,K5⟩:=Q.out.2.1.wrote Q.out.2.2 hL5;have KA:=(H3.out.2.trans Q.out.1).trans K5;exact⟨⟨KA.block _ (by simp),KA.block _ (by simp)⟩,Wd',_,G3,H5,.snoc p.out.2.2.1 H3.out.1,S5⟩
 rintro W ⟨j,d,G,H,m,f⟩ u;have ST:=qqq W f.bl (by have:=f.kp.size;omega);have v:=hd2 f.kp m;clear E I f m
 gi_wp2_with (refine⟨trivial,?_⟩;gi_at_call 13;refine(callsIn_wide.2 ST).mono ?_;rintro e W6 ⟨rfl,hb6,hd6⟩)
 rw[sz0]at u;refine⟨by simp,.inl ⟨_,_,rfl,run_takeDeferred (hd6 _ _ u),?_⟩⟩;have t:=((HB.out.1.trans (HB.out.2.mono ls)).trans (v.out.1.below (λk R=>.inl R))).trans (hb6.mono ls);exact⟨_,results_tmp rfl _ _ _,d,rfl,⟨j,v.out.2⟩,t.os,t.tape,t.output,jcn t.size (by simp),λk R=>(World.putObj_heap_other (by omega)).trans (t.block k R)⟩
end
section
variable {w:World}
theorem q8q {B:Nat} {v:Value} {ws:List ByteArray} (h:w.ownsRow B 9 1 v ws.length (ws.map Value.string)):∃a cap,v=.slice a ws.length cap/\qfj w a cap ws/\(∀d o,a=some ⟨d,o,none⟩->o=0/\B<=d):=by
 by_cases f:ws=[]
 ·subst f;rcases h.2 with ⟨b,_⟩|⟨g,cap,cur,b,k,_⟩
  ·exact⟨none,0,b,⟨jcd _,λj x c=>by simp at c⟩,λ_ _ e=>by cases e⟩
  exact⟨_,cap,b,⟨jcw _,λj x c=>by simp at c⟩,λ_ _ e=>by injection e with e;injection e with e1 e2;exact⟨e2.symm,by omega⟩⟩
 have l:=List.length_pos_iff.2 f;obtain⟨i,m,rfl,k,n⟩:=h.form l;have p:=h.cells (g:=i) rfl;refine⟨_,m,rfl,⟨?_,λj x c=>⟨i,0,rfl,n,?_⟩⟩,λ_ _ e=>by injection e with e;injection e with e1 e2;exact⟨e2.symm,by omega⟩⟩
 ·rcases h.2 with ⟨h,_⟩|⟨g',s,cur,b,_,_,q,_⟩
  ·cases h
  cases b;exact q
 have:=p j (.string x) (by rw[jcv,c];rfl);rcases Nat.eq_zero_or_pos j with rfl|r
 ·simpa[Addr.add]using this
 simpa[Addr.add,Nat.ne_of_gt r]using this
theorem quz (n:Int):qv [n]=Lib.itoa n:=by simp[qv,Lib.join]
theorem quk {a b c:List UInt8} (e:a++b=c) (h:c.length<=9223372036854775807) (w:World):(Op.stringOp .add (bya a) (bya b)).run Tryz.prog w=.ok (.string (bya c)) w:=by
 rw[<-e,<-jz];exact run_string_add_sum w (bya a) (bya b) (by rw[Lib.size_eq,Lib.size_eq];rw[<-e,jcl]at h;exact h)
theorem TkI.later {wr a:World} {c lb:Nat} {L d:List ByteArray} {e:List UInt8} (h:TkI w c lb L d e wr) (f:Bw wr a):TkI w c lb L d e a:=by
 obtain⟨W,b,Gw,G,h⟩:=h;exact⟨W,b,Gw,G,h.later f⟩
noncomputable def qlq:Code:=(qfe 6 (Tryz.f6.body.getD .skip)).getD .skip
def qrp (s:ByteArray) (w:World) (e:Ending) (w':World):Prop:=∃out,e=.returned (.string (bya out))/\jad s out/\Bw w w'
def qo0 (s:ByteArray) (v:Value) (u:Nat->Value):Array Value:=
 List.toArray (.string s::undef::.string ⟨#[]⟩::v::undef::undef::undef::undef::undef::undef::undef::undef::undef::undef::undef::u 15::u 16::u 17::u 18::u 19::u 20::u 21::u 22::u 23::u 24::u 25::u 26::u 27::u 28::u 29::u 30::u 31::u 32::u 33::u 34::u 35::u 36::undef::undef::undef::undef::undef::undef::undef::undef::undef::undef::undef::undef::undef::undef::undef::undef::undef::undef::undef::undef::undef::undef::undef::undef::undef::undef::undef::undef::undef::undef::undef::undef::undef::undef::undef::undef::undef::undef::undef::undef::undef::undef::undef::undef::undef::undef::undef::undef::undef::undef::undef::undef::[])
theorem q1z (AR:∀i,i<19->yt i) (s:ByteArray) (hs:s.size<=20000) (gl:Gl w) (fm:qqx w) (u:Nat->Value):
 Code.wp Tryz.prog qlq (bodyPost Tryz.prog Tryz.f6 (qrp s w)) ⟨qo0 s (.slice (some ⟨w.heap.size,0,none⟩) (quw s) (zr 10 s).length) u,[]⟩ (w.alloc (.cells ((zr 10 s).map Value.string).toArray 9)):=by
 obtain⟨i0,hi,hz0,hz1,hz2⟩:=info_parts qki;obtain⟨B,hw1⟩:∃v,w.alloc (.cells ((zr 10 s).map Value.string).toArray 9)=v:=⟨_,rfl⟩
 have hb1:Bw w B:=by rw[<-hw1];exact boxed (jcc _ w) _
 have sz1:B.heap.size=w.heap.size+1:=by rw[<-hw1];simp
 have hce:∀(j:Nat) x,(zr 10 s)[j]?=some x->B.cell? ⟨w.heap.size,j,none⟩=some (.string x):=λj x M=>by
  have R:=qd.new (w:=w) (T:=9) ((zr 10 s).map Value.string) rfl;rw[hw1]at R;exact R.cell j _ (by rw[jcv,M];rfl)
 rw[hw1];have hmL:=qle 10 s
 have hlin:quw s<=(zr 10 s).length:=by unfold quw;split<;>omega
 have V:=qy3 s
 generalize hL:zr 10 s=L at hce hmL hlin V
 generalize hN:quw s=N at hlin V
 have HC:=hd3 (λx M=>jcn (hmL.2 x M) hs) (show L.length<=20001 from by omega) V;have E:=hd3 gl fm (@AR);clear hL hN hmL V hs gl fm AR;have NW:Ca 15 #[U 2,U 2] B λe w'=>e=.returned (.tuple #[.pointer (some ⟨B.heap.size+1+1,0,none⟩),U 0])/\∃G,RW w' (B.heap.size+1+1) G (qcb 2 2)/\(∀k,G k->B.heap.size<=k)/\Bw B w':=q42 (n:=2) (c:=2) (by decide) (by decide) (by decide) B;have HB1:=hd3 hb1 sz1 hce;clear hb1 sz1 hce hw1
 conv=>arg 2;whnf
 unfold qo0
 go_wp2_with fail
 refine NW.mono ?_;rintro e w2 ⟨rfl,Gw,R2,hG2,hb2⟩
 have T0:Hid (TkI w w2.heap.size w.heap.size L [] [] (w2.alloc (.cells #[.pointer (some ⟨B.heap.size+1+1,0,none⟩)] 49))):=by
  have O:=boxed (jcc _ w2) (.cells #[.pointer (some ⟨B.heap.size+1+1,0,none⟩)] 49);have b02:=qa HB1.out.1 hb2;have z:=HB1.out.2.1;have H:=hb2.size;refine⟨qcb 2 2,B.heap.size+1+1,Gw,λk=>k=w2.heap.size\/Gw k,.nil,⟨heap_alloc_new w2 _,R2.later O,λe=>by have:=R2.lt _ e;omega⟩,λ_=>jdl,λk hk=>?_,⟨by simp;omega,λhk=>?_⟩,qa b02 O,λj x M=>?_⟩
  ·rcases hk with rfl|e
   ·exact b02.size
   have:=hG2 k e;omega
  ·rcases hk with e|e
   ·omega
   have:=hG2 _ e;omega
  exact(O.cell (p:=⟨w.heap.size,j,none⟩) (by show w.heap.size<_;omega)).trans ((hb2.cell (p:=⟨w.heap.size,j,none⟩) (by show w.heap.size<_;omega)).trans (HB1.out.2.2 j x M))
 clear R2 hG2 hb2 NW HB1
 go_wp2
 go_loopw [7,46] (λov iv wr=>∃(k:Nat) (z:Int) (Q:List UInt8),k<=N/\z=k/\iv=U z/\ov=.string (bya Q)/\Hid (TkI w w2.heap.size w.heap.size L (L.take k) Q wr)) (λ_ iv _=>N-(intOf iv).toNat)
 case atStart=>exact⟨0,0,[],jcw _,rfl,rfl,rfl,T0⟩
 clear T0
 rename World=>wo
 obtain⟨k,z,Q,hk,hz,rfl,rfl,HS⟩:=hrel;have HZ:=hd1 hz;by_cases V:k<N
 ·have g1:z<(N:Int):=by omega
  have g2:0<=z:=by omega
  have g3:z.toNat=k:=by omega
  have hkl:k<L.length:=by omega
  have g8:z<20001:=by have:=HC.out.2.1;omega
  obtain⟨x,M⟩:∃x,L[k]?=some x:=⟨_,jcg hkl⟩;obtain⟨W,b,Gw,G,A⟩:=HS.out;have c0:=A.cell k x M;have hxs:=HC.out.1 x (jcq M);have SP:=qrm 32 x (by omega) wo (E.out.1.later A.bl);have hYm:=qle 32 x;obtain⟨Y,hY⟩:∃Y,zr 32 x=Y:=⟨_,rfl⟩;rw[hY]at SP hYm;have hol:=(A.tk.len (DkI.new (by decide) (by decide) (by decide))).1
  have hpl:(L.take k).length<=20001:=by rw[jc5];have:=HC.out.2.1;omega
  have I:=hd8 A M hY hxs (show Y.length<=20001 from by omega) (λy J=>jcn (hYm.2 y J) hxs) hpl (show Q.length<=8020401 from by omega);clear A M HS hz hxs hYm hY hol hpl hkl
  go_wp2_with fail
  refine SP.mono ?_;rintro e w' ⟨rfl,rfl⟩;obtain⟨K,hw3⟩:∃v,wo.alloc (.cells (Y.map Value.string).toArray 9)=v:=⟨_,rfl⟩
  have R3:qd K wo.heap.size (Y.map Value.string):=by rw[<-hw3];exact qd.new (w:=wo) (T:=9) (Y.map Value.string) rfl
  have B3:Bw wo K:=by rw[<-hw3];exact boxed (jcc _ wo) _
  have H3:=hd2 R3 B3;rw[hw3];clear hw3 R3 B3 SP c0
  go_wp2
  go_loopw [10,53] (λwv iv h=>∃(d:Nat) (H:Int),d<=Y.length/\H=d/\iv=U H/\Hid (h.ownsRow K.heap.size 9 1 wv ((Y.take d).filter neB).length (((Y.take d).filter neB).map Value.string)/\Bw K h)) (λ_ iv _=>Y.length-(intOf iv).toNat)
  case atStart=>exact⟨0,0,jcw _,rfl,rfl,jcx K _ _ _,jcc _ _⟩
  rename World=>h
  obtain⟨d,H,hk2,hz2',rfl,C⟩:=hrel;have HZ2:=hd1 hz2';by_cases hlt2:d<Y.length
  ·have g4:H<(Y.length:Int):=by omega
   have g5:0<=H:=by omega
   have g6:H.toNat=d:=by omega
   have g7:H<20001:=by have:=I.out.2.2.2.2.1;omega
   obtain⟨y,J⟩:∃y,Y[d]?=some y:=⟨_,jcg hlt2⟩;have hwl:=H3.out.1.lt;have cy:=(C.out.2.cell (p:=⟨wo.heap.size,d,none⟩) hwl).trans (H3.out.1.cell d _ (by rw[jcv,J];rfl))
   have etk:(Y.take (d+1)).filter neB=(Y.take d).filter neB++(if neB y=true then [y]else []):=by
        rw[jdu,J,jdk]
        by_cases q:neB y=true<;>simp[q]
   by_cases X:neB y=true
   ·have hne:y.toList.isEmpty=false:=by
     rw[qca];unfold neB at X;simpa[toL]using X
    rw[if_pos X]at etk;have O:=boxed (jcc _ h) (.cells #[.string y] 9);have own2:=qg3 C.out.1 O;have hfl:((Y.take d).filter neB).length<=d:=jcn (jdo _ _) (by rw[jc5];omega);have HB:=hd2 C.out.2 (show ((Y.take d).filter neB).length<=20001 from by have:=I.out.2.2.2.2.1;omega);have HE:=hd1 etk;clear etk hfl O X J hz2'
    generalize hF:(Y.take d).filter neB=F at own2 HB HE C
    go_wp2_with (at_builtin;refine wpList_append_lies _ rfl _ _ 42 rfl K.heap.size 9 i0 (.string ⟨#[]⟩) 1 16 Tryz.underlying42 hi hz0 hz1 hz2 rfl (by decide) _ _ _ rfl own2 ⟨h.heap.size,0,none⟩ 1 1 [.string y] rfl rfl (World.news_of_block (heap_alloc_new h (.cells #[.string y] 9))) ?c2 (by decide) ?c3 ?c4 ?c5 _ rfl ?_)
    case c2=>intro v Z;simp at Z;subst Z;rfl
    case c3=>have:=HB.out.2;unfold maxLen;omega
    case c4=>have:=HB.out.2;omega
    case c5=>have:=HB.out.1.size;simp;omega
    intro m gc w4 own4 gr4 at4 lt4
    have D:Hid (w4.ownsRow K.heap.size 9 1 (.slice (some ⟨m,0,none⟩) (F.length+1) gc) ((Y.take (d+1)).filter neB).length (((Y.take (d+1)).filter neB).map Value.string)/\Bw K w4):=by
     refine⟨by rw[HE.out];simpa using own4,?_⟩;exact(HB.out.1.alloc HB.out.1.size _).grown gr4 (by have:=HB.out.1.size;simp;omega) (λq e=>(own2.lt q e).1)
    clear own4 gr4 at4 lt4 own2 HE C hF
    go_wp2
    go_roundw
    case rel=>exact⟨d+1,H+1,hlt2,by have:=HZ2.out;omega,by go_num,D.out⟩
    simp[intOf];omega
   have hne:y.toList.isEmpty=true:=by
        rw[qca];unfold neB at X;simpa[toL]using X
   rw[if_neg X,jdx]at etk
   have D:Hid (h.ownsRow K.heap.size 9 1 u10 ((Y.take (d+1)).filter neB).length (((Y.take (d+1)).filter neB).map Value.string)/\Bw K h):=by rw[etk];exact C
   clear etk X J hz2' C
   go_wp2
   go_roundw
   case rel=>exact⟨d+1,H+1,hlt2,by have:=HZ2.out;omega,by go_num,D.out⟩
   simp[intOf];omega
  have g4:¬H<(Y.length:Int):=by omega
  have hk3:d=Y.length:=by omega
  subst hk3;rw[jc9,show Y.filter neB=qa9 x by rw[qp4,I.out.2.2.1]]at C;obtain⟨a,cp,rfl,hst,han⟩:=q8q C.out.1;have B4:=qa H3.out.2 C.out.2;have A4:=I.out.1.later B4;have hsm:∀y∈qa9 x,y.size<=20000:=λy J=>I.out.2.2.2.2.2.1 y (by rw[qp4,I.out.2.2.1]at J;exact(jdq.1 J).1)
  have hpre:L.take k++[x]=L.take (k+1):=by rw[jdu,I.out.2.1];rfl
  generalize hws:qa9 x=ws at hst hsm C
  have hBw:=H3.out.2.size;have f:=hd7 A4 hws hsm hpre I.out.2.2.2.2.2.2.2 I.out.2.2.2.2.2.2.1 (show ∀q,K.heap.size<=q->¬G q from λq hq e=>by have:=I.out.1.lt q e;omega);clear A4 B4 hsm hpre hws C I H3 hz2' hBw;rcases ws with _|⟨y,l⟩
  ·have AD1:=quk (a:=[111,107]) (b:=[10]) rfl (by decide);have AD2:=quk (a:=Q) (b:=[111,107,10]) rfl (by have:=f.out.2.2.2.2.1;simp;omega)
   have D:Hid (TkI w w2.heap.size w.heap.size L (L.take (k+1)) (Q++[111,107,10]) h):=by
        have q:=f.out.1.step (x:=x) (W':=W) (told:=[111,107]) (by unfold qas;rw[f.out.2.1];exact⟨rfl,rfl⟩) (f.out.1.hs.same f.out.1.g (jcc _ _));rw[f.out.2.2.2.1,jcy]at q;exact q
   clear f hst han
   go_wp2
   go_roundw
   case rel=>exact⟨k+1,z+1,_,V,by have:=HZ.out;omega,by go_num,rfl,D.out⟩
   simp[intOf];omega
  obtain⟨m,o,rfl,hgl,cy⟩:=hst.cell 0 y rfl;obtain⟨rfl,hgB⟩:=han m o rfl;have hcl:=hst.cap;have hgG:=f.out.2.2.2.2.2.2 m hgB;have hbd:Bw h h.drew:=(jcc _ _).drew;have AD:=f.out.1.later hbd;have S0K:jg (λq=>q=m) h h:=jg.refl _ _;have KD:=vy S0K;have CY:∀w',jg (λq=>q=m) h w'->w'.cell? ⟨m,0,none⟩=some (.string y):=λw' kp=>(jch (w:=h) (a:=⟨m,0,none⟩) (kp.block m rfl)).trans cy;have HKB:Hid (∀P {er:Int} {t:List UInt8},(∃W',qas W x W' (if er=0 then t else qgt er)/\wfI er/\qbi (hsP w2.heap.size W') h.drew G P)->jg (λq=>q=m) h P):=λP _ _ ⟨_,_,_,_,_,_,S⟩=>⟨S.os,S.tape,S.output,S.size,λq e=>S.block q (by rw[e];exact hgl) (by rw[e];exact hgG)⟩;clear han;by_cases hcp:cp=1;subst hcp
  obtain rfl:l=[]:=by
   rcases l with _|⟨v,r⟩
   ·rfl
   simp at hcl
  have DO:Hid (Ca 16 #[.pointer (some ⟨w2.heap.size,0,none⟩),.string y,.slice (some ⟨m,0,none⟩) 0 0] h.drew (jai W x h.drew w2.heap.size G)):=qt3 E.out.2.2 (AD.rd E.out.1 E.out.2.1 (by have:=f.out.2.2.2.2.2.1;omega) (cap:=0) (a:=some ⟨m,0,none⟩) (l:=[]) ⟨by simp,λj y J=>by simp at J⟩ (by simp) (λbk o e=>by injection e with e;injection e with e1 e2;rw[<-e1];exact hgG)) f.out.2.1 (by have:=f.out.2.2.1 y (by simp);unfold maxLen;omega)
  rotate_left
  obtain⟨c,rfl⟩:∃c,cp=c+1+1:=⟨cp-2,by simp at hcl;omega⟩
  have b1:(l.length:Int)<=(c:Int)+1:=by simp at hcl;omega
  have b2:(l.length:Int)+1<=(c:Int)+1+1:=by omega
  have b3:(1:Int)<=(l.length:Int)+1:=by omega
  have DO:=hd1 (qt3 E.out.2.2 (AD.rd E.out.1 E.out.2.1 (by have:=f.out.2.2.2.2.2.1;omega) (cap:=c+1) (a:=some ⟨m,1,none⟩) (l:=l) (by
   have:=(hst.later hbd).tail
   simpa using this) (λv Z=>by have:=f.out.2.2.1 v (by simp[Z]);omega) (λbk o e=>by injection e with e;injection e with e1 e2;rw[<-e1];exact hgG)) f.out.2.1 (by have:=f.out.2.2.1 y (by simp);unfold maxLen;omega))
  all_goals
   clear hst hcl AD hbd cy
   dsimp only[List.length_cons,List.length_nil,Nat.zero_add]
   go_upto_region 21 with fail
   go_region_held3 (λw'=>jg (λq=>q=m) h w') (repeat (first|(with_reducible assumption)|(with_reducible refine vy ?_))) (first
        |(go_at_call 16
          with_reducible refine DO.out.mono ?_
          rintro e P ⟨t,er,rfl,HL⟩
          have KB:=HKB.out P HL.out))
   all_goals
        obtain⟨W',hans,hwe,hL⟩:=HL.out;have hD:=(f.out.1.tk.len (DkI.new (by decide) (by decide) (by decide))).2;have tl:=hans.len hD;obtain⟨S,htt⟩:∃v,(if er=0 then t else qgt er)=v:=⟨_,rfl⟩;rw[htt]at hans tl;obtain⟨T1,hT1⟩:∃v,S++[10]=v:=⟨_,rfl⟩;obtain⟨out2,hout2⟩:∃v,Q++T1=v:=⟨_,rfl⟩;have hol:=f.out.2.2.2.2.1;have AD1:=quk hT1 (by rw[<-hT1];simp;omega);have AD2:=quk hout2 (by rw[<-hout2,<-hT1];simp;omega)
        have D:Hid (TkI w w2.heap.size w.heap.size L (L.take (k+1)) out2 P):=by
         have q:=(f.out.1.later (jcc _ _).drew).step (x:=x) (W':=W') (told:=S) hans hL;rw[f.out.2.2.2.1,jcy,hT1,hout2]at q;exact q
        by_cases h0:er=0
        ·subst h0;rw[if_pos rfl]at htt;subst htt;clear hans hwe hL hD tl hT1 hout2 hol HL KB DO CY S0K KD HKB f E
         go_wp2
         go_roundw
         case rel=>exact⟨k+1,z+1,_,V,by have:=HZ.out;omega,by go_num,rfl,D.out⟩
         simp[intOf];omega
        have h1:=beq_false_of_ne h0
        have h2:(er !=0)=true:=by show (!(er==0))=true;rw[h1];rfl
        rw[if_neg h0]at htt;have AD0:=quk (a:=[101,114,114,111,114,32]) (b:=Lib.itoa er) (c:=S) htt (by omega);have O:=boxed (jcc _ P) (.cells #[U er] 3);obtain⟨_,_,_,_,AB⟩:=D.out
        have WD:=qb7 (b:=P.heap.size) (o:=0) (cap:=1) (l:=[er]) (by simp) (by simp) (by simpa using hwe) (P.alloc (.cells #[U er] 3)) (E.out.1.later (qa AB.bl O)) (by simp) (λj v Z=>by
         rcases j with _|j
         ·have:=(qd.new (w:=P) (T:=3) [U er] rfl).c 0;simp at Z;subst Z;exact this
         simp at Z)
        rw[quz]at WD;have HBZ:=hd1 O;clear hans hwe hL hD tl hT1 hout2 hol HL KB DO CY S0K KD HKB f E htt O AB h0
        go_wp2_with fail
        refine WD.mono ?_;rintro e w5 ⟨rfl,hb5⟩;have FIN2:=hd1 ((D.out.later HBZ.out).later hb5);clear D HBZ hb5 WD
        go_wp2
        go_roundw
        case rel=>exact⟨k+1,z+1,_,V,by have:=HZ.out;omega,by go_num,rfl,FIN2.out⟩
        simp[intOf];omega
 have g1:¬z<(N:Int):=by omega
 have hkN:k=N:=by omega
 subst hkN
 have D:Hid (qrp s w (.returned (.string (bya Q))) wo):=by
  obtain⟨W,b,Gw,G,A⟩:=HS.out;exact⟨Q,rfl,⟨W,by rw[HC.out.2.2];exact A.tk⟩,A.bl⟩
 clear HS HC E
 go_wp2
 go_ret;exact D.out
end
theorem q6k (m:∀i,i<19->yt i) (s:ByteArray) (h:s.size<=20000) (w:World) (l:Gl w) (o:qqx w):
 Ca 6 #[.string s] w (qrp s w):=by
 have f:=qrm 10 s (by omega) w l
 have x:¬20000<(s.size:Int):=by omega
 have c:=λu=>q1z m s h l o u;have j:=(qle 10 s).1;have R:=qd.new (w:=w) (T:=9) ((zr 10 s).map Value.string) rfl
 have d:quw s=if 1<(zr 10 s).length/\(zr 10 s).getLast?=some ⟨#[]⟩then (zr 10 s).length-1 else (zr 10 s).length:=rfl
 generalize r:w.alloc (.cells ((zr 10 s).map Value.string).toArray 9)=w1 at f c R
 generalize zr 10 s=L at f c R j d
 generalize quw s=N at c d
 clear r l o m;by_cases p:1<L.length
 ·obtain⟨y,k⟩:∃y,L[L.length-1]?=some y:=⟨_,jcg (by omega)⟩;have B:=R.cell (L.length-1) _ (show (L.map Value.string)[L.length-1]?=some (.string y) by rw[jcv,k];rfl);rw[List.getLast?_eq_getElem?,k]at d
  generalize L.length=n at*
  obtain⟨z,t⟩:∃z:Int,(n:Int)-1=z:=⟨_,rfl⟩
  have v:(1:Int)<n:=by omega
  have C:0<=z:=by omega
  have D:z<n:=by omega
  have E:z.toNat=n-1:=by omega
  have F:z<=n:=by omega
  have G:(n:Int)<=20001:=by omega
  have W1:wrap64 ((n:Int)-1)=z:=by rw[t];unfold wrap64;omega
  by_cases e:y=⟨#[]⟩
  ·subst e;rw[if_pos ⟨p,rfl⟩]at d;subst d;have g:=hd1 c;clear c R k j h;go_enter Tryz.func6,Tryz.ntmps6
   go_wp2_with fail
   refine f.mono ?_;rintro e w' ⟨rfl,rfl⟩;clear f
   go_upto_region 5 with fail
   iterate 18 go_step
   repeat (first|exact g.out (λn=>List.getD (undef::undef::undef::undef::undef::undef::undef::undef::undef::undef::undef::undef::undef::undef::undef::_::_::_::_::_::_::_::_::_::_::_::_::_::_::_::_::_::_::_::_::_::_::[]) n undef)|go_step)
  have H:y.toList.isEmpty=false:=by
   rw[qca];cases q:y.data.toList with
   |nil=>exact absurd (show y=⟨#[]⟩from(show y=bya y.data.toList from rfl).trans (by rw[q])) e
   |cons a b=>simp[toL,q]
  rw[if_neg (λq=>e (jcu q.2))]at d;subst d;have g:=hd1 c;clear c R k j h e;go_enter Tryz.func6,Tryz.ntmps6
  go_wp2_with fail
  refine f.mono ?_;rintro e w' ⟨rfl,rfl⟩;clear f
  go_upto_region 4 with fail
  iterate 18 go_step
  repeat (first|exact g.out (λn=>List.getD (undef::undef::undef::undef::undef::undef::undef::undef::undef::undef::undef::undef::undef::undef::undef::_::_::_::_::_::_::_::_::_::_::_::_::_::_::_::_::_::_::_::_::_::_::[]) n undef)|go_step)
 rw[if_neg (λq=>p q.1)]at d;subst d;have g:=hd1 c
 have v:¬(1:Int)<L.length:=by omega
 clear c R j h;go_enter Tryz.func6,Tryz.ntmps6
 go_wp2_with fail
 refine f.mono ?_;rintro e w' ⟨rfl,rfl⟩;clear f
 go_upto_region 4 with fail
 iterate 12 go_step
 repeat (first|exact g.out (λn=>List.getD (undef::undef::undef::undef::undef::undef::undef::undef::undef::undef::undef::undef::undef::undef::undef::_::_::_::_::_::_::_::_::_::_::_::_::_::_::_::_::_::_::_::_::_::_::[]) n undef)|go_step)
theorem q4e:yt 8:=λ{w w2 n0 hb b j cap nc Gw G W a na l ns} u h r hlen ht _ hN hb2=>by
 obtain⟨M,V,R,D⟩:=(h.hs.later hb2).rw;obtain⟨x,y,rfl⟩:=qk0 hlen;simp[qx,qb8,thB,thC]at ht;obtain⟨k,rfl,E,F,_⟩:=qac ht;obtain⟨g,rfl,hgB,X,L⟩:=hN.cell 0 _ rfl;obtain⟨g',z,_,_,N⟩:=hN.cell 1 _ rfl;injection z with z;injection z with z;subst z;have hcap:=hN.cap;have c:=hd5 h r hb2 F D;have Y:=h.wi.wl k E;by_cases m:0<=y/\y<=1099511627776
 ·have A:=vj (n:=y) (lo:=0) (hi:=1099511627776) (v:=true) (by simp[inB,m.1,m.2]) w2;have o:=hd1 m;have O:=hd1 R;clear h r hb2 hlen ht hN F D m R
  conv=>arg 2;whnf
  unfold qa3
  go_wp2_with fail
  refine A.mono ?_;rintro e i ⟨rfl,d⟩;have p:=O.out.laterW d;have N0:=cell_later d L;have N1:=cell_later d N;have hgl3:=jci X d.size;obtain⟨Z,avc,B,H⟩:=qq p.wr
  obtain⟨I,rfl,hag,P⟩:∃g,Z=some (AD g 0)/\g<i.heap.size/\∀j u,(qdw W.wall W.n)[j]?=some u->i.cell? (AD g j)=some u:=by
   rcases H.held with Q|Q
   ·omega
   exact Q
  have S:=p.box.cell 1 _ rfl;rw[B]at S;have T:=P _ _ (qie E);have J:=p.wr;rw[B]at J;have d5:=J.frozenAt k;have hal:=H.len;have bl:=p.box.lt;obtain⟨f,K⟩:∃f,W.wall k=f:=⟨_,rfl⟩;rw[K]at T Y;have y1:=o.out.1;have y2:=o.out.2
  have hwz:wrap64 (f+y)=f+y:=by unfold wrap64;omega
  have C:Hid (∀v,v=qk3 (f+y)->vl 8 W l w hb G (.returned (.tuple #[.string (bya (qn 8)),U 0])) (i.setCell (AD I k) (U v)).drew):=λv hv=>by
   subst hv;have s:=p.setWall B E (qk3 (f+y))
   have gf:ql b M I:=by unfold ql vx;rw[B];simp[Value.ownBlock]
   have hp:qae i b Gw (qm8 W k y) (i.setCell (AD I k) (U (qk3 (f+y)))):=by
        rw[show qm8 W k y={W with wall:=jj W.wall k (qk3 (f+y))} by unfold qm8;rw[K]];exact⟨_,⟨M,V,s.1,c.out.2.2.2.2⟩,λq e=>.inl e,⟨s.2.os,s.2.tape,s.2.output,s.2.size,λq hq r=>s.2.block q hq (λe=>r ((c.out.2.2.2.2 q).2 (.inl (by rw[e];exact gf))))⟩⟩
   exact c.out.1.fin c.out.2.1 (qa c.out.2.2.1 d) ⟨rfl,by rw[if_pos ⟨c.out.2.2.2.1,o.out.1,o.out.2⟩];exact⟨rfl,rfl⟩⟩ (λ_=>rfl) hp (jcc _ _).drew
  clear P H B J p K L N O A d;have FIN0:=C.out (min 1099511627776 (f+y)) (by unfold qk3;split<;>omega);clear C
  go_upto_region 46 with fail
  go_region
  all_goals
   clear S T d5
   go_wp2
   go_ret2;exact FIN0
 have A:=vj (n:=y) (lo:=0) (hi:=1099511627776) (v:=false) (by simp only[inB,Bool.and_eq_false_iff,decide_eq_false_iff_not];omega) w2;have o:=hd1 m;clear h r hb2 hlen ht hN F D m R
 conv=>arg 2;whnf
 unfold qa3
 go_wp2_with fail
 refine A.mono ?_;rintro e i ⟨rfl,d⟩;have C:Hid (vl 8 W l w hb G (.returned (.tuple #[.string ⟨#[]⟩,U 2])) i):=c.out.1.tell (told:=[]) (t:=qn 8) c.out.2.1 (qa c.out.2.2.1 d) ⟨rfl,by rw[if_neg (λe=>o.out e.2)];exact⟨rfl,rfl⟩⟩ (λe=>by cases e);clear A d
 go_wp2
 go_ret2;exact C.out
variable {w:World} {b:Nat} {G:Nat->Prop}
theorem RSe.openAt {s:qy} (h:RSe w b G s):w.cell? (AD b 8)=some (.bool s.opn)/\b<w.heap.size:=⟨h.snap.2.2.2.2.1,h.snap.2.2.2.2.2⟩
theorem q5j:yt 12:=λ{w w2 n0 hb b j cap nc Gw G W a na l ns} u h z hlen ht _ hN hb2=>by
 obtain⟨M,Y,R,I⟩:=(h.hs.later hb2).rw;obtain⟨x,y,rfl⟩:=qk0 hlen;simp[qx,qb8,thB,thC]at ht;obtain⟨k,rfl,p,J,_⟩:=qac ht.1;obtain⟨o,rfl,ho,K,_⟩:=qac ht.2;obtain⟨g,rfl,hgB,Z,D⟩:=hN.cell 0 _ rfl;obtain⟨g',r,_,_,L⟩:=hN.cell 1 _ rfl;injection r with r;injection r with r;subst r;have hcap:=hN.cap;have ha:=h.wi.wf.at_ k p;obtain⟨cg,ca,A,aa,sg,sa,C⟩:=R.cliAt p ha;obtain⟨N,hbs⟩:=(R.sess p).openAt;have hne:=qb.one;have d:=hd5 h z hb2 (show (ye (k:Int) W.c/\ye (o:Int) W.n)from⟨J,K⟩) I;have O:=hd1 R;have P:=qb.cell C.c2;have Q:=qb.cell C.x2;have S:=qb.cell D;have p0:=qb.cell N;have g2:=C.l2;clear h z hb2 hlen ht hN J K I R C N;cases hop:(W.ses k).opn with
 |true=>
  have B:=hd1 hop;rw[hop]at p0;clear hop
  conv=>arg 2;whnf
  unfold qa3
  go_upto_region 40 with fail
  refine wrl ?_
  repeat (go_big_quiet_step (first|rfl|fail))
  refine wpQuiet_nil ?_;rintro i ⟨⟨_,f⟩,rfl⟩;have E:Hid (vl 12 W l w hb G (.returned (.tuple #[.string ⟨#[]⟩,U 6])) i):=d.out.1.tell (told:=[]) (t:=qn 12) d.out.2.1 (qa d.out.2.2.1 f) ⟨rfl,by rw[if_pos d.out.2.2.2.1];unfold qhx qll;rw[show ((k:Int)).toNat=k from rfl,B.out];exact⟨rfl,rfl⟩⟩ (λe=>by cases e);clear P Q S p0 f
  go_wp2
  go_ret2;exact E.out
 |false=>
  have B:=hd1 hop;rw[hop]at p0;clear hop
  conv=>arg 2;whnf
  unfold qa3
  go_upto_region 40 with fail
  refine wrl ?_
  repeat (go_big_quiet_step (first|rfl|fail))
  refine wpQuiet_nil ?_;rintro i ⟨⟨_,f⟩,rfl⟩;have m:=O.out.laterW f;have N0:=cell_later f D;have N1:=cell_later f L;have hgl3:=jci Z f.size;obtain⟨av,avc,v,F⟩:=qq m.ar
  obtain⟨A,rfl,hag,T⟩:∃g,av=some (AD g 0)/\g<i.heap.size/\∀j u,(qdw (λk=>(W.at_ k:Int)) W.c)[j]?=some u->i.cell? (AD g j)=some u:=by
   rcases F.held with V|V
   ·omega
   exact V
  have X:=m.box.cell 3 _ rfl;rw[v]at X;have d4:=T _ _ (qie p);have H:=m.ar;rw[v]at H;have d5:=H.frozenAt k;have hal:=F.len;have bl:=m.box.lt
  have E:Hid (vl 12 W l w hb G (.returned (.tuple #[.string (bya (qn 12)),U 0])) (i.setCell (AD A k) (U o)).drew):=by
   have s:=m.setAt v p o
   have gf:ql b M A:=by unfold ql vx;rw[v];simp[Value.ownBlock]
   have hp:qae i b Gw (qhx W k o) (i.setCell (AD A k) (U o)):=by
        rw[show qhx W k o={W with at_:=jj W.at_ k o} by unfold qhx;rw[B.out];rfl];exact⟨_,⟨M,Y,s.1,d.out.2.2.2.2⟩,λq e=>.inl e,⟨s.2.os,s.2.tape,s.2.output,s.2.size,λq hq z=>s.2.block q hq (λe=>z ((d.out.2.2.2.2 q).2 (.inl (by rw[e];exact gf))))⟩⟩
   exact d.out.1.fin d.out.2.1 (qa d.out.2.2.1 f) ⟨rfl,by rw[if_pos d.out.2.2.2.1];exact⟨rfl,by unfold qll;rw[show ((k:Int)).toNat=k from rfl,B.out];rfl⟩⟩ (λ_=>rfl) hp (jcc _ _).drew
  clear T F v H m D L O f P Q S p0
  go_upto_region 42 with fail
  go_region
  all_goals
   clear X d4 d5
   go_wp2
   go_ret2;exact E.out
theorem jaz {w2 f:World} {x d j cap o n c:Nat} {Gw p:Nat->Prop} {W:WoS} {a:Option Addr} {l:List ByteArray} (h:qgm w x d b Gw G W j a cap l) (y:qeb 17 l=some [(n:Int),(c:Int)]) (i:Bw w w2) (t:qhp w2 d b Gw W) (z:RW f o p (qcb n c)) (r:∀k,p k->w2.heap.size<=k) (m:Bw w2 f) (A:(1<=(n:Int)/\(n:Int)<=4)/\(0<=(c:Int)/\(c:Int)<=6)):
 vl 17 W l w d G (.returned (.tuple #[.string (bya (qn 17)),U 0])) (f.setCell (AD d 0) (PP o)):=by
 have D:=t.lt;have B:=(t.later m).box;have u:∀k,k≠d->(f.setCell (AD d 0) (PP o)).heap[k]?=f.heap[k]?:=λk s=>jce _ _ _ _ s
 have v:(f.setCell (AD d 0) (PP o)).heap.size=f.heap.size:=by simp[World.setCell]
 refine⟨_,0,rfl,qcb n c,qn 17,qc2.yes y ⟨rfl,by rw[if_pos A];exact⟨rfl,rfl⟩⟩,λ_=>rfl,λk=>k=d\/p k,⟨o,p,⟨by simp[World.setCell,Array.getElem?_modify,B],z.kept (λk e=>u k (λq=>by have:=r k e;omega)) (by rw[v];exact jcd _),λe=>by have:=r d e;omega⟩,λ_=>jdl⟩,λk e=>?_,?_⟩
 ·rcases e with rfl|e
  ·exact .inl ((h.g k).2 (.inl rfl))
  exact .inr (jcn i.size (r k e))
 have s2:=i.size;exact⟨m.os.trans i.os,m.tape.trans i.tape,m.output.trans i.output,by rw[v];exact jcn s2 m.size,λk s C=>(u k (λq=>C ((h.g k).2 (.inl q)))).trans ((m.block k (by omega)).trans (i.block k s))⟩
theorem q0y:yt 17:=λ{w w2 n0 hb b j cap nc Gw G W a na l ns} u h hn hlen ht _ hN hb2=>by
 have r:=h.hs.later hb2;obtain⟨x,y,rfl⟩:=qk0 hlen;obtain⟨g,rfl,M,N,s⟩:=hN.cell 0 _ rfl;obtain⟨g',f,_,_,v⟩:=hN.cell 1 _ rfl;injection f with f;injection f with f;subst f;have O:=hN.cap;have d:=hd4 h hn hb2 r;have P:=r.lt;have F:=λ(w':World) (h:Bw w2 w')=>cell_later h s;have H:=λ(w':World) (h:Bw w2 w')=>cell_later h v;clear h hn hb2 hlen ht hN r;by_cases i:(1<=x/\x<=4)/\(0<=y/\y<=6)
 ·obtain⟨n,rfl,I,J⟩:∃n:Nat,x=n/\1<=n/\n<=4:=⟨x.toNat,by omega,by omega,by omega⟩;obtain⟨c,rfl,K⟩:∃c:Nat,y=c/\c<=6:=⟨y.toNat,by omega,by omega⟩;have p:=q42 I J K w2.drew;have z:=hd1 i;clear i s v
  conv=>arg 2;whnf
  unfold qa3
  go_upto_region 19 with fail
  go_region_held3 (λw'=>Bw w2 w') ((repeat (first|(with_reducible assumption)|(with_reducible refine jc6 ?_)|(with_reducible exact jcc _ _)))) (first
   |(go_at_call 15
     with_reducible refine p.mono ?_
     rintro e A ⟨rfl,L,C,D,m⟩;have q:=qa (jcc _ _).drew m;have o:=hd3 C (show (∀k,L k->w2.heap.size<=k)from D) q
     clear C D m))
  all_goals
   have E:=(d.out.2.2.2.later o.out.2.2).box;have Q:=(d.out.2.2.2.later o.out.2.2).cell;have R:=Lib.frozen_of_heap E 0;have B:Hid (vl 17 W l w hb G (.returned (.tuple #[.string (bya (qn 17)),U 0])) (A.setCell (AD hb 0) (PP (w2.heap.size+1+1)))):=jaz d.out.1 d.out.2.1 d.out.2.2.1 d.out.2.2.2 o.out.1 o.out.2.1 o.out.2.2 z.out;clear E p F H q
   go_wp2
   go_ret2;exact B.out
 have p:=q2j i w2.drew;have z:=hd1 i;clear i s v
 conv=>arg 2;whnf
 unfold qa3
 go_upto_region 19 with fail
 go_region_held3 (λw'=>Bw w2 w') ((repeat (first|(with_reducible assumption)|(with_reducible refine jc6 ?_)|(with_reducible exact jcc _ _)))) (first
  |(go_at_call 15
    with_reducible refine p.mono ?_
    rintro e A ⟨rfl,m⟩;have q:=qa (jcc _ _).drew m;have B:Hid (vl 17 W l w hb G (.returned (.tuple #[.string ⟨#[]⟩,U 2])) A):=d.out.1.tell (told:=[]) (t:=qn 17) d.out.2.1 (qa d.out.2.2.1 q) ⟨rfl,by rw[if_neg z.out];exact⟨rfl,rfl⟩⟩ (λe=>by cases e)
    clear m))
 all_goals
  go_wp2
  go_ret2;exact B.out
end Go.Proofs.YtoanjdndmlffdaaGreatDoor
