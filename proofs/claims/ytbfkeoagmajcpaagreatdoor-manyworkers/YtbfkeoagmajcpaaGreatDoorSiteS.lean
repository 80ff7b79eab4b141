import Derived.Test.YtbfkeoagmajcpaaGreatDoorSiteR
set_option maxHeartbeats 4000000
set_option maxRecDepth 100000
set_option linter.defProp false
set_option linter.unusedSectionVars false
set_option linter.unusedSimpArgs false
set_option linter.unusedVariables false
namespace Go.Proofs.YtbfkeoagmajcpaaGreatDoor
open Go.Conc Go.RowKit Go.Conc.Lib Go.ConcR.Gen Go.ConcN.Gen
variable {A:(Np)->Wv} {Ans:By->By->Prop} {B n:Nat} {a b:Int} {own rd:Np} {w:Wl}
section
open _root_.Go.Proofs.Tryz
open Go.ConcR (Payload DC0)
variable {D:Np} {V E:Wl}
noncomputable def jvg:Code:=match f3.body with|some (.seq _ (.seq _ (.seq _ (.seq _ (.seq _ r)))))=>r|_=>.skip
def tP (W:Vl) (a b:Int) (n B C:Nat) (u:Nat->Vl):Av:=
 List.toArray (W::U a::U b::u 3::u 4::u 5::u 6::u 7::.slice (PT B) n n::.nilIface::.slice (PT C) n n::.nilIface::u 12::u 13::u 14::u 15::u 16::u 17::u 18::u 19::u 20::u 21::u 22::u 23::u 24::u 25::u 26::u 27::u 28::u 29::u 30::u 31::u 32::u 33::u 34::u 35::u 36::u 37::u 38::u 39::u 40::u 41::u 42::u 43::u 44::u 45::u 46::u 47::u 48::u 49::u 50::u 51::u 52::u 53::u 54::u 55::u 56::u 57::u 58::u 59::u 60::u 61::u 62::u 63::u 64::u 65::u 66::u 67::u 68::u 69::u 70::u 71::u 72::u 73::u 74::u 75::u 76::u 77::u 78::u 79::u 80::u 81::u 82::u 83::u 84::u 85::u 86::u 87::u 88::u 89::u 90::u 91::u 92::u 93::[])
def jvn (w:Wl):Sem.events PR (binOp .neq 24 .nilIface .nilIface) w #[]=#[]:=by
 kernel_rfl
section
variable {W:Vl} {C:Nat} {tx:Nat->By}
def js7 (o:q10 A) (q:jk9 Ans) (t:jgh A Ans (jgc V)) (K:n<=5) (L:∀i,i<n->(tx i).size<=1500) (z:jit (·<V.heap.size) V W n tx) (u:Nat->Vl) (h:LK A Ans n tx [B,C] own rd V w):
 q7 PR (EE A Ans) (jgc V) true ⟨own,rd,.idle⟩ (Go.Conc.G ((base 3).at ⟨tP W a b n B C u,[]⟩ [.code jvg]) []) w:=by
 letI:Payload:=⟨0⟩
 have M:=z;obtain⟨Q,R,rfl,S⟩:=z;have T:=jvn;have d:∀{x y:Wl},LK A Ans n tx [B,C] own rd V x->q9 (EE A Ans) ⟨own,rd,.idle⟩ x y->LK A Ans n tx [B,C] own rd V y:=λh r=>h.rely o r;refine q7.by (m:=60) ?_;simp only[jvg,f3,tP]
 refine Fz @d h λ_ h=>?_
 refine mz λE r=>?_;replace h:=d h r;clear r;refine q7.callS (t ⟨#[120,10]⟩ oj) rfl rfl oX rfl func6 oh rfl oQ rfl (λc F l k e=>?_) h.kept (λX N=>(d h N).lo) λj U v g H I J=>?_
 .simp only[List.mem_cons,List.not_mem_nil,or_false]at F;subst F;simp[Frame.at]at e
 obtain⟨s,rfl,p⟩:=g;have p:=q.err s p;subst p;replace h:=(d h J).more H I;clear J H I d;have d:∀{x y:Wl},LK A Ans n tx [B,C] j rd V x->q9 (EE A Ans) ⟨j,rd,.idle⟩ x y->LK A Ans n tx [B,C] j rd V y:=λh r=>h.rely o r;refine q7.by (m:=60) ?_
 walk_nrm;refine Fz @d h λ_ h=>?_
 u_c stepG_loop d h
 refine mz λO P=>?_;replace h:=d h P;exact jsg o q t K L M n 0 j (λm=>List.getD [undef,undef,undef,_,_,_,_,_,undef,undef,undef,undef,undef,_,_,_,_,_,_,_,_,_,_,_,_,_,_,_,_,_,_,_,_,_,_,_,_,_,_,_,_,_,_,_,_,_,_,_,_,_,_,_,_,_,_,_,_,_,_,_,_,_,_,_,_,_,_,_,_,_,_,_,_,_,_,_,_,_,_,_,_,_,_,_,_,_,_,_,_,_,_,_,_,_] m undef) O oe h
end
end
section
open Tryz
open Go.ConcR (Payload DC0)
variable {S C:Wl}
noncomputable def RQ8:Code:=match f3.body with|some (.seq _ (.seq _ (.seq _ r)))=>r|_=>.skip
noncomputable def RQ9:Code:=match RQ8 with|.seq _ r=>r|_=>.skip
def tZ (V:Vl) (a b:Int) (u:Nat->Vl):Av:=
 List.toArray (V::U a::U b::u 3::u 4::u 5::u 6::u 7::u 8::u 9::u 10::u 11::u 12::u 13::u 14::u 15::u 16::u 17::u 18::u 19::u 20::u 21::u 22::u 23::u 24::u 25::u 26::u 27::u 28::u 29::u 30::u 31::u 32::u 33::u 34::u 35::u 36::u 37::u 38::u 39::u 40::u 41::u 42::u 43::u 44::u 45::u 46::u 47::u 48::u 49::u 50::u 51::u 52::u 53::u 54::u 55::u 56::u 57::u 58::u 59::u 60::u 61::u 62::u 63::u 64::u 65::u 66::u 67::u 68::u 69::u 70::u 71::u 72::u 73::u 74::u 75::u 76::u 77::u 78::u 79::u 80::u 81::u 82::u 83::u 84::u 85::u 86::u 87::u 88::u 89::u 90::u 91::u 92::u 93::[])
def tY (V:Vl) (a b:Int) (n B:Nat) (u:Nat->Vl):Av:=
 List.toArray (V::U a::U b::u 3::u 4::u 5::u 6::u 7::.slice (PT B) n n::.nilIface::u 10::u 11::u 12::u 13::u 14::u 15::u 16::u 17::u 18::u 19::u 20::u 21::u 22::u 23::u 24::u 25::u 26::u 27::u 28::u 29::u 30::u 31::u 32::u 33::u 34::u 35::u 36::u 37::u 38::u 39::u 40::u 41::u 42::u 43::u 44::u 45::u 46::u 47::u 48::u 49::u 50::u 51::u 52::u 53::u 54::u 55::u 56::u 57::u 58::u 59::u 60::u 61::u 62::u 63::u 64::u 65::u 66::u 67::u 68::u 69::u 70::u 71::u 72::u 73::u 74::u 75::u 76::u 77::u 78::u 79::u 80::u 81::u 82::u 83::u 84::u 85::u 86::u 87::u 88::u 89::u 90::u 91::u 92::u 93::[])
def jt7 (b:Int):∃r:Nat,r<16/\IntKind.i64.wrap ((b%18446744073709551616).tmod 16)=(r:Int):=by
 have c:0<=b%18446744073709551616:=Int.emod_nonneg b oj;rw[Int.tmod_eq_emod_of_nonneg c,IntKind.wrap_i64];refine⟨((b%18446744073709551616)%16).toNat,oe,oe⟩
variable {D:List Nat}
def LK.tx {n:Nat} {tx:Nat->By} {V:Vl} (h:LK A Ans n tx D own rd S w) (d:jit (·<S.heap.size) S V n tx):jit rd w V n tx:=by
 obtain⟨b,c,e,d⟩:=d;refine⟨b,c,e,λi=>?_⟩;obtain⟨f,o,k,g,l⟩:=d i;exact⟨f,o,k,h.hr _ g,λj m=>(vd (h.sm.same f (.inr g)) _).trans (l j m)⟩
def LK.next {n:Nat} {tx:Nat->By} {t x:Np} {T:Nat} (h:LK A Ans n tx D own rd S w) (d:∀b,own b->t b) (e:∀b,rd b->x b) (f:∀b,t b->b<C.heap.size) (g:∀b,x b->b<C.heap.size) (j:A x C) (c:Sm own rd w C) (k:t T) (l:∀i,i<n->∃v,C.cell? (AD T i)=some (.string v)/\Ans (tx i) v):LK A Ans n tx (D++[T]) t x S C:=
 ⟨⟨λb m=>m.elim (λq=>q.elim) λq=>(c.same b (.inr (h.hr b q))).trans (h.sm.same b (.inr q)),c.os.trans h.sm.os,c.output.trans h.sm.output⟩,f,g,λb q=>e b (h.hr b q),j,λX o=>by
   obtain q|q:=List.mem_append.1 o
   .exact⟨d X (h.ts X q).1,λi p=>by
       obtain⟨v,r,s⟩:=(h.ts X q).2 i p;exact⟨v,(vd (c.same X (.inl (h.ts X q).1)) i).trans r,s⟩⟩
   rw[List.mem_singleton.1 q];exact⟨k,l⟩⟩
section
variable {V:Vl} {tx:Nat->By}
def jtu (d:q10 A) (I:jgz A) (J:jk9 Ans) (K:jgh A Ans (jgc S)) (e:n<=5) (g:∀i,i<n->(tx i).size<=1500) (j:jit (·<S.heap.size) S V n tx) (u:Nat->Vl) (h:LK A Ans n tx [B] own rd S w):
 q7 PR (EE A Ans) (jgc S) true ⟨own,rd,.idle⟩ (Go.Conc.G ((base 3).at ⟨tY V a b n B u,[]⟩ [.code RQ9]) []) w:=by
 letI:Payload:=⟨0⟩
 have k:=j;obtain⟨N,O,rfl,P⟩:=j;have c:∀{x y:Wl},LK A Ans n tx [B] own rd S x->q9 (EE A Ans) ⟨own,rd,.idle⟩ x y->LK A Ans n tx [B] own rd S y:=λh r=>h.rely d r;refine q7.by (m:=60) ?_;simp only[RQ9,RQ8,f3,tY]
 refine Fz @c h λ_ h=>?_
 u_call func5 oh f5 c h
 refine Fz @c h λ_ h=>?_
 u_leave1 func5 c h
 obtain⟨r,Q,l⟩:=jt7 b;rw[l];have L:IntKind.i64.wrap (1+(r:Int))=((r+1:Nat):Int):=mn;refine Fz @c h λ_ h=>?_
 refine mz λC o=>?_;replace h:=c h o;clear o
 have p:((r:Int)+1)=((r+1:Nat):Int):=oe;rw[p];refine q7.call (f:=4) rfl rfl oX rfl func4 oh (show f4.body=some (f4.body.getD .skip)from rfl) ?_;walk_nrm;refine jnk (W:=r+1) (tx:=tx) d I e oe g (h.tx k) ?_ h.lo1 h.lo2 h.lo;intro X Y T Z q s t v z E F H;replace h:LK A Ans n tx [B,T] X Y S Z:=h.next q s t v z E F H;clear c p L l q s t v z E F H;have c:∀{x y:Wl},LK A Ans n tx [B,T] X Y S x->q9 (EE A Ans) ⟨X,Y,.idle⟩ x y->LK A Ans n tx [B,T] X Y S y:=λh r=>h.rely d r;refine q7.by (m:=60) ?_
 walk_nrm;iterate 6 (first|refine oZ om ?_|u_reg c h|u_cnd true c h|u_cnd false c h|u_skip c h|u_defer c h|u_op c h)
 refine mz λR M=>?_;replace h:=c h M;exact js7 d J K e g k (λm=>List.getD [undef,undef,undef,_,_,_,_,_,undef,undef,undef,undef,_,_,_,_,_,_,_,_,_,_,_,_,_,_,_,_,_,_,_,_,_,_,_,_,_,_,_,_,_,_,_,_,_,_,_,_,_,_,_,_,_,_,_,_,_,_,_,_,_,_,_,_,_,_,_,_,_,_,_,_,_,_,_,_,_,_,_,_,_,_,_,_,_,_,_,_,_,_,_,_,_,_] m undef) h
def jtf (d:q10 A) (e:jgz A) (J:jk9 Ans) (K:jgh A Ans (jgc S)) (g:n<=5) (j:∀i,i<n->(tx i).size<=1500) (k:jit (·<S.heap.size) S V n tx) (u:Nat->Vl) (h:LK A Ans n tx [] own rd S w):
 q7 PR (EE A Ans) (jgc S) true ⟨own,rd,.idle⟩ (Go.Conc.G ((base 3).at ⟨tZ V a b u,[]⟩ [.code RQ8]) []) w:=by
 letI:Payload:=⟨0⟩
 have l:=k;obtain⟨N,O,rfl,P⟩:=k;have c:∀{x y:Wl},LK A Ans n tx [] own rd S x->q9 (EE A Ans) ⟨own,rd,.idle⟩ x y->LK A Ans n tx [] own rd S y:=λh r=>h.rely d r;refine q7.by (m:=60) ?_;simp only[RQ8,f3,tZ]
 refine Fz @c h λ_ h=>?_
 u_call func5 oh f5 c h
 refine Fz @c h λ_ h=>?_
 u_leave1 func5 c h
 obtain⟨r,Q,o⟩:=jt7 a;rw[o];have L:IntKind.i64.wrap (1+(r:Int))=((r+1:Nat):Int):=mn;refine Fz @c h λ_ h=>?_
 refine mz λC p=>?_;replace h:=c h p;clear p
 have q:((r:Int)+1)=((r+1:Nat):Int):=oe;rw[q];refine q7.call (f:=4) rfl rfl oX rfl func4 oh (show f4.body=some (f4.body.getD .skip)from rfl) ?_;walk_nrm;refine jnk (W:=r+1) (tx:=tx) d e g oe j (h.tx l) ?_ h.lo1 h.lo2 h.lo;intro X Y T Z s t v z E F H I;replace h:LK A Ans n tx [T] X Y S Z:=h.next s t v z E F H I;clear c q L o s t v z E F H I;have c:∀{x y:Wl},LK A Ans n tx [T] X Y S x->q9 (EE A Ans) ⟨X,Y,.idle⟩ x y->LK A Ans n tx [T] X Y S y:=λh r=>h.rely d r;refine q7.by (m:=60) ?_
 walk_nrm;iterate 6 (first|refine oZ om ?_|u_reg c h|u_cnd true c h|u_cnd false c h|u_skip c h|u_defer c h|u_op c h)
 refine mz λR M=>?_;replace h:=c h M;exact jtu d e J K g j l (λm=>List.getD [undef,undef,undef,_,_,_,_,_,undef,undef,_,_,_,_,_,_,_,_,_,_,_,_,_,_,_,_,_,_,_,_,_,_,_,_,_,_,_,_,_,_,_,_,_,_,_,_,_,_,_,_,_,_,_,_,_,_,_,_,_,_,_,_,_,_,_,_,_,_,_,_,_,_,_,_,_,_,_,_,_,_,_,_,_,_,_,_,_,_,_,_,_,_,_,_] m undef) h
end
end
open _root_.Go.Proofs.Tryz
open Go.ConcR (Payload DC0)
variable {w0 B:Wl}
noncomputable def LQ1:Code:=match f3.body with|some (.seq _ (.seq _ (.seq (.seq _ (.block _ (.loop c))) _)))=>c|_=>.skip
def tX (sv:Vl) (a b:Int) (i:Nat) (u:Nat->Vl):Av:=
 List.toArray (sv::U a::U b::u 3::u 4::u 5::u 6::U i::u 8::u 9::u 10::u 11::u 12::u 13::u 14::u 15::u 16::u 17::u 18::u 19::u 20::u 21::u 22::u 23::u 24::u 25::u 26::u 27::u 28::u 29::u 30::u 31::u 32::u 33::u 34::u 35::u 36::u 37::u 38::u 39::u 40::u 41::u 42::u 43::u 44::u 45::u 46::u 47::u 48::u 49::u 50::u 51::u 52::u 53::u 54::u 55::u 56::u 57::u 58::u 59::u 60::u 61::u 62::u 63::u 64::u 65::u 66::u 67::u 68::u 69::u 70::u 71::u 72::u 73::u 74::u 75::u 76::u 77::u 78::u 79::u 80::u 81::u 82::u 83::u 84::u 85::u 86::u 87::u 88::u 89::u 90::u 91::u 92::u 93::[])
def jvj (s:By) (w:Wl):Sem.events PR (Builtin.len_ #[9] 3 #[.string s]) w #[]=#[]:=oh
def jpl {n:Nat} {tx:Nat->By} {c:List Nat} (d:q10 A) {T:Av} {todo:List Item} (g:T.getD 6 undef=.bool true) (h:LK A Ans n tx c own rd w0 w):
 q7 PR (EE A Ans) (jgc w0) true ⟨own,rd,.idle⟩ (Go.Conc.G {(base 3).at ⟨T,[]⟩ todo with mode:=.returning} []) w:=by
 refine q7.mk rfl λm i=>?_;replace h:=h.rely d i;refine .fin (v:=.bool true) (es:=#[]) rfl rfl ?_ (λe j=>by simp at j) ⟨rfl,λb k=>h.sm.same b (.inr k),h.sm.os,h.sm.output⟩;have:=jk0 (P:=PR) (fn:=f3) (t:=6) (b:=base 3) (a:=⟨T,[]⟩) (todo:=todo) rfl rfl func3 rfl oh m;rw[this,g]
section
variable {sv:Vl} {tx:Nat->By}
def jql (g:q10 A) (E:jgz A) (F:jk9 Ans) (H:jgh A Ans (jgc w0)) (I:n<=5) (p:jit (·<w0.heap.size) w0 sv n tx):∀(d i:Nat) (u:Nat->Vl) (w:Wl),i+d=n->(∀j,j<i->(tx j).size<=1500)->LK A Ans n tx [] own rd w0 w->
 q7 PR (EE A Ans) (jgc w0) true ⟨own,rd,.idle⟩ (Go.Conc.G ((base 3).at ⟨tX sv a b i u,[]⟩ [.code LQ1,.inLoop LQ1,.inBlock 0,.code RQ8]) []) w:=by
 letI:Payload:=⟨0⟩
 have c:∀{x y:Wl},LK A Ans n tx [] own rd w0 x->q9 (EE A Ans) ⟨own,rd,.idle⟩ x y->LK A Ans n tx [] own rd w0 y:=λh r=>h.rely g r;have V:=jvj;have J:=p;obtain⟨W,X,rfl,L⟩:=p;intro d
 induction d with
 |zero=>
  intro i u w M k h;have e:i=n:=oe;subst e;have N:decide ((i:Int)<(i:Int))=false:=oi;refine q7.by (m:=20) ?_;simp only[LQ1,f3,tX];refine Fz @c h λ_ h=>?_
  u_exit c h
  refine mz λB r=>?_;replace h:=c h r;exact jtf (a:=a) (b:=b) g E F H I (λj q=>k j q) J (λm=>List.getD [undef,undef,undef,_,_,_,_,_,_,_,_,_,_,_,_,_,_,_,_,_,_,_,_,_,_,_,_,_,_,_,_,_,_,_,_,_,_,_,_,_,_,_,_,_,_,_,_,_,_,_,_,_,_,_,_,_,_,_,_,_,_,_,_,_,_,_,_,_,_,_,_,_,_,_,_,_,_,_,_,_,_,_,_,_,_,_,_,_,_,_,_,_,_,_] m undef) h
 |succ d ih=>
  intro i u w M k h;have O:i<n:=oe;obtain⟨s,o,rfl,t,P⟩:=L oe;have N:decide ((i:Int)<(n:Int))=true:=decide_eq_true oe;have Y:(i:Int)<(n:Int):=oe;have Z:(0:Int)<=(i:Int):=oe;refine q7.by (m:=30) ?_;simp only[LQ1,f3,tX];refine Fz @c h λ_ h=>?_
  refine mz λB r=>?_;replace h:=c h r;refine q7.opM rfl rfl oj rfl λw2 v K z=>?_;replace h:=c h v;have Q:w2.cell? (AD s (o+i))=some (.string (tx i)):=(vd (h.sm.same s (.inr t)) _).trans (P i O)
  go_simp;refine z _ _ ⟨_,vc.reads (λe R=>?_),?_⟩
  .have C:=mem_listed R;simp[go_sem, *]at C;subst C;exact Or.inr ⟨h.hr _ t,rfl⟩
  clear z K Q r v;by_cases S:(tx i).size<=1500
  .have T:decide ((1500:Int)<((tx i).size:Int))=false:=decide_eq_false oe;have e1:IntKind.i64.wrap ((i:Int)+1)=((i+1:Nat):Int):=mn;refine q7.by (m:=30) ?_;refine Fz @c h λ_ h=>?_
   u_c stepG_inLoop c h
   refine mz λD l=>?_;replace h:=c h l
   have U:((i:Int)+1)=((i+1:Nat):Int):=oe;rw[U]
   exact ih (i+1) (λm=>List.getD [undef,undef,undef,_,_,_,_,undef,_,_,_,_,_,_,_,_,_,_,_,_,_,_,_,_,_,_,_,_,_,_,_,_,_,_,_,_,_,_,_,_,_,_,_,_,_,_,_,_,_,_,_,_,_,_,_,_,_,_,_,_,_,_,_,_,_,_,_,_,_,_,_,_,_,_,_,_,_,_,_,_,_,_,_,_,_,_,_,_,_,_,_,_,_,_] m undef) D (by omega) (λj q=>by
        by_cases e:j=i
        .rw[e];exact S
        exact k j oe) h
  have T:decide ((1500:Int)<((tx i).size:Int))=true:=decide_eq_true oe;refine q7.by (m:=30) ?_;refine Fz @c h λ_ h=>?_
  refine mz λD l=>?_;exact jpl g oi (c h l)
def jr3 (d:q10 A) (o:jgz A) (p:jk9 Ans) (s:jgh A Ans (jgc w0)) (C:n<9223372036854775808) (t:∃g i,sv=.slice g n i) (u:n<=5->jit (·<w0.heap.size) w0 sv n tx) (v:A (·<w0.heap.size) w0):
 q7 PR (EE A Ans) (jgc w0) true ⟨λ_=>False,(·<w0.heap.size),.idle⟩ (Go.Conc.G ((base 3).at ⟨#[sv,U a,U b]++Array.replicate (f3.ntmps-3) undef,[]⟩ [.code (f3.body.getD .skip)]) []) w0:=by
 letI:Payload:=⟨0⟩
 have h:LK A Ans n tx [] (λ_=>False) (·<w0.heap.size) w0 w0:=⟨⟨λ_ _=>rfl,rfl,rfl⟩,λ_ q=>q.elim,λ_ q=>q,λ_ q=>q,v,λ_ q=>oA⟩;have c:∀{x y:Wl},LK A Ans n tx [] (λ_=>False) (·<w0.heap.size) w0 x->q9 (EE A Ans) ⟨λ_=>False,(·<w0.heap.size),.idle⟩ x y->LK A Ans n tx [] (λ_=>False) (·<w0.heap.size) w0 y:=λh r=>h.rely d r;obtain⟨g,i,rfl⟩:=t;by_cases k:n<=5
 .have z:decide ((5:Int)<(n:Int))=false:=decide_eq_false oe;refine q7.by (m:=40) ?_;simp only[f3,Option.getD_some];walk_nrm;refine Fz @c h λ_ h=>?_
  u_c stepG_loop c h
  refine mz λl e=>?_;exact jql (a:=a) (b:=b) d o p s k (u k) n 0 (λm=>List.getD [undef,undef,undef,_,_,_,_,undef,_,_,_,_,_,_,_,_,_,_,_,_,_,_,_,_,_,_,_,_,_,_,_,_,_,_,_,_,_,_,_,_,_,_,_,_,_,_,_,_,_,_,_,_,_,_,_,_,_,_,_,_,_,_,_,_,_,_,_,_,_,_,_,_,_,_,_,_,_,_,_,_,_,_,_,_,_,_,_,_,_,_,_,_,_,_] m undef) l oe (λj D=>oe) (c h e)
 have z:decide ((5:Int)<(n:Int))=true:=decide_eq_true oe;refine q7.by (m:=40) ?_;simp only[f3,Option.getD_some];walk_nrm;refine Fz @c h λ_ h=>?_
 refine mz λl e=>?_;exact jpl d oi (c h e)
end
end Go.Proofs.YtbfkeoagmajcpaaGreatDoor
