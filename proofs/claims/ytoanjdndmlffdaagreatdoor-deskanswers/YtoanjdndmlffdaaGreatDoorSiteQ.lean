import Derived.Test.YtoanjdndmlffdaaGreatDoorSiteM
import Derived.Test.YtoanjdndmlffdaaGreatDoorSiteP
set_option maxHeartbeats 8000000
set_option maxRecDepth 1000000
namespace Go.Proofs.YtoanjdndmlffdaaGreatDoor
def qaq:List UInt8->List ByteArray->Option (List Int)
 |[],[]=>some []
 |c::f,s::l=>if c=119 then qaq f l else match qbw s with
  |none=>none
  |some v=>match qaq f l with
   |none=>none
   |some r=>some (v::r)
 |_,_=>none
theorem qm4:∀{f1:List UInt8} {l1:List ByteArray} (d:List UInt8) (g:List ByteArray),f1.length=l1.length->qaq (f1++d) (l1++g)=(match qaq f1 l1 with|none=>none|some a=>match qaq d g with|none=>none|some b=>some (a++b))
 |[],[],d,g,_=>by
  simp only[jda,qaq]
  cases qaq d g<;>rfl
 |[],_::_,_,_,h=>by simp at h
 |_::_,[],_,_,h=>by simp at h
 |c::f,s::l,d,g,h=>by
  have i:=qm4 (f1:=f) (l1:=l) d g (by simpa using h);simp only[jdj,qaq];by_cases e:c=119
  ·rw[if_pos e,if_pos e,i]
  rw[if_neg e,if_neg e];cases qbw s with
  |none=>rfl
  |some v=>
   simp only;rw[i];cases qaq f l with
   |none=>rfl
   |some a=>
    simp only
    cases qaq d g<;>rfl
theorem qd0:∀{f:List UInt8} {l:List ByteArray} {ns:List Int},qaq f l=some ns->qhk f=ns.length
 |[],[],ns,h=>by simp only[qaq]at h;injection h with h;subst h;rfl
 |[],_::_,ns,h=>by simp[qaq]at h
 |_::_,[],ns,h=>by simp[qaq]at h
 |c::f,s::l,ns,h=>by
  simp only[qaq]at h;by_cases e:c=119
  ·rw[if_pos e]at h;rw[q54 e];exact qd0 h
  rw[if_neg e]at h;rw[qxs e];cases hv:qbw s with
  |none=>rw[hv]at h;cases h
  |some v=>
   rw[hv]at h;simp only at h;cases hr:qaq f l with
   |none=>rw[hr]at h;cases h
   |some r=>
    rw[hr]at h;injection h with h;subst h;rw[qd0 hr];rfl
theorem qxn {f:List UInt8} {l:List ByteArray} {k:Nat} {a:List Int} (b:f.length=l.length) (c:k<l.length) (h:qaq (f.take k) (l.take k)=some a):
 qaq (f.take (k+1)) (l.take (k+1))=if f[k]'(by omega)=119 then some a else match qbw l[k]with
  |none=>none
  |some v=>some (a++[v]):=by
 have d:f.take (k+1)=f.take k++[f[k]'(by omega)]:=by rw[jc1 (by omega)]
 have g:l.take (k+1)=l.take k++[l[k]]:=by rw[jc1 c]
 rw[d,g,qm4 _ _ (by rw[jc5,jc5,b]),h];simp only[qaq];by_cases e:f[k]'(by omega)=119
 ·rw[if_pos e,if_pos e];simp
 rw[if_neg e,if_neg e]
 cases qbw l[k]<;>rfl
theorem q19 {f:List UInt8} {l:List ByteArray} {k:Nat} (a:f.length=l.length) (h:qaq (f.take k) (l.take k)=none):qaq f l=none:=by
 have:=qm4 (f1:=f.take k) (l1:=l.take k) (f.drop k) (l.drop k) (by rw[jc5,jc5,a]);rw[jds,jds,h]at this;exact this
theorem qzg {p:Nat->Prop} (a:p 0) (b:p 1) (c:p 2) (d:p 3) (e:p 4) (f:p 5) (g:p 6) (j:p 7) (k:p 8) (l:p 9) (m:p 10) (o:p 11) (q:p 12) (r:p 13) (s:p 14) (t:p 15) (u:p 16) (v:p 17) (w:p 18):∀i,i<19->p i
 |0,_=>a|1,_=>b|2,_=>c|3,_=>d|4,_=>e|5,_=>f|6,_=>g|7,_=>j|8,_=>k|9,_=>l
 |10,_=>m|11,_=>o|12,_=>q|13,_=>r|14,_=>s|15,_=>t|16,_=>u|17,_=>v|18,_=>w
 |n+19,h=>absurd h (by omega)
def qeb (i:Nat) (rest:List ByteArray):Option (List Int):=if i=18 then (if rest.length=3 then ju 2 (rest.take 2)else none)else ju (qqi i) rest
theorem q0d:∀i,i<19->∀rest,qeb i rest=if rest.length=(qx i).length then qaq (qx i) rest else none:=by
 refine qzg ?_ ?_ ?_ ?_ ?_ ?_ ?_ ?_ ?_ ?_ ?_ ?_ ?_ ?_ ?_ ?_ ?_ ?_ ?_
 all_goals
  intro rest;rcases rest with _|⟨x,_|⟨y,_|⟨z,_|⟨u,r⟩⟩⟩⟩
  all_goals first
   |rfl
   |(simp[qeb,ju,qqi,qx,qb8,qaq,qb0];done)
theorem qc2.no {i:Nat} {W:WoS} {rest:List ByteArray} (h:qeb i rest=none):qc2 i W rest W 3 []:=by
 unfold qc2;unfold qeb at h;rw[h];exact⟨rfl,rfl,rfl⟩
theorem qc2.yes {i:Nat} {W W':WoS} {rest:List ByteArray} {ns:List Int} {er:Int} {t:List UInt8} (h:qeb i rest=some ns) (a:qaa i W ns (rest.getD 2 ⟨#[]⟩) W' er t):qc2 i W rest W' er t:=by
 unfold qc2;unfold qeb at h;rw[h];exact a
theorem q1x {W:WoS} {d:ByteArray}:∀i,i<19->∀ns,qhk (qx i)=ns.length->thB W (qx i) ns=false->∃t,qaa i W ns d W 2 t:=by
 have a:∀(n:Int) (c:Nat),inB n 0 ((c:Int)-1)=false->¬ye n c:=λn c h q=>by
  have:=q.1;have:=q.2;simp[inB]at h;omega
 have b:∀(n:Int) (c:Nat),ye n c->inB n 0 ((c:Int)-1)=true:=λn c q=>by
  have:=q.1;have:=q.2;simp[inB];omega
 refine qzg ?_ ?_ ?_ ?_ ?_ ?_ ?_ ?_ ?_ ?_ ?_ ?_ ?_ ?_ ?_ ?_ ?_ ?_ ?_
 all_goals
  intro ns f h;rcases ns with _|⟨x,_|⟨y,_|⟨z,r⟩⟩⟩
  all_goals first
   |(simp[qx,qb8,qhk]at f;done)
   |(simp[qx,qb8,thB,thC]at h;done)
   |skip
 all_goals
  simp[qx,qb8,thB,thC]at h
  first
   |exact⟨qn _,rfl,by rw[if_neg (λe=>by first|exact a _ _ h e|exact a _ _ h e.1|exact a _ _ (h (b _ _ e.1)) e.2.1|exact a _ _ (h (b _ _ e.1)) e.2)];exact⟨rfl,rfl⟩⟩
   |exact⟨[],rfl,by rw[if_neg (λe=>by first|exact a _ _ h e|exact a _ _ h e.1|exact a _ _ (h (b _ _ e.1)) e.2.1|exact a _ _ (h (b _ _ e.1)) e.2)];exact⟨rfl,rfl⟩⟩
   |exact⟨[],by show (if ye x W.c then ([]:List UInt8)=qgx W x.toNat/\W=wcW W x.toNat/\(2:Int)=wcE W x.toNat else ([]:List UInt8)=[]/\W=W/\(2:Int)=2);rw[if_neg (λe=>by first|exact a _ _ h e|exact a _ _ h e.1|exact a _ _ (h (b _ _ e.1)) e.2.1|exact a _ _ (h (b _ _ e.1)) e.2)];exact⟨rfl,rfl,rfl⟩⟩
section
open Go.RowKit
structure qgm (w:World) (n0 hb b:Nat) (Gw G:Nat->Prop) (W:WoS) (j:Nat) (a:Option Addr) (cap:Nat) (l:List ByteArray):Prop where
 hs:qhp w hb b Gw W
 g:∀k,G k↔(k=hb\/Gw k)
 gl:Gl w
 fm:∃bm,w.cell? (AD 0 0)=some (.map (some bm))/\qsf w bm/\bm<n0
 nn:10<=n0/\n0<=w.heap.size
 gn:∀k,k<n0->¬G k
 wi:PlI j W
 di:DkI W
 st:qfj w a cap l
 sm:∀x∈l,x.size<=1000000
 sn:∀bk o,a=some (AD bk o)->¬G bk
 jl:j<=1000000
def RDo (i:Nat) (W:WoS) (l:List ByteArray) (er:Int) (told:List UInt8) (w:World) (hb:Nat) (G:Nat->Prop) (w':World):Prop:=∃W' t,qc2 i W l W' er t/\(er=0->told=t)/\qbi (hsP hb W') w G w'
def vl (i:Nat) (W:WoS) (l:List ByteArray) (w:World) (hb:Nat) (G:Nat->Prop) (e:Ending) (w':World):Prop:=
 ∃told er,e=.returned (.tuple #[.string (bya told),U er])/\RDo i W l er told w hb G w'
theorem qzb:∀i,i<19->(qx i).length<=3:=qzg (by decide) (by decide) (by decide) (by decide) (by decide) (by decide) (by decide) (by decide) (by decide) (by decide) (by decide) (by decide) (by decide) (by decide) (by decide) (by decide) (by decide) (by decide) (by decide)
theorem qy4:∀i,i<19->(bya (qn i)).size<=maxLen:=qzg (by decide) (by decide) (by decide) (by decide) (by decide) (by decide) (by decide) (by decide) (by decide) (by decide) (by decide) (by decide) (by decide) (by decide) (by decide) (by decide) (by decide) (by decide) (by decide)
theorem qyi:∀i,i<19->∀c∈qx i,c.toNat<128:=qzg (by decide) (by decide) (by decide) (by decide) (by decide) (by decide) (by decide) (by decide) (by decide) (by decide) (by decide) (by decide) (by decide) (by decide) (by decide) (by decide) (by decide) (by decide) (by decide)
variable {w:World} {ns:List Int}
theorem q97 {B:Nat} {v:Value} (h:w.ownsRow B 3 1 v ns.length (qec ns)):∃a cap,v=.slice a ns.length cap/\ns.length<=cap/\∀(j:Nat) x,ns[j]?=some x->∃g,a=some (AD g 0)/\B<=g/\g<w.heap.size/\w.cell? (AD g j)=some (U x):=by
 by_cases e:ns=[]
 ·subst e;rcases h.2 with ⟨c,_⟩|⟨g,cap,cur,c,_⟩
  ·exact⟨none,0,c,jcd _,λj x d=>by simp at d⟩
  exact⟨_,cap,c,jcw _,λj x d=>by simp at d⟩
 have k:0<ns.length:=List.length_pos_iff.2 e;obtain⟨f,m,rfl,n,o⟩:=h.form k;have p:=h.cells (g:=f) rfl;refine⟨_,m,rfl,?_,λj x d=>⟨f,rfl,n,o,?_⟩⟩
 ·rcases h.2 with ⟨h,_⟩|⟨g',s,cur,c,_,_,q,_⟩
  ·cases h
  cases c;exact q
 have:=p j (U x) (by unfold qec;rw[jcv,d];rfl);rcases Nat.eq_zero_or_pos j with rfl|r
 ·simpa[Addr.add]using this
 simpa[Addr.add,Nat.ne_of_gt r]using this
def qa3 (i hb:Nat) (a:Option Addr) (m cap:Nat) (na:Option Addr) (nn nc b:Nat) (u:Nat->Value):Array Value:=
 List.toArray (.pointer (PT hb)::.string (bya (qn i))::.slice a m cap::u 3::u 4::u 5::u 6::u 7::u 8::u 9::.slice na nn nc::u 11::u 12::u 13::u 14::PP b::u 16::u 17::u 18::u 19::u 20::u 21::u 22::u 23::u 24::u 25::u 26::u 27::u 28::u 29::u 30::u 31::u 32::u 33::u 34::u 35::u 36::u 37::u 38::u 39::u 40::u 41::u 42::u 43::u 44::u 45::u 46::u 47::u 48::u 49::u 50::u 51::u 52::u 53::u 54::u 55::u 56::u 57::u 58::u 59::u 60::u 61::u 62::u 63::u 64::u 65::u 66::u 67::u 68::u 69::u 70::u 71::u 72::u 73::u 74::u 75::u 76::u 77::u 78::u 79::u 80::u 81::u 82::u 83::u 84::u 85::u 86::undef::undef::undef::undef::undef::undef::undef::undef::undef::undef::undef::undef::undef::undef::undef::undef::undef::undef::undef::undef::undef::undef::undef::undef::undef::undef::undef::undef::undef::undef::undef::undef::undef::undef::undef::undef::undef::undef::undef::undef::undef::undef::undef::undef::undef::undef::undef::undef::undef::undef::undef::undef::undef::undef::undef::undef::undef::undef::undef::undef::undef::undef::undef::undef::undef::undef::undef::undef::undef::undef::undef::undef::undef::undef::undef::undef::undef::undef::undef::undef::undef::undef::undef::undef::undef::undef::undef::undef::undef::undef::undef::undef::undef::undef::undef::undef::undef::undef::undef::undef::undef::undef::undef::undef::undef::undef::undef::undef::undef::undef::undef::undef::undef::undef::undef::undef::undef::undef::undef::undef::undef::undef::undef::undef::undef::undef::undef::undef::undef::undef::undef::undef::undef::undef::undef::undef::undef::undef::undef::undef::undef::undef::undef::undef::undef::undef::undef::undef::undef::undef::undef::undef::undef::undef::undef::undef::undef::undef::undef::undef::undef::undef::undef::undef::undef::undef::undef::undef::undef::undef::undef::undef::undef::undef::undef::undef::undef::undef::undef::undef::undef::undef::undef::undef::undef::undef::undef::undef::undef::undef::undef::undef::undef::undef::undef::undef::undef::undef::undef::undef::undef::undef::undef::undef::undef::undef::undef::undef::undef::undef::undef::undef::undef::undef::undef::undef::undef::undef::undef::undef::undef::undef::undef::undef::undef::undef::undef::undef::undef::undef::undef::undef::undef::undef::undef::undef::undef::undef::undef::undef::undef::undef::undef::undef::undef::undef::undef::undef::undef::undef::undef::undef::undef::undef::undef::undef::undef::undef::undef::undef::undef::undef::undef::undef::undef::undef::undef::undef::undef::undef::undef::undef::undef::undef::undef::undef::undef::undef::undef::undef::undef::undef::undef::undef::undef::undef::undef::undef::undef::undef::undef::undef::undef::undef::undef::undef::undef::undef::undef::undef::undef::undef::undef::undef::undef::undef::undef::undef::undef::undef::undef::undef::undef::undef::undef::undef::undef::undef::undef::undef::undef::undef::undef::undef::undef::undef::undef::undef::undef::undef::undef::undef::undef::undef::undef::undef::undef::undef::undef::undef::undef::undef::undef::undef::undef::undef::undef::undef::undef::undef::undef::undef::undef::undef::undef::undef::undef::undef::undef::undef::undef::undef::undef::undef::undef::undef::undef::undef::undef::undef::undef::undef::undef::undef::undef::undef::undef::undef::undef::undef::undef::undef::[])
noncomputable def q53:Code:=(qfe 17 (Tryz.f16.body.getD .skip)).getD .skip
def yt (i:Nat):Prop:=∀{w w2:World} {n0 hb b j cap nc:Nat} {Gw G:Nat->Prop} {W:WoS} {a na:Option Addr} {l:List ByteArray} {ns:List Int} (u:Nat->Value),qgm w n0 hb b Gw G W j a cap l->qeb i l=some ns->qhk (qx i)=ns.length->thB W (qx i) ns=true->(i=1->∀x y,ns=[x,y]->x≠y)->qx9 w2 w.heap.size na nc ns->Bw w w2->
 Code.wp Tryz.prog q53 (bodyPost Tryz.prog Tryz.f16 (vl i W l w hb G)) ⟨qa3 i hb a l.length cap na ns.length nc b u,[]⟩ w2
theorem q9b:∀i,i<19->i≠1->(qn i==[97,115,107])=false:=qzg (by decide) (by decide) (by decide) (by decide) (by decide) (by decide) (by decide) (by decide) (by decide) (by decide) (by decide) (by decide) (by decide) (by decide) (by decide) (by decide) (by decide) (by decide) (by decide)
variable {l:List ByteArray}
theorem q3b {n0 hb b j i cap:Nat} {Gw G:Nat->Prop} {W:WoS} {a:Option Addr} (hi:i<19) (ARM:yt i) (h:qgm w n0 hb b Gw G W j a cap l):
 Ca 16 #[PP hb,.string (bya (qn i)),.slice a l.length cap] w (vl i W l w hb G):=by
 obtain⟨bm,cf,fm,_⟩:=h.fm;have LK:=fm.held (s:=bya (qn i)) (qy4 i hi) hi rfl;have HARM:Hid (yt i):=@ARM;have o:Hid (qgm w n0 hb b Gw G W j a cap l):=h;clear h fm ARM;by_cases O:l.length=(qx i).length
 ·obtain⟨i0,hinf,hz0,hz1,hz2⟩:=info_parts q0l;have hf3:(qx i).length<=3:=qzb i hi
  have hdo:qeb i l=qaq (qx i) l:=by rw[q0d i hi,if_pos O]
  have E:Hid (i<19/\qeb i l=qaq (qx i) l):=⟨hi,hdo⟩
  have hl1:((qx i).length:Int)=l.length:=by omega
  have P:Hid (l.length=(qx i).length):=O;clear hdo hi O;go_enter Tryz.func16,Tryz.ntmps16
  go_wp2
  clear LK cf hl1
  go_loopw [10,44] (λnv iv wr=>∃(k:Nat) (z:Int) (ns:List Int),k<=l.length/\z=k/\iv=U z/\Hid (qaq ((qx i).take k) (l.take k)=some ns/\wr.ownsRow w.heap.size 3 1 nv ns.length (qec ns)/\Bw w wr)) (λ_ iv _=>l.length-(intOf iv).toNat)
  case atStart=>exact⟨0,0,[],jcw _,rfl,rfl,by simp[qaq],jcx w _ _ _,jcc _ _⟩
  obtain⟨k,z,ns,hk,T,rfl,B⟩:=hrel;have HZ:Hid (z=k):=T;by_cases Q:k<l.length
  ·have g1:z<(l.length:Int):=by omega
   have g2:0<=z:=by omega
   have g3:z.toNat=k:=by omega
   have g4:z<3:=by have:=P.out;omega
   obtain⟨x,R⟩:∃x,l[k]=x:=⟨_,rfl⟩
   have ac:x∈l:=by rw[<-R];exact jdr Q
   obtain⟨ab,ao,rfl,hab,cx⟩:=o.out.st.cell k x (by rw[jcg Q,R]);have cx2:wr.cell? (AD ab (ao+k))=some (.string x):=(B.out.2.2.cell (p:=AD ab (ao+k)) hab).trans cx;have hcap:=o.out.st.cap
   have hkf:k<(qx i).length:=by have:=P.out;omega
   have hkb:k<(bya (qx i)).size:=by rw[Lib.size_eq];exact hkf
   have V:(bya (qx i))[k]'hkb=(qx i)[k]'hkf:=rfl;have H:=qxn P.out.symm Q B.out.1;rw[R]at H;by_cases J:(qx i)[k]'hkf=119
   ·have hq:((((bya (qx i))[k]'hkb).toNat:Int)==119)=true:=by rw[V,J];rfl
    rw[if_pos J]at H;have F:Hid (qaq ((qx i).take (k+1)) (l.take (k+1))=some ns):=H;clear cx T V H J R ac
    go_wp2
    go_roundw
    case rel=>exact⟨k+1,z+1,ns,Q,by have:=HZ.out;omega,by go_num,F.out,B.out.2⟩
    simp[intOf];omega
   have hq:((((bya (qx i))[k]'hkb).toNat:Int)==119)=false:=by
        rw[V];exact beq_false_of_ne (λq=>J (UInt8.toNat.inj (by show (qx i)[k].toNat=119;omega)))
   rw[if_neg J]at H;have NM:=qwe x (o.out.sm x ac) wr (o.out.gl.later B.out.2.2)
   have F:Hid (qaq ((qx i).take (k+1)) (l.take (k+1))=match qbw x with
        |none=>none
        |some v=>some (ns++[v])):=H
   clear cx T V H J R ac
   go_wp2_with fail
   refine NM.mono ?_;rintro e w2 ⟨K,C⟩;have bw2:Bw w w2:=qa B.out.2.2 C;cases X:qbw x with
   |none=>
    rw[X]at K F;have he:e=.returned (.tuple #[U 0,.bool false]):=K;subst he;have D:Hid (vl i W l w hb G (.returned (.tuple #[.string ⟨#[]⟩,U 3])) w2):=⟨[],3,rfl,W,[],qc2.no (by rw[E.out.2];exact q19 P.out.symm F.out),(λh=>by cases h),o.out.hs.same o.out.g bw2⟩;clear K F B NM
    go_wp2
    go_ret2;exact D.out
   |some v=>
    rw[X]at K F;have he:e=.returned (.tuple #[U v,.bool true]):=K;subst he;have bz:=boxed (jcc _ w2) (.cells #[U v] 3);have own2:=qg3 (qg3 B.out.2.1 C) bz
    have hnl:ns.length<=3:=by
     have q1:=qd0 B.out.1
     have q2:∀f:List UInt8,qhk f<=f.length:=λf=>by
         induction f with
         |nil=>exact jcd _
         |cons c r ih=>unfold qhk;split<;>simp only[List.length_cons]<;>omega
     have:=q2 ((qx i).take k);rw[jc5]at this;omega
    have L:Hid (Bw w w2/\ns.length<=3):=⟨bw2,hnl⟩;have HN2:Hid (qaq ((qx i).take (k+1)) (l.take (k+1))=some (ns++[v])):=F.out;clear K F NM bw2 hnl
    go_wp2_with (at_builtin;refine wpList_append_lies _ rfl _ _ 69 rfl w.heap.size 3 i0 (U 0) 1 8 Tryz.underlying69 hinf hz0 hz1 hz2 rfl (by decide) _ _ _ rfl own2 (AD w2.heap.size 0) 1 1 [U v] rfl rfl (World.news_of_block (heap_alloc_new w2 (.cells #[U v] 3))) ?c2 (by decide) ?c3 ?c4 ?c5 _ rfl ?_)
    case c2=>intro u hu;simp at hu;subst hu;rfl
    case c3=>have:=L.out.2;unfold maxLen;omega
    case c4=>have:=L.out.2;omega
    case c5=>have:=L.out.1.size;simp;omega
    intro gb gc w3 own3 gr3 at3 lt3
    have D:Hid (w3.ownsRow w.heap.size 3 1 (.slice (PT gb) (ns.length+1) gc) (ns++[v]).length (qec (ns++[v]))/\Bw w w3):=by
     refine⟨by simpa[qec]using own3,?_⟩;exact(L.out.1.alloc L.out.1.size _).grown gr3 (by have:=L.out.1.size;simp;omega) (λq e=>(own2.lt q e).1)
    clear own3 gr3 at3 lt3 own2 bz C B
    go_wp2
    go_roundw
    case rel=>exact⟨k+1,z+1,ns++[v],Q,by have:=HZ.out;omega,by go_num,HN2.out,D.out⟩
    simp[intOf];omega
  have g1:¬z<(l.length:Int):=by omega
  have hkl:k=l.length:=by omega
  have hw0:=o.out.wi.wf;have hsr:=o.out.hs.later B.out.2.2
  have hns:qaq (qx i) l=some ns:=by
   have:=B.out.1;rw[hkl,jc9,P.out,jc9]at this;exact this
  obtain⟨na,nc,e10,hnc,hcells⟩:=q97 B.out.2.1;have hN:qx9 wr w.heap.size na nc ns:=⟨hnc,hcells⟩;have c0:=hsr.cell;have m:Hid (qaq (qx i) l=some ns/\qx9 wr w.heap.size na nc ns/\qhp wr hb b Gw W/\Bw w wr):=⟨hns,hN,hsr,B.out.2.2⟩;subst e10;clear B hsr hN hns hcells T hw0;have hne:=qb.one
  have Y:∀(x:qb wr) (v:Bool),thB W (qx i) ns=v->Ca 30 #[PP hb,.string (bya (qx i)),.slice na ns.length nc] x.val λe w'=>e=.returned (.bool v)/\Below x.val.heap.size x.val w':=λx v X=>by
   have:=qxb (qx i) ns hf3 (qyi i E.out.1) (qd0 m.out.1) x.val (m.out.2.2.1.later x.below) o.out.wi.wf (m.out.2.1.later x.below)
   rwa [X]at this
  cases hth:thB W (qx i) ns with
  |false=>
   have I:=λx:qb wr=>Y x false hth;have M:Hid (thB W (qx i) ns=false):=hth;clear hth Y
   go_upto_region 15 with fail
   refine wrl ?_
   repeat (go_big_quiet_step (first|rfl|(go_at_call 30;with_reducible exact qg (I _))))
   refine wpQuiet_nil ?_;rintro w2 ⟨⟨_,C⟩,rfl⟩
   have D:Hid (vl i W l w hb G (.returned (.tuple #[.string ⟨#[]⟩,U 2])) w2):=by
        obtain⟨t,hc⟩:=q1x (W:=W) (d:=l.getD 2 ⟨#[]⟩) i E.out.1 ns (qd0 m.out.1) M.out;exact⟨[],2,rfl,W,t,qc2.yes (E.out.2.trans m.out.1) hc,(λh=>by cases h),o.out.hs.same o.out.g (qa m.out.2.2.2 C)⟩
   clear I M
   go_wp2
   go_ret2;exact D.out
  |true=>
   have I:=λx:qb wr=>Y x true hth;have M:Hid (thB W (qx i) ns=true):=hth;clear hth Y;by_cases Z:i=1
   ·subst Z;have aa:=qd0 m.out.1
    obtain⟨x,y,rfl⟩:∃x y,ns=[x,y]:=by
     rcases ns with _|⟨x,_|⟨y,_|⟨z,r⟩⟩⟩
     ·simp[qx,qb8,qhk]at aa
     ·simp[qx,qb8,qhk]at aa
     ·exact⟨x,y,rfl⟩
     simp[qx,qb8,qhk]at aa
    obtain⟨g,rfl,_,hgl,q0⟩:=m.out.2.1.cell 0 x rfl;obtain⟨g',S,_,_,q1⟩:=m.out.2.1.cell 1 y rfl;injection S with S;injection S with S;subst S;have c1:=qb.cell q0;have c2:=qb.cell q1;have hnc:=m.out.2.1.cap
    have hq1:(qn 1==[97,115,107])=true:=by decide
    clear q0 q1 aa;by_cases N:x=y
    ·have hxy2:(x==y)=true:=by simp[N]
     have HXY:Hid (x=y):=N;clear N
     go_upto_region 15 with fail
     refine wrl ?_
     repeat (go_big_quiet_step (first|rfl|(go_at_call 30;with_reducible exact qg (I _))))
     refine wpQuiet_nil ?_;rintro w2 ⟨⟨_,C⟩,rfl⟩
     have D:Hid (vl 1 W l w hb G (.returned (.tuple #[.string ⟨#[]⟩,U 2])) w2):=
         ⟨[],2,rfl,W,qn 1,qc2.yes (E.out.2.trans m.out.1) ⟨rfl,by rw[if_neg (λe=>e.2.2 HXY.out)];exact⟨rfl,rfl⟩⟩,(λh=>by cases h),o.out.hs.same o.out.g (qa m.out.2.2.2 C)⟩
     clear I M
     go_wp2
     go_ret2;exact D.out
    have hxy2:(x==y)=false:=by simp[N]
    have HXY:Hid (x≠y):=N;clear N
    go_upto_region 15 with fail
    refine wrl ?_
    repeat (go_big_quiet_step (first|rfl|(go_at_call 30;with_reducible exact qg (I _))))
    refine wpQuiet_nil ?_;rintro w2 ⟨⟨_,C⟩,rfl⟩
    iterate 6 go_step
    exact HARM.out (λn=>List.getD [undef,undef,undef,_,_,_,_,_,_,_,undef,_,_,_,_,undef,_,_,_,_,_,_,_,_,_,_,_,_,_,_,_,_,_,_,_,_,_,_,_,_,_,_,_,_,_,_,_,_,_,_,_,_,_,_,_,_,_,_,_,_,_,_,_,_,_,_,_,_,_,_,_,_,_,_,_,_,_,_,_,_,_,_,_,_,_,_,_] n undef) o.out (E.out.2.trans m.out.1) (qd0 m.out.1) M.out (λ_ p q e=>by injection e with e1 e2;injection e2 with e2;rw[<-e1,<-e2];exact HXY.out) (m.out.2.1.later C) (qa m.out.2.2.2 C)
   have hq1:=q9b i E.out.1 Z;have HI1:Hid (i≠1):=Z;clear Z
   go_upto_region 15 with fail
   refine wrl ?_
   repeat (go_big_quiet_step (first|rfl|(go_at_call 30;with_reducible exact qg (I _))))
   refine wpQuiet_nil ?_;rintro w2 ⟨⟨_,C⟩,rfl⟩
   iterate 6 go_step
   exact HARM.out (λn=>List.getD [undef,undef,undef,_,_,_,_,_,_,_,undef,_,_,_,_,undef,_,_,_,_,_,_,_,_,_,_,_,_,_,_,_,_,_,_,_,_,_,_,_,_,_,_,_,_,_,_,_,_,_,_,_,_,_,_,_,_,_,_,_,_,_,_,_,_,_,_,_,_,_,_,_,_,_,_,_,_,_,_,_,_,_,_,_,_,_,_,_] n undef) o.out (E.out.2.trans m.out.1) (qd0 m.out.1) M.out (λe=>absurd e HI1.out) (m.out.2.1.later C) (qa m.out.2.2.2 C)
 have D:Hid (vl i W l w hb G (.returned (.tuple #[.string ⟨#[]⟩,U 3])) w):=⟨[],3,rfl,W,[],qc2.no (by rw[q0d i hi,if_neg O]),(λh=>by cases h),o.out.hs.same o.out.g (jcc _ _)⟩
 have hl2:¬((qx i).length:Int)=l.length:=by omega
 clear O;go_enter Tryz.func16,Tryz.ntmps16
 go_wp2
 go_ret2;exact D.out
theorem qsd (h:0=ns.length):ns=[]:=List.length_eq_zero_iff.1 h.symm
theorem qit (h:1=ns.length):∃x,ns=[x]:=by
 rcases ns with _|⟨x,_|⟨y,r⟩⟩
 ·simp at h
 ·exact⟨x,rfl⟩
 simp at h
theorem qk0 (h:2=ns.length):∃x y,ns=[x,y]:=by
 rcases ns with _|⟨x,_|⟨y,_|⟨z,r⟩⟩⟩
 ·simp at h
 ·simp at h
 ·exact⟨x,y,rfl⟩
 simp at h
theorem qac {x:Int} {c:Nat} (h:inB x 0 ((c:Int)-1)=true):∃k:Nat,x=k/\k<c/\ye x c/\x.toNat=k:=by
 simp[inB]at h;exact⟨x.toNat,by omega,by omega,⟨by omega,by omega⟩,rfl⟩
section
variable {w w2 w3 w4:World} {n0 hb b j i cap:Nat} {Gw G:Nat->Prop} {W W':WoS} {a:Option Addr} {l:List ByteArray} {ns:List Int} {er:Int} {t told:List UInt8}
theorem qgm.few {k:Nat} (h:qgm w n0 hb b Gw G W j a cap l) (d:k<W.c):(W.ses k).ws.length<=1000000:=jcn (h.wi.ln k d) h.jl
theorem qgm.fin (h:qgm w n0 hb b Gw G W j a cap l) (c:qeb i l=some ns) (d:Bw w w2) (e:qaa i W ns (l.getD 2 ⟨#[]⟩) W' er t) (f:er=0->told=t) (k:qae w2 b Gw W' w3) (m:Bw w3 w4):vl i W l w hb G (.returned (.tuple #[.string (bya told),U er])) w4:=
 ⟨told,er,rfl,W',t,qc2.yes c e,f,q7n (h.hs.op h.g d k) m⟩
theorem qgm.tell (h:qgm w n0 hb b Gw G W j a cap l) (c:qeb i l=some ns) (d:Bw w w2) (e:qaa i W ns (l.getD 2 ⟨#[]⟩) W er t) (f:er=0->told=t):vl i W l w hb G (.returned (.tuple #[.string (bya told),U er])) w2:=
 ⟨told,er,rfl,W,t,qc2.yes c e,f,h.hs.same h.g d⟩
end
theorem q68 (h:qeb 18 l=some ns):∃x y d,l=[x,y,d]:=by
 unfold qeb at h;rw[if_pos rfl]at h;rcases l with _|⟨x,_|⟨y,_|⟨d,_|⟨z,r⟩⟩⟩⟩
 ·simp at h
 ·simp at h
 ·simp at h
 ·exact⟨x,y,d,rfl⟩
 simp at h
end
section
open Go.RowKit
theorem qzx {w:World} {g c b j cap:Nat} {Gw G:Nat->Prop} {W:WoS} {a:Option Addr} {l:List ByteArray} (h:qgm w g c b Gw G W j a cap l) (s:ByteArray) (k:s.size<=maxLen) (d:∀i,i<19->s.data.toList≠qn i):
 Ca 16 #[PP c,.string s,.slice a l.length cap] w λe w'=>e=.returned (.tuple #[.string ⟨#[]⟩,U 3])/\w'=w:=by
 obtain⟨bm,m,f,_⟩:=h.fm;have n:=f.lacks k d;clear h f d;go_enter Tryz.func16,Tryz.ntmps16
 go_wp2
 go_ret2;exact⟨rfl,rfl⟩
end
section
open Go.RowKit
theorem q5g:yt 3:=λ{w w2 n0 hb b j cap nc Gw G W a na l ns} u h hn hlen ht _ hN hb2=>by
 have R:=(h.hs.later hb2).rw;obtain rfl:=qsd hlen;have C:=q8g w2 R h.wi.wf h.wi.nt;have c:=hd3 h hn hb2;clear h hn hb2 hlen ht hN R
 conv=>arg 2;whnf
 unfold qa3
 go_wp2_with fail
 refine C.mono ?_;rintro e i ⟨rfl,W',d,f⟩;have g:=hd1 (c.out.1.fin c.out.2.1 c.out.2.2 ⟨rfl,d.out.1,rfl⟩ (λ_=>rfl) f (jcc _ _));clear d f C
 go_wp2
 go_ret2;exact g.out
theorem q09:yt 15:=λ{w w2 n0 hb b j cap nc Gw G W a na l ns} u h hn hlen ht _ hN hb2=>by
 have R:=(h.hs.later hb2).rw;obtain⟨x,rfl⟩:=qit hlen;simp[qx,qb8,thB,thC]at ht;obtain⟨k,rfl,i,d,m⟩:=qac ht;obtain⟨g,rfl,o,p,q⟩:=hN.cell 0 _ rfl;have r:=hN.cap;have C:=q57 w2 R h.wi.wf i;have c:=hd4 h hn hb2 d;clear h hn hb2 hlen ht hN R d m
 conv=>arg 2;whnf
 unfold qa3
 go_wp2_with fail
 refine C.mono ?_;rintro e s ⟨rfl,f⟩;have n:=hd1 (c.out.1.fin c.out.2.1 c.out.2.2.1 ⟨rfl,by rw[if_pos c.out.2.2.2];exact⟨rfl,rfl⟩⟩ (λ_=>rfl) f (jcc _ _));clear f C
 go_wp2
 go_ret2;exact n.out
theorem q6s:yt 10:=λ{w w2 n0 hb b j cap nc Gw G W a na l ns} u h hn hlen ht _ hN hb2=>by
 have R:=(h.hs.later hb2).rw;obtain⟨x,rfl⟩:=qit hlen;simp[qx,qb8,thB,thC]at ht;obtain⟨k,rfl,n,d,o⟩:=qac ht;obtain⟨g,rfl,r,s,t⟩:=hN.cell 0 _ rfl;have v:=hN.cap;obtain⟨f,i⟩:∃f,W.net[k]?=some f:=⟨_,jcg n⟩;have C:=qzc w2 R h.wi.wf.net i;have c:=hd4 h hn hb2 d;clear h hn hb2 hlen ht hN R d o
 conv=>arg 2;whnf
 unfold qa3
 go_wp2_with fail
 refine C.mono ?_;rintro e z ⟨y,rfl,p,m⟩;have q:=hd1 (c.out.1.fin c.out.2.1 c.out.2.2.1 ⟨rfl,by rw[if_pos c.out.2.2.2];exact⟨rfl,rfl⟩⟩ (λ_=>rfl) m.out.2.2 (jcc _ _));clear m p C i
 go_wp2
 go_ret2;exact q.out
theorem q05:yt 16:=λ{w w2 n0 hb b j cap nc Gw G W a na l ns} u h hn hlen ht _ hN hb2=>by
 have R:=(h.hs.later hb2).rw;obtain⟨x,rfl⟩:=qit hlen;simp[qx,qb8,thB,thC]at ht;obtain⟨k,rfl,n,i,o⟩:=qac ht;obtain⟨g,rfl,r,s,t⟩:=hN.cell 0 _ rfl;have v:=hN.cap;obtain⟨d,f⟩:∃d,W.net[k]?=some d:=⟨_,jcg n⟩;have C:=q4u w2 R f;have p:=hd1 f;have c:=hd4 h hn hb2 i;clear h hn hb2 hlen ht hN R i o
 conv=>arg 2;whnf
 unfold qa3
 go_wp2_with fail
 refine C.mono ?_;rintro e y ⟨rfl,m⟩;have q:=hd1 (c.out.1.fin c.out.2.1 c.out.2.2.1 ⟨rfl,by rw[if_pos c.out.2.2.2];exact⟨⟨d,p.out,rfl⟩,rfl⟩⟩ (λ_=>rfl) m (jcc _ _));clear m C f
 go_wp2
 go_ret2;exact q.out
theorem que:yt 6:=λ{w w2 n0 hb b j cap nc Gw G W a na l ns} u h hn hlen ht _ hN hb2=>by
 have R:=(h.hs.later hb2).rw;obtain⟨x,rfl⟩:=qit hlen;simp[qx,qb8,thB,thC]at ht;obtain⟨k,rfl,s,i,t⟩:=qac ht;obtain⟨g,rfl,z,A,B⟩:=hN.cell 0 _ rfl;have D:=hN.cap;obtain⟨m,d⟩:∃m,W.net[k]?=some m:=⟨_,jcg s⟩;have C:=qzc w2 R h.wi.wf.net d;have f:=hd3 d h.wi.wf h.wi.nt;have c:=hd4 h hn hb2 i;clear h hn hb2 hlen ht hN R i t
 conv=>arg 2;whnf
 unfold qa3
 go_wp2_with fail
 refine C.mono ?_;rintro e E ⟨y,rfl,n,o⟩;have p:=qwm f.out.2.1 f.out.2.2 f.out.1 n o;clear o n C d
 go_wp2_with fail
 refine p.mono ?_;rintro e F ⟨rfl,W',q,r⟩;have v:=hd1 (c.out.1.fin c.out.2.1 c.out.2.2.1 ⟨rfl,by rw[if_pos c.out.2.2.2];exact⟨q.out,rfl⟩⟩ (λ_=>rfl) r (jcc _ _));clear q r p
 go_wp2
 go_ret2;exact v.out
end
section
open Go.RowKit
section
variable {w w':World} {b k:Nat} {M:RoM} {W:WoS} {G:Nat->Prop} {Gs:Nat->Nat->Prop}
theorem RWo.session (h:RWo w b M W Gs) (g:∀k,G k↔qg6 b M (W.n+W.c) Gs k) (d:k<W.c):∃wv,qgs w (M.bs k) wv (W.ses k)/\∀a w',qep w (M.bs k) wv a w'->qae w b G (vf W k a) w'/\qc (Gs (W.n+k)) w w':=by
 obtain⟨wv,i,e⟩:=h.sess d;refine⟨wv,i,λa w' f=>⟨h.stepC g d (f.left e),?_⟩⟩;obtain⟨_,_,_,j⟩:=f.left e;exact j
theorem q4k (h:RWo w b M W Gs) (d:∀k,G k↔qg6 b M (W.n+W.c) Gs k) (a:k<W.c) (f:W.at_ k<W.n):Ca 31 #[PP (M.bs k),.pointer (some (AD (M.bp (W.at_ k)) 0))] w λe w'=>e=.returned (U (qhl (W.S (W.at_ k)) (W.ses k)))/\qae w b G (vf W k (qhd (W.S (W.at_ k)) (W.ses k))) w'/\qc (Gs (W.n+k)) w w':=by
 obtain⟨wv,g,i⟩:=h.session d a;refine(qsz w g (h.site f) (λe=>?_)).mono λe w' ⟨j,l⟩=>⟨j,i _ _ l⟩;obtain⟨o,p,m⟩:=h.sess a;exact h.fam.apart (W.at_ k) (W.n+k) (M.bs k) (by omega) (by omega) (by omega) e ((m _).2 (.inl rfl))
theorem qvm (h:RWo w b M W Gs) (a:∀k,G k↔qg6 b M (W.n+W.c) Gs k) (d:k<W.c) (x:Go.Proofs.YtoanjdndmlffdaaGreatDoor.Wr) (f:(W.ses k).ws.length<=1000000):Ca 33 #[PP (M.bs k),wrV x] w λe w'=>e=.returned (U (qaj (W.ses k) x))/\qae w b G (vf W k (qd2 (W.ses k) x)) w'/\qc (Gs (W.n+k)) w w':=by
 obtain⟨wv,g,i⟩:=h.session a d;exact(qsb x w g f).mono λe w' ⟨j,l⟩=>⟨j,i _ _ l⟩
theorem q66 (h:RWo w b M W Gs) (a:∀k,G k↔qg6 b M (W.n+W.c) Gs k) (d:k<W.c):Ca 35 #[PP (M.bs k)] w λe w'=>e=.returned (U (qi5 (W.ses k)))/\qae w b G (vf W k (qhh (W.ses k))) w'/\qc (Gs (W.n+k)) w w':=by
 obtain⟨wv,f,g⟩:=h.session a d;exact(qiv w f).mono λe w' ⟨i,j⟩=>⟨i,g _ _ j⟩
theorem q8x (h:RWo w b M W Gs) (a:k<W.c) (d:W.at_ k<W.n) (f:j3 (W.S (W.at_ k))) (key:Int):Ca 32 #[PP (M.bs k),.pointer (some (AD (M.bp (W.at_ k)) 0)),U key] w λe w'=>e=.returned (.tuple #[.string (vi (W.S (W.at_ k)) (W.ses k) key).1,U (vi (W.S (W.at_ k)) (W.ses k) key).2])/\Bw w w':=by
 obtain⟨wv,g,_⟩:=h.session (G:=qg6 b M (W.n+W.c) Gs) (λ_=>jdl) a;exact qpv key w g (h.site d) f
theorem RWo.laterW (h:RWo w b M W Gs) (a:Bw w w'):RWo w' b M W Gs:=h.later a
structure jbp (w:World) (b:Nat) (M:RoM) (W:WoS) (k:Nat) (F:Nat->Prop) (cg ca ag aa sg sa:Nat):Prop where
 c2:w.cell? (AD b 2)=some (.slice (PT cg) W.c ca)
 l2:W.c<=ca
 c3:w.cell? (AD b 3)=some (.slice (PT ag) W.c aa)
 l3:W.c<=aa
 c0:w.cell? (AD b 0)=some (.slice (PT sg) W.n sa)
 l0:W.n<=sa
 x2:w.cell? (AD cg k)=some (PP (M.bs k))
 x3:w.cell? (AD ag k)=some (U (W.at_ k))
 x0:w.cell? (AD sg (W.at_ k))=some (.pointer (some (AD (M.bp (W.at_ k)) 0)))
 fb:F b
 f2:F cg
 f3:F ag
 f0:F sg
theorem RWo.cliAt (h:RWo w b M W Gs) (f:k<W.c) (v:W.at_ k<W.n):∃x e y z A sa,jbp w b M W k (ql b M) x e y z A sa:=by
 obtain⟨a,e,i,r⟩:=qq h.cr;obtain⟨d,B,j,l⟩:=qq h.ar;obtain⟨s,sa,m,o⟩:=qq h.sr;have p:=h.box.c 2;have t:=h.box.c 3;have u:=h.box.c 0;rw[i]at p;rw[j]at t;rw[m]at u;rcases r.held with q|⟨g,rfl,H,C⟩
 ·omega
 rcases l.held with q|⟨g',rfl,I,D⟩
 ·omega
 rcases o.held with q|⟨E,rfl,J,F⟩
 ·omega
 exact⟨g,e,g',B,E,sa,p,r.len,t,l.len,u,o.len,C k _ (qn4 f),D k _ (qie f),F _ _ (qn4 v),by simp[ql,vx],by simp[ql,vx,i,Value.ownBlock],by simp[ql,vx,j,Value.ownBlock],by simp[ql,vx,m,Value.ownBlock]⟩
end
end
section
open Go.RowKit
theorem q2p:yt 2:=λ{w w2 n0 hb b j cap nc Gw G W a na l ns} u h hn hlen ht _ hN hb2=>by
 obtain⟨M,A,R,i⟩:=(h.hs.later hb2).rw;have o:=h.hs.rw.lt;obtain⟨x,rfl⟩:=qit hlen;simp[qx,qb8,thB,thC]at ht;obtain⟨k,rfl,m,p,B⟩:=qac ht;obtain⟨g,rfl,O,D,r⟩:=hN.cell 0 _ rfl;have P:=hN.cap;have s:=h.wi.wf.at_ k m;obtain⟨E,Q,F,T,H,sa,C⟩:=R.cliAt m s
 have t:∀q,(λq=>ql b M q\/q=g) q->q<w2.heap.size/\¬A (W.n+k) q:=λq e=>by
  rcases e with e|rfl
  ·exact⟨R.ltF q e,(R.fam.free q e).2 _ (by omega)⟩
  exact⟨D,λe=>by have:=o q ((i q).2 (.inr ⟨_,by omega,e⟩));omega⟩
 have c:∀(q:Addr) (v:Value),(λq=>ql b M q\/q=g) q.block->w2.cell? q=some v->∀w',jg (λq=>ql b M q\/q=g) w2 w'->w'.cell? q=some v:=λq v I e w' J=>(jch (w:=w2) (a:=q) (J.block q.block I)).trans e;have V:=c (AD b 2) _ (.inl C.fb) C.c2;have X:=c (AD E k) _ (.inl C.f2) C.x2;have Y:=c (AD g 0) _ (.inr rfl) r;have Z:=c (AD b 0) _ (.inl C.fb) C.c0;have K3:=c (AD b 3) _ (.inl C.fb) C.c3;have X0:=c (AD H (W.at_ k)) _ (.inl C.f0) C.x0;have X3:=c (AD F k) _ (.inl C.f3) C.x3;have g1:=C.l0;have g3:=C.l3;have K:=hd1 (q4k (R.laterW (jcc _ _).drew) i m s);have d:=hd5 h hn hb2 p t;have g2:=C.l2;have L:jg (λq=>ql b M q\/q=g) w2 w2:=jg.refl _ _;have KD:=vy L;clear h hn hb2 hlen ht hN R p B C c r t o i
 conv=>arg 2;whnf
 unfold qa3
 go_upto_region 24 with fail
 go_region_held3 (λw'=>jg (λq=>ql b M q\/q=g) w2 w') (repeat (first|(with_reducible assumption)|(with_reducible refine vy ?_))) (first
  |(go_at_call 31
    with_reducible refine K.out.mono ?_
    rintro e y ⟨rfl,z,f⟩;have KB:jg (λq=>ql b M q\/q=g) w2 y:=⟨f.os,f.tape,f.output,f.size,λq e=>f.block q (d.out.2.2.2.2 q e).1 (d.out.2.2.2.2 q e).2⟩;have N:Hid (vl 2 W l w hb G (.returned (.tuple #[.string (bya (qn 2)),U (qhl (W.S (W.at_ k)) (W.ses k))])) y):=d.out.1.fin d.out.2.1 (qa d.out.2.2.1 (jcc _ _).drew) ⟨rfl,by rw[if_pos d.out.2.2.2.1];exact⟨rfl,rfl⟩⟩ (λ_=>rfl) z (jcc _ _)
    clear z f))
 all_goals
  go_wp2
  go_ret2;exact N.out
theorem q2i:yt 0:=λ{w w2 n0 hb b j cap nc Gw G W a na l ns} u h hn hlen ht _ hN hb2=>by
 obtain⟨M,z,R,i⟩:=(h.hs.later hb2).rw;have o:=h.hs.rw.lt;obtain⟨x,rfl⟩:=qit hlen;simp[qx,qb8,thB,thC]at ht;obtain⟨k,rfl,m,p,A⟩:=qac ht;obtain⟨g,rfl,L,B,r⟩:=hN.cell 0 _ rfl;have N:=hN.cap;have D:=h.wi.wf.at_ k m;obtain⟨E,O,P,Q,S,sa,C⟩:=R.cliAt m D
 have s:∀q,(λq=>ql b M q\/q=g) q->q<w2.heap.size/\¬z (W.n+k) q:=λq e=>by
  rcases e with e|rfl
  ·exact⟨R.ltF q e,(R.fam.free q e).2 _ (by omega)⟩
  exact⟨B,λe=>by have:=o q ((i q).2 (.inr ⟨_,by omega,e⟩));omega⟩
 have f:∀(q:Addr) (v:Value),(λq=>ql b M q\/q=g) q.block->w2.cell? q=some v->∀w',jg (λq=>ql b M q\/q=g) w2 w'->w'.cell? q=some v:=λq v F e w' H=>(jch (w:=w2) (a:=q) (H.block q.block F)).trans e;have T:=f (AD b 2) _ (.inl C.fb) C.c2;have V:=f (AD E k) _ (.inl C.f2) C.x2;have X:=f (AD g 0) _ (.inr rfl) r;have I:=hd1 (q66 (R.laterW (jcc _ _).drew) i m);have c:=hd5 h hn hb2 p s;have Y:=C.l2;have J:jg (λq=>ql b M q\/q=g) w2 w2:=jg.refl _ _;have Z:=vy J;clear h hn hb2 hlen ht hN R p A C f r s o i
 conv=>arg 2;whnf
 unfold qa3
 go_upto_region 38 with fail
 go_region_held3 (λw'=>jg (λq=>ql b M q\/q=g) w2 w') (repeat (first|(with_reducible assumption)|(with_reducible refine vy ?_))) (first
  |(go_at_call 35
    with_reducible refine I.out.mono ?_
    rintro e t ⟨rfl,y,d⟩;have KB:jg (λq=>ql b M q\/q=g) w2 t:=⟨d.os,d.tape,d.output,d.size,λq e=>d.block q (c.out.2.2.2.2 q e).1 (c.out.2.2.2.2 q e).2⟩;have K:Hid (vl 0 W l w hb G (.returned (.tuple #[.string (bya (qn 0)),U (qi5 (W.ses k))])) t):=c.out.1.fin c.out.2.1 (qa c.out.2.2.1 (jcc _ _).drew) ⟨rfl,by rw[if_pos c.out.2.2.2.1];exact⟨rfl,rfl⟩⟩ (λ_=>rfl) y (jcc _ _)
    clear y d))
 all_goals
  go_wp2
  go_ret2;exact K.out
theorem q3c:yt 18:=λ{w w2 n0 hb b j cap nc Gw G W a na l ns} u h hn hlen ht _ hN hb2=>by
 obtain⟨M,y,R,r⟩:=(h.hs.later hb2).rw;have z:=h.hs.rw.lt;obtain⟨x,key,rfl⟩:=qk0 hlen;obtain⟨N,l1,d,rfl⟩:=q68 hn;obtain⟨c,t,rfl,A,B⟩:=h.st.cell 2 d rfl;have D:=(hb2.cell (p:=AD c (t+2)) A).trans B;have ac:3<=cap:=h.st.cap;have E:¬Gw c:=λe=>h.sn c t rfl ((h.g c).2 (.inr e));simp[qx,qb8,thB,thC]at ht;obtain⟨k,rfl,s,F,O⟩:=qac ht;obtain⟨g,rfl,ad,P,H⟩:=hN.cell 0 _ rfl;obtain⟨g',o,_,_,I⟩:=hN.cell 1 key rfl;injection o with o;injection o with o;subst o;have ae:=hN.cap;have Q:=h.wi.wf.at_ k s;obtain⟨S,ca,ag,aa,sg,sa,C⟩:=R.cliAt s Q
 have J:∀q,(λq=>ql b M q\/q=g\/q=c) q->q<w2.heap.size/\¬y (W.n+k) q:=λq e=>by
  rcases e with e|rfl|rfl
  ·exact⟨R.ltF q e,(R.fam.free q e).2 _ (by omega)⟩
  ·exact⟨P,λe=>by have:=z q ((r q).2 (.inr ⟨_,by omega,e⟩));omega⟩
  exact⟨jci A hb2.size,λe=>E ((r q).2 (.inr ⟨_,by omega,e⟩))⟩
 have f:∀(q:Addr) (v:Value),(λq=>ql b M q\/q=g\/q=c) q.block->w2.cell? q=some v->∀w',jg (λq=>ql b M q\/q=g\/q=c) w2 w'->w'.cell? q=some v:=λq v T e w' V=>(jch (w:=w2) (a:=q) (V.block q.block T)).trans e;have K2:=f (AD b 2) _ (.inl C.fb) C.c2;have X2:=f (AD S k) _ (.inl C.f2) C.x2;have N0:=f (AD g 0) _ (.inr (.inl rfl)) H;have N1:=f (AD g 1) _ (.inr (.inl rfl)) I;have D2:=f (AD c (t+2)) _ (.inr (.inr rfl)) D;have X:Hid (Ca 33 #[PP (M.bs k),.agg #[U key,.string d,.bool false]] w2.drew λe w'=>e=.returned (U (qaj (W.ses k) ⟨key,d,false⟩))/\qae w2.drew b Gw (vf W k (qd2 (W.ses k) ⟨key,d,false⟩)) w'/\qc (y (W.n+k)) w2.drew w'):=qvm (R.laterW (jcc _ _).drew) r s ⟨key,d,false⟩ (h.few s);have i:=hd5 h hn hb2 F J;have g2:=C.l2;have Y:jg (λq=>ql b M q\/q=g\/q=c) w2 w2:=jg.refl _ _;have KD:=vy Y;clear h hn hb2 hlen ht hN R F O C f H I J z r B D E
 conv=>arg 2;whnf
 unfold qa3
 go_upto_region 29 with fail
 go_region_held3 (λw'=>jg (λq=>ql b M q\/q=g\/q=c) w2 w') (repeat (first|(with_reducible assumption)|(with_reducible refine vy ?_))) (first
  |(go_at_call 33
    with_reducible refine X.out.mono ?_
    rintro e K ⟨rfl,L,m⟩;have KB:jg (λq=>ql b M q\/q=g\/q=c) w2 K:=⟨m.os,m.tape,m.output,m.size,λq e=>m.block q (i.out.2.2.2.2 q e).1 (i.out.2.2.2.2 q e).2⟩;have Z:Hid (vl 18 W [N,l1,d] w hb G (.returned (.tuple #[.string (bya (qn 18)),U (qaj (W.ses k) ⟨key,d,false⟩)])) K):=i.out.1.fin i.out.2.1 (qa i.out.2.2.1 (jcc _ _).drew) ⟨rfl,by rw[if_pos i.out.2.2.2.1];exact⟨rfl,rfl⟩⟩ (λ_=>rfl) L (jcc _ _)
    clear L m))
 all_goals
  go_wp2
  go_ret2;exact Z.out
theorem q5k:yt 7:=λ{w w2 n0 hb b j cap nc Gw G W a na l ns} u h hn hlen ht _ hN hb2=>by
 obtain⟨M,p,R,o⟩:=(h.hs.later hb2).rw;have r:=h.hs.rw.lt;obtain⟨x,key,rfl⟩:=qk0 hlen;simp[qx,qb8,thB,thC]at ht;obtain⟨k,rfl,m,s,D⟩:=qac ht;obtain⟨g,rfl,O,E,t⟩:=hN.cell 0 _ rfl;obtain⟨g',f,_,_,y⟩:=hN.cell 1 key rfl;injection f with f;injection f with f;subst f;have P:=hN.cap;have F:=h.wi.wf.at_ k m;obtain⟨H,Q,S,T,V,sa,C⟩:=R.cliAt m F
 have z:∀q,(λq=>ql b M q\/q=g) q->q<w2.heap.size/\¬p (W.n+k) q:=λq e=>by
  rcases e with e|rfl
  ·exact⟨R.ltF q e,(R.fam.free q e).2 _ (by omega)⟩
  exact⟨E,λe=>by have:=r q ((o q).2 (.inr ⟨_,by omega,e⟩));omega⟩
 have i:∀(q:Addr) (v:Value),(λq=>ql b M q\/q=g) q.block->w2.cell? q=some v->∀w',jg (λq=>ql b M q\/q=g) w2 w'->w'.cell? q=some v:=λq v I e w' J=>(jch (w:=w2) (a:=q) (J.block q.block I)).trans e;have X:=i (AD b 2) _ (.inl C.fb) C.c2;have Y:=i (AD H k) _ (.inl C.f2) C.x2;have Z:=i (AD g 0) _ (.inr rfl) t;have N1:=i (AD g 1) _ (.inr rfl) y;have K:Hid (Ca 33 #[PP (M.bs k),.agg #[U key,.string ⟨#[]⟩,.bool true]] w2.drew λe w'=>e=.returned (U (qaj (W.ses k) ⟨key,⟨#[]⟩,true⟩))/\qae w2.drew b Gw (vf W k (qd2 (W.ses k) ⟨key,⟨#[]⟩,true⟩)) w'/\qc (p (W.n+k)) w2.drew w'):=qvm (R.laterW (jcc _ _).drew) o m ⟨key,⟨#[]⟩,true⟩ (h.few m);have c:=hd5 h hn hb2 s z;have g2:=C.l2;have L:jg (λq=>ql b M q\/q=g) w2 w2:=jg.refl _ _;have KD:=vy L;clear h hn hb2 hlen ht hN R s D C i t y z r o
 conv=>arg 2;whnf
 unfold qa3
 go_upto_region 31 with fail
 go_region_held3 (λw'=>jg (λq=>ql b M q\/q=g) w2 w') (repeat (first|(with_reducible assumption)|(with_reducible refine vy ?_))) (first
  |(go_at_call 33
    with_reducible refine K.out.mono ?_
    rintro e A ⟨rfl,B,d⟩;have KB:jg (λq=>ql b M q\/q=g) w2 A:=⟨d.os,d.tape,d.output,d.size,λq e=>d.block q (c.out.2.2.2.2 q e).1 (c.out.2.2.2.2 q e).2⟩;have N:Hid (vl 7 W l w hb G (.returned (.tuple #[.string (bya (qn 7)),U (qaj (W.ses k) ⟨key,⟨#[]⟩,true⟩)])) A):=c.out.1.fin c.out.2.1 (qa c.out.2.2.1 (jcc _ _).drew) ⟨rfl,by rw[if_pos c.out.2.2.2.1];exact⟨rfl,rfl⟩⟩ (λ_=>rfl) B (jcc _ _)
    clear B d))
 all_goals
  go_wp2
  go_ret2;exact N.out
end
section
open Go.RowKit
theorem q91:yt 1:=λ{w w2 n0 hb b j cap nc Gw G W a na l ns} u h hn hlen ht hne hN hb2=>by
 have R:=(h.hs.later hb2).rw;have p:=h.hs.rw.lt;obtain⟨x,y,rfl⟩:=qk0 hlen;simp[qx,qb8,thB,thC]at ht;obtain⟨k,rfl,B,r,_⟩:=qac ht.1;obtain⟨o,rfl,K,s,_⟩:=qac ht.2;obtain⟨g,rfl,L,C,t⟩:=hN.cell 0 _ rfl;obtain⟨g',d,_,_,z⟩:=hN.cell 1 _ rfl;injection d with d;injection d with d;subst d;have M:=hN.cap;have A:=hne rfl _ _ rfl;have i:∀(q:Addr) (v:Value),q.block=g->w2.cell? q=some v->∀w',jg (λq=>q=g) w2 w'->w'.cell? q=some v:=λq v D e w' E=>(jch (w:=w2) (a:=q) (E.block q.block D)).trans e;have N:=i (AD g 0) _ rfl t;have O:=i (AD g 1) _ rfl z;have F:Hid (Ca 36 #[PP b,U k,U o] w2.drew λe w'=>e=.returned (.tuple #[])/\qae w2.drew b Gw (qme W k o) w'):=q5z w2.drew (R.later (jcc _ _).drew) B;have c:=hd6 h hn hb2 (show (ye (k:Int) W.n/\ye (o:Int) W.n/\(k:Int)≠o)from⟨r,s,A⟩) C (show ¬Gw g from λe=>by have:=p g e;omega);have H:jg (λq=>q=g) w2 w2:=jg.refl _ _;have P:=vy H;clear h hn hb2 hlen ht hN R r s i t z p hne A
 conv=>arg 2;whnf
 unfold qa3
 go_upto_region 48 with fail
 go_region_held3 (λw'=>jg (λq=>q=g) w2 w') (repeat (first|(with_reducible assumption)|(with_reducible refine vy ?_))) (first
  |(go_at_call 36
    with_reducible refine F.out.mono ?_
    rintro e I ⟨rfl,m⟩
    have Q:jg (λq=>q=g) w2 I:=by
     obtain⟨_,_,_,f⟩:=m;exact⟨f.os,f.tape,f.output,f.size,λq e=>by rw[e];exact f.block g c.out.2.2.2.2.1 c.out.2.2.2.2.2⟩
    have J:=hd1 (c.out.1.fin c.out.2.1 (qa c.out.2.2.1 (jcc _ _).drew) ⟨rfl,by rw[if_pos c.out.2.2.2.1];exact⟨rfl,rfl⟩⟩ (λ_=>rfl) m (jcc _ _))
    clear m))
 all_goals
  go_wp2
  go_ret2;exact J.out
theorem q7l:yt 11:=λ{w w2 n0 hb b j cap nc Gw G W a na l ns} u h hn hlen ht _ hN hb2=>by
 obtain rfl:=qsd hlen;obtain⟨a0,p,a2,q,r,s,k,m,t,v,y⟩:=(h.hs.later hb2).rw.lens;have z:=h.wi.wf.net;have d:Bw w ((w2.alloc (.cells #[U W.net.length,U W.lost] 3)).drew):=(boxed hb2 _).drew
 have g:=qb7 (b:=w2.heap.size) (o:=0) (cap:=2) (l:=[(W.net.length:Int),W.lost]) (by simp) (by simp) (λx i=>by
  simp at i;rcases i with rfl|rfl
  ·exact⟨by omega,by omega⟩
  exact h.di.lost) ((w2.alloc (.cells #[U W.net.length,U W.lost] 3)).drew) (h.gl.later d) (by simp) (qee (w:=w2) (T:=3) [(W.net.length:Int),W.lost])
 have n:Hid (∀c,Below ((w2.alloc (.cells #[U W.net.length,U W.lost] 3)).drew).heap.size ((w2.alloc (.cells #[U W.net.length,U W.lost] 3)).drew) c->vl 11 W l w hb G (.returned (.tuple #[.string (bya (qv [(W.net.length:Int),W.lost])),U 0])) c):=λc f=>h.tell hn (qa d f) ⟨rfl,rfl,rfl⟩ (λ_=>rfl)
 dsimp only[List.length_cons,List.length_nil,Nat.reduceAdd]at g
 clear h hn hb2 hlen ht hN d k m
 conv=>arg 2;whnf
 unfold qa3
 go_upto_region 60 with fail
 go_region_with (first|(go_at_call 17;refine g.mono ?_;rintro e c ⟨rfl,f⟩))
 all_goals
  go_wp2
  go_ret2;exact n.out _ f
theorem q4y:yt 13:=λ{w w2 n0 hb b j cap nc Gw G W a na l ns} u h hn hlen ht _ hN hb2=>by
 obtain⟨M,E,R,D⟩:=(h.hs.later hb2).rw;obtain⟨x,key,rfl⟩:=qk0 hlen;simp[qx,qb8,thB,thC]at ht;obtain⟨k,rfl,d,r,_⟩:=qac ht;obtain⟨g,rfl,F,H,s⟩:=hN.cell 0 _ rfl;obtain⟨g',c,_,_,t⟩:=hN.cell 1 _ rfl;injection c with c;injection c with c;subst c;have I:=hN.cap;have m:=h.wi.wf.at_ k d;have n:=h.wi.wf.inv _ m;obtain⟨J,K,L,N,O,sa,C⟩:=R.cliAt d m;have o:=qjc (key:=key) (h.di.ses k d) n;have Q:=qb.one;have p:Hid (∀x:qb w2,Ca 32 #[PP (M.bs k),.pointer (some (AD (M.bp (W.at_ k)) 0)),U key] x.val λe w'=>e=.returned (.tuple #[.string (vi (W.S (W.at_ k)) (W.ses k) key).1,U (vi (W.S (W.at_ k)) (W.ses k) key).2])/\Below x.val.heap.size x.val w'):=λx=>q8x (R.laterW x.below) d m n key;have f:Hid (∀i,Bw w2 i->vl 13 W l w hb G (.returned (.tuple #[.string (bya ([105,115,32]++(vi (W.S (W.at_ k)) (W.ses k) key).1.data.toList)),U (vi (W.S (W.at_ k)) (W.ses k) key).2])) i):=λi q=>h.tell hn (qa hb2 q) ⟨rfl,by rw[if_pos r];exact⟨rfl,rfl⟩⟩ (λ_=>rfl);obtain⟨⟨v,er⟩,y⟩:∃z,vi (W.S (W.at_ k)) (W.ses k) key=z:=⟨_,rfl⟩;rw[y]at o p f
 dsimp only at o p f
 have T:=qb.cell C.c0;have V:=qb.cell C.c2;have X:=qb.cell C.c3;have Y:=qb.cell C.x0;have Z:=qb.cell C.x2;have m3:=qb.cell C.x3;have y0:=qb.cell s;have y1:=qb.cell t;have g1:=C.l0;have g2:=C.l2;have g3:=C.l3;have A1:=λw=>qfi (P:=Tryz.prog) ⟨#[105,115,32]⟩ v (by rw[show (⟨#[105,115,32]⟩:ByteArray).size=3 from rfl];omega) w
 have B:Hid (bya ([105,115,32]++v.data.toList)=⟨#[105,115,32]⟩++v):=by
  show _=_;rw[<-jz]
 rw[B.out]at f;clear h hn hb2 hlen ht hN R r C s t D y o n B
 conv=>arg 2;whnf
 unfold qa3
 go_upto_region 26 with fail
 refine wrl ?_
 repeat (go_big_quiet_step (first|rfl|(go_at_call 32;with_reducible exact qg (p.out _))))
 refine wpQuiet_nil ?_;rintro i ⟨⟨_,q⟩,rfl⟩
 go_wp2
 go_ret2;exact f.out _ q
end
open Go.RowKit
theorem q4e:yt 8:=λ{w w2 n0 hb b j cap nc Gw G W a na l ns} u h r hlen ht _ hN hb2=>by
 obtain⟨M,V,R,D⟩:=(h.hs.later hb2).rw;obtain⟨x,y,rfl⟩:=qk0 hlen;simp[qx,qb8,thB,thC]at ht;obtain⟨k,rfl,E,F,_⟩:=qac ht;obtain⟨g,rfl,hgB,X,L⟩:=hN.cell 0 _ rfl;obtain⟨g',z,_,_,N⟩:=hN.cell 1 _ rfl;injection z with z;injection z with z;subst z;have hcap:=hN.cap;have c:=hd5 h r hb2 F D;have Y:=h.wi.wl k E;by_cases m:0<=y/\y<=1099511627776
 ·have A:=vj (n:=y) (lo:=0) (hi:=1099511627776) (v:=true) (by simp[inB,m.1,m.2]) w2;have o:=hd1 m;have O:=hd1 R;clear h r hb2 hlen ht hN F D m R
  conv=>arg 2;whnf
  unfold qa3
  go_wp2_with fail
  refine A.mono ?_;rintro e i ⟨rfl,d⟩;have p:=O.out.laterW d;have N0:=cell_later d L;have N1:=cell_later d N;have hgl3:=jci X d.size;obtain⟨Z,avc,B,H⟩:=qq p.wr
  obtain⟨I,rfl,hag,P⟩:∃g,Z=some (AD g 0)/\g<i.heap.size/\∀j u,(qdw W.wall W.n)[j]?=some u->i.cell? (AD g j)=some u:=by
   rcases H.held with Q|Q
   ·omega
   exact Q
  have S:=p.box.cell 1 _ rfl;rw[B]at S;have T:=P _ _ (qie E);have J:=p.wr;rw[B]at J;have d5:=J.frozenAt k;have hal:=H.len;have bl:=p.box.lt;obtain⟨f,K⟩:∃f,W.wall k=f:=⟨_,rfl⟩;rw[K]at T Y;have y1:=o.out.1;have y2:=o.out.2
  have hwz:wrap64 (f+y)=f+y:=by unfold wrap64;omega
  have C:Hid (∀v,v=qk3 (f+y)->vl 8 W l w hb G (.returned (.tuple #[.string (bya (qn 8)),U 0])) (i.setCell (AD I k) (U v)).drew):=λv hv=>by
   subst hv;have s:=p.setWall B E (qk3 (f+y))
   have gf:ql b M I:=by unfold ql vx;rw[B];simp[Value.ownBlock]
   have hp:qae i b Gw (qm8 W k y) (i.setCell (AD I k) (U (qk3 (f+y)))):=by
        rw[show qm8 W k y={W with wall:=jj W.wall k (qk3 (f+y))} by unfold qm8;rw[K]];exact⟨_,⟨M,V,s.1,c.out.2.2.2.2⟩,λq e=>.inl e,⟨s.2.os,s.2.tape,s.2.output,s.2.size,λq hq r=>s.2.block q hq (λe=>r ((c.out.2.2.2.2 q).2 (.inl (by rw[e];exact gf))))⟩⟩
   exact c.out.1.fin c.out.2.1 (qa c.out.2.2.1 d) ⟨rfl,by rw[if_pos ⟨c.out.2.2.2.1,o.out.1,o.out.2⟩];exact⟨rfl,rfl⟩⟩ (λ_=>rfl) hp (jcc _ _).drew
  clear P H B J p K L N O A d;have FIN0:=C.out (min 1099511627776 (f+y)) (by unfold qk3;split<;>omega);clear C
  go_upto_region 46 with fail
  go_region
  all_goals
   clear S T d5
   go_wp2
   go_ret2;exact FIN0
 have A:=vj (n:=y) (lo:=0) (hi:=1099511627776) (v:=false) (by simp only[inB,Bool.and_eq_false_iff,decide_eq_false_iff_not];omega) w2;have o:=hd1 m;clear h r hb2 hlen ht hN F D m R
 conv=>arg 2;whnf
 unfold qa3
 go_wp2_with fail
 refine A.mono ?_;rintro e i ⟨rfl,d⟩;have C:Hid (vl 8 W l w hb G (.returned (.tuple #[.string ⟨#[]⟩,U 2])) i):=c.out.1.tell (told:=[]) (t:=qn 8) c.out.2.1 (qa c.out.2.2.1 d) ⟨rfl,by rw[if_neg (λe=>o.out e.2)];exact⟨rfl,rfl⟩⟩ (λe=>by cases e);clear A d
 go_wp2
 go_ret2;exact C.out
variable {w:World} {b:Nat} {G:Nat->Prop}
theorem RSe.openAt {s:qy} (h:RSe w b G s):w.cell? (AD b 8)=some (.bool s.opn)/\b<w.heap.size:=⟨h.snap.2.2.2.2.1,h.snap.2.2.2.2.2⟩
theorem q5j:yt 12:=λ{w w2 n0 hb b j cap nc Gw G W a na l ns} u h z hlen ht _ hN hb2=>by
 obtain⟨M,Y,R,I⟩:=(h.hs.later hb2).rw;obtain⟨x,y,rfl⟩:=qk0 hlen;simp[qx,qb8,thB,thC]at ht;obtain⟨k,rfl,p,J,_⟩:=qac ht.1;obtain⟨o,rfl,ho,K,_⟩:=qac ht.2;obtain⟨g,rfl,hgB,Z,D⟩:=hN.cell 0 _ rfl;obtain⟨g',r,_,_,L⟩:=hN.cell 1 _ rfl;injection r with r;injection r with r;subst r;have hcap:=hN.cap;have ha:=h.wi.wf.at_ k p;obtain⟨cg,ca,A,aa,sg,sa,C⟩:=R.cliAt p ha;obtain⟨N,hbs⟩:=(R.sess p).openAt;have hne:=qb.one;have d:=hd5 h z hb2 (show (ye (k:Int) W.c/\ye (o:Int) W.n)from⟨J,K⟩) I;have O:=hd1 R;have P:=qb.cell C.c2;have Q:=qb.cell C.x2;have S:=qb.cell D;have p0:=qb.cell N;have g2:=C.l2;clear h z hb2 hlen ht hN J K I R C N;cases hop:(W.ses k).opn with
 |true=>
  have B:=hd1 hop;rw[hop]at p0;clear hop
  conv=>arg 2;whnf
  unfold qa3
  go_upto_region 40 with fail
  refine wrl ?_
  repeat (go_big_quiet_step (first|rfl|fail))
  refine wpQuiet_nil ?_;rintro i ⟨⟨_,f⟩,rfl⟩;have E:Hid (vl 12 W l w hb G (.returned (.tuple #[.string ⟨#[]⟩,U 6])) i):=d.out.1.tell (told:=[]) (t:=qn 12) d.out.2.1 (qa d.out.2.2.1 f) ⟨rfl,by rw[if_pos d.out.2.2.2.1];unfold qhx qll;rw[show ((k:Int)).toNat=k from rfl,B.out];exact⟨rfl,rfl⟩⟩ (λe=>by cases e);clear P Q S p0 f
  go_wp2
  go_ret2;exact E.out
 |false=>
  have B:=hd1 hop;rw[hop]at p0;clear hop
  conv=>arg 2;whnf
  unfold qa3
  go_upto_region 40 with fail
  refine wrl ?_
  repeat (go_big_quiet_step (first|rfl|fail))
  refine wpQuiet_nil ?_;rintro i ⟨⟨_,f⟩,rfl⟩;have m:=O.out.laterW f;have N0:=cell_later f D;have N1:=cell_later f L;have hgl3:=jci Z f.size;obtain⟨av,avc,v,F⟩:=qq m.ar
  obtain⟨A,rfl,hag,T⟩:∃g,av=some (AD g 0)/\g<i.heap.size/\∀j u,(qdw (λk=>(W.at_ k:Int)) W.c)[j]?=some u->i.cell? (AD g j)=some u:=by
   rcases F.held with V|V
   ·omega
   exact V
  have X:=m.box.cell 3 _ rfl;rw[v]at X;have d4:=T _ _ (qie p);have H:=m.ar;rw[v]at H;have d5:=H.frozenAt k;have hal:=F.len;have bl:=m.box.lt
  have E:Hid (vl 12 W l w hb G (.returned (.tuple #[.string (bya (qn 12)),U 0])) (i.setCell (AD A k) (U o)).drew):=by
   have s:=m.setAt v p o
   have gf:ql b M A:=by unfold ql vx;rw[v];simp[Value.ownBlock]
   have hp:qae i b Gw (qhx W k o) (i.setCell (AD A k) (U o)):=by
        rw[show qhx W k o={W with at_:=jj W.at_ k o} by unfold qhx;rw[B.out];rfl];exact⟨_,⟨M,Y,s.1,d.out.2.2.2.2⟩,λq e=>.inl e,⟨s.2.os,s.2.tape,s.2.output,s.2.size,λq hq z=>s.2.block q hq (λe=>z ((d.out.2.2.2.2 q).2 (.inl (by rw[e];exact gf))))⟩⟩
   exact d.out.1.fin d.out.2.1 (qa d.out.2.2.1 f) ⟨rfl,by rw[if_pos d.out.2.2.2.1];exact⟨rfl,by unfold qll;rw[show ((k:Int)).toNat=k from rfl,B.out];rfl⟩⟩ (λ_=>rfl) hp (jcc _ _).drew
  clear T F v H m D L O f P Q S p0
  go_upto_region 42 with fail
  go_region
  all_goals
   clear X d4 d5
   go_wp2
   go_ret2;exact E.out
theorem jaz {w2 f:World} {x d j cap o n c:Nat} {Gw p:Nat->Prop} {W:WoS} {a:Option Addr} {l:List ByteArray} (h:qgm w x d b Gw G W j a cap l) (y:qeb 17 l=some [(n:Int),(c:Int)]) (i:Bw w w2) (t:qhp w2 d b Gw W) (z:RW f o p (qcb n c)) (r:∀k,p k->w2.heap.size<=k) (m:Bw w2 f) (A:(1<=(n:Int)/\(n:Int)<=4)/\(0<=(c:Int)/\(c:Int)<=6)):
 vl 17 W l w d G (.returned (.tuple #[.string (bya (qn 17)),U 0])) (f.setCell (AD d 0) (PP o)):=by
 have D:=t.lt;have B:=(t.later m).box;have u:∀k,k≠d->(f.setCell (AD d 0) (PP o)).heap[k]?=f.heap[k]?:=λk s=>jce _ _ _ _ s
 have v:(f.setCell (AD d 0) (PP o)).heap.size=f.heap.size:=by simp[World.setCell]
 refine⟨_,0,rfl,qcb n c,qn 17,qc2.yes y ⟨rfl,by rw[if_pos A];exact⟨rfl,rfl⟩⟩,λ_=>rfl,λk=>k=d\/p k,⟨o,p,⟨by simp[World.setCell,Array.getElem?_modify,B],z.kept (λk e=>u k (λq=>by have:=r k e;omega)) (by rw[v];exact jcd _),λe=>by have:=r d e;omega⟩,λ_=>jdl⟩,λk e=>?_,?_⟩
 ·rcases e with rfl|e
  ·exact .inl ((h.g k).2 (.inl rfl))
  exact .inr (jcn i.size (r k e))
 have s2:=i.size;exact⟨m.os.trans i.os,m.tape.trans i.tape,m.output.trans i.output,by rw[v];exact jcn s2 m.size,λk s C=>(u k (λq=>C ((h.g k).2 (.inl q)))).trans ((m.block k (by omega)).trans (i.block k s))⟩
theorem q0y:yt 17:=λ{w w2 n0 hb b j cap nc Gw G W a na l ns} u h hn hlen ht _ hN hb2=>by
 have r:=h.hs.later hb2;obtain⟨x,y,rfl⟩:=qk0 hlen;obtain⟨g,rfl,M,N,s⟩:=hN.cell 0 _ rfl;obtain⟨g',f,_,_,v⟩:=hN.cell 1 _ rfl;injection f with f;injection f with f;subst f;have O:=hN.cap;have d:=hd4 h hn hb2 r;have P:=r.lt;have F:=λ(w':World) (h:Bw w2 w')=>cell_later h s;have H:=λ(w':World) (h:Bw w2 w')=>cell_later h v;clear h hn hb2 hlen ht hN r;by_cases i:(1<=x/\x<=4)/\(0<=y/\y<=6)
 ·obtain⟨n,rfl,I,J⟩:∃n:Nat,x=n/\1<=n/\n<=4:=⟨x.toNat,by omega,by omega,by omega⟩;obtain⟨c,rfl,K⟩:∃c:Nat,y=c/\c<=6:=⟨y.toNat,by omega,by omega⟩;have p:=q42 I J K w2.drew;have z:=hd1 i;clear i s v
  conv=>arg 2;whnf
  unfold qa3
  go_upto_region 19 with fail
  go_region_held3 (λw'=>Bw w2 w') ((repeat (first|(with_reducible assumption)|(with_reducible refine jc6 ?_)|(with_reducible exact jcc _ _)))) (first
   |(go_at_call 15
     with_reducible refine p.mono ?_
     rintro e A ⟨rfl,L,C,D,m⟩;have q:=qa (jcc _ _).drew m;have o:=hd3 C (show (∀k,L k->w2.heap.size<=k)from D) q
     clear C D m))
  all_goals
   have E:=(d.out.2.2.2.later o.out.2.2).box;have Q:=(d.out.2.2.2.later o.out.2.2).cell;have R:=Lib.frozen_of_heap E 0;have B:Hid (vl 17 W l w hb G (.returned (.tuple #[.string (bya (qn 17)),U 0])) (A.setCell (AD hb 0) (PP (w2.heap.size+1+1)))):=jaz d.out.1 d.out.2.1 d.out.2.2.1 d.out.2.2.2 o.out.1 o.out.2.1 o.out.2.2 z.out;clear E p F H q
   go_wp2
   go_ret2;exact B.out
 have p:=q2j i w2.drew;have z:=hd1 i;clear i s v
 conv=>arg 2;whnf
 unfold qa3
 go_upto_region 19 with fail
 go_region_held3 (λw'=>Bw w2 w') ((repeat (first|(with_reducible assumption)|(with_reducible refine jc6 ?_)|(with_reducible exact jcc _ _)))) (first
  |(go_at_call 15
    with_reducible refine p.mono ?_
    rintro e A ⟨rfl,m⟩;have q:=qa (jcc _ _).drew m;have B:Hid (vl 17 W l w hb G (.returned (.tuple #[.string ⟨#[]⟩,U 2])) A):=d.out.1.tell (told:=[]) (t:=qn 17) d.out.2.1 (qa d.out.2.2.1 q) ⟨rfl,by rw[if_neg z.out];exact⟨rfl,rfl⟩⟩ (λe=>by cases e)
    clear m))
 all_goals
  go_wp2
  go_ret2;exact B.out
end Go.Proofs.YtoanjdndmlffdaaGreatDoor
