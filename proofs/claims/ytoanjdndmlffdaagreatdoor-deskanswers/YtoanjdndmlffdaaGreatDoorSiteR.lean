import Derived.Test.YtoanjdndmlffdaaGreatDoorHsLay
import Derived.Test.YtoanjdndmlffdaaGreatDoorHsD6
import Derived.Test.YtoanjdndmlffdaaGreatDoorHsD7
import Derived.Test.YtoanjdndmlffdaaGreatDoorHsHp
set_option maxHeartbeats 8000000
set_option maxRecDepth 1000000
namespace Go.Proofs.YtoanjdndmlffdaaGreatDoor
section
open Go.RowKit
def zr (c:UInt8) (s:ByteArray):List ByteArray:=(vm c s.data.toList).map bya
theorem qrm (c:UInt8) (s:ByteArray) (o:s.size<=1000000) (w:World) (g:Gl w):Ca 14 #[.string s,.string ⟨#[c]⟩] w λe w'=>e=.returned (.slice (PT w.heap.size) (zr c s).length (zr c s).length)/\w'=w.alloc (.cells ((zr c s).map Value.string).toArray 9):=by
 obtain⟨m,j⟩:=g.ml;have d:1<=(⟨#[c]⟩:ByteArray).size:=jcd _;have k:Lib.countB s ⟨#[c]⟩=s.data.toList.count c:=Lib.count_one c _
 have f:Lib.splitB ⟨#[c]⟩ 0 (Lib.countB s ⟨#[c]⟩) s=zr c s:=by
  have q:=Lib.splitB_data ⟨#[c]⟩ 0 (Lib.countB s ⟨#[c]⟩) s;rw[show (⟨#[c]⟩:ByteArray).data.toList=[c]from rfl,qu2 c _ _ (by rw[k];exact jcd _)]at q;unfold zr;rw[<-q,List.map_map]
  conv=>lhs;rw[<-List.map_id (Lib.splitB ⟨#[c]⟩ 0 (Lib.countB s ⟨#[c]⟩) s)]
  rfl
 have n:Lib.countB s ⟨#[c]⟩+1=(zr c s).length:=by rw[<-f,Lib.splitB_all ⟨#[c]⟩ d 0 _ s rfl]
 refine(jee s ⟨#[c]⟩ m w (by omega) j d).mono λe w' ⟨h,i⟩=>?_;rw[n]at h;rw[f]at i;exact⟨h,i⟩
def neB (y:ByteArray):Bool:=decide (y.data.toList≠[])
theorem qp4 (s:ByteArray):qa9 s=(zr 32 s).filter neB:=by
 rw[qwu];unfold zr;rw[List.filter_map];rfl
theorem qx2 (c:UInt8) (s:List UInt8):(vm c s).length<=s.length+1/\∀x∈vm c s,x.length<=s.length:=by
 induction s with
 |nil=>simp[vm]
 |cons d r ih=>
  unfold vm;by_cases e:d=c
  ·rw[if_pos e];refine⟨by simp only[List.length_cons];have:=ih.1;omega,λx f=>?_⟩;rcases jdd.1 f with rfl|q
   ·simp
   have:=ih.2 x q;simp only[List.length_cons];omega
  rw[if_neg e];cases h:vm c r with
  |nil=>exact absurd h (qh9 c r)
  |cons y z=>
   rw[h]at ih;refine⟨by have:=ih.1;simp only[List.length_cons]at this ⊢;omega,λx f=>?_⟩;rcases jdd.1 f with rfl|q
   ·have:=ih.2 y (by simp);simp only[List.length_cons];omega
   have:=ih.2 x (by simp[q]);simp only[List.length_cons];omega
theorem qle (c:UInt8) (s:ByteArray):(zr c s).length<=s.size+1/\∀x∈zr c s,x.size<=s.size:=by
 have h:=qx2 c s.data.toList;rw[<-Lib.size_eq]at h;refine⟨by unfold zr;rw[jdh];exact h.1,λx d=>?_⟩;obtain⟨y,e,rfl⟩:=jcz.1 d;have:=h.2 y e;rw[Lib.size_eq];exact this
def quw (s:ByteArray):Nat:=if 1<(zr 10 s).length/\(zr 10 s).getLast?=some ⟨#[]⟩then (zr 10 s).length-1 else (zr 10 s).length
theorem qy3 (s:ByteArray):(qfq s.data.toList).map bya=(zr 10 s).take (quw s):=by
 have d:(vm 10 s.data.toList).getLast?=some []↔(zr 10 s).getLast?=some ⟨#[]⟩:=by
  unfold zr;rw[List.getLast?_map];cases (vm 10 s.data.toList).getLast? with
  |none=>simp
  |some x=>
   simp only[Option.map_some,Option.some.injEq]
   constructor
   ·rintro rfl;rfl
   intro e;have:=congrArg (λy:ByteArray=>y.data.toList) e;simpa using this
 have c:(zr 10 s).length=(vm 10 s.data.toList).length:=by unfold zr;rw[jdh]
 rw[quq];unfold quw;by_cases q:1<(zr 10 s).length/\(zr 10 s).getLast?=some ⟨#[]⟩
 ·rw[if_pos q,if_pos ⟨by rw[<-c];exact q.1,d.2 q.2⟩,c,List.dropLast_eq_take];unfold zr;rw[List.map_take]
 rw[if_neg q,if_neg (λe=>q ⟨by rw[c];exact e.1,d.1 e.2⟩),jc9];rfl
def jai (W:WoS) (line:ByteArray) (w:World) (hb:Nat) (G:Nat->Prop) (e:Ending) (w':World):Prop:=
 ∃(t:List UInt8) (er:Int),e=.returned (.tuple #[.string (bya t),U er])/\Hid (∃W',qas W line W' (if er=0 then t else qgt er)/\wfI er/\qbi (hsP hb W') w G w')
variable {a:Option Addr} {l:List ByteArray}
theorem qt3 (m:∀i,i<19->yt i) {w:World} {n hb b j cap:Nat} {Gw G:Nat->Prop} {W:WoS} (h:qgm w n hb b Gw G W j a cap l) {d x:ByteArray} (f:qa9 d=x::l) (o:x.size<=maxLen):
 Ca 16 #[PP hb,.string x,.slice a l.length cap] w (jai W d w hb G):=by
 cases hn:qc9.idxOf? x.data.toList with
 |none=>
  refine(qzx h x o (quh hn)).mono λe w' ⟨c,p⟩=>?_;subst p;refine⟨[],3,c,W,?_,⟨by decide,by decide⟩,h.hs.same h.g (jcc _ _)⟩;unfold qas;rw[f]
  dsimp only
  rw[hn];exact⟨rfl,rfl⟩
 |some i=>
  obtain⟨hi,r⟩:=qmv hn
  obtain rfl:x=bya (qn i):=by rw[<-r]
  refine(q3b hi (m i hi) h).mono λe w' ⟨told,er,c,W',t,k,s,u⟩=>?_;refine⟨told,er,c,W',?_,k.few.wf,u⟩;unfold qas;rw[f]
  dsimp only
  rw[hn];refine⟨er,t,k,?_⟩;by_cases q:er=0
  ·rw[if_pos q,if_pos q,s q]
  rw[if_neg q,if_neg q]
def qqx (w:World):Prop:=∃bm,w.cell? (AD 0 0)=some (.map (some bm))/\qsf w bm/\bm<w.heap.size
structure qqn (w wr:World) (hb lb:Nat) (L pre:List ByteArray) (out:List UInt8) (W:WoS) (b:Nat) (Gw G:Nat->Prop):Prop where
 tk:qd8 (qcb 2 2) pre out W
 hs:qhp wr hb b Gw W
 g:∀k,G k↔(k=hb\/Gw k)
 gn:∀k,G k->w.heap.size<=k
 lo:lb<wr.heap.size/\¬G lb
 bl:Bw w wr
 cell:∀(j:Nat) x,L[j]?=some x->wr.cell? (AD lb j)=some (.string x)
def TkI (w:World) (hb lb:Nat) (L pre:List ByteArray) (out:List UInt8) (wr:World):Prop:=∃W b Gw G,qqn w wr hb lb L pre out W b Gw G
section
variable {w wr w3 w4:World} {hb lb b:Nat} {L pre:List ByteArray} {out told:List UInt8} {W W':WoS} {Gw G:Nat->Prop} {x:ByteArray}
theorem qqn.lt (h:qqn w wr hb lb L pre out W b Gw G) (k:Nat) (c:G k):k<wr.heap.size:=by
 rcases(h.g k).1 c with rfl|e
 ·exact h.hs.lt
 exact h.hs.rw.lt k e
theorem qqn.later (h:qqn w wr hb lb L pre out W b Gw G) (c:Bw wr w3):qqn w w3 hb lb L pre out W b Gw G:=
 ⟨h.tk,h.hs.later c,h.g,h.gn,⟨jci h.lo.1 c.size,h.lo.2⟩,qa h.bl c,λj x d=>(c.cell (p:=AD lb j) h.lo.1).trans (h.cell j x d)⟩
theorem qqn.step (h:qqn w w3 hb lb L pre out W b Gw G) (f:qas W x W' told) (g:qbi (hsP hb W') w3 G w4):TkI w hb lb L (pre++[x]) (out++told++[10]) w4:=by
 obtain⟨i,⟨m,n,o,p⟩,p2,c⟩:=g;have bs:=h.bl.size;refine⟨W',m,n,i,.snoc h.tk f,o,p,λk d=>?_,⟨jci h.lo.1 c.size,λd=>?_⟩,⟨c.os.trans h.bl.os,c.tape.trans h.bl.tape,c.output.trans h.bl.output,jcn bs c.size,λk d=>(c.block k (by omega) (λe=>by have:=h.gn k e;omega)).trans (h.bl.block k d)⟩,λj y r=>?_⟩
 ·rcases p2 k d with q|q
  ·exact h.gn k q
  omega
 ·rcases p2 lb d with q|q
  ·exact h.lo.2 q
  have:=h.lo.1;omega
 rw[jch (w:=w3) (a:=AD lb j) (c.block lb h.lo.1 h.lo.2)];exact h.cell j y r
theorem qqn.rd (h:qqn w w3 hb lb L pre out W b Gw G) (c:Gl w) (j:qqx w) (u:pre.length<=100000) {cap:Nat} (m:qfj w3 a cap l) (n:∀x∈l,x.size<=1000000) (q:∀d o,a=some (AD d o)->¬G d):qgm w3 w.heap.size hb b Gw G W pre.length a cap l:=by
 obtain⟨bm,f1,r,f⟩:=j;have s:DkI (qcb 2 2):=DkI.new (by decide) (by decide) (by decide);have t:PlI 0 (qcb 2 2):=PlI.new (by decide) (by decide) (by decide);have i:=h.tk.few t;rw[Nat.zero_add]at i;exact⟨h.hs,h.g,c.later h.bl,⟨bm,(h.bl.cell (p:=AD 0 0) (jci (by decide) c.sz)).trans f1,r.kept (h.bl.block bm f),f⟩,⟨c.sz,h.bl.size⟩,λk v e=>by have:=h.gn k e;omega,i,(h.tk.len s).2,m,n,q,by omega⟩
end
end
section
open Go.RowKit
variable {w:World}
theorem q8q {B:Nat} {v:Value} {ws:List ByteArray} (h:w.ownsRow B 9 1 v ws.length (ws.map Value.string)):∃a cap,v=.slice a ws.length cap/\qfj w a cap ws/\(∀d o,a=some ⟨d,o,none⟩->o=0/\B<=d):=by
 by_cases f:ws=[]
 ·subst f;rcases h.2 with ⟨b,_⟩|⟨g,cap,cur,b,k,_⟩
  ·exact⟨none,0,b,⟨jcd _,λj x c=>by simp at c⟩,λ_ _ e=>by cases e⟩
  exact⟨_,cap,b,⟨jcw _,λj x c=>by simp at c⟩,λ_ _ e=>by injection e with e;injection e with e1 e2;exact⟨e2.symm,by omega⟩⟩
 have l:=List.length_pos_iff.2 f;obtain⟨i,m,rfl,k,n⟩:=h.form l;have p:=h.cells (g:=i) rfl;refine⟨_,m,rfl,⟨?_,λj x c=>⟨i,0,rfl,n,?_⟩⟩,λ_ _ e=>by injection e with e;injection e with e1 e2;exact⟨e2.symm,by omega⟩⟩
 ·rcases h.2 with ⟨h,_⟩|⟨g',s,cur,b,_,_,q,_⟩
  ·cases h
  cases b;exact q
 have:=p j (.string x) (by rw[jcv,c];rfl);rcases Nat.eq_zero_or_pos j with rfl|r
 ·simpa[Addr.add]using this
 simpa[Addr.add,Nat.ne_of_gt r]using this
theorem quz (n:Int):qv [n]=Lib.itoa n:=by simp[qv,Lib.join]
theorem quk {a b c:List UInt8} (e:a++b=c) (h:c.length<=9223372036854775807) (w:World):(Op.stringOp .add (bya a) (bya b)).run Tryz.prog w=.ok (.string (bya c)) w:=by
 rw[<-e,<-jz];exact run_string_add_sum w (bya a) (bya b) (by rw[Lib.size_eq,Lib.size_eq];rw[<-e,jcl]at h;exact h)
theorem TkI.later {wr a:World} {c lb:Nat} {L d:List ByteArray} {e:List UInt8} (h:TkI w c lb L d e wr) (f:Bw wr a):TkI w c lb L d e a:=by
 obtain⟨W,b,Gw,G,h⟩:=h;exact⟨W,b,Gw,G,h.later f⟩
noncomputable def qlq:Code:=(qfe 6 (Tryz.f6.body.getD .skip)).getD .skip
def qrp (s:ByteArray) (w:World) (e:Ending) (w':World):Prop:=∃out,e=.returned (.string (bya out))/\jad s out/\Bw w w'
def qo0 (s:ByteArray) (v:Value) (u:Nat->Value):Array Value:=
 List.toArray (.string s::undef::.string ⟨#[]⟩::v::undef::undef::undef::undef::undef::undef::undef::undef::undef::undef::undef::u 15::u 16::u 17::u 18::u 19::u 20::u 21::u 22::u 23::u 24::u 25::u 26::u 27::u 28::u 29::u 30::u 31::u 32::u 33::u 34::u 35::u 36::undef::undef::undef::undef::undef::undef::undef::undef::undef::undef::undef::undef::undef::undef::undef::undef::undef::undef::undef::undef::undef::undef::undef::undef::undef::undef::undef::undef::undef::undef::undef::undef::undef::undef::undef::undef::undef::undef::undef::undef::undef::undef::undef::undef::undef::undef::undef::undef::undef::undef::undef::undef::[])
theorem q1z (AR:∀i,i<19->yt i) (s:ByteArray) (hs:s.size<=20000) (gl:Gl w) (fm:qqx w) (u:Nat->Value):
 Code.wp Tryz.prog qlq (bodyPost Tryz.prog Tryz.f6 (qrp s w)) ⟨qo0 s (.slice (some ⟨w.heap.size,0,none⟩) (quw s) (zr 10 s).length) u,[]⟩ (w.alloc (.cells ((zr 10 s).map Value.string).toArray 9)):=by
 obtain⟨i0,hi,hz0,hz1,hz2⟩:=info_parts qki;obtain⟨B,hw1⟩:∃v,w.alloc (.cells ((zr 10 s).map Value.string).toArray 9)=v:=⟨_,rfl⟩
 have hb1:Bw w B:=by rw[<-hw1];exact boxed (jcc _ w) _
 have sz1:B.heap.size=w.heap.size+1:=by rw[<-hw1];simp
 have hce:∀(j:Nat) x,(zr 10 s)[j]?=some x->B.cell? ⟨w.heap.size,j,none⟩=some (.string x):=λj x M=>by
  have R:=qd.new (w:=w) (T:=9) ((zr 10 s).map Value.string) rfl;rw[hw1]at R;exact R.cell j _ (by rw[jcv,M];rfl)
 rw[hw1];have hmL:=qle 10 s
 have hlin:quw s<=(zr 10 s).length:=by unfold quw;split<;>omega
 have V:=qy3 s
 generalize hL:zr 10 s=L at hce hmL hlin V
 generalize hN:quw s=N at hlin V
 have HC:=hd3 (λx M=>jcn (hmL.2 x M) hs) (show L.length<=20001 from by omega) V;have E:=hd3 gl fm (@AR);clear hL hN hmL V hs gl fm AR;have NW:Ca 15 #[U 2,U 2] B λe w'=>e=.returned (.tuple #[.pointer (some ⟨B.heap.size+1+1,0,none⟩),U 0])/\∃G,RW w' (B.heap.size+1+1) G (qcb 2 2)/\(∀k,G k->B.heap.size<=k)/\Bw B w':=q42 (n:=2) (c:=2) (by decide) (by decide) (by decide) B;have HB1:=hd3 hb1 sz1 hce;clear hb1 sz1 hce hw1
 conv=>arg 2;whnf
 unfold qo0
 go_wp2_with fail
 refine NW.mono ?_;rintro e w2 ⟨rfl,Gw,R2,hG2,hb2⟩
 have T0:Hid (TkI w w2.heap.size w.heap.size L [] [] (w2.alloc (.cells #[.pointer (some ⟨B.heap.size+1+1,0,none⟩)] 49))):=by
  have O:=boxed (jcc _ w2) (.cells #[.pointer (some ⟨B.heap.size+1+1,0,none⟩)] 49);have b02:=qa HB1.out.1 hb2;have z:=HB1.out.2.1;have H:=hb2.size;refine⟨qcb 2 2,B.heap.size+1+1,Gw,λk=>k=w2.heap.size\/Gw k,.nil,⟨heap_alloc_new w2 _,R2.later O,λe=>by have:=R2.lt _ e;omega⟩,λ_=>jdl,λk hk=>?_,⟨by simp;omega,λhk=>?_⟩,qa b02 O,λj x M=>?_⟩
  ·rcases hk with rfl|e
   ·exact b02.size
   have:=hG2 k e;omega
  ·rcases hk with e|e
   ·omega
   have:=hG2 _ e;omega
  exact(O.cell (p:=⟨w.heap.size,j,none⟩) (by show w.heap.size<_;omega)).trans ((hb2.cell (p:=⟨w.heap.size,j,none⟩) (by show w.heap.size<_;omega)).trans (HB1.out.2.2 j x M))
 clear R2 hG2 hb2 NW HB1
 go_wp2
 go_loopw [7,46] (λov iv wr=>∃(k:Nat) (z:Int) (Q:List UInt8),k<=N/\z=k/\iv=U z/\ov=.string (bya Q)/\Hid (TkI w w2.heap.size w.heap.size L (L.take k) Q wr)) (λ_ iv _=>N-(intOf iv).toNat)
 case atStart=>exact⟨0,0,[],jcw _,rfl,rfl,rfl,T0⟩
 clear T0
 rename World=>wo
 obtain⟨k,z,Q,hk,hz,rfl,rfl,HS⟩:=hrel;have HZ:=hd1 hz;by_cases V:k<N
 ·have g1:z<(N:Int):=by omega
  have g2:0<=z:=by omega
  have g3:z.toNat=k:=by omega
  have hkl:k<L.length:=by omega
  have g8:z<20001:=by have:=HC.out.2.1;omega
  obtain⟨x,M⟩:∃x,L[k]?=some x:=⟨_,jcg hkl⟩;obtain⟨W,b,Gw,G,A⟩:=HS.out;have c0:=A.cell k x M;have hxs:=HC.out.1 x (jcq M);have SP:=qrm 32 x (by omega) wo (E.out.1.later A.bl);have hYm:=qle 32 x;obtain⟨Y,hY⟩:∃Y,zr 32 x=Y:=⟨_,rfl⟩;rw[hY]at SP hYm;have hol:=(A.tk.len (DkI.new (by decide) (by decide) (by decide))).1
  have hpl:(L.take k).length<=20001:=by rw[jc5];have:=HC.out.2.1;omega
  have I:=hd8 A M hY hxs (show Y.length<=20001 from by omega) (λy J=>jcn (hYm.2 y J) hxs) hpl (show Q.length<=8020401 from by omega);clear A M HS hz hxs hYm hY hol hpl hkl
  go_wp2_with fail
  refine SP.mono ?_;rintro e w' ⟨rfl,rfl⟩;obtain⟨K,hw3⟩:∃v,wo.alloc (.cells (Y.map Value.string).toArray 9)=v:=⟨_,rfl⟩
  have R3:qd K wo.heap.size (Y.map Value.string):=by rw[<-hw3];exact qd.new (w:=wo) (T:=9) (Y.map Value.string) rfl
  have B3:Bw wo K:=by rw[<-hw3];exact boxed (jcc _ wo) _
  have H3:=hd2 R3 B3;rw[hw3];clear hw3 R3 B3 SP c0
  go_wp2
  go_loopw [10,53] (λwv iv h=>∃(d:Nat) (H:Int),d<=Y.length/\H=d/\iv=U H/\Hid (h.ownsRow K.heap.size 9 1 wv ((Y.take d).filter neB).length (((Y.take d).filter neB).map Value.string)/\Bw K h)) (λ_ iv _=>Y.length-(intOf iv).toNat)
  case atStart=>exact⟨0,0,jcw _,rfl,rfl,jcx K _ _ _,jcc _ _⟩
  rename World=>h
  obtain⟨d,H,hk2,hz2',rfl,C⟩:=hrel;have HZ2:=hd1 hz2';by_cases hlt2:d<Y.length
  ·have g4:H<(Y.length:Int):=by omega
   have g5:0<=H:=by omega
   have g6:H.toNat=d:=by omega
   have g7:H<20001:=by have:=I.out.2.2.2.2.1;omega
   obtain⟨y,J⟩:∃y,Y[d]?=some y:=⟨_,jcg hlt2⟩;have hwl:=H3.out.1.lt;have cy:=(C.out.2.cell (p:=⟨wo.heap.size,d,none⟩) hwl).trans (H3.out.1.cell d _ (by rw[jcv,J];rfl))
   have etk:(Y.take (d+1)).filter neB=(Y.take d).filter neB++(if neB y=true then [y]else []):=by
        rw[jdu,J,jdk]
        by_cases q:neB y=true<;>simp[q]
   by_cases X:neB y=true
   ·have hne:y.toList.isEmpty=false:=by
     rw[qca];unfold neB at X;simpa[toL]using X
    rw[if_pos X]at etk;have O:=boxed (jcc _ h) (.cells #[.string y] 9);have own2:=qg3 C.out.1 O;have hfl:((Y.take d).filter neB).length<=d:=jcn (jdo _ _) (by rw[jc5];omega);have HB:=hd2 C.out.2 (show ((Y.take d).filter neB).length<=20001 from by have:=I.out.2.2.2.2.1;omega);have HE:=hd1 etk;clear etk hfl O X J hz2'
    generalize hF:(Y.take d).filter neB=F at own2 HB HE C
    go_wp2_with (at_builtin;refine wpList_append_lies _ rfl _ _ 42 rfl K.heap.size 9 i0 (.string ⟨#[]⟩) 1 16 Tryz.underlying42 hi hz0 hz1 hz2 rfl (by decide) _ _ _ rfl own2 ⟨h.heap.size,0,none⟩ 1 1 [.string y] rfl rfl (World.news_of_block (heap_alloc_new h (.cells #[.string y] 9))) ?c2 (by decide) ?c3 ?c4 ?c5 _ rfl ?_)
    case c2=>intro v Z;simp at Z;subst Z;rfl
    case c3=>have:=HB.out.2;unfold maxLen;omega
    case c4=>have:=HB.out.2;omega
    case c5=>have:=HB.out.1.size;simp;omega
    intro m gc w4 own4 gr4 at4 lt4
    have D:Hid (w4.ownsRow K.heap.size 9 1 (.slice (some ⟨m,0,none⟩) (F.length+1) gc) ((Y.take (d+1)).filter neB).length (((Y.take (d+1)).filter neB).map Value.string)/\Bw K w4):=by
     refine⟨by rw[HE.out];simpa using own4,?_⟩;exact(HB.out.1.alloc HB.out.1.size _).grown gr4 (by have:=HB.out.1.size;simp;omega) (λq e=>(own2.lt q e).1)
    clear own4 gr4 at4 lt4 own2 HE C hF
    go_wp2
    go_roundw
    case rel=>exact⟨d+1,H+1,hlt2,by have:=HZ2.out;omega,by go_num,D.out⟩
    simp[intOf];omega
   have hne:y.toList.isEmpty=true:=by
        rw[qca];unfold neB at X;simpa[toL]using X
   rw[if_neg X,jdx]at etk
   have D:Hid (h.ownsRow K.heap.size 9 1 u10 ((Y.take (d+1)).filter neB).length (((Y.take (d+1)).filter neB).map Value.string)/\Bw K h):=by rw[etk];exact C
   clear etk X J hz2' C
   go_wp2
   go_roundw
   case rel=>exact⟨d+1,H+1,hlt2,by have:=HZ2.out;omega,by go_num,D.out⟩
   simp[intOf];omega
  have g4:¬H<(Y.length:Int):=by omega
  have hk3:d=Y.length:=by omega
  subst hk3;rw[jc9,show Y.filter neB=qa9 x by rw[qp4,I.out.2.2.1]]at C;obtain⟨a,cp,rfl,hst,han⟩:=q8q C.out.1;have B4:=qa H3.out.2 C.out.2;have A4:=I.out.1.later B4;have hsm:∀y∈qa9 x,y.size<=20000:=λy J=>I.out.2.2.2.2.2.1 y (by rw[qp4,I.out.2.2.1]at J;exact(jdq.1 J).1)
  have hpre:L.take k++[x]=L.take (k+1):=by rw[jdu,I.out.2.1];rfl
  generalize hws:qa9 x=ws at hst hsm C
  have hBw:=H3.out.2.size;have f:=hd7 A4 hws hsm hpre I.out.2.2.2.2.2.2.2 I.out.2.2.2.2.2.2.1 (show ∀q,K.heap.size<=q->¬G q from λq hq e=>by have:=I.out.1.lt q e;omega);clear A4 B4 hsm hpre hws C I H3 hz2' hBw;rcases ws with _|⟨y,l⟩
  ·have AD1:=quk (a:=[111,107]) (b:=[10]) rfl (by decide);have AD2:=quk (a:=Q) (b:=[111,107,10]) rfl (by have:=f.out.2.2.2.2.1;simp;omega)
   have D:Hid (TkI w w2.heap.size w.heap.size L (L.take (k+1)) (Q++[111,107,10]) h):=by
        have q:=f.out.1.step (x:=x) (W':=W) (told:=[111,107]) (by unfold qas;rw[f.out.2.1];exact⟨rfl,rfl⟩) (f.out.1.hs.same f.out.1.g (jcc _ _));rw[f.out.2.2.2.1,jcy]at q;exact q
   clear f hst han
   go_wp2
   go_roundw
   case rel=>exact⟨k+1,z+1,_,V,by have:=HZ.out;omega,by go_num,rfl,D.out⟩
   simp[intOf];omega
  obtain⟨m,o,rfl,hgl,cy⟩:=hst.cell 0 y rfl;obtain⟨rfl,hgB⟩:=han m o rfl;have hcl:=hst.cap;have hgG:=f.out.2.2.2.2.2.2 m hgB;have hbd:Bw h h.drew:=(jcc _ _).drew;have AD:=f.out.1.later hbd;have S0K:jg (λq=>q=m) h h:=jg.refl _ _;have KD:=vy S0K;have CY:∀w',jg (λq=>q=m) h w'->w'.cell? ⟨m,0,none⟩=some (.string y):=λw' kp=>(jch (w:=h) (a:=⟨m,0,none⟩) (kp.block m rfl)).trans cy;have HKB:Hid (∀P {er:Int} {t:List UInt8},(∃W',qas W x W' (if er=0 then t else qgt er)/\wfI er/\qbi (hsP w2.heap.size W') h.drew G P)->jg (λq=>q=m) h P):=λP _ _ ⟨_,_,_,_,_,_,S⟩=>⟨S.os,S.tape,S.output,S.size,λq e=>S.block q (by rw[e];exact hgl) (by rw[e];exact hgG)⟩;clear han;by_cases hcp:cp=1;subst hcp
  obtain rfl:l=[]:=by
   rcases l with _|⟨v,r⟩
   ·rfl
   simp at hcl
  have DO:Hid (Ca 16 #[.pointer (some ⟨w2.heap.size,0,none⟩),.string y,.slice (some ⟨m,0,none⟩) 0 0] h.drew (jai W x h.drew w2.heap.size G)):=qt3 E.out.2.2 (AD.rd E.out.1 E.out.2.1 (by have:=f.out.2.2.2.2.2.1;omega) (cap:=0) (a:=some ⟨m,0,none⟩) (l:=[]) ⟨by simp,λj y J=>by simp at J⟩ (by simp) (λbk o e=>by injection e with e;injection e with e1 e2;rw[<-e1];exact hgG)) f.out.2.1 (by have:=f.out.2.2.1 y (by simp);unfold maxLen;omega)
  rotate_left
  obtain⟨c,rfl⟩:∃c,cp=c+1+1:=⟨cp-2,by simp at hcl;omega⟩
  have b1:(l.length:Int)<=(c:Int)+1:=by simp at hcl;omega
  have b2:(l.length:Int)+1<=(c:Int)+1+1:=by omega
  have b3:(1:Int)<=(l.length:Int)+1:=by omega
  have DO:=hd1 (qt3 E.out.2.2 (AD.rd E.out.1 E.out.2.1 (by have:=f.out.2.2.2.2.2.1;omega) (cap:=c+1) (a:=some ⟨m,1,none⟩) (l:=l) (by
   have:=(hst.later hbd).tail
   simpa using this) (λv Z=>by have:=f.out.2.2.1 v (by simp[Z]);omega) (λbk o e=>by injection e with e;injection e with e1 e2;rw[<-e1];exact hgG)) f.out.2.1 (by have:=f.out.2.2.1 y (by simp);unfold maxLen;omega))
  all_goals
   clear hst hcl AD hbd cy
   dsimp only[List.length_cons,List.length_nil,Nat.zero_add]
   go_upto_region 21 with fail
   go_region_held3 (λw'=>jg (λq=>q=m) h w') (repeat (first|(with_reducible assumption)|(with_reducible refine vy ?_))) (first
        |(go_at_call 16
          with_reducible refine DO.out.mono ?_
          rintro e P ⟨t,er,rfl,HL⟩
          have KB:=HKB.out P HL.out))
   all_goals
        obtain⟨W',hans,hwe,hL⟩:=HL.out;have hD:=(f.out.1.tk.len (DkI.new (by decide) (by decide) (by decide))).2;have tl:=hans.len hD;obtain⟨S,htt⟩:∃v,(if er=0 then t else qgt er)=v:=⟨_,rfl⟩;rw[htt]at hans tl;obtain⟨T1,hT1⟩:∃v,S++[10]=v:=⟨_,rfl⟩;obtain⟨out2,hout2⟩:∃v,Q++T1=v:=⟨_,rfl⟩;have hol:=f.out.2.2.2.2.1;have AD1:=quk hT1 (by rw[<-hT1];simp;omega);have AD2:=quk hout2 (by rw[<-hout2,<-hT1];simp;omega)
        have D:Hid (TkI w w2.heap.size w.heap.size L (L.take (k+1)) out2 P):=by
         have q:=(f.out.1.later (jcc _ _).drew).step (x:=x) (W':=W') (told:=S) hans hL;rw[f.out.2.2.2.1,jcy,hT1,hout2]at q;exact q
        by_cases h0:er=0
        ·subst h0;rw[if_pos rfl]at htt;subst htt;clear hans hwe hL hD tl hT1 hout2 hol HL KB DO CY S0K KD HKB f E
         go_wp2
         go_roundw
         case rel=>exact⟨k+1,z+1,_,V,by have:=HZ.out;omega,by go_num,rfl,D.out⟩
         simp[intOf];omega
        have h1:=beq_false_of_ne h0
        have h2:(er !=0)=true:=by show (!(er==0))=true;rw[h1];rfl
        rw[if_neg h0]at htt;have AD0:=quk (a:=[101,114,114,111,114,32]) (b:=Lib.itoa er) (c:=S) htt (by omega);have O:=boxed (jcc _ P) (.cells #[U er] 3);obtain⟨_,_,_,_,AB⟩:=D.out
        have WD:=qb7 (b:=P.heap.size) (o:=0) (cap:=1) (l:=[er]) (by simp) (by simp) (by simpa using hwe) (P.alloc (.cells #[U er] 3)) (E.out.1.later (qa AB.bl O)) (by simp) (λj v Z=>by
         rcases j with _|j
         ·have:=(qd.new (w:=P) (T:=3) [U er] rfl).c 0;simp at Z;subst Z;exact this
         simp at Z)
        rw[quz]at WD;have HBZ:=hd1 O;clear hans hwe hL hD tl hT1 hout2 hol HL KB DO CY S0K KD HKB f E htt O AB h0
        go_wp2_with fail
        refine WD.mono ?_;rintro e w5 ⟨rfl,hb5⟩;have FIN2:=hd1 ((D.out.later HBZ.out).later hb5);clear D HBZ hb5 WD
        go_wp2
        go_roundw
        case rel=>exact⟨k+1,z+1,_,V,by have:=HZ.out;omega,by go_num,rfl,FIN2.out⟩
        simp[intOf];omega
 have g1:¬z<(N:Int):=by omega
 have hkN:k=N:=by omega
 subst hkN
 have D:Hid (qrp s w (.returned (.string (bya Q))) wo):=by
  obtain⟨W,b,Gw,G,A⟩:=HS.out;exact⟨Q,rfl,⟨W,by rw[HC.out.2.2];exact A.tk⟩,A.bl⟩
 clear HS HC E
 go_wp2
 go_ret;exact D.out
end
section
open Go.RowKit
theorem q6k (m:∀i,i<19->yt i) (s:ByteArray) (h:s.size<=20000) (w:World) (l:Gl w) (o:qqx w):
 Ca 6 #[.string s] w (qrp s w):=by
 have f:=qrm 10 s (by omega) w l
 have x:¬20000<(s.size:Int):=by omega
 have c:=λu=>q1z m s h l o u;have j:=(qle 10 s).1;have R:=qd.new (w:=w) (T:=9) ((zr 10 s).map Value.string) rfl
 have d:quw s=if 1<(zr 10 s).length/\(zr 10 s).getLast?=some ⟨#[]⟩then (zr 10 s).length-1 else (zr 10 s).length:=rfl
 generalize r:w.alloc (.cells ((zr 10 s).map Value.string).toArray 9)=w1 at f c R
 generalize zr 10 s=L at f c R j d
 generalize quw s=N at c d
 clear r l o m;by_cases p:1<L.length
 ·obtain⟨y,k⟩:∃y,L[L.length-1]?=some y:=⟨_,jcg (by omega)⟩;have B:=R.cell (L.length-1) _ (show (L.map Value.string)[L.length-1]?=some (.string y) by rw[jcv,k];rfl);rw[List.getLast?_eq_getElem?,k]at d
  generalize L.length=n at*
  obtain⟨z,t⟩:∃z:Int,(n:Int)-1=z:=⟨_,rfl⟩
  have v:(1:Int)<n:=by omega
  have C:0<=z:=by omega
  have D:z<n:=by omega
  have E:z.toNat=n-1:=by omega
  have F:z<=n:=by omega
  have G:(n:Int)<=20001:=by omega
  have W1:wrap64 ((n:Int)-1)=z:=by rw[t];unfold wrap64;omega
  by_cases e:y=⟨#[]⟩
  ·subst e;rw[if_pos ⟨p,rfl⟩]at d;subst d;have g:=hd1 c;clear c R k j h;go_enter Tryz.func6,Tryz.ntmps6
   go_wp2_with fail
   refine f.mono ?_;rintro e w' ⟨rfl,rfl⟩;clear f
   go_upto_region 5 with fail
   iterate 18 go_step
   repeat (first|exact g.out (λn=>List.getD (undef::undef::undef::undef::undef::undef::undef::undef::undef::undef::undef::undef::undef::undef::undef::_::_::_::_::_::_::_::_::_::_::_::_::_::_::_::_::_::_::_::_::_::_::[]) n undef)|go_step)
  have H:y.toList.isEmpty=false:=by
   rw[qca];cases q:y.data.toList with
   |nil=>exact absurd (show y=⟨#[]⟩from(show y=bya y.data.toList from rfl).trans (by rw[q])) e
   |cons a b=>simp[toL,q]
  rw[if_neg (λq=>e (jcu q.2))]at d;subst d;have g:=hd1 c;clear c R k j h e;go_enter Tryz.func6,Tryz.ntmps6
  go_wp2_with fail
  refine f.mono ?_;rintro e w' ⟨rfl,rfl⟩;clear f
  go_upto_region 4 with fail
  iterate 18 go_step
  repeat (first|exact g.out (λn=>List.getD (undef::undef::undef::undef::undef::undef::undef::undef::undef::undef::undef::undef::undef::undef::undef::_::_::_::_::_::_::_::_::_::_::_::_::_::_::_::_::_::_::_::_::_::_::[]) n undef)|go_step)
 rw[if_neg (λq=>p q.1)]at d;subst d;have g:=hd1 c
 have v:¬(1:Int)<L.length:=by omega
 clear c R j h;go_enter Tryz.func6,Tryz.ntmps6
 go_wp2_with fail
 refine f.mono ?_;rintro e w' ⟨rfl,rfl⟩;clear f
 go_upto_region 4 with fail
 iterate 12 go_step
 repeat (first|exact g.out (λn=>List.getD (undef::undef::undef::undef::undef::undef::undef::undef::undef::undef::undef::undef::undef::undef::undef::_::_::_::_::_::_::_::_::_::_::_::_::_::_::_::_::_::_::_::_::_::_::[]) n undef)|go_step)
end
theorem q52 (a:yt 9):∀i,i<19->yt i:=
 qzg (p:=yt) @q2i @q91 @q2p @q5g @qzs @qy0 @que @q5k @q4e @a @q6s @q7l @q5j @q4y @q4a @q09 @q05 @q0y @q3c
open Go.RowKit
theorem q2f (s:ByteArray) (a:20000<s.size) (w:World):
 Ca 6 #[.string s] w (Rn (.string (bya [101,114,114,111,114,32,52,10])) w):=by
 have b:20000<(s.size:Int):=by omega
 clear a;go_enter Tryz.func6,Tryz.ntmps6
 go_wp2
 go_ret;exact⟨rfl,jcc _ _⟩
theorem qqx.later {w w':World} (h:qqx w) (c:10<=w.heap.size) (a:Bw w w'):qqx w':=by
 obtain⟨bm,f1,d,b⟩:=h;exact⟨bm,(a.cell (p:=AD 0 0) (jci (by decide) c)).trans f1,d.kept (a.block bm b),jci b a.size⟩
theorem qs3 (s:ByteArray) (w:World) (g:Gl w) (i:qqx w):
 Ca 4 #[.string s] w (Rn (.bool true) w):=by
 by_cases t:30000<(s.size:Int)
 ·have p:3000<(s.size:Int):=by omega
  have q:¬(s.size:Int)<=20000:=by omega
  go_enter Tryz.func4,Tryz.ntmps4
  go_wp2
  go_ret;exact⟨rfl,jcc _ _⟩
 by_cases p:3000<(s.size:Int)
 ·by_cases q:(s.size:Int)<=20000
  ·go_enter Tryz.func4,Tryz.ntmps4
   go_wp2
   go_ret;exact⟨rfl,jcc _ _⟩
  have c:=qti s (by omega) (by omega) w g;have d:=λw'=>q2f s (by omega) w';have r:=q93 (bya [101,114,114,111,114,32,52,10]) (bya [101,114,114,111,114,32,52,10]);go_enter Tryz.func4,Tryz.ntmps4
  go_wp2_with fail
  refine c.mono ?_;rintro e a ⟨rfl,b⟩;have f:=d a;clear d c
  go_wp2_with fail
  refine f.mono ?_;rintro e w2 ⟨rfl,h⟩;have j:=qa b h;clear f b h g i
  go_wp2
  go_ret;exact⟨rfl,j⟩
 have c:=quu s (by omega) w g;have d:=λ(a:World) (l:Bw w a)=>q6k (q52 @q5l) s (by omega) a (g.later l) (i.later g.sz l);go_enter Tryz.func4,Tryz.ntmps4
 go_wp2_with fail
 refine c.mono ?_;rintro e a ⟨m,rfl,⟨A,n⟩,b⟩;have f:=d a b;have k:=hd2 n b;clear d c n b g i
 go_wp2_with fail
 refine f.mono ?_;rintro e w2 ⟨u,rfl,⟨v,o⟩,h⟩;obtain⟨_,rfl⟩:=qd8.det k.out.1 o;have j:=qa k.out.2 h
 have r:((bya m).toList==(bya m).toList)=true:=by rw[q93];simp
 clear f h o k
 go_wp2
 go_ret;exact⟨rfl,j⟩
end Go.Proofs.YtoanjdndmlffdaaGreatDoor
