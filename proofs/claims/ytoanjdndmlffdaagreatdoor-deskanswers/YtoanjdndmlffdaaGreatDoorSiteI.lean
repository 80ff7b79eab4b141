/-
  PROVED: whatever its argument is, the law 'copselaw.DeskAnswers' returns true, and its argument reads behind the call as before it; the package-level variables on its road start as the program's text lays them, which the card ties ('Rows.DeskAnswersCardSaid' whole; the tie is the given one; it speaks of the pruned copy of the project).
-/
import Derived.Test.YtoanjdndmlffdaaGreatDoorSiteH
import Derived.Shelf.Strings.BuilderK
import Derived.LaidMore
import Derived.Lay
import Derived.Test.YtoanjdndmlffdaaGreatDoorTie
import Derived.Test.YtoanjdndmlffdaaGreatDoorCards
set_option maxHeartbeats 8000000
set_option maxRecDepth 1000000
namespace Go.Proofs.YtoanjdndmlffdaaGreatDoor
section
theorem q7d {a b c d:Int} (h:∀x∈[a,b,c,d],wfI x):(qv [a,b,c,d]).length<=88:=by have:=ze h;simpa using this
variable {W W':WoS} {t:List UInt8}
theorem qaa.len {i:Nat} {l:List Int} {d:ByteArray} {er:Int} (g:DkI W) (h:qaa i W l d W' er t) (v:er=0):t.length<=400:=by
 have n:=h;unfold qaa at h;split at h
 case h_5 k=>
  obtain⟨at_,p0,p1,p2,p3,s0,s1,s2,s3,I,e,C,_⟩:=qq2 (b:=0) (G:=λ_=>False) k g;rw[(qaa.det (n.data (d':=⟨#[]⟩) (by decide)) C.cmd).2.2];split
  ·have l1:(qv [at_]).length<=22:=by have:=ze (l:=[at_]) (λx f=>C.wf x (by simp at f;simp[f]));simpa using this
   have p:=q7d (a:=p0) (b:=p1) (c:=p2) (d:=p3) (λx f=>C.wf x (by simp at f ⊢;rcases f with e|e|e|e<;>simp[e]));have o:=q7d (a:=s0) (b:=s1) (c:=s2) (d:=s3) (λx f=>C.wf x (by simp at f ⊢;rcases f with e|e|e|e<;>simp[e]))
   split<;>simp only[jcl,List.length_cons,List.length_nil]<;>omega
  simp
 case h_6 k=>
  obtain⟨a,b,c,d,w,z,A,B,e,J,told,C,_⟩:=qrx (b:=0) (G:=λ_=>False) k g;obtain⟨_,D,E⟩:=qaa.det (n.data (d':=⟨#[]⟩) (by decide)) C.cmd;rw[E,C.yes (D▸v)];have p:=q7d (a:=a) (b:=b) (c:=c) (d:=d) (λx f=>C.wf x (by simp at f ⊢;rcases f with e|e|e|e<;>simp[e]));have o:=q7d (a:=w) (b:=z) (c:=A) (d:=B) (λx f=>C.wf x (by simp at f ⊢;rcases f with e|e|e|e<;>simp[e]));split
  ·decide
  simp only[jcl,List.length_cons,List.length_nil];omega
 case h_12=>
  obtain⟨j,m⟩:=g.pl;have:=m.wf.net;rw[h.1]
  have l1:=ze (l:=[(W.net.length:Int),W.lost]) (λx f=>by
   simp at f;rcases f with rfl|rfl
   ·exact⟨by omega,by omega⟩
   exact g.lost)
  simp at l1;omega
 case h_14 k key=>
  have h:=h.2;split at h
  ·rename_i q;obtain⟨i,rfl,hi,e⟩:=zq q;obtain⟨j,m⟩:=g.pl;have:=qjc (S:=W.S (W.at_ i)) (s:=W.ses i) (key:=key) (g.ses i hi) (m.wf.inv _ (m.wf.at_ i hi));rw[h.1,e];rw[Lib.size_eq]at this;simp only[jcl,List.length_cons,List.length_nil];omega
  rw[h.1];simp
 case h_15 k=>
  obtain⟨a0,a1,a2,a3,r,u,e,F,C,_⟩:=q0p (b:=0) (G:=λ_=>False) k g;rw[(qaa.det (n.data (d':=⟨#[]⟩) (by decide)) C.cmd).2.2];split
  ·have p:=q7d (a:=a0) (b:=a1) (c:=a2) (d:=a3) (λx f=>C.wf x (by simp at f ⊢;rcases f with e|e|e|e<;>simp[e]))
   have l1:(qv [r,u]).length<=44:=by have:=ze (l:=[r,u]) (λx f=>C.wf x (by simp at f ⊢;rcases f with e|e<;>simp[e]));simpa using this
   have o:=qgl 13 (F.map (·.data.toList)) (λy H=>by obtain⟨x,f,rfl⟩:=jcz.1 H;exact C.ts x f);rw[jdh,C.tl]at o;simp only[jcl,List.length_cons,List.length_nil];omega
  simp
 case h_20=>exact h.elim
 all_goals (rw[h.1];decide)
theorem qas.len {c:ByteArray} (d:DkI W) (h:qas W c W' t):t.length<=400:=by
 have er:∀n:Int,Few n->(qgt n).length<=400:=λn b=>by
  have:=Lib.itoa_length_le n b.wf.1 b.wf.2;unfold qgt;simp only[jcl,List.length_cons,List.length_nil];omega
 unfold qas at h;split at h
 ·rw[h.2];decide
 split at h
 ·rw[h.2];exact er 3 jaf
 obtain⟨e,u,a,rfl⟩:=h;split
 ·rename_i f;unfold qc2 at a;split at a
  ·rw[a.2.2];simp
  exact a.len d f
 exact er e a.few
theorem qas.keeps {b:ByteArray} (a:DkI W) (h:qas W b W' t):DkI W':=by
 unfold qas at h;split at h
 ·rw[h.1];exact a
 split at h
 ·rw[h.1];exact a
 obtain⟨e,u,c,_⟩:=h;exact a.does c
end
theorem qd8.len {W A:WoS} {l:List ByteArray} {s:List UInt8} (b:DkI W) (h:qd8 W l s A):s.length<=401*l.length/\DkI A:=by
 induction h with
 |nil=>exact⟨by simp,b⟩
 |snoc h1 h2 ih=>
  obtain⟨c,a⟩:=ih;have:=h2.len a;refine⟨?_,h2.keeps a⟩;simp only[jcl,List.length_cons,List.length_nil];omega
theorem qvc (s:List UInt8):(qao s).length<=s.length+1/\∀x∈qao s,x.length<=s.length:=by
 induction s with
 |nil=>simp[qao]
 |cons c r ih=>
  rw[qg4];by_cases e:c=10
  ·rw[if_pos e];refine⟨by simp only[List.length_cons];have:=ih.1;omega,λx a=>?_⟩;rcases jdd.1 a with rfl|q
   ·simp
   have:=ih.2 x q;simp only[List.length_cons];omega
  rw[if_neg e];cases h:qao r with
  |nil=>exact absurd h (qrs r)
  |cons y z=>
   rw[h]at ih;refine⟨by have:=ih.1;simp only[List.length_cons]at this ⊢;omega,λx a=>?_⟩;rcases jdd.1 a with rfl|q
   ·have:=ih.2 y (by simp);simp only[List.length_cons];omega
   have:=ih.2 x (by simp[q]);simp only[List.length_cons];omega
theorem q4v (s:List UInt8):(Lib.trimSuffix s [10]).length<=s.length:=by
 unfold Lib.trimSuffix;split
 ·simp
 exact jcd _
theorem qu7 (s:List UInt8):(qfq s).length<=s.length+1/\∀x∈qfq s,x.length<=s.length:=by
 have h:=qvc (Lib.trimSuffix s [10]);have:=q4v s;exact⟨by have:=h.1;unfold qfq;omega,λx a=>jcn (h.2 x a) this⟩
section
open Go.RowKit
def zr (c:UInt8) (s:ByteArray):List ByteArray:=(vm c s.data.toList).map bya
theorem qrm (c:UInt8) (s:ByteArray) (o:s.size<=1000000) (w:World) (g:Gl w):Ca 14 #[.string s,.string ⟨#[c]⟩] w λe w'=>e=.returned (.slice (PT w.heap.size) (zr c s).length (zr c s).length)/\w'=w.alloc (.cells ((zr c s).map Value.string).toArray 9):=by
 obtain⟨m,j⟩:=g.ml;have d:1<=(⟨#[c]⟩:ByteArray).size:=jcd _;have k:Lib.countB s ⟨#[c]⟩=s.data.toList.count c:=Lib.count_one c _
 have f:Lib.splitB ⟨#[c]⟩ 0 (Lib.countB s ⟨#[c]⟩) s=zr c s:=by
  have q:=Lib.splitB_data ⟨#[c]⟩ 0 (Lib.countB s ⟨#[c]⟩) s;rw[show (⟨#[c]⟩:ByteArray).data.toList=[c]from rfl,qu2 c _ _ (by rw[k];exact jcd _)]at q;unfold zr;rw[<-q,List.map_map]
  conv=>lhs;rw[<-List.map_id (Lib.splitB ⟨#[c]⟩ 0 (Lib.countB s ⟨#[c]⟩) s)]
  rfl
 have n:Lib.countB s ⟨#[c]⟩+1=(zr c s).length:=by rw[<-f,Lib.splitB_all ⟨#[c]⟩ d 0 _ s rfl]
 refine(jee s ⟨#[c]⟩ m w (by omega) j d).mono λe w' ⟨h,i⟩=>?_;rw[n]at h;rw[f]at i;exact⟨h,i⟩
def neB (y:ByteArray):Bool:=decide (y.data.toList≠[])
theorem qp4 (s:ByteArray):qa9 s=(zr 32 s).filter neB:=by
 rw[qwu];unfold zr;rw[List.filter_map];rfl
theorem qx2 (c:UInt8) (s:List UInt8):(vm c s).length<=s.length+1/\∀x∈vm c s,x.length<=s.length:=by
 induction s with
 |nil=>simp[vm]
 |cons d r ih=>
  unfold vm;by_cases e:d=c
  ·rw[if_pos e];refine⟨by simp only[List.length_cons];have:=ih.1;omega,λx f=>?_⟩;rcases jdd.1 f with rfl|q
   ·simp
   have:=ih.2 x q;simp only[List.length_cons];omega
  rw[if_neg e];cases h:vm c r with
  |nil=>exact absurd h (qh9 c r)
  |cons y z=>
   rw[h]at ih;refine⟨by have:=ih.1;simp only[List.length_cons]at this ⊢;omega,λx f=>?_⟩;rcases jdd.1 f with rfl|q
   ·have:=ih.2 y (by simp);simp only[List.length_cons];omega
   have:=ih.2 x (by simp[q]);simp only[List.length_cons];omega
theorem qle (c:UInt8) (s:ByteArray):(zr c s).length<=s.size+1/\∀x∈zr c s,x.size<=s.size:=by
 have h:=qx2 c s.data.toList;rw[<-Lib.size_eq]at h;refine⟨by unfold zr;rw[jdh];exact h.1,λx d=>?_⟩;obtain⟨y,e,rfl⟩:=jcz.1 d;have:=h.2 y e;rw[Lib.size_eq];exact this
def quw (s:ByteArray):Nat:=if 1<(zr 10 s).length/\(zr 10 s).getLast?=some ⟨#[]⟩then (zr 10 s).length-1 else (zr 10 s).length
theorem qy3 (s:ByteArray):(qfq s.data.toList).map bya=(zr 10 s).take (quw s):=by
 have d:(vm 10 s.data.toList).getLast?=some []↔(zr 10 s).getLast?=some ⟨#[]⟩:=by
  unfold zr;rw[List.getLast?_map];cases (vm 10 s.data.toList).getLast? with
  |none=>simp
  |some x=>
   simp only[Option.map_some,Option.some.injEq]
   constructor
   ·rintro rfl;rfl
   intro e;have:=congrArg (λy:ByteArray=>y.data.toList) e;simpa using this
 have c:(zr 10 s).length=(vm 10 s.data.toList).length:=by unfold zr;rw[jdh]
 rw[quq];unfold quw;by_cases q:1<(zr 10 s).length/\(zr 10 s).getLast?=some ⟨#[]⟩
 ·rw[if_pos q,if_pos ⟨by rw[<-c];exact q.1,d.2 q.2⟩,c,List.dropLast_eq_take];unfold zr;rw[List.map_take]
 rw[if_neg q,if_neg (λe=>q ⟨by rw[c];exact e.1,d.1 e.2⟩),jc9];rfl
def jai (W:WoS) (line:ByteArray) (w:World) (hb:Nat) (G:Nat->Prop) (e:Ending) (w':World):Prop:=
 ∃(t:List UInt8) (er:Int),e=.returned (.tuple #[.string (bya t),U er])/\Hid (∃W',qas W line W' (if er=0 then t else qgt er)/\wfI er/\qbi (hsP hb W') w G w')
variable {a:Option Addr} {l:List ByteArray}
theorem qt3 (m:∀i,i<19->yt i) {w:World} {n hb b j cap:Nat} {Gw G:Nat->Prop} {W:WoS} (h:qgm w n hb b Gw G W j a cap l) {d x:ByteArray} (f:qa9 d=x::l) (o:x.size<=maxLen):
 Ca 16 #[PP hb,.string x,.slice a l.length cap] w (jai W d w hb G):=by
 cases hn:qc9.idxOf? x.data.toList with
 |none=>
  refine(qzx h x o (quh hn)).mono λe w' ⟨c,p⟩=>?_;subst p;refine⟨[],3,c,W,?_,⟨by decide,by decide⟩,h.hs.same h.g (jcc _ _)⟩;unfold qas;rw[f]
  dsimp only
  rw[hn];exact⟨rfl,rfl⟩
 |some i=>
  obtain⟨hi,r⟩:=qmv hn
  obtain rfl:x=bya (qn i):=by rw[<-r]
  refine(q3b hi (m i hi) h).mono λe w' ⟨told,er,c,W',t,k,s,u⟩=>?_;refine⟨told,er,c,W',?_,k.few.wf,u⟩;unfold qas;rw[f]
  dsimp only
  rw[hn];refine⟨er,t,k,?_⟩;by_cases q:er=0
  ·rw[if_pos q,if_pos q,s q]
  rw[if_neg q,if_neg q]
def qqx (w:World):Prop:=∃bm,w.cell? (AD 0 0)=some (.map (some bm))/\qsf w bm/\bm<w.heap.size
structure qqn (w wr:World) (hb lb:Nat) (L pre:List ByteArray) (out:List UInt8) (W:WoS) (b:Nat) (Gw G:Nat->Prop):Prop where
 tk:qd8 (qcb 2 2) pre out W
 hs:qhp wr hb b Gw W
 g:∀k,G k↔(k=hb\/Gw k)
 gn:∀k,G k->w.heap.size<=k
 lo:lb<wr.heap.size/\¬G lb
 bl:Bw w wr
 cell:∀(j:Nat) x,L[j]?=some x->wr.cell? (AD lb j)=some (.string x)
def TkI (w:World) (hb lb:Nat) (L pre:List ByteArray) (out:List UInt8) (wr:World):Prop:=∃W b Gw G,qqn w wr hb lb L pre out W b Gw G
section
variable {w wr w3 w4:World} {hb lb b:Nat} {L pre:List ByteArray} {out told:List UInt8} {W W':WoS} {Gw G:Nat->Prop} {x:ByteArray}
theorem qqn.lt (h:qqn w wr hb lb L pre out W b Gw G) (k:Nat) (c:G k):k<wr.heap.size:=by
 rcases(h.g k).1 c with rfl|e
 ·exact h.hs.lt
 exact h.hs.rw.lt k e
theorem qqn.later (h:qqn w wr hb lb L pre out W b Gw G) (c:Bw wr w3):qqn w w3 hb lb L pre out W b Gw G:=
 ⟨h.tk,h.hs.later c,h.g,h.gn,⟨jci h.lo.1 c.size,h.lo.2⟩,qa h.bl c,λj x d=>(c.cell (p:=AD lb j) h.lo.1).trans (h.cell j x d)⟩
theorem qqn.step (h:qqn w w3 hb lb L pre out W b Gw G) (f:qas W x W' told) (g:qbi (hsP hb W') w3 G w4):TkI w hb lb L (pre++[x]) (out++told++[10]) w4:=by
 obtain⟨i,⟨m,n,o,p⟩,p2,c⟩:=g;have bs:=h.bl.size;refine⟨W',m,n,i,.snoc h.tk f,o,p,λk d=>?_,⟨jci h.lo.1 c.size,λd=>?_⟩,⟨c.os.trans h.bl.os,c.tape.trans h.bl.tape,c.output.trans h.bl.output,jcn bs c.size,λk d=>(c.block k (by omega) (λe=>by have:=h.gn k e;omega)).trans (h.bl.block k d)⟩,λj y r=>?_⟩
 ·rcases p2 k d with q|q
  ·exact h.gn k q
  omega
 ·rcases p2 lb d with q|q
  ·exact h.lo.2 q
  have:=h.lo.1;omega
 rw[jch (w:=w3) (a:=AD lb j) (c.block lb h.lo.1 h.lo.2)];exact h.cell j y r
theorem qqn.rd (h:qqn w w3 hb lb L pre out W b Gw G) (c:Gl w) (j:qqx w) (u:pre.length<=100000) {cap:Nat} (m:qfj w3 a cap l) (n:∀x∈l,x.size<=1000000) (q:∀d o,a=some (AD d o)->¬G d):qgm w3 w.heap.size hb b Gw G W pre.length a cap l:=by
 obtain⟨bm,f1,r,f⟩:=j;have s:DkI (qcb 2 2):=DkI.new (by decide) (by decide) (by decide);have t:PlI 0 (qcb 2 2):=PlI.new (by decide) (by decide) (by decide);have i:=h.tk.few t;rw[Nat.zero_add]at i;exact⟨h.hs,h.g,c.later h.bl,⟨bm,(h.bl.cell (p:=AD 0 0) (jci (by decide) c.sz)).trans f1,r.kept (h.bl.block bm f),f⟩,⟨c.sz,h.bl.size⟩,λk v e=>by have:=h.gn k e;omega,i,(h.tk.len s).2,m,n,q,by omega⟩
end
end
section
open Tryz Go.RowKit
structure qlo (w:World) (cb mb b:Nat) (Gw G:Nat->Prop) (W:WoS) (j:Nat):Prop where
 ck:qe3 w cb mb b Gw W
 g:∀k,G k↔(k=cb\/k=mb\/Gw k)
 gl:Gl w
 gn:∀k,k<10->¬G k
 wi:PlI j W
 di:DkI W
def qig (W:WoS) (line:ByteArray) (w:World) (cb mb:Nat) (G:Nat->Prop) (e:Ending) (w':World):Prop:=
 ∃told,e=.returned (.string (bya told))/\∃W',qas W line W' told/\qbi (ckP cb mb W') w G w'
variable {w:World} {B:Nat} {v:Value}
theorem qlg {tmps:Array Value} (a:w.cell? (AD B 0)=some v) (c:tmps[4]?=some (PP B)):(results f11 tmps).run prog w=.ok v w:=by
 simp[results,results11,go_sem,a,c]
variable {w1 wt:World} {cb mb:Nat} {G:Nat->Prop} {W':WoS}
theorem qwn {a:World} (c:Bw w w1) (h:qbi (ckP cb mb W') w1 G wt) (f:w.heap.size<=B) (r:B<w1.heap.size) (g:∀k,G k->k<w.heap.size) (m:Bw wt a):qbi (ckP cb mb W') w G (a.setCell (AD B 0) v):=by
 obtain⟨d,p1,p2,o⟩:=qe3.after h m
 have n:∀k,d k->k≠B:=λk p e=>by
  subst e;rcases p2 k p with q|q
  ·have:=g k q;omega
  omega
 refine⟨d,p1.kept (λk e=>jce _ _ _ _ (n k e)) (by simp[World.setCell]),λk e=>?_,qbl ((qc.ofBelow c).trans o) f v⟩;rcases p2 k e with q|q
 ·exact .inl q
 exact .inr (jcn c.size q)
theorem qlt {n:Nat} (R:qd w1 B [v]) (h:qbi (ckP cb mb W') w1 G wt) (c:∀k,G k->k<n) (d:n<=B):qd wt B [v]:=by
 obtain⟨e,p1,p2,a⟩:=h;exact R.kept (a.block B R.lt (λq=>by have:=c B q;omega)) a.size
theorem q72 (g:Gl w1) (h:qbi (ckP cb mb W') w1 G wt) (c:∀k,k<10->¬G k):Gl wt:=by
 obtain⟨e,p1,p2,a⟩:=h;have:=g.sz;exact g.kept (λk d=>a.block k (by omega) (c k d)) a.size
variable {b j:Nat} {Gw:Nat->Prop} {W:WoS}
theorem qlo.ltG (h:qlo w cb mb b Gw G W j):∀k,G k->k<w.heap.size:=λk a=>by
 rcases(h.g k).1 a with rfl|rfl|e
 ·exact h.ck.ltc
 ·exact h.ck.map.lt
 exact h.ck.pw.lt k e
theorem qoj {d:ByteArray} {n:Int} {tmps:Array Value} (h:qlo w cb mb b Gw G W j) (g:Bw w w1) (R:qd w1 w.heap.size [v]) (a:qbi (ckP cb mb W') w1 G wt) (m:wfI n) (o:qas W d W' (qgt n)) (p:tmps[4]?=some (PP w.heap.size)):
 Leaves prog f11 tmps (qig W d w cb mb G) [{target:=.fn (.func 25) #[PP w.heap.size],args:=#[]}] (.panicking [{v:=.iface 26 (U n),recovered:=false}]) wt:=by
 have c:=qlt R a h.ltG (jcd _);refine leaves_cons (f:=25) (args:=#[PP w.heap.size]) (by simp) (by simp[go_sem]) ?_;refine(qny (AD w.heap.size 0) v n m [] wt (q72 (h.gl.later g) a h.gn) (c.cell 0 _ rfl) (c.free 0 (by simp))).mono ?_;rintro e q r ⟨rfl,rfl,w2,k,rfl⟩;exact⟨_,qlg (((c.later k).set 0 (.string (bya (qgt n))) (by simp)).cell 0 _ rfl) p,qgt n,rfl,W',o,qwn g a (jcd _) R.lt h.ltG k⟩
theorem q0g {a:ByteArray} {told:List UInt8} {tmps:Array Value} (h:qlo w cb mb b Gw G W j) (d:Bw w w1) (R:qd w1 w.heap.size [v]) (c:qbi (ckP cb mb W') w1 G wt) (g:qas W a W' told) (k:tmps[4]?=some (PP w.heap.size)):
 Leaves prog f11 tmps (qig W a w cb mb G) [{target:=.fn (.func 25) #[PP w.heap.size],args:=#[]}] .returning (wt.setCell (AD w.heap.size 0) (.string (bya told))):=by
 have m:=qlt R c h.ltG (jcd _);refine leaves_cons (f:=25) (args:=#[PP w.heap.size]) (by simp) (by simp[go_sem]) ?_;refine(qo4 (AD w.heap.size 0) _).mono ?_;rintro e n w2 ⟨rfl,rfl,rfl⟩;exact⟨_,qlg ((m.set 0 (.string (bya told)) (by simp)).cell 0 _ rfl) k,told,rfl,W',g,qwn d c (jcd _) R.lt h.ltG (jcc _ _)⟩
theorem qsp (h:qlo w cb mb b Gw G W j) {a:ByteArray} (s:a.size<=20000) (k:qa9 a=[]):
 Ca 11 #[PP cb,.string a] w (qig W a w cb mb G):=by
 have hmf:∀(fn:Fn) (m cap:Array Value) (w:World),(Instr.makeFunc fn m cap).run prog w=.ok (.func fn m cap) w:=λ_ _ _ _=>rfl;have n:=qkj a (by omega) (w.alloc (.cells #[.string ⟨#[]⟩] 9));rw[k]at n;have c:=hd2 h k;have p:=boxed (jcc w.heap.size w) (.cells #[.string ⟨#[]⟩] 9)
 go_enter_defers func11,ntmps11
 go_wp2_with fail
 refine n.mono ?_;rintro e w1 ⟨A,rfl,t,u,o⟩;have d:=(qd.new (w:=w) (T:=9) [.string ⟨#[]⟩] rfl).later o;have y:=d.cell 0 _ rfl;have f1:=d.free 0 (by simp)
 have q:Hid (qig W a w cb mb G (.returned (.string ⟨#[111,107]⟩)) (w1.setCell (AD w.heap.size 0) (.string ⟨#[111,107]⟩))):=by
  refine⟨[111,107],rfl,W,?_,c.out.1.ck.same c.out.1.g (jdz (qa p o) (jcd _) _)⟩;unfold qas;rw[c.out.2];exact⟨rfl,rfl⟩
 have r:=(d.set 0 (.string ⟨#[111,107]⟩) (by simp)).cell 0 _ rfl
 go_wp2
 refine leaves_cons (f:=25) (args:=#[PP w.heap.size]) (by simp) (by simp[go_sem]) ?_;refine(qo4 (AD w.heap.size 0) _).mono ?_;rintro e z w2 ⟨rfl,rfl,rfl⟩;exact⟨_,qlg r rfl,q.out⟩
variable {x:ByteArray} {l:List ByteArray}
theorem qt5 (h:qlo w cb mb b Gw G W j) {a:ByteArray} (C:a.size<=20000) (n:qa9 a=x::l) (t:x.size<=maxLen) (o:qc9.idxOf? x.data.toList=none):
 Ca 11 #[PP cb,.string a] w (qig W a w cb mb G):=by
 have hmf:∀(fn:Fn) (p cap:Array Value) (w:World),(Instr.makeFunc fn p cap).run prog w=.ok (.func fn p cap) w:=λ_ _ _ _=>rfl;have q:=qkj a (by omega) (w.alloc (.cells #[.string ⟨#[]⟩] 9));rw[n]at q;have c:=hd3 h n o;have u:=boxed (jcc w.heap.size w) (.cells #[.string ⟨#[]⟩] 9)
 go_enter_defers func11,ntmps11
 go_wp2_with fail
 refine q.mono ?_;rintro e w1 ⟨A,rfl,D,y,r⟩;have d:=(qd.new (w:=w) (T:=9) [.string ⟨#[]⟩] rfl).later r;have E:=d.cell 0 _ rfl;have f1:=d.free 0 (by simp);have s:=qa u r;have f:=c.out.1.ck.later s;have F:=f.cell1;obtain⟨H,I,k,J,K⟩:=y.cell 0 x rfl;injection k with k;injection k with e1 e2;subst e1;subst e2;have L:=zm.lacks (w:=w1.drew) (f.map.kept rfl) t (quh o);have m:=hd3 s d (f.same c.out.1.g (jcc _ _).drew)
 have z:Hid (qas W a W (qgt 3)):=by
  show qas W a W (qgt 3);unfold qas;rw[c.out.2.1]
  dsimp only
  rw[c.out.2.2];exact⟨rfl,rfl⟩
 dsimp only[List.length_cons]at*
 have M:∀w:World,(binOp .eql 65 .nilFunc .nilFunc).run prog w=.ok (.bool true) w:=λ_=>by kernel_rfl
 go_wp2
 go_region
 all_goals
  go_wp2
  exact qoj c.out.1 m.out.1 m.out.2.1 m.out.2.2 ⟨by decide,by decide⟩ z.out rfl
theorem qrl:∀i,i<19->∀(args:Array Value) (w:World),(callFunc (q3p i) args).run prog w=.ok (.enter (q3p i) args) w
 |0,_=>λ_ _=>by kernel_rfl
 |1,_=>λ_ _=>by kernel_rfl
 |2,_=>λ_ _=>by kernel_rfl
 |3,_=>λ_ _=>by kernel_rfl
 |4,_=>λ_ _=>by kernel_rfl
 |5,_=>λ_ _=>by kernel_rfl
 |6,_=>λ_ _=>by kernel_rfl
 |7,_=>λ_ _=>by kernel_rfl
 |8,_=>λ_ _=>by kernel_rfl
 |9,_=>λ_ _=>by kernel_rfl
 |10,_=>λ_ _=>by kernel_rfl
 |11,_=>λ_ _=>by kernel_rfl
 |12,_=>λ_ _=>by kernel_rfl
 |13,_=>λ_ _=>by kernel_rfl
 |14,_=>λ_ _=>by kernel_rfl
 |15,_=>λ_ _=>by kernel_rfl
 |16,_=>λ_ _=>by kernel_rfl
 |17,_=>λ_ _=>by kernel_rfl
 |18,_=>λ_ _=>by kernel_rfl
 |n+19,h=>absurd h (by omega)
variable {i:Nat}
theorem qx8 (N:qmx 9) (h:qlo w cb mb b Gw G W j) {m:ByteArray} (hl:m.size<=20000) (u:qa9 m=[x]) (O:x.size<=maxLen) (z:qc9.idxOf? x.data.toList=some i):
 Ca 11 #[PP cb,.string m] w (qig W m w cb mb G):=by
 have hmf:∀(fn:Fn) (C cap:Array Value) (w:World),(Instr.makeFunc fn C cap).run prog w=.ok (.func fn C cap) w:=λ_ _ _ _=>rfl;obtain⟨hi,P⟩:=qmv z;have D:=qkj m (by omega) (w.alloc (.cells #[.string ⟨#[]⟩] 9));rw[u]at D;have k:=hd3 h u z;have Q:=boxed (jcc w.heap.size w) (.cells #[.string ⟨#[]⟩] 9)
 go_enter_defers func11,ntmps11
 go_wp2_with fail
 refine D.mono ?_;rintro e w1 ⟨A,rfl,hA,R,E⟩;have p:=(qd.new (w:=w) (T:=9) [.string ⟨#[]⟩] rfl).later E;have c1:=p.cell 0 _ rfl;have f1:=p.free 0 (by simp);have F:=qa Q E;have q:=k.out.1.ck.later F;have cm:=q.cell1;have r:Bw w1 w1.drew:=(jcc _ _).drew;have H:=qa F r;have S:=qvl N i hi (w:=w1.drew) (cb:=cb) (mb:=mb) (b:=b) (j:=j) (cap:=0) (Gw:=Gw) (G:=G) (W:=W) (a:=some (AD A 0)) (l:=[]) ⟨q.later r,k.out.1.g,k.out.1.gl.later H,k.out.1.gn,k.out.1.wi,k.out.1.di,⟨by simp,λj y V=>by simp at V⟩,by simp⟩;obtain⟨A',o',s,hlt,cx⟩:=R.cell 0 x rfl;injection s with s;injection s with e1 e2;subst e1;subst e2;have LK:(Instr.lookup 55 (.map (some mb)) (.string x) false).run prog w1.drew=.ok (.func (.func (q3p i)) #[PP cb] #[]) w1.drew:=zm.held (w:=w1.drew) (q.map.kept rfl) O hi P;have FE:=qrl i hi;have n:=hd2 H (p.later r)
 have eqn:∀(w:World) (f:Fn) (c d:Array Value),(binOp .eql 65 (.func f c d) .nilFunc).run prog w=.ok (.bool false) w:=λ_ _ _ _=>by kernel_rfl
 dsimp only[List.length_cons,List.length_nil,Nat.reduceAdd]at*
 go_wp2
 go_region
 all_goals
  go_wp2_with fail
  refine S.mono ?_;rintro e w2 ⟨W',er,told,I,X,J⟩;have K:=hd1 J;have Y:=I.few.wf
  have L:Hid (qas W m W' (if er=0 then told else qgt er)):=by
   show qas W m W' (if er=0 then told else qgt er);unfold qas;rw[k.out.2.1]
   dsimp only
   rw[k.out.2.2];exact⟨er,told,I,rfl⟩
  have M:=qlt n.out.2 J k.out.1.ltG (jcd _);have c2:=M.cell 0 _ rfl;have f2:=M.free 0 (by simp);rcases X with ⟨t,rfl⟩|⟨t,rfl⟩
  ·have o:=L.out;rw[if_pos t]at o;have Z:=hd1 o
   go_wp2
   exact q0g k.out.1 n.out.1 n.out.2 K.out Z.out rfl
  have o:=L.out;rw[if_neg t]at o;exact qoj k.out.1 n.out.1 n.out.2 K.out Y o rfl
theorem qyh (P:qmx 9) (h:qlo w cb mb b Gw G W j) {m y:ByteArray} (hl:m.size<=20000) (u:qa9 m=x::y::l) (Q:x.size<=maxLen) (R:∀z∈y::l,z.size<=1000000) (C:qc9.idxOf? x.data.toList=some i):
 Ca 11 #[PP cb,.string m] w (qig W m w cb mb G):=by
 have hmf:∀(fn:Fn) (D cap:Array Value) (w:World),(Instr.makeFunc fn D cap).run prog w=.ok (.func fn D cap) w:=λ_ _ _ _=>rfl;obtain⟨hi,S⟩:=qmv C;have E:=qkj m (by omega) (w.alloc (.cells #[.string ⟨#[]⟩] 9));rw[u]at E;have k:=hd3 h u C;have V:=boxed (jcc w.heap.size w) (.cells #[.string ⟨#[]⟩] 9)
 go_enter_defers func11,ntmps11
 go_wp2_with fail
 refine E.mono ?_;rintro e w1 ⟨A,rfl,hA,F,H⟩;have q:=(qd.new (w:=w) (T:=9) [.string ⟨#[]⟩] rfl).later H;have c1:=q.cell 0 _ rfl;have f1:=q.free 0 (by simp);have I:=qa V H;have r:=k.out.1.ck.later I;have cm:=r.cell1;have p:Bw w1 w1.drew:=(jcc _ _).drew;have J:=qa I p
 have X:=qvl P i hi (w:=w1.drew) (cb:=cb) (mb:=mb) (b:=b) (j:=j) (cap:=l.length+1) (Gw:=Gw) (G:=G) (W:=W) (a:=some (AD A 1)) (l:=y::l) ⟨r.later p,k.out.1.g,k.out.1.gl.later J,k.out.1.gn,k.out.1.wi,k.out.1.di,by
  have:=(F.later p).tail
  simpa using this,R⟩
 obtain⟨A',o',s,hlt,cx⟩:=F.cell 0 x rfl;injection s with s;injection s with e1 e2;subst e1;subst e2;have LK:(Instr.lookup 55 (.map (some mb)) (.string x) false).run prog w1.drew=.ok (.func (.func (q3p i)) #[PP cb] #[]) w1.drew:=zm.held (w:=w1.drew) (r.map.kept rfl) Q hi S;have FE:=qrl i hi;have n:=hd2 J (q.later p)
 have eqn:∀(w:World) (f:Fn) (c d:Array Value),(binOp .eql 65 (.func f c d) .nilFunc).run prog w=.ok (.bool false) w:=λ_ _ _ _=>by kernel_rfl
 dsimp only[List.length_cons]at*
 go_wp2
 go_region
 all_goals
  go_wp2_with fail
  refine X.mono ?_;rintro e w2 ⟨W',er,told,K,Y,L⟩;have M:=hd1 L;have Z:=K.few.wf
  have N:Hid (qas W m W' (if er=0 then told else qgt er)):=by
   show qas W m W' (if er=0 then told else qgt er);unfold qas;rw[k.out.2.1]
   dsimp only
   rw[k.out.2.2];exact⟨er,told,K,rfl⟩
  have O:=qlt n.out.2 L k.out.1.ltG (jcd _);have c2:=O.cell 0 _ rfl;have f2:=O.free 0 (by simp);rcases Y with ⟨t,rfl⟩|⟨t,rfl⟩
  ·have o:=N.out;rw[if_pos t]at o;have HA:=hd1 o
   go_wp2
   exact q0g k.out.1 n.out.1 n.out.2 M.out HA.out rfl
  have o:=N.out;rw[if_neg t]at o;exact qoj k.out.1 n.out.1 n.out.2 M.out Z o rfl
end
section
open Go.RowKit
theorem qx4 (s:ByteArray):∀x∈qa9 s,x.size<=s.size:=λx a=>by
 unfold qa9 Lib.goFieldsP at a;obtain⟨p,_,rfl⟩:=jcz.1 a;rw[ByteArray.size_extract];omega
theorem qy1 (f:qmx 9) {w:World} {cb mb b j:Nat} {Gw G:Nat->Prop} {W:WoS} (h:qlo w cb mb b Gw G W j) {a:ByteArray} (c:a.size<=20000):
 Ca 11 #[PP cb,.string a] w (qig W a w cb mb G):=by
 have d:=qx4 a;cases hw:qa9 a with
 |nil=>exact qsp h c hw
 |cons x l=>
  rw[hw]at d
  have e:x.size<=maxLen:=by have:=d x (by simp);simp only[maxLen];omega
  cases hn:qc9.idxOf? x.data.toList with
  |none=>exact qt5 h c hw e hn
  |some i=>
   cases l with
   |nil=>exact qx8 f h c hw e hn
   |cons y l=>exact qyh f h c hw e (λz q=>by have:=d z (by simp only[jdd]at q ⊢;exact .inr q);omega) hn
end
section
open Go.RowKit Go.Maps
theorem q34 (x:List UInt8):x∈qc9↔∃i,i<19/\x=qn i:=by
 constructor
 ·intro h;obtain⟨i,hi,e⟩:=jdm.1 h;exact⟨i,hi,by unfold qn;rw[jdp,jcg hi];exact e.symm⟩
 rintro ⟨i,hi,rfl⟩;unfold qn;rw[jdp,jcg (show i<qc9.length from hi)];exact jdr _
theorem qup {w:World} {mb cb:Nat} {D:DataW Value} (h:w.ownsMap Tryz.prog 9 qcd mb 19 D) (d:qow D cb 19) {a:List (List UInt8)} (b:a.Perm (Go.strKeys D)):a.mergeSort (λx y=>decide (x<=y))=qc9:=by
 have c:Go.Collected D (λ_=>false) qc9:=⟨by decide,λx=>by
  rw[q34]
  constructor
  ·rintro ⟨i,hi,rfl⟩;exact⟨(d.has i hi).1,rfl⟩
  rintro ⟨q,_⟩;rcases g.em (∃i,i<19/\x=qn i)with e|e
  ·exact e
  have:=(d.no x (λi hi f=>e ⟨i,hi,f⟩)).1;rw[q]at this
  cases this⟩
 exact qu9 (b.trans (c.perm h qhg Tryz.underlying9 (λ_=>rfl)).symm)
end
section
open Go.RowKit
theorem q9g:qmx 9:=λ{w cb mb b j cap Gw G W a l} h=>by
 show Ca 55 #[PP cb,.slice a l.length cap] w (jm 9 W l w cb mb G);have i:=hd1 h;have C:=qpc h.sm w h.gl h.st;go_enter Tryz.func55,Tryz.ntmps55
 go_wp2_with fail
 refine C.mono ?_;rintro e r ⟨k,(⟨m,rfl⟩|⟨m,rfl⟩)⟩
 ·have s:=i.out.ck.later k;have T:=s.cell1;obtain⟨D,own,d⟩:=s.map;have F:=callsIn_wide.1 (jef (some mb) r);have H:=callsIn_wide.1 (jd3 mb 19 D qcd r own (by rw[d.size];decide) (by rw[d.size];decide));have t:=hd2 own d;have I:=hd1 k
  go_wp2_with fail
  refine F.mono ?_;rintro e w2 ⟨rfl,rfl⟩
  go_wp2_with fail
  refine H.mono ?_;rintro e f ⟨v,J,rfl,K,n,_,L⟩;have E:=qup t.out.1 t.out.2 K
  have M:J.length=19:=by have:=congrArg List.length E;rw[List.length_mergeSort]at this;exact this
  rw[E,M]at n;obtain⟨_,(⟨_,N⟩|⟨g,u,cur,rfl,V,O,P,X,Y,Z⟩)⟩:=id n
  ·cases N
  have o:=jd1 g 0 u (qc9.map bya) ⟨#[32]⟩ f (λq y z=>by
   rw[Nat.zero_add];rw[jcv]at z;obtain⟨x,B,rfl⟩:=Option.map_eq_some_iff.1 z;have Q:q<19:=(jck.1 B).1;rw[n.cellAt q (by rw[Nat.mul_one];exact Q),jcv,B]
   rfl) (jcs.1 O).1 (by decide) P (by decide)
  replace o:Ca 42 #[.slice (PT g) 19 u,.string ⟨#[32]⟩] f λe w'=>e=.returned (.string (bya (Lib.join qc9 [32])))/\Bw f w':=o;have R:Hid (∀c,Bw f c->jm 9 W l w cb mb G (.returned (.string (bya (Lib.join qc9 [32])))) c):=λc p=>i.out.told (by decide) m.out ⟨rfl,rfl,rfl⟩ (qa (qa (boxed I.out _) L) p) (.inl ⟨rfl,rfl⟩)
  go_wp2_with fail
  refine o.mono ?_;rintro e c ⟨rfl,p⟩;have S:=R.out c p
  go_wp2
  go_ret;exact S
 exact⟨rfl,i.out.no (by decide) m.out k⟩
end
section
open Go.RowKit
def jal (cb:Nat) (w w':World):Prop:=∃mb G,qvq cb mb (qcb 2 2) w' G/\(∀k,G k->w.heap.size<=k)/\Bw w w'/\Gl w'
theorem qsk (w:World) (g:Gl w):Ca 8 #[] w λe w'=>∃cb,e=.returned (PP cb)/\jal cb w w':=by
 have f:=hd1 g;have r:=boxed (jcc w.heap.size w) (.cells #[.pointer none,.map none] 57);have s:=q02 w.heap.size (w.alloc (.cells #[.pointer none,.map none] 57));go_enter Tryz.func8,Tryz.ntmps8
 go_wp2_with fail
 refine s.mono ?_;rintro e d ⟨rfl,h,l⟩
 have n:(w.alloc (.cells #[.pointer none,.map none] 57)).heap.size=w.heap.size+1:=by simp
 rw[n]at h;have i:=(l.block w.heap.size (by rw[n];omega)).trans (by show (w.heap.push _)[w.heap.size]?=_;exact Array.getElem?_push_size)
 have G:d.cell? (AD w.heap.size 1)=some (.map none):=by rw[Lib.cell_of_heap i];rfl
 have f1:=Lib.frozen_of_heap i 1
 have t:(d.setCell (AD w.heap.size 1) (.map (some (w.heap.size+1)))).heap[w.heap.size]?=some (.cells #[.pointer none,.map (some (w.heap.size+1))] 57 (0,0)):=by simp[World.setCell,Array.getElem?_modify,i]
 have u:=qa r l;have o:Bw w (d.setCell (AD w.heap.size 1) (.map (some (w.heap.size+1)))):=jdz u (jcd _) _;have l1:=h.lt;have v:=qkq 2 2 _ t (f.out.later o);have x:=hd2 (show zm (d.setCell (AD w.heap.size 1) (.map (some (w.heap.size+1)))) (w.heap.size+1) w.heap.size 19 from h.kept (jce _ _ _ _ (by show w.heap.size+1≠w.heap.size;omega))) o
 go_wp2_with fail
 refine v.mono ?_;rintro e y (⟨p,rfl,z,j,B,C,D,a⟩|⟨p,_⟩)
 rotate_left
 ·exact absurd (by omega) p
 have E:Hid (jal w.heap.size w y):=by
  obtain⟨m,b⟩:=x.out;have H:=b.size;have F:=m.lt
  have q:∀k,j k->w.heap.size+1<k:=λk c=>by have:=D k c;omega
  refine⟨w.heap.size+1,λk=>k=w.heap.size\/k=w.heap.size+1\/j k,⟨z,j,⟨B,m.kept (a.block _ F (by omega)),C,by omega,λe=>by have:=q _ e;omega,λe=>by have:=q _ e;omega⟩,λ_=>jdl⟩,λk c=>?_,?_,?_⟩
  ·rcases c with rfl|rfl|e
   ·exact jcd _
   ·omega
   have:=q k e;omega
  ·exact⟨a.os.trans b.os,a.tape.trans b.tape,a.output.trans b.output,jcn b.size a.size,λk c=>(a.block k (by omega) (by omega)).trans (b.block k c)⟩
  have I:=f.out.sz;exact(f.out.later b).kept (λk c=>a.block k (by omega) (by omega)) a.size
 go_wp2
 go_ret;exact⟨_,rfl,E.out⟩
end
section
open Go.RowKit
structure qko (w0:World) (B cb mb tb:Nat) (X Z:Nat->Prop) (W:WoS) (out:List UInt8) (A:World) (G H:Nat->Prop):Prop where
 ck:qvq cb mb W A G
 bl:qht B tb out A H
 ap:∀k,G k->¬H k
 xz:∀k,X k->Z k/\k<w0.heap.size
 gx:∀k,k<10->X k
 z:∀k,Z k->¬G k/\¬H k
 gl:Gl A
 kp:jg X w0 A
section
variable {w0 A A':World} {B cb mb tb:Nat} {X Z G H:Nat->Prop} {W W':WoS} {out out':List UInt8}
theorem qko.later (h:qko w0 B cb mb tb X Z W out A G H) (a:Bw A A'):qko w0 B cb mb tb X Z W out A' G H:=
 ⟨h.ck.kept (λk e=>a.block k (h.ck.lt k e)) a.size,h.bl.kept (λk e=>a.block k (h.bl.lt k e)),h.ap,h.xz,h.gx,h.z,h.gl.later a,h.kp.trans ⟨a.os,a.tape,a.output,a.size,λk e=>a.block k (jci (h.xz k e).2 h.kp.size)⟩⟩
theorem qko.puts (h:qko w0 B cb mb tb X Z W out A G H) {q:Nat} (d:Z q) (f:¬X q) (o:Obj):qko w0 B cb mb tb X Z W out (A.putObj q o) G H:=by
 have b:∀k,k≠q->(A.putObj q o).heap[k]?=A.heap[k]?:=λk g=>World.putObj_heap_other g
 have c:A.heap.size<=(A.putObj q o).heap.size:=by simp
 exact⟨h.ck.kept (λk e=>b k (λa=>(h.z q d).1 (a▸e))) c,h.bl.kept (λk e=>b k (λa=>(h.z q d).2 (a▸e))),h.ap,h.xz,h.gx,h.z,h.gl.kept (λk e=>b k (λa=>f (a▸h.gx k e))) c,h.kp.trans ⟨rfl,rfl,rfl,c,λk e=>b k (λa=>f (a▸e))⟩⟩
theorem qko.ans (h:qko w0 B cb mb tb X Z W out A G H) (f:∀k,Z k->k<A.heap.size) (g:qbi (ckP cb mb W') A G A'):∃c,qko w0 B cb mb tb X Z W' out A' c H/\jg Z A A':=by
 obtain⟨c,p1,p2,a⟩:=g;have d:jg Z A A':=⟨a.os,a.tape,a.output,a.size,λk e=>a.block k (f k e) (h.z k e).1⟩;refine⟨c,⟨p1,h.bl.kept (λk e=>a.block k (h.bl.lt k e) (λq=>h.ap k q e)),λk e b=>?_,h.xz,h.gx,λk e=>⟨λb=>?_,(h.z k e).2⟩,h.gl.kept (λk e=>d.block k (h.xz k (h.gx k e)).1) a.size,h.kp.trans ⟨a.os,a.tape,a.output,a.size,λk e=>d.block k (h.xz k e).1⟩⟩,d⟩
 ·rcases p2 k e with q|q
  ·exact h.ap k q b
  have:=h.bl.lt k b;omega
 rcases p2 k b with q|q
 ·exact(h.z k e).1 q
 have:=f k e;omega
theorem qko.wrote (h:qko w0 B cb mb tb X Z W out A G H) (f:∀k,Z k->k<A.heap.size) (g:qbi (q2z B tb out') A H A'):∃b,qko w0 B cb mb tb X Z W out' A' G b/\jg Z A A':=by
 obtain⟨b,p1,p2,a⟩:=g;have c:jg Z A A':=⟨a.os,a.tape,a.output,a.size,λk e=>a.block k (f k e) (h.z k e).2⟩;refine⟨b,⟨h.ck.kept (λk e=>a.block k (h.ck.lt k e) (h.ap k e)) a.size,p1,λk e d=>?_,h.xz,h.gx,λk e=>⟨(h.z k e).1,λd=>?_⟩,h.gl.kept (λk e=>c.block k (h.xz k (h.gx k e)).1) a.size,h.kp.trans ⟨a.os,a.tape,a.output,a.size,λk e=>c.block k (h.xz k e).1⟩⟩,c⟩
 ·rcases p2 k d with q|q
  ·exact h.ap k e q
  have:=h.ck.lt k e;omega
 rcases p2 k d with q|q
 ·exact(h.z k e).2 q
 have:=f k e;omega
theorem qko.answer (h:qko w0 B cb mb tb X Z W out A G H) (c:DkI W) {a:ByteArray} (d:a.size<=20000):
 Ca 11 #[PP cb,.string a] A (qig W a A cb mb G):=by
 obtain⟨b,Gw,f,g⟩:=h.ck;obtain⟨j,i⟩:=c.pl;exact qy1 q9g ⟨f,g,h.gl,λk e=>(h.z k (h.xz k (h.gx k e)).1).1,i,c⟩ d
end
def SsI (w0:World) (B cb mb tb:Nat) (X Z:Nat->Prop) (pre:List ByteArray) (A:World):Prop:=∃W out G H,qd8 (qcb 2 2) pre out W/\qko w0 B cb mb tb X Z W out A G H
end
section
open Go.RowKit
theorem q60 (s:ByteArray) (w:World):Ca 9 #[.string s] w λe w'=>e=.returned (.func (.func 21) #[] #[PP w.heap.size])/\w'=w.alloc (.cells #[.string s] 9):=by
 have hmf:∀(fn:Fn) (a cap:Array Value) (w:World),(Instr.makeFunc fn a cap).run Tryz.prog w=.ok (.func fn a cap) w:=λ_ _ _ _=>rfl;go_enter Tryz.func9,Tryz.ntmps9
 go_wp2
 go_ret;exact⟨rfl,rfl⟩
def jam (s:List UInt8) (pre:List ByteArray) (rest:List UInt8) (more:Bool):Prop:=rest.length<=s.length/\(qfq s).map bya=pre++if more=true then (qao rest).map bya else []
def q6r:Value->Nat
 |.string b=>b.size
 |_=>0
def jao:Value->Nat
 |.bool true=>1
 |_=>0
theorem qym (n:Nat) (hn:1<=n) (s:ByteArray) (C:s.size<=20000) (B:Nat) (w:World) (D:B<w.heap.size) (E:w.cell? (AD B 0)=some (.string s)):
 q6w Fence.wide n Tryz.prog 21 #[PP B] (λx:ByteArray=>#[.string x]) ((qfq s.data.toList).map bya) Gl w:=λl J W F G H I K=>by
 have c0:=(F.cell (p:=AD B 0) D).trans E
 have L:s.data.toList.length<=20000:=by rw[<-Lib.size_eq];exact C
 have M:=jd7 s ⟨#[10]⟩ W (by omega);refine callsIn_of_wp Tryz.func21 rfl trivial ?_ rfl;simp only[Tryz.ntmps21,List.size_toArray,List.length_cons,List.length_nil,Nat.reduceAdd,Nat.reduceSub,Array.replicate_succ,Array.replicate_zero,List.push_toArray,List.append_toArray,jda,jdj]
 gi_wp2_with (refine⟨trivial,?_⟩;gi_at_call 22;refine(callsIn_wide.2 M).mono ?_;rintro e w' ⟨rfl,rfl⟩)
 have N:=hd1 L
 gi_loopw [3,4] (λd g wr=>∃(a:List ByteArray) (r:List UInt8) (m:Bool),d=.string ⟨r.toArray⟩/\g=.bool m/\Hid (jam s.data.toList a r m)/\J a wr) (λd g _=>q6r d+jao g)
 case atStart=>exact⟨[],_,true,rfl,rfl,⟨by unfold Lib.trimSuffix;split<;>simp,by simp[qfq]⟩,K⟩
 obtain⟨a,r,m,rfl,rfl,b,h⟩:=hrel;cases m with
 |false=>
  gi_wp2
  go_end0;have e:=b.out.2;simp only[Bool.false_eq_true,if_false,jdx]at e;rw[e];exact⟨⟨_,rfl⟩,h⟩
 |true=>
  obtain⟨k,O⟩:=(G _ _ h).ml;have i:=jer ⟨r.toArray⟩ ⟨#[10]⟩ k wr (by have:=b.out.1;have:=N.out;show r.toArray.size<_;simp;omega) O;obtain⟨⟨x,y,f⟩,c⟩:∃z,Lib.cut r [10]=z:=⟨_,rfl⟩;have j:=qxi r;have o:=q4q r;rw[c]at j o
  replace i:Ca 23 #[.string ⟨r.toArray⟩,.string ⟨#[10]⟩] wr λe w'=>e=.returned (.tuple #[.string ⟨x.toArray⟩,.string ⟨y.toArray⟩,.bool f])/\∃q,w'=wr.drewN q:=i.mono λe w' ⟨t,q,P⟩=>by
   have Q:Lib.cut (⟨r.toArray⟩:ByteArray).data.toList (⟨#[10]⟩:ByteArray).data.toList=(x,y,f):=c;rw[Q]at t;exact⟨t,q,P⟩
  have hsz:=b.out.1;have e:=b.out.2;rw[if_pos rfl,j]at e
  have R:Hid (∃rest,(qfq s.data.toList).map bya=a++bya x::rest/\jam s.data.toList (a++[bya x]) y f/\y.length+(if f=true then 1 else 0)<r.length+1):=by
   cases f with
   |true=>
    have l1:=o rfl;simp only at l1;simp only[if_true]at e ⊢;exact⟨(qao y).map bya,by rw[e];rfl,⟨by omega,by rw[e];simp⟩,by omega⟩
   |false=>
    simp only[Bool.false_eq_true,if_false]at e ⊢
    have S:y=[]:=by
     have q:(Lib.cut r [10]).2.2=false:=by rw[c]
     have:(Lib.cut r [10]).2.1=[]:=by
         unfold Lib.cut at q ⊢;split at q
         ·cases q
         rename_i u;rw[if_neg u]
     rw[c]at this;exact this
    subst S;exact⟨[],by rw[e];rfl,⟨by simp,by rw[e];simp⟩,by simp⟩
  obtain⟨rest,T,V,X⟩:=R.out;have v:=hd2 V X;have Y:Hid (∀q,YieldAt Fence.wide (n-1) Tryz.prog l #[.string ⟨x.toArray⟩] (wr.drewN q) λe W'=>e=.returned (.bool true)/\J (a++[bya x]) W'):=λq=>I a (bya x) rest (wr.drewN q) (H _ _ _ h ⟨rfl,rfl,rfl,jcd _,λ_ _=>rfl⟩) T
  gi_wp2_with (refine⟨trivial,?_⟩;gi_at_call 23;refine(callsIn_wide.2 i).mono ?_;rintro e w' ⟨rfl,q,rfl⟩)
  obtain⟨fn,tmps,assign,body,Z,hR⟩:=Y.out q;rw[Z]
  gi_wp2
  refine hR.mono ?_;rintro e W3 ⟨rfl,hJ3⟩
  gi_wp2
  go_roundw
  case rel=>exact⟨_,y,f,rfl,rfl,v.out.1,hJ3⟩
  have:=v.out.2
  cases f<;>simp[q6r,jao,Lib.size_eq]at this ⊢<;>omega
end
section
open Go.RowKit Go.Shelf
attribute [local go_sem] Oper.semAt_some
theorem qqq {B b:Nat} {l:List UInt8} {G:Nat->Prop} (w:World) (h:qht B b l w G) (c:B<=w.heap.size):
 Ca 13 #[PP b] w λe w'=>e=.returned (.string (bya l))/\Below B w w'/\∀(k:Nat) D,w.heap[k]?=some (Obj.deferred D)->w'.heap[k]?=some (Obj.deferred D):=
 (Any.Builder_String_any_k je5 jd8 B b l w (Lib.IsBuilderF.of h.is) c).mono λe w' ⟨d,_,f,g⟩=>⟨d,f,λk D a=>g k _ a (λe=>by
  injection e with e;subst e;obtain⟨_,_,_,_,q,_⟩:=h;rw[a]at q
  cases q) (λ_ _ e=>by cases e)⟩
def jad (s:ByteArray) (out:List UInt8):Prop:=∃A,qd8 (qcb 2 2) ((qfq s.data.toList).map bya) out A
theorem quu (s:ByteArray) (Z:s.size<=20000) (w:World) (g:Gl w):
 Ca 5 #[.string s] w λe w'=>∃c,e=.returned (.string (bya c))/\jad s c/\Bw w w':=by
 refine(callsIn_wide (n:=6)).1 ?_;have NC:=qsk w g;have HG:=hd1 g
 have hmany:¬20000<(s.size:Int):=by omega
 have F:=hd1 Z;refine callsIn_of_wp_marks Tryz.func5 rfl trivial ?_ rfl;simp only[Tryz.ntmps5,List.size_toArray,List.length_cons,List.length_nil,Nat.reduceAdd,Nat.reduceSub,Array.replicate_succ,Array.replicate_zero,List.push_toArray,List.append_toArray,jda,jdj]
 gi_wp2_with (refine⟨trivial,?_⟩;gi_at_call 8;refine(callsIn_wide.2 NC).mono ?_;rintro e a ⟨cb,rfl,HN⟩)
 gi_wp2_with (refine⟨trivial,?_⟩;gi_at_call 9;refine(callsIn_wide.2 (q60 s _)).mono ?_;rintro e w' ⟨rfl,rfl⟩)
 obtain⟨mb,G,I,hgn,J,g1⟩:=HN;obtain⟨b,f⟩:∃b,((a.alloc (.cells #[PP cb] 27)).alloc (.cells #[.pointer none,.slice none 0 0] 32)).alloc (.cells #[.string s] 9)=b:=⟨_,rfl⟩
 have p:Bw a b:=by rw[<-f];exact boxed (boxed (boxed (jcc _ a) _) _) _
 have sz0:b.heap.size=a.heap.size+3:=by rw[<-f];simp
 have RC:qd b a.heap.size [PP cb]:=by rw[<-f];exact((qd.new (w:=a) (T:=27) [PP cb] rfl).boxed _).boxed _
 have RL:qd b (a.heap.size+1+1) [.string s]:=by rw[<-f];exact qd.new (w:=(a.alloc (.cells #[PP cb] 27)).alloc (.cells #[.pointer none,.slice none 0 0] 32)) (T:=9) (n:=a.heap.size+1+1) [.string s] (by simp)
 have hbx:b.heap[a.heap.size+1]?=some (.cells #[.pointer none,.slice none 0 0] 32 (0,0)):=by
  rw[<-f];refine(jdg _ _ _ (by simp)).trans ?_;have:=World.alloc_heap_new (a.alloc (.cells #[PP cb] 27)) (.cells #[.pointer none,.slice none 0 0] 32 (0,0))
  rwa [jdi]at this
 rw[f];have L:=J.size
 have S0:qko b a.heap.size cb mb (a.heap.size+1) (λk=>k<w.heap.size\/k=a.heap.size) (λk=>k<w.heap.size\/k=a.heap.size\/k=b.heap.size\/k=b.heap.size+1) (qcb 2 2) [] b G (λk=>k=a.heap.size+1):=by
  have v:=I.lt;refine⟨I.kept (λk e=>p.block k (v k e)) p.size,⟨by omega,.pointer none,.slice none 0 0,.inl rfl,hbx,⟨rfl,.inl ⟨rfl,rfl⟩⟩,by simp[Value.ownBlock],λk=>by simp[Value.ownBlock]⟩,λk e e2=>?_,λk e=>?_,λk e=>?_,λk e=>?_,g1.later p,jg.refl _ _⟩
  ·have:=v k e;omega
  ·rcases e with e|e
   ·exact⟨.inl e,by omega⟩
   exact⟨.inr (.inl e),by omega⟩
  ·exact .inl (jci e HG.out.sz)
  refine⟨λq=>?_,?_⟩
  ·have:=hgn k q;have:=v k q;omega
  omega
 have hd0:DkI (qcb 2 2):=DkI.new (by decide) (by decide) (by decide);have hmanyL:=qu7 s.data.toList
 have hsl:s.data.toList.length<=20000:=by rw[<-Lib.size_eq];exact F.out
 have LQ:=qym 5 (by decide) s F.out (a.heap.size+1+1) b (by omega) (RL.cell 0 _ rfl);have M:=hd2 J p
 refine qli rfl (by decide) (gf:=21) (lb:=#[PP (a.heap.size+1+1)]) rfl trivial (enters_of Tryz.func21 (by kernel_rfl) rfl) LQ (jcc _ _) (λ_=>rfl)
  (SsI b a.heap.size cb mb (a.heap.size+1) (λk=>k<w.heap.size\/k=a.heap.size) (λk=>k<w.heap.size\/k=a.heap.size\/k=b.heap.size\/k=b.heap.size+1))
  (λ_ _ ⟨_,_,_,_,_,h⟩=>h.gl) (λ_ _ _ ⟨i,c,G,H,z,h⟩ hb=>⟨i,c,G,H,z,h.later hb⟩) (λ_ _ o ⟨i,c,G,H,z,h⟩=>⟨i,c,G,H,z,h.puts (by simp) (by omega) o⟩) ⟨_,_,_,_,.nil,S0⟩
  (λx=>{tmps:=#[.string s,undef,.string ⟨#[]⟩,PP a.heap.size,PP (a.heap.size+1),.string x,.string s,U s.size,.bool false,undef,undef,PP cb,.string s,.func (.func 21) #[] #[PP (a.heap.size+1+1)],.string x,undef,undef,undef,undef,undef,undef],defers:=[]})
  ?assign ?body ?done
 case assign=>
  intro l x W K r
  gi_wp2
  exact r
 case body=>
  rintro l pre x rest W N hsz2 ⟨i,c,G,H,t,d⟩;obtain⟨hol,O⟩:=t.len hd0
  have hxl:x.size<=20000:=by
   have hm:x∈(qfq s.data.toList).map bya:=by rw[N];simp
   obtain⟨y,hy,rfl⟩:=jcz.1 hm;have:=hmanyL.2 y hy;rw[Lib.size_eq];show y.length<=20000;omega
  have hpl:pre.length<=20001:=by
   have:=congrArg List.length N;simp only[jdh,jcl,List.length_cons]at this;omega
  have hz:∀k,(k<w.heap.size\/k=a.heap.size\/k=b.heap.size\/k=b.heap.size+1)->k<W.heap.size:=λk e=>by omega
  have c0:=(RC.keeps d.kp (.inr rfl)).cell 0 _ rfl;have AN:=d.answer O hxl;have j:=hd4 hol hpl t O;have u:=hd1 d;have P:=hd1 hz
  gi_wp2_with (refine⟨trivial,?_⟩;gi_at_call 11;refine(CallsIn.inRound l (callsIn_wide.2 AN)).mono ?_;rintro e W3 ⟨told,rfl,Wd',Q,hL⟩)
  obtain⟨G3,B,R⟩:=u.out.ans P.out hL;have tl:=Q.len j.out.2.2.2;have hz3:=λk e=>jci (P.out k e) R.size;have WS:=qnq (bya told) W3 B.bl (by rw[Lib.size_eq];show c.length+told.length<=_;have:=j.out.1;have:=j.out.2.1;omega) (by have:=B.kp.size;omega);have S:=hd2 Q R;have HS3:=hd1 B;have V:=hd1 hz3
  gi_wp2_with (refine⟨trivial,?_⟩;gi_at_call 10;refine(CallsIn.inRound l (callsIn_wide.2 WS)).mono ?_;rintro e W4 ⟨rfl,hL4⟩)
  obtain⟨H4,C,X⟩:=HS3.out.wrote V.out hL4;have hz4:=λk e=>jci (V.out k e) X.size;have WB:=qql 10 10 rfl W4 C.bl (by rw[jcl];show c.length+told.length+1<=_;have:=j.out.1;have:=j.out.2.1;omega) (by have:=C.kp.size;omega);have D:=hd3 X C hz4
  gi_wp2_with (refine⟨trivial,?_⟩;gi_at_call 12;refine(CallsIn.inRound l (callsIn_wide.2 WB)).mono ?_;rintro e W5 ⟨rfl,hL5⟩)
  obtain⟨H5,S5,K5⟩:=D.out.2.1.wrote D.out.2.2 hL5;have Y:=(S.out.2.trans D.out.1).trans K5;exact⟨⟨Y.block _ (by simp),Y.block _ (by simp)⟩,Wd',_,G3,H5,.snoc j.out.2.2.1 S.out.1,S5⟩
 rintro W ⟨i,c,G,H,t,d⟩ r;have ST:=qqq W d.bl (by have:=d.kp.size;omega);have u:=hd2 d.kp t
 gi_wp2_with (refine⟨trivial,?_⟩;gi_at_call 13;refine(callsIn_wide.2 ST).mono ?_;rintro e W6 ⟨rfl,hb6,hd6⟩)
 rw[sz0]at r;refine⟨by simp,.inl ⟨_,_,rfl,run_takeDeferred (hd6 _ _ r),?_⟩⟩;have m:=((M.out.1.trans (M.out.2.mono L)).trans (u.out.1.below (λk E=>.inl E))).trans (hb6.mono L);exact⟨_,results_tmp rfl _ _ _,c,rfl,⟨i,u.out.2⟩,m.os,m.tape,m.output,jcn m.size (by simp),λk E=>(World.putObj_heap_other (by omega)).trans (m.block k E)⟩
end
section
open Go.RowKit
variable {l:List (Option Nat)}
theorem q4i (h:l.Pairwise (λx y=>∀k,x=some k->y≠some k)) (i:Nat) {x:Option Nat} (r:∀k,x=some k->l[i]?=some (some k)\/∀y∈l,y≠some k):(l.set i x).Pairwise (λx y=>∀k,x=some k->y≠some k):=by
 refine List.pairwise_iff_getElem.2 λa c s t p k e d=>?_
 have f:a<l.length:=by simpa using s
 have j:c<l.length:=by simpa using t
 have P:=List.pairwise_iff_getElem.1 h;rw[List.getElem_set]at e d;split at e
 ·rename_i u;split at d
  ·omega
  rcases r k e with q|q
  ·rw[u,jcg f]at q;exact P a c f j p k (jcu q) d
  exact q _ (jdr j) d
 split at d
 ·rename_i v;rcases r k d with q|q
  ·rw[v,jcg j]at q;exact P a c f j p k e (jcu q)
  exact q _ (jdr f) e
 exact P a c f j p k e d
theorem jax {w:World} {id:Int} (T:TypeId):RS (w.nu (vz (qg8 id) (.slice none 0 0) (.slice none 0 0) (.slice none 0 0)).toArray T) w.heap.size (λk=>k=w.heap.size) (λ_=>none) (qg8 id):=by
 have B:=qd.new (w:=w) (T:=T) (vz (qg8 id) (.slice none 0 0) (.slice none 0 0) (.slice none 0 0)) rfl;refine⟨.slice none 0 0,.slice none 0 0,.slice none 0 0,[],[],⟨B,jcx _ _ _ _,jcx _ _ _ _,jcx _ _ _ _,λh d=>(by cases d),by simp[Value.ownBlock],by simp[Value.ownBlock],by simp[Value.ownBlock],by simp[Value.ownBlock],by simp[Value.ownBlock],by simp[Value.ownBlock],λm a=>(by cases a)⟩,rfl,rfl,λk=>⟨λh=>.inl (.inl h),λh=>?_⟩,λ_ _ e=>(by cases e)⟩;rcases h with (h|h|h|h)|⟨m,a,_⟩
 ·exact h
 ·simp[Value.ownBlock]at h
 ·simp[Value.ownBlock]at h
 ·simp[Value.ownBlock]at h
 cases a
def qcu (M:RoM) (k:Nat):Nat->qfr:=λi=>if i<k then qek (M.bp i) (λ_=>none) (qg8 i)else qjd (M.bs (i-k)) qez
structure qja (w0:World) (b n c k m:Nat) (M:RoM) (Gs:Nat->Nat->Prop) (w:World):Prop where
 box:qd w b [M.sv,M.wv,M.cv,M.av,M.yv,U 0]
 sr:w.ownsRow 0 75 1 M.sv k (qgn M.bp k)
 wr:w.ownsRow 0 3 1 M.wv n (qdw (λ_=>0) n)
 cr:w.ownsRow 0 87 1 M.cv m (qgn M.bs m)
 ar:w.ownsRow 0 3 1 M.av c (qdw (λ_=>0) c)
 yl:M.yv=.slice none 0 0/\M.l=[]/\M.F=λ_ _=>none
 fam:zh w (k+m) (qcu M k) Gs (ql b M) (k+m) NoY
 ap:(vx b M).Pairwise (λx y=>∀k,x=some k->y≠some k)
 gs:∀j q,j<k+m->Gs j q->w0.heap.size<=q
 ft:∀q,ql b M q->w0.heap.size<=q
 hb:Bw w0 w
theorem qp5 (bp:Nat->Nat) (n p:Nat):qgn (λj=>if j=n then p else bp j) (n+1)=qgn bp n++[PP p]:=by
 unfold qgn;rw[List.range_succ,jdb]
 congr 1
 ·refine List.map_congr_left (λj a=>?_);have:=List.mem_range.1 a;show Value.pointer (PT (if j=n then p else bp j))=_;rw[if_neg (by omega)]
 simp
variable {q:Nat} {T:TypeId} {o:Obj}
section
variable {w0 w w2 wE:World} {b n c k m g cap:Nat} {M:RoM} {Gs:Nat->Nat->Prop}
theorem qja.ltF (h:qja w0 b n c k m M Gs w):∀q,ql b M q->q<w.heap.size:=λq e=>(h.fam.free q e).1
theorem qo7 (a:Bw w w2) {r:Option Nat} (f:w2.grownBy wE r) {s:Nat} {v:Value} (d:q<w.heap.size) (h:q≠b) (i:r≠some q):(wE.setCell (AD b s) v).heap[q]?=w.heap[q]?:=
 (jce _ _ _ _ h).trans ((f.block q (jci d a.size) (λe=>i e.symm)).trans (a.block q d))
theorem qja.site (h:qja w0 b n c k 0 M Gs w) (t:w2=(w.nu (vz (qg8 k) (.slice none 0 0) (.slice none 0 0) (.slice none 0 0)).toArray T).alloc o)
 (own:wE.ownsRow 0 75 1 (.slice (PT g) (k+1) cap) (k+1) (qgn M.bp k++[PP w.heap.size])) (d:w2.grownBy wE M.sv.ownBlock) (v:M.sv.ownBlock=some g\/g=w2.heap.size):
 qja w0 b n c (k+1) 0 {M with sv:=.slice (PT g) (k+1) cap,bp:=λj=>if j=k then w.heap.size else M.bp j} (λj=>if j=k then (λq=>q=w.heap.size)else Gs j) (wE.setCell (AD b 0) (.slice (PT g) (k+1) cap)):=by
 have E:Bw w (w.nu (vz (qg8 k) (.slice none 0 0) (.slice none 0 0) (.slice none 0 0)).toArray T):=boxed (jcc _ w) _
 have u:Bw w w2:=by rw[t];exact boxed E _
 have s2:w2.heap.size=w.heap.size+2:=by rw[t];simp
 have N:=d.size
 have f:(wE.setCell (AD b 0) (.slice (PT g) (k+1) cap)).heap.size=wE.heap.size:=by simp[World.setCell]
 have A:=(jdv.1 h.ap);have B:=(jdv.1 A.2);have O:=h.box.lt;have lv:∀q,q<w.heap.size->q≠b->M.sv.ownBlock≠some q->(wE.setCell (AD b 0) (.slice (PT g) (k+1) cap)).heap[q]?=w.heap[q]?:=λq F H I=>qo7 u d F H I;have row:=λ{x} hx q e=>lv q (h.ltF q (by rw[e]at hx;exact jdc _ (jdc _ hx))) (λa=>A.1 x (jdc _ hx) b rfl (by rw[e,a])) (λa=>B.1 x hx q a e)
 have J:g≠b:=λe=>by
  rcases v with q|q
  ·exact A.1 M.sv.ownBlock (by simp) b rfl (by rw[q,e])
  omega
 have nv:∀q,(Value.slice (PT g) (k+1) cap).ownBlock=some q->M.sv.ownBlock=some q\/w.heap.size+2<=q:=λq e=>by
  have K:g=q:=jcu e;subst K;exact v.imp id (λq=>by omega)
 have z:∀q,ql b {M with sv:=.slice (PT g) (k+1) cap,bp:=λj=>if j=k then w.heap.size else M.bp j} q->ql b M q\/w.heap.size+2<=q:=λq e=>by
  have e:some q∈some b::(Value.slice (PT g) (k+1) cap).ownBlock::[M.wv.ownBlock,M.cv.ownBlock,M.av.ownBlock,M.yv.ownBlock]:=e;rcases jdd.1 e with e|e
  ·exact .inl (jdd.2 (.inl e))
  rcases jdd.1 e with e|e
  ·exact(nv q e.symm).imp (λr=>by unfold ql vx;rw[r];simp) id
  exact .inl (jdc _ (jdc _ e))
 have P:=h.hb.size;refine⟨?_,?_,qf h.wr (row (by simp)),qf h.cr (row (by simp)),qf h.ar (row (by simp)),h.yl,?_,?_,λj q s e=>?_,λq e=>?_,?_⟩
 ·have:=((h.box.later u).grown d (λe=>A.1 M.sv.ownBlock (by simp) b rfl e.symm)).set 0 (.slice (PT g) (k+1) cap) (by simp);exact this
 ·show World.ownsRow _ 0 _ 1 _ (k+1) (qgn (λj=>if j=k then w.heap.size else M.bp j) (k+1));rw[qp5];exact qf own (λq e=>jce _ _ _ _ (λa=>J ((jcu e).trans a)))
 ·have L:RS (wE.setCell (AD b 0) (.slice (PT g) (k+1) cap)) w.heap.size (λq=>q=w.heap.size) (λ_=>none) (qg8 k):=by
   refine(jax (w:=w) (id:=k) T).kept (λq e=>?_) (by rw[f];simp;omega);have e:=e;subst e;refine(jce _ _ _ _ (by simp only;omega)).trans ((d.block _ (by omega) (λe=>?_)).trans ?_)
   ·have:=h.ltF w.heap.size (by unfold ql vx;rw[<-e];simp);omega
   rw[t];exact(boxed (jcc _ (w.nu (vz (qg8 k) (.slice none 0 0) (.slice none 0 0) (.slice none 0 0)).toArray T)) o).block _ (by simp)
  refine h.fam.snoc (n:=k) (G:=λq=>q=w.heap.size) (λj q s e=>lv q ((qcu M k j).lt _ _ (h.fam.is j s) q e) (λa=>(h.fam.free b (by simp[ql,vx])).2 j s (by rw[<-a];exact e)) (λa=>(h.fam.free q (by unfold ql vx;rw[a];simp)).2 j s e)) (by rw[f];omega) ?_ (λq e=>by omega) (λi hi=>?_) (λq e=>?_)
  ·show (qcu _ (k+1) k).is _ _;unfold qcu;rw[if_pos (by omega)];show RS _ (if k=k then w.heap.size else M.bp k) _ _ _;rw[if_pos rfl];exact L
  ·have hi:=hi;unfold qcu;rw[if_pos (by omega),if_pos hi];show qek (if i=k then w.heap.size else M.bp i) _ _=_;rw[if_neg (by omega)]
  rcases z q e with r|r
  ·have:=h.ltF q r;exact⟨.inl r,by rw[f];omega,λa=>by omega⟩
  refine⟨.inr (by omega),?_,λa=>by omega⟩;rw[f];have e:some q∈some b::(Value.slice (PT g) (k+1) cap).ownBlock::[M.wv.ownBlock,M.cv.ownBlock,M.av.ownBlock,M.yv.ownBlock]:=e;rcases jdd.1 e with e|e
  ·injection e with e;omega
  rcases jdd.1 e with e|e
  ·exact(own.lt q e.symm).2
  have:=h.ltF q (jdc _ (jdc _ e));omega
 ·refine q4i h.ap 1 (x:=(Value.slice (PT g) (k+1) cap).ownBlock) (λq e=>?_);rcases nv q e with r|r
  ·exact .inl (by show some M.sv.ownBlock=_;rw[r])
  refine .inr (λy C a=>?_);have:=h.ltF q (by rw[a]at C;exact C);omega
 ·have e:=e;by_cases D:j=k
  ·rw[if_pos D]at e;omega
  rw[if_neg D]at e;exact h.gs j q (by omega) e
 ·rcases z q e with r|r
  ·exact h.ft q r
  omega
 exact((qa h.hb u).grown d (by omega) (λq e=>h.ft q (by unfold ql vx;rw[<-e];simp))).setCell (p:=AD b 0) (h.ft b (by simp[ql,vx])) _
theorem qpw (h:l.Pairwise (λx y=>∀k,x=some k->y≠some k)) {i j:Nat} (e:i≠j) (f:l[i]?=some (some q)):l[j]?≠some (some q):=λp=>by
 have P:=List.pairwise_iff_getElem.1 h;obtain⟨a1,a2⟩:=jck.1 f;obtain⟨a,d⟩:=jck.1 p;rcases Nat.lt_or_gt_of_ne e with q|q
 ·exact P i j a1 a q _ a2 d
 exact P j i a a1 q _ d a2
theorem qja.ses (h:qja w0 b n c k m M Gs w) (u:w2=(w.nu (jr qez (.slice none 0 0)).toArray T).alloc o)
 (own:wE.ownsRow 0 87 1 (.slice (PT g) (m+1) cap) (m+1) (qgn M.bs m++[PP w.heap.size])) (d:w2.grownBy wE M.cv.ownBlock) (A:M.cv.ownBlock=some g\/g=w2.heap.size):
 qja w0 b n c k (m+1) {M with cv:=.slice (PT g) (m+1) cap,bs:=λj=>if j=m then w.heap.size else M.bs j} (λj=>if j=k+m then (λq=>q=w.heap.size)else Gs j) (wE.setCell (AD b 2) (.slice (PT g) (m+1) cap)):=by
 have E:Bw w (w.nu (jr qez (.slice none 0 0)).toArray T):=boxed (jcc _ w) _
 have v:Bw w w2:=by rw[u];exact boxed E _
 have s2:w2.heap.size=w.heap.size+2:=by rw[u];simp
 have L:=d.size
 have f:(wE.setCell (AD b 2) (.slice (PT g) (m+1) cap)).heap.size=wE.heap.size:=by simp[World.setCell]
 have N:=h.box.lt;have cb:M.cv.ownBlock≠some b:=λe=>qpw h.ap (i:=0) (j:=3) (q:=b) (by decide) rfl (by show some M.cv.ownBlock=_;rw[e]);have lv:∀q,q<w.heap.size->q≠b->M.cv.ownBlock≠some q->(wE.setCell (AD b 2) (.slice (PT g) (m+1) cap)).heap[q]?=w.heap[q]?:=λq F H z=>qo7 v d F H z;have row:∀{j:Nat} (_:j≠0) (_:j≠3) (q:Nat),(vx b M)[j]?=some (some q)->(wE.setCell (AD b 2) (.slice (PT g) (m+1) cap)).heap[q]?=w.heap[q]?:=λ{j} h0 z q e=>lv q (h.ltF q (jcq e)) (λa=>qpw h.ap (i:=0) (j:=j) (q:=b) (λe=>h0 e.symm) rfl (by rw[e,a])) (λa=>qpw h.ap (i:=3) (j:=j) (q:=q) (λe=>z e.symm) (by show some M.cv.ownBlock=_;rw[a]) e)
 have I:g≠b:=λe=>by
  rcases A with q|q
  ·exact cb (by rw[q,e])
  omega
 have nv:∀q,(Value.slice (PT g) (m+1) cap).ownBlock=some q->M.cv.ownBlock=some q\/w.heap.size+2<=q:=λq e=>by
  have J:g=q:=jcu e;subst J;exact A.imp id (λq=>by omega)
 have B:∀q,ql b {M with cv:=.slice (PT g) (m+1) cap,bs:=λj=>if j=m then w.heap.size else M.bs j} q->ql b M q\/(w.heap.size+2<=q/\q<wE.heap.size):=λq e=>by
  have e:some q∈[some b,M.sv.ownBlock,M.wv.ownBlock]++((Value.slice (PT g) (m+1) cap).ownBlock::[M.av.ownBlock,M.yv.ownBlock]):=e;rcases jcf.1 e with e|e
  ·exact .inl (List.mem_append_left [M.cv.ownBlock,M.av.ownBlock,M.yv.ownBlock] e)
  rcases jdd.1 e with e|e
  ·exact(nv q e.symm).imp (λr=>by unfold ql vx;rw[r];simp) (λr=>⟨r,(own.lt q e.symm).2⟩)
  exact .inl (List.mem_append_right [some b,M.sv.ownBlock,M.wv.ownBlock] (jdc _ e))
 have O:=h.hb.size;refine⟨?_,qf h.sr (λq e=>row (j:=1) (by decide) (by decide) q (by show some M.sv.ownBlock=_;rw[e])),qf h.wr (λq e=>row (j:=2) (by decide) (by decide) q (by show some M.wv.ownBlock=_;rw[e])),?_,qf h.ar (λq e=>row (j:=4) (by decide) (by decide) q (by show some M.av.ownBlock=_;rw[e])),h.yl,?_,?_,λj q s e=>?_,λq e=>?_,?_⟩
 ·have:=((h.box.later v).grown d (λe=>cb e.symm)).set 2 (.slice (PT g) (m+1) cap) (by simp);exact this
 ·show World.ownsRow _ 0 _ 1 _ (m+1) (qgn (λj=>if j=m then w.heap.size else M.bs j) (m+1));rw[qp5];exact qf own (λq e=>jce _ _ _ _ (λa=>I ((jcu e).trans a)))
 ·have K:RSe (wE.setCell (AD b 2) (.slice (PT g) (m+1) cap)) w.heap.size (λq=>q=w.heap.size) qez:=by
   refine(jaa (w:=w) T).kept (λq e=>?_) (by rw[f];simp;omega);have e:=e;subst e;refine(jce _ _ _ _ (by simp only;omega)).trans ((d.block _ (by omega) (λe=>?_)).trans ?_)
   ·have:=h.ltF w.heap.size (by unfold ql vx;rw[<-e];simp);omega
   rw[u];exact(boxed (jcc _ (w.nu (jr qez (.slice none 0 0)).toArray T)) o).block _ (by simp)
  refine h.fam.snoc (n:=k+m) (G:=λq=>q=w.heap.size) (λj q s e=>lv q ((qcu M k j).lt _ _ (h.fam.is j s) q e) (λa=>(h.fam.free b (by simp[ql,vx])).2 j s (by rw[<-a];exact e)) (λa=>(h.fam.free q (by unfold ql vx;rw[a];simp)).2 j s e)) (by rw[f];omega) ?_ (λq e=>by omega) (λi hi=>?_) (λq e=>?_)
  ·show (qcu _ k (k+m)).is _ _;unfold qcu;rw[if_neg (by omega)];show RSe _ (if k+m-k=m then w.heap.size else M.bs (k+m-k)) _ _;rw[if_pos (by omega)];exact K
  ·unfold qcu;by_cases t:i<k
   ·rw[if_pos t,if_pos t]
   rw[if_neg t,if_neg t];show qjd (if i-k=m then w.heap.size else M.bs (i-k)) _=_;rw[if_neg (by omega)]
  rcases B q e with r|r
  ·have:=h.ltF q r;exact⟨.inl r,by rw[f];omega,λa=>by omega⟩
  exact⟨.inr (by omega),by rw[f];exact r.2,λa=>by omega⟩
 ·refine q4i h.ap 3 (x:=(Value.slice (PT g) (m+1) cap).ownBlock) (λq e=>?_);rcases nv q e with r|r
  ·exact .inl (by show some M.cv.ownBlock=_;rw[r])
  refine .inr (λy C a=>?_);have:=h.ltF q (by rw[a]at C;exact C);omega
 ·have e:=e;by_cases D:j=k+m
  ·rw[if_pos D]at e;omega
  rw[if_neg D]at e;exact h.gs j q (by omega) e
 ·rcases B q e with r|r
  ·exact h.ft q r
  omega
 exact((qa h.hb v).grown d (by omega) (λq e=>h.ft q (by unfold ql vx;rw[<-e];simp))).setCell (p:=AD b 2) (h.ft b (by simp[ql,vx])) _
theorem qja.done (h:qja w0 b n c n c M Gs w):RW w b (qg6 b M (n+c) Gs) (qcb n c)/\∀q,qg6 b M (n+c) Gs q->w0.heap.size<=q:=by
 obtain⟨f,a,p⟩:=h.yl;refine⟨⟨M,Gs,⟨h.box,h.sr,h.wr,h.cr,h.ar,?_,by rw[a];rfl,λx d=>(by rw[a]at d;cases d),?_,h.ap⟩,λ_=>jdl⟩,λq r=>r.elim (h.ft q) (λ⟨j,s,e⟩=>h.gs j q s e)⟩
 ·rw[f,a];exact jcx _ _ _ _
 have:qdm M (qcb n c)=qcu M n:=by
  funext i
  unfold qdm qcu;rw[p];rfl
 rw[this];exact h.fam
theorem qja.first {g g':Nat} (a:qd w b [.slice none 0 0,.slice (PT g) n n,.slice none 0 0,.slice (PT g') c c,.slice none 0 0,U 0]) (d:w.ownsRow 0 3 1 (.slice (PT g) n n) n (qdw (λ_=>0) n)) (f:w.ownsRow 0 3 1 (.slice (PT g') c c) c (qdw (λ_=>0) c)) (a1:g≠g') (a2:g≠b) (a3:g'≠b) (f1:w0.heap.size<=g) (r:w0.heap.size<=g') (s:w0.heap.size<=b) (p:Bw w0 w):
 qja w0 b n c 0 0 ⟨.slice none 0 0,.slice (PT g) n n,.slice none 0 0,.slice (PT g') c c,.slice none 0 0,λ_=>0,λ_=>0,λ_ _=>none,[]⟩ (λ_ _=>False) w:=by
 have h:∀q,ql b ⟨.slice none 0 0,.slice (PT g) n n,.slice none 0 0,.slice (PT g') c c,.slice none 0 0,λ_=>0,λ_=>0,λ_ _=>none,[]⟩ q->q=b\/q=g\/q=g':=λq e=>by
  have e:some q∈[some b,none,some g,none,some g',none]:=e;simpa using e
 refine⟨a,jcx _ _ _ _,d,jcx _ _ _ _,f,⟨rfl,rfl,rfl⟩,⟨λi hi=>by omega,λi j q hi=>by omega,λq e=>⟨?_,λi hi=>by omega⟩,λq e=>e.elim⟩,?_,λj q t=>by omega,λq e=>?_,p⟩
 ·rcases h q e with e|e|e
  ·rw[e];exact a.lt
  ·rw[e];exact(d.lt g rfl).2
  rw[e];exact(f.lt g' rfl).2
 ·show [some b,none,some g,none,some g',none].Pairwise _;simp;omega
 rcases h q e with e|e|e<;>omega
end
end
section
open Tryz Go.RowKit
theorem q3n:(prog.info? 75).map (λi=>(i.zero,i.size,i.bytes))=some (some (.pointer none),1,8):=by kernel_rfl
theorem q4m:(prog.info? 87).map (λi=>(i.zero,i.size,i.bytes))=some (some (.pointer none),1,8):=by kernel_rfl
theorem quc:(prog.info? 3).map (λi=>(i.zero,i.size,i.bytes))=some (some (U 0),1,8):=by kernel_rfl
variable {n:Nat}
theorem qry {w w':World} {B N:Nat} {T:TypeId} {v:Value} {xs:List Value} (h:w.ownsRow B T N v n xs) (a:Bw w w'):w'.ownsRow B T N v n xs:=qf h (λk e=>a.block k (h.lt k e).2)
theorem qo3 (a:n<=6) (w:World):(Instr.makeSlice 69 (U n) (U n)).run prog w=.ok (.slice (PT w.heap.size) n n) (w.alloc (.cells (madeCells #[U 0] n) 3)):=
 run_make_row' _ 3 (U 0) 8 underlying69 quc rfl .i64 .i64 n (by omega) (by omega) w
theorem ql9 (c:n<=6) (w:World):(w.alloc (.cells (madeCells #[U 0] n) 3)).ownsRow 0 3 1 (.slice (PT w.heap.size) n n) n (qdw (λ_=>0) n):=by
 obtain⟨d,hi,e,f,g⟩:=info_parts quc;obtain⟨h,a,b,_⟩:=run_make_full (P:=prog) w 0 69 3 d (U 0) 1 underlying69 hi e f .i64 .i64 n (by rw[g];omega) (by simp[maxLen];omega) (by omega);rw[qo3 c]at a;injection a with e1 e2;rw[<-e2,show (Value.int .i64 0).cells=#[Value.int .i64 0]from rfl,Nat.mul_one,toList_madeCells_one]at b;rw[show qdw (λ_=>0) n=List.replicate n (U 0) by unfold qdw;rw[List.map_const'];simp];exact b
theorem q42 {c:Nat} (h1:1<=n) (h4:n<=4) (h6:c<=6) (w:World):
 Ca 15 #[U n,U c] w λe w'=>e=.returned (.tuple #[PP (w.heap.size+1+1),U 0])/\∃G,RW w' (w.heap.size+1+1) G (qcb n c)/\(∀k,G k->w.heap.size<=k)/\Bw w w':=by
 obtain⟨i0,hi0,hz0,hz1,hz2⟩:=info_parts q3n;obtain⟨i5,hi5,hy0,hy1,hy2⟩:=info_parts q4m;have Z:=qgy n 1 4 w;have aa:=qgy c 0 6 w;rw[jk.2 (⟨by omega,by omega⟩:(1:Int)<=n/\(n:Int)<=4)]at Z;rw[jk.2 (⟨by omega,by omega⟩:(0:Int)<=c/\(c:Int)<=6)]at aa;have p:=hd2 h4 h6;have M1:=λw'=>qo3 (n:=n) (by omega) w';have M2:=λw'=>qo3 (n:=c) (by omega) w'
 have NA:Hid (∃M b,qja w (w.heap.size+1+1) n c 0 0 M b ((((w.alloc (.cells (madeCells #[U 0] n) 3)).alloc (.cells (madeCells #[U 0] c) 3)).alloc (.cells #[.slice none 0 0,.slice (PT w.heap.size) n n,.slice none 0 0,.slice (PT (w.heap.size+1)) c c,.slice none 0 0,U 0] 74)).drew)):=by
  have I:=boxed (jcc _ w) (.cells (madeCells #[U 0] n) 3);have s:=boxed (jcc _ (w.alloc (.cells (madeCells #[U 0] n) 3))) (.cells (madeCells #[U 0] c) 3);have f:=(boxed (jcc _ ((w.alloc (.cells (madeCells #[U 0] n) 3)).alloc (.cells (madeCells #[U 0] c) 3))) (.cells #[.slice none 0 0,.slice (PT w.heap.size) n n,.slice none 0 0,.slice (PT (w.heap.size+1)) c c,.slice none 0 0,U 0] 74)).drew;have R:=(qd.new (w:=(w.alloc (.cells (madeCells #[U 0] n) 3)).alloc (.cells (madeCells #[U 0] c) 3)) (T:=74) (n:=w.heap.size+1+1) [.slice none 0 0,.slice (PT w.heap.size) n n,.slice none 0 0,.slice (PT (w.heap.size+1)) c c,.slice none 0 0,U 0] (by simp)).drew;have J:=ql9 (n:=n) (by omega) w;have t:=ql9 (n:=c) (by omega) (w.alloc (.cells (madeCells #[U 0] n) 3));rw[jdi]at t;exact⟨_,_,qja.first R (qry (qry J s) f) (qry t f) (by omega) (by omega) (by omega) (jcd _) (by omega) (by omega) (qa (qa I s) f)⟩
 have NB:Hid (∃M b,qja w (w.heap.size+1+1) n c 0 0 M b ((((w.alloc (.cells (madeCells #[U 0] c) 3)).alloc (.cells (madeCells #[U 0] n) 3)).alloc (.cells #[.slice none 0 0,.slice (PT (w.heap.size+1)) n n,.slice none 0 0,.slice (PT w.heap.size) c c,.slice none 0 0,U 0] 74)).drew)):=by
  have I:=boxed (jcc _ w) (.cells (madeCells #[U 0] c) 3);have s:=boxed (jcc _ (w.alloc (.cells (madeCells #[U 0] c) 3))) (.cells (madeCells #[U 0] n) 3);have f:=(boxed (jcc _ ((w.alloc (.cells (madeCells #[U 0] c) 3)).alloc (.cells (madeCells #[U 0] n) 3))) (.cells #[.slice none 0 0,.slice (PT (w.heap.size+1)) n n,.slice none 0 0,.slice (PT w.heap.size) c c,.slice none 0 0,U 0] 74)).drew;have R:=(qd.new (w:=(w.alloc (.cells (madeCells #[U 0] c) 3)).alloc (.cells (madeCells #[U 0] n) 3)) (T:=74) (n:=w.heap.size+1+1) [.slice none 0 0,.slice (PT (w.heap.size+1)) n n,.slice none 0 0,.slice (PT w.heap.size) c c,.slice none 0 0,U 0] (by simp)).drew;have J:=ql9 (n:=c) (by omega) w;have t:=ql9 (n:=n) (by omega) (w.alloc (.cells (madeCells #[U 0] c) 3));rw[jdi]at t;exact⟨_,_,qja.first R (qry t f) (qry (qry J s) f) (by omega) (by omega) (by omega) (by omega) (jcd _) (by omega) (qa (qa I s) f)⟩
 go_enter func15,ntmps15
 go_wp2_with (first|(go_at_call 28;with_reducible refine Z.mono ?_;rintro e w1 ⟨rfl,K⟩;have L:=K.symm;subst L)|(go_at_call 28;with_reducible refine aa.mono ?_;rintro e w1 ⟨rfl,K⟩;have L:=K.symm;subst L))
 go_region
 all_goals
  first
   |(obtain⟨v,x⟩:∃v,(((w.alloc (.cells (madeCells #[U 0] n) 3)).alloc (.cells (madeCells #[U 0] c) 3)).alloc (.cells #[.slice none 0 0,.slice (PT w.heap.size) n n,.slice none 0 0,.slice (PT (w.heap.size+1)) c c,.slice none 0 0,U 0] 74)).drew=v:=⟨_,rfl⟩
     rw[x]at NA ⊢;have N0:=NA
     clear x)
   |(obtain⟨v,x⟩:∃v,(((w.alloc (.cells (madeCells #[U 0] c) 3)).alloc (.cells (madeCells #[U 0] n) 3)).alloc (.cells #[.slice none 0 0,.slice (PT (w.heap.size+1)) n n,.slice none 0 0,.slice (PT w.heap.size) c c,.slice none 0 0,U 0] 74)).drew=v:=⟨_,rfl⟩
     rw[x]at NB ⊢;have N0:=NB
     clear x)
  go_wp2_with fail
  go_loopw [23] (λiv wr=>∃(k:Nat) (z:Int) (M:RoM) (b:Nat->Nat->Prop),k<=n/\z=k/\iv=U z/\Hid (qja w (w.heap.size+1+1) n c k 0 M b wr)) (λiv _=>n-(intOf iv).toNat)
  case atStart=>
   obtain⟨M,b,h⟩:=N0.out;exact⟨0,0,M,b,by omega,rfl,rfl,h⟩
  obtain⟨k,z,M,b,hk,hz,rfl,a⟩:=hrel;have N:=hd1 hz;by_cases hlt:k<n
  ·have O:z<(n:Int):=by omega
   have g3:0<=z:=by omega
   have g4:z<4:=by have:=p.out;omega
   obtain⟨sa,P,g,r⟩:=qq a.out.sr;have l:=hd1 g;have d:=a.out.box;rw[g]at d;have c0:=d.cell 0 _ rfl;have hlw:=d.lt;have B:Bw wr ((wr.alloc (.cells #[U z,U 0,U 0,U 0,U 0,U 0,U 0,.slice none 0 0,.slice none 0 0,.slice none 0 0,U 0,U 0,U 0,U 0,U 0,U 0,U 0,U 0,U 0,U 0,U 0,U 0,U 0,U 0,U 0,U 0] 86)).alloc (.cells #[PP wr.heap.size] 75)):=boxed (boxed (jcc _ wr) _) _;have C:=qf a.out.sr (λq e=>B.block q (a.out.sr.lt q e).2);rw[g]at C;have Q:=d.later B;have S:Hid (M.sv.ownBlock≠some (w.heap.size+1+1)):=λe=>qpw a.out.ap (i:=0) (j:=1) (by decide) rfl (by show some M.sv.ownBlock=_;rw[e]);have D:=World.news_of_block (heap_alloc_new (wr.alloc (.cells #[U z,U 0,U 0,U 0,U 0,U 0,U 0,.slice none 0 0,.slice none 0 0,.slice none 0 0,U 0,U 0,U 0,U 0,U 0,U 0,U 0,U 0,U 0,U 0,U 0,U 0,U 0,U 0,U 0,U 0] 86)) (.cells #[PP wr.heap.size] 75));rw[jdi]at D;have hrl:=r.len
   go_wp2_with (at_builtin;refine wpList_append_lies _ rfl (.tmp 30) (.tmp 34) 70 rfl 0 75 i0 (.pointer none) 1 8 underlying70 hi0 hz0 hz1 hz2 rfl (by decide) (.slice sa k P) k (qgn M.bp k) rfl C (AD (wr.heap.size+1) 0) 1 1 [PP wr.heap.size] rfl rfl D (by intro u E;simp at E;rw[E];rfl) (by decide) (by have:=p.out;simp only[maxLen];omega) (by have:=p.out;omega) (jcw _) _ rfl ?_;intro g9 cap9 V W F X ltE;have H:qd V (w.heap.size+1+1) _:=Q.grown F (λe=>S.out (by rw[l.out];exact e.symm));have e0:=H.cell 0 _ rfl;have f0:=H.free 0 (by simp))
   have Y:=hd1 (a.out.site (w2:=(wr.alloc (.cells #[U z,U 0,U 0,U 0,U 0,U 0,U 0,.slice none 0 0,.slice none 0 0,.slice none 0 0,U 0,U 0,U 0,U 0,U 0,U 0,U 0,U 0,U 0,U 0,U 0,U 0,U 0,U 0,U 0,U 0] 86)).alloc (.cells #[PP wr.heap.size] 75)) (T:=86) (o:=(.cells #[PP wr.heap.size] 75)) (by rw[N.out];rfl) W (by rw[l.out];exact F) (by rw[l.out];simpa using X))
   go_roundw
   case rel=>exact⟨k+1,z+1,_,_,by omega,by have:=N.out;omega,by go_num,Y.out⟩
   simp[intOf];have:=N.out;omega
  have O:¬z<(n:Int):=by omega
  have ek:k=n:=by omega
  subst ek;have H0:=a
  go_wp2_with fail
  go_loopw [40] (λiv wr=>∃(m:Nat) (y:Int) (M:RoM) (b:Nat->Nat->Prop),m<=c/\y=m/\iv=U y/\Hid (qja w (w.heap.size+1+1) k c k m M b wr)) (λiv _=>c-(intOf iv).toNat)
  case atStart=>exact⟨0,0,M,b,by omega,rfl,rfl,H0.out⟩
  obtain⟨m,y,M,b,hm,hy,rfl,a⟩:=hrel;have HY:=hd1 hy;by_cases hml:m<c
  ·have O:y<(c:Int):=by omega
   have g3:0<=y:=by omega
   have g4:y<6:=by have:=p.out;omega
   obtain⟨sa,P,g,r⟩:=qq a.out.cr;have l:=hd1 g;have d:=a.out.box;rw[g]at d;have c0:=d.cell 2 _ rfl;have hlw:=d.lt;have B:Bw wr ((wr.alloc (.cells #[U 0,U 0,U 0,U 0,U 0,U 0,U 0,U 0,.bool false,.slice none 0 0] 90)).alloc (.cells #[PP wr.heap.size] 87)):=boxed (boxed (jcc _ wr) _) _;have C:=qf a.out.cr (λq e=>B.block q (a.out.cr.lt q e).2);rw[g]at C;have Q:=d.later B;have S:Hid (M.cv.ownBlock≠some (w.heap.size+1+1)):=λe=>qpw a.out.ap (i:=0) (j:=3) (by decide) rfl (by show some M.cv.ownBlock=_;rw[e]);have D:=World.news_of_block (heap_alloc_new (wr.alloc (.cells #[U 0,U 0,U 0,U 0,U 0,U 0,U 0,U 0,.bool false,.slice none 0 0] 90)) (.cells #[PP wr.heap.size] 87));rw[jdi]at D;have hrl:=r.len
   go_wp2_with (at_builtin;refine wpList_append_lies _ rfl (.tmp 46) (.tmp 49) 71 rfl 0 87 i5 (.pointer none) 1 8 underlying71 hi5 hy0 hy1 hy2 rfl (by decide) (.slice sa m P) m (qgn M.bs m) rfl C (AD (wr.heap.size+1) 0) 1 1 [PP wr.heap.size] rfl rfl D (by intro u E;simp at E;rw[E];rfl) (by decide) (by have:=p.out;simp only[maxLen];omega) (by have:=p.out;omega) (jcw _) _ rfl ?_;intro g9 cap9 V W F X ltE;have H:qd V (w.heap.size+1+1) _:=Q.grown F (λe=>S.out (by rw[l.out];exact e.symm));have e0:=H.cell 2 _ rfl;have f0:=H.free 2 (by simp))
   have Y:=hd1 (a.out.ses (T:=90) (o:=(.cells #[PP wr.heap.size] 87)) rfl W (by rw[l.out];exact F) (by rw[l.out];simpa using X))
   go_roundw
   case rel=>exact⟨m+1,y+1,_,_,by omega,by have:=HY.out;omega,by go_num,Y.out⟩
   simp[intOf];have:=HY.out;omega
  have O:¬y<(c:Int):=by omega
  have em:m=c:=by omega
  subst em
  go_wp2_with fail
  go_ret2;exact⟨rfl,_,a.out.done.1,a.out.done.2,a.out.hb⟩
theorem q2j {n c:Int} (j:¬((1<=n/\n<=4)/\(0<=c/\c<=6))) (w:World):
 Ca 15 #[U n,U c] w (Rn (.tuple #[.pointer none,U 2]) w):=by
 have d:=qgy n 1 4 w;have h:=qgy c 0 6 w;by_cases f:1<=n/\n<=4
 ·rw[jk.2 f]at d
  have g:inB c 0 6=false:=by
   cases q:inB c 0 6
   ·rfl
   exact absurd ⟨f,jk.1 q⟩ j
  rw[g]at h;go_enter func15,ntmps15
  go_wp2_with (first|(go_at_call 28;with_reducible refine d.mono ?_;rintro e i ⟨rfl,a⟩;have b:=a.symm;subst b)|(go_at_call 28;with_reducible refine h.mono ?_;rintro e i ⟨rfl,a⟩;have b:=a.symm;subst b))
  go_ret2;exact⟨rfl,jcc _ _⟩
 have g:inB n 1 4=false:=by
  cases q:inB n 1 4
  ·rfl
  exact absurd (jk.1 q) f
 rw[g]at d;go_enter func15,ntmps15
 go_wp2_with (go_at_call 28;with_reducible refine d.mono ?_;rintro e i ⟨rfl,a⟩;have b:=a.symm;subst b)
 go_ret2;exact⟨rfl,jcc _ _⟩
end
section
open Go.RowKit
variable {w:World}
theorem q8q {B:Nat} {v:Value} {ws:List ByteArray} (h:w.ownsRow B 9 1 v ws.length (ws.map Value.string)):∃a cap,v=.slice a ws.length cap/\qfj w a cap ws/\(∀d o,a=some ⟨d,o,none⟩->o=0/\B<=d):=by
 by_cases f:ws=[]
 ·subst f;rcases h.2 with ⟨b,_⟩|⟨g,cap,cur,b,k,_⟩
  ·exact⟨none,0,b,⟨jcd _,λj x c=>by simp at c⟩,λ_ _ e=>by cases e⟩
  exact⟨_,cap,b,⟨jcw _,λj x c=>by simp at c⟩,λ_ _ e=>by injection e with e;injection e with e1 e2;exact⟨e2.symm,by omega⟩⟩
 have l:=List.length_pos_iff.2 f;obtain⟨i,m,rfl,k,n⟩:=h.form l;have p:=h.cells (g:=i) rfl;refine⟨_,m,rfl,⟨?_,λj x c=>⟨i,0,rfl,n,?_⟩⟩,λ_ _ e=>by injection e with e;injection e with e1 e2;exact⟨e2.symm,by omega⟩⟩
 ·rcases h.2 with ⟨h,_⟩|⟨g',s,cur,b,_,_,q,_⟩
  ·cases h
  cases b;exact q
 have:=p j (.string x) (by rw[jcv,c];rfl);rcases Nat.eq_zero_or_pos j with rfl|r
 ·simpa[Addr.add]using this
 simpa[Addr.add,Nat.ne_of_gt r]using this
theorem quz (n:Int):qv [n]=Lib.itoa n:=by simp[qv,Lib.join]
theorem quk {a b c:List UInt8} (e:a++b=c) (h:c.length<=9223372036854775807) (w:World):(Op.stringOp .add (bya a) (bya b)).run Tryz.prog w=.ok (.string (bya c)) w:=by
 rw[<-e,<-jz];exact run_string_add_sum w (bya a) (bya b) (by rw[Lib.size_eq,Lib.size_eq];rw[<-e,jcl]at h;exact h)
theorem TkI.later {wr a:World} {c lb:Nat} {L d:List ByteArray} {e:List UInt8} (h:TkI w c lb L d e wr) (f:Bw wr a):TkI w c lb L d e a:=by
 obtain⟨W,b,Gw,G,h⟩:=h;exact⟨W,b,Gw,G,h.later f⟩
noncomputable def qlq:Code:=(qfe 6 (Tryz.f6.body.getD .skip)).getD .skip
def qrp (s:ByteArray) (w:World) (e:Ending) (w':World):Prop:=∃out,e=.returned (.string (bya out))/\jad s out/\Bw w w'
def qo0 (s:ByteArray) (v:Value) (u:Nat->Value):Array Value:=
 List.toArray (.string s::undef::.string ⟨#[]⟩::v::undef::undef::undef::undef::undef::undef::undef::undef::undef::undef::undef::u 15::u 16::u 17::u 18::u 19::u 20::u 21::u 22::u 23::u 24::u 25::u 26::u 27::u 28::u 29::u 30::u 31::u 32::u 33::u 34::u 35::u 36::undef::undef::undef::undef::undef::undef::undef::undef::undef::undef::undef::undef::undef::undef::undef::undef::undef::undef::undef::undef::undef::undef::undef::undef::undef::undef::undef::undef::undef::undef::undef::undef::undef::undef::undef::undef::undef::undef::undef::undef::undef::undef::undef::undef::undef::undef::undef::undef::undef::undef::undef::undef::[])
theorem q1z (AR:∀i,i<19->yt i) (s:ByteArray) (hs:s.size<=20000) (gl:Gl w) (fm:qqx w) (u:Nat->Value):
 Code.wp Tryz.prog qlq (bodyPost Tryz.prog Tryz.f6 (qrp s w)) ⟨qo0 s (.slice (some ⟨w.heap.size,0,none⟩) (quw s) (zr 10 s).length) u,[]⟩ (w.alloc (.cells ((zr 10 s).map Value.string).toArray 9)):=by
 obtain⟨i0,hi,hz0,hz1,hz2⟩:=info_parts qki;obtain⟨E,hw1⟩:∃v,w.alloc (.cells ((zr 10 s).map Value.string).toArray 9)=v:=⟨_,rfl⟩
 have hb1:Bw w E:=by rw[<-hw1];exact boxed (jcc _ w) _
 have sz1:E.heap.size=w.heap.size+1:=by rw[<-hw1];simp
 have hce:∀(j:Nat) x,(zr 10 s)[j]?=some x->E.cell? ⟨w.heap.size,j,none⟩=some (.string x):=λj x Q=>by
  have R:=qd.new (w:=w) (T:=9) ((zr 10 s).map Value.string) rfl;rw[hw1]at R;exact R.cell j _ (by rw[jcv,Q];rfl)
 rw[hw1];have hmL:=qle 10 s
 have hlin:quw s<=(zr 10 s).length:=by unfold quw;split<;>omega
 have S:=qy3 s
 generalize hL:zr 10 s=L at hce hmL hlin S
 generalize hN:quw s=N at hlin S
 have HC:=hd3 (λx Q=>jcn (hmL.2 x Q) hs) (show L.length<=20001 from by omega) S;have V:=hd3 gl fm (@AR);have NW:Ca 15 #[U 2,U 2] E λe w'=>e=.returned (.tuple #[.pointer (some ⟨E.heap.size+1+1,0,none⟩),U 0])/\∃G,RW w' (E.heap.size+1+1) G (qcb 2 2)/\(∀k,G k->E.heap.size<=k)/\Bw E w':=q42 (n:=2) (c:=2) (by decide) (by decide) (by decide) E;have HB1:=hd3 hb1 sz1 hce
 conv=>arg 2;whnf
 unfold qo0
 go_wp2_with fail
 refine NW.mono ?_;rintro e w2 ⟨rfl,Gw,R2,hG2,hb2⟩
 have T0:Hid (TkI w w2.heap.size w.heap.size L [] [] (w2.alloc (.cells #[.pointer (some ⟨E.heap.size+1+1,0,none⟩)] 49))):=by
  have I:=boxed (jcc _ w2) (.cells #[.pointer (some ⟨E.heap.size+1+1,0,none⟩)] 49);have b02:=qa HB1.out.1 hb2;have z:=HB1.out.2.1;have J:=hb2.size;refine⟨qcb 2 2,E.heap.size+1+1,Gw,λk=>k=w2.heap.size\/Gw k,.nil,⟨heap_alloc_new w2 _,R2.later I,λe=>by have:=R2.lt _ e;omega⟩,λ_=>jdl,λk hk=>?_,⟨by simp;omega,λhk=>?_⟩,qa b02 I,λj x Q=>?_⟩
  ·rcases hk with rfl|e
   ·exact b02.size
   have:=hG2 k e;omega
  ·rcases hk with e|e
   ·omega
   have:=hG2 _ e;omega
  exact(I.cell (p:=⟨w.heap.size,j,none⟩) (by show w.heap.size<_;omega)).trans ((hb2.cell (p:=⟨w.heap.size,j,none⟩) (by show w.heap.size<_;omega)).trans (HB1.out.2.2 j x Q))
 go_wp2
 go_loopw [7,46] (λov iv wr=>∃(k:Nat) (z:Int) (O:List UInt8),k<=N/\z=k/\iv=U z/\ov=.string (bya O)/\Hid (TkI w w2.heap.size w.heap.size L (L.take k) O wr)) (λ_ iv _=>N-(intOf iv).toNat)
 case atStart=>exact⟨0,0,[],jcw _,rfl,rfl,rfl,T0⟩
 rename World=>wo
 obtain⟨k,z,O,hk,hz,rfl,rfl,HS⟩:=hrel;have HZ:=hd1 hz;by_cases S:k<N
 ·have g1:z<(N:Int):=by omega
  have g2:0<=z:=by omega
  have g3:z.toNat=k:=by omega
  have hkl:k<L.length:=by omega
  have g8:z<20001:=by have:=HC.out.2.1;omega
  obtain⟨x,Q⟩:∃x,L[k]?=some x:=⟨_,jcg hkl⟩;obtain⟨W,b,Gw,G,A⟩:=HS.out;have c0:=A.cell k x Q;have hxs:=HC.out.1 x (jcq Q);have SP:=qrm 32 x (by omega) wo (V.out.1.later A.bl);have hYm:=qle 32 x;obtain⟨Y,hY⟩:∃Y,zr 32 x=Y:=⟨_,rfl⟩;rw[hY]at SP hYm;have hol:=(A.tk.len (DkI.new (by decide) (by decide) (by decide))).1
  have hpl:(L.take k).length<=20001:=by rw[jc5];have:=HC.out.2.1;omega
  have P:=hd8 A Q hY hxs (show Y.length<=20001 from by omega) (λy X=>jcn (hYm.2 y X) hxs) hpl (show O.length<=8020401 from by omega)
  go_wp2_with fail
  refine SP.mono ?_;rintro e w' ⟨rfl,rfl⟩;obtain⟨K,hw3⟩:∃v,wo.alloc (.cells (Y.map Value.string).toArray 9)=v:=⟨_,rfl⟩
  have R3:qd K wo.heap.size (Y.map Value.string):=by rw[<-hw3];exact qd.new (w:=wo) (T:=9) (Y.map Value.string) rfl
  have B3:Bw wo K:=by rw[<-hw3];exact boxed (jcc _ wo) _
  have H3:=hd2 R3 B3;rw[hw3]
  go_wp2
  go_loopw [10,53] (λwv iv h=>∃(d:Nat) (J:Int),d<=Y.length/\J=d/\iv=U J/\Hid (h.ownsRow K.heap.size 9 1 wv ((Y.take d).filter neB).length (((Y.take d).filter neB).map Value.string)/\Bw K h)) (λ_ iv _=>Y.length-(intOf iv).toNat)
  case atStart=>exact⟨0,0,jcw _,rfl,rfl,jcx K _ _ _,jcc _ _⟩
  rename World=>h
  obtain⟨d,J,hk2,hz2',rfl,Z⟩:=hrel;have HZ2:=hd1 hz2';by_cases hlt2:d<Y.length
  ·have g4:J<(Y.length:Int):=by omega
   have g5:0<=J:=by omega
   have g6:J.toNat=d:=by omega
   have g7:J<20001:=by have:=P.out.2.2.2.2.1;omega
   obtain⟨y,X⟩:∃y,Y[d]?=some y:=⟨_,jcg hlt2⟩;have hwl:=H3.out.1.lt;have cy:=(Z.out.2.cell (p:=⟨wo.heap.size,d,none⟩) hwl).trans (H3.out.1.cell d _ (by rw[jcv,X];rfl))
   have etk:(Y.take (d+1)).filter neB=(Y.take d).filter neB++(if neB y=true then [y]else []):=by
        rw[jdu,X,jdk]
        by_cases q:neB y=true<;>simp[q]
   by_cases hn:neB y=true
   ·have hne:y.toList.isEmpty=false:=by
     rw[qca];unfold neB at hn;simpa[toL]using hn
    rw[if_pos hn]at etk;have I:=boxed (jcc _ h) (.cells #[.string y] 9);have own2:=qg3 Z.out.1 I;have hfl:((Y.take d).filter neB).length<=d:=jcn (jdo _ _) (by rw[jc5];omega);have HB:=hd2 Z.out.2 (show ((Y.take d).filter neB).length<=20001 from by have:=P.out.2.2.2.2.1;omega);have HE:=hd1 etk
    generalize hF:(Y.take d).filter neB=F at own2 HB HE Z
    go_wp2_with (at_builtin;refine wpList_append_lies _ rfl _ _ 42 rfl K.heap.size 9 i0 (.string ⟨#[]⟩) 1 16 Tryz.underlying42 hi hz0 hz1 hz2 rfl (by decide) _ _ _ rfl own2 ⟨h.heap.size,0,none⟩ 1 1 [.string y] rfl rfl (World.news_of_block (heap_alloc_new h (.cells #[.string y] 9))) ?c2 (by decide) ?c3 ?c4 ?c5 _ rfl ?_)
    case c2=>intro v H;simp at H;subst H;rfl
    case c3=>have:=HB.out.2;unfold maxLen;omega
    case c4=>have:=HB.out.2;omega
    case c5=>have:=HB.out.1.size;simp;omega
    intro B gc w4 own4 gr4 at4 lt4
    have C:Hid (w4.ownsRow K.heap.size 9 1 (.slice (some ⟨B,0,none⟩) (F.length+1) gc) ((Y.take (d+1)).filter neB).length (((Y.take (d+1)).filter neB).map Value.string)/\Bw K w4):=by
     refine⟨by rw[HE.out];simpa using own4,?_⟩;exact(HB.out.1.alloc HB.out.1.size _).grown gr4 (by have:=HB.out.1.size;simp;omega) (λq e=>(own2.lt q e).1)
    go_wp2
    go_roundw
    case rel=>exact⟨d+1,J+1,hlt2,by have:=HZ2.out;omega,by go_num,C.out⟩
    simp[intOf];omega
   have hne:y.toList.isEmpty=true:=by
        rw[qca];unfold neB at hn;simpa[toL]using hn
   rw[if_neg hn,jdx]at etk
   have C:Hid (h.ownsRow K.heap.size 9 1 u10 ((Y.take (d+1)).filter neB).length (((Y.take (d+1)).filter neB).map Value.string)/\Bw K h):=by rw[etk];exact Z
   go_wp2
   go_roundw
   case rel=>exact⟨d+1,J+1,hlt2,by have:=HZ2.out;omega,by go_num,C.out⟩
   simp[intOf];omega
  have g4:¬J<(Y.length:Int):=by omega
  have hk3:d=Y.length:=by omega
  subst hk3;rw[jc9,show Y.filter neB=qa9 x by rw[qp4,P.out.2.2.1]]at Z;obtain⟨a,cp,rfl,hst,han⟩:=q8q Z.out.1;have B4:=qa H3.out.2 Z.out.2;have A4:=P.out.1.later B4;have hsm:∀y∈qa9 x,y.size<=20000:=λy X=>P.out.2.2.2.2.2.1 y (by rw[qp4,P.out.2.2.1]at X;exact(jdq.1 X).1)
  have hpre:L.take k++[x]=L.take (k+1):=by rw[jdu,P.out.2.1];rfl
  generalize hws:qa9 x=ws at hst hsm Z
  have hBw:=H3.out.2.size;have f:=hd7 A4 hws hsm hpre P.out.2.2.2.2.2.2.2 P.out.2.2.2.2.2.2.1 (show ∀q,K.heap.size<=q->¬G q from λq hq e=>by have:=P.out.1.lt q e;omega);rcases ws with _|⟨y,l⟩
  ·have AD1:=quk (a:=[111,107]) (b:=[10]) rfl (by decide);have AD2:=quk (a:=O) (b:=[111,107,10]) rfl (by have:=f.out.2.2.2.2.1;simp;omega)
   have C:Hid (TkI w w2.heap.size w.heap.size L (L.take (k+1)) (O++[111,107,10]) h):=by
        have q:=f.out.1.step (x:=x) (W':=W) (told:=[111,107]) (by unfold qas;rw[f.out.2.1];exact⟨rfl,rfl⟩) (f.out.1.hs.same f.out.1.g (jcc _ _));rw[f.out.2.2.2.1,jcy]at q;exact q
   go_wp2
   go_roundw
   case rel=>exact⟨k+1,z+1,_,S,by have:=HZ.out;omega,by go_num,rfl,C.out⟩
   simp[intOf];omega
  obtain⟨B,o,rfl,hgl,cy⟩:=hst.cell 0 y rfl;obtain⟨rfl,hgB⟩:=han B o rfl;have hcl:=hst.cap;have hgG:=f.out.2.2.2.2.2.2 B hgB;have hbd:Bw h h.drew:=(jcc _ _).drew;have AD:=f.out.1.later hbd;have S0K:jg (λq=>q=B) h h:=jg.refl _ _;have KD:=vy S0K;have CY:∀w',jg (λq=>q=B) h w'->w'.cell? ⟨B,0,none⟩=some (.string y):=λw' kp=>(jch (w:=h) (a:=⟨B,0,none⟩) (kp.block B rfl)).trans cy;have HKB:Hid (∀m {er:Int} {t:List UInt8},(∃W',qas W x W' (if er=0 then t else qgt er)/\wfI er/\qbi (hsP w2.heap.size W') h.drew G m)->jg (λq=>q=B) h m):=λm _ _ ⟨_,_,_,_,_,_,D⟩=>⟨D.os,D.tape,D.output,D.size,λq e=>D.block q (by rw[e];exact hgl) (by rw[e];exact hgG)⟩;by_cases hcp:cp=1
  ·subst hcp
   obtain rfl:l=[]:=by
        rcases l with _|⟨v,r⟩
        ·rfl
        simp at hcl
   have DO:Hid (Ca 16 #[.pointer (some ⟨w2.heap.size,0,none⟩),.string y,.slice (some ⟨B,0,none⟩) 0 0] h.drew (jai W x h.drew w2.heap.size G)):=qt3 V.out.2.2 (AD.rd V.out.1 V.out.2.1 (by have:=f.out.2.2.2.2.2.1;omega) (cap:=0) (a:=some ⟨B,0,none⟩) (l:=[]) ⟨by simp,λj y X=>by simp at X⟩ (by simp) (λbk o e=>by injection e with e;injection e with e1 e2;rw[<-e1];exact hgG)) f.out.2.1 (by have:=f.out.2.2.1 y (by simp);unfold maxLen;omega)
   dsimp only[List.length_cons,List.length_nil,Nat.zero_add]
   go_upto_region 21 with fail
   go_region_held3 (λw'=>jg (λq=>q=B) h w') (repeat (first|(with_reducible assumption)|(with_reducible refine vy ?_))) (first
        |(go_at_call 16
          with_reducible refine DO.out.mono ?_
          rintro e m ⟨t,er,rfl,HL⟩
          have KB:=HKB.out m HL.out))
   all_goals
        obtain⟨W',hans,hwe,hL⟩:=HL.out;have hD:=(f.out.1.tk.len (DkI.new (by decide) (by decide) (by decide))).2;have tl:=hans.len hD;obtain⟨D,M⟩:∃v,(if er=0 then t else qgt er)=v:=⟨_,rfl⟩;rw[M]at hans tl;obtain⟨T1,aa⟩:∃v,D++[10]=v:=⟨_,rfl⟩;obtain⟨out2,hout2⟩:∃v,O++T1=v:=⟨_,rfl⟩;have hol:=f.out.2.2.2.2.1;have AD1:=quk aa (by rw[<-aa];simp;omega);have AD2:=quk hout2 (by rw[<-hout2,<-aa];simp;omega)
        have C:Hid (TkI w w2.heap.size w.heap.size L (L.take (k+1)) out2 m):=by
         have q:=(f.out.1.later (jcc _ _).drew).step (x:=x) (W':=W') (told:=D) hans hL;rw[f.out.2.2.2.1,jcy,aa,hout2]at q;exact q
        by_cases h0:er=0
        ·subst h0;rw[if_pos rfl]at M;subst M
         go_wp2
         go_roundw
         case rel=>exact⟨k+1,z+1,_,S,by have:=HZ.out;omega,by go_num,rfl,C.out⟩
         simp[intOf];omega
        have h1:=beq_false_of_ne h0
        have h2:(er !=0)=true:=by show (!(er==0))=true;rw[h1];rfl
        rw[if_neg h0]at M;have AD0:=quk (a:=[101,114,114,111,114,32]) (b:=Lib.itoa er) (c:=D) M (by omega);have I:=boxed (jcc _ m) (.cells #[U er] 3);obtain⟨_,_,_,_,AB⟩:=C.out
        have WD:=qb7 (b:=m.heap.size) (o:=0) (cap:=1) (l:=[er]) (by simp) (by simp) (by simpa using hwe) (m.alloc (.cells #[U er] 3)) (V.out.1.later (qa AB.bl I)) (by simp) (λj v H=>by
         rcases j with _|j
         ·have:=(qd.new (w:=m) (T:=3) [U er] rfl).cell 0 _ rfl;simp at H;subst H;exact this
         simp at H)
        rw[quz]at WD;have HBZ:=hd1 I
        go_wp2_with fail
        refine WD.mono ?_;rintro e w5 ⟨rfl,hb5⟩;have FIN2:=hd1 ((C.out.later HBZ.out).later hb5)
        go_wp2
        go_roundw
        case rel=>exact⟨k+1,z+1,_,S,by have:=HZ.out;omega,by go_num,rfl,FIN2.out⟩
        simp[intOf];omega
  obtain⟨c,rfl⟩:∃c,cp=c+1+1:=⟨cp-2,by simp at hcl;omega⟩
  have b1:(l.length:Int)<=(c:Int)+1:=by simp at hcl;omega
  have b2:(l.length:Int)+1<=(c:Int)+1+1:=by omega
  have b3:(1:Int)<=(l.length:Int)+1:=by omega
  have DO:=hd1 (qt3 V.out.2.2 (AD.rd V.out.1 V.out.2.1 (by have:=f.out.2.2.2.2.2.1;omega) (cap:=c+1) (a:=some ⟨B,1,none⟩) (l:=l) (by
   have:=(hst.later hbd).tail
   simpa using this) (λv H=>by have:=f.out.2.2.1 v (by simp[H]);omega) (λbk o e=>by injection e with e;injection e with e1 e2;rw[<-e1];exact hgG)) f.out.2.1 (by have:=f.out.2.2.1 y (by simp);unfold maxLen;omega))
  dsimp only[List.length_cons,List.length_nil,Nat.zero_add]
  go_upto_region 21 with fail
  go_region_held3 (λw'=>jg (λq=>q=B) h w') (repeat (first|(with_reducible assumption)|(with_reducible refine vy ?_))) (first
   |(go_at_call 16
     with_reducible refine DO.out.mono ?_
     rintro e m ⟨t,er,rfl,HL⟩
     have KB:=HKB.out m HL.out))
  all_goals
   obtain⟨W',hans,hwe,hL⟩:=HL.out;have hD:=(f.out.1.tk.len (DkI.new (by decide) (by decide) (by decide))).2;have tl:=hans.len hD;obtain⟨D,M⟩:∃v,(if er=0 then t else qgt er)=v:=⟨_,rfl⟩;rw[M]at hans tl;obtain⟨T1,aa⟩:∃v,D++[10]=v:=⟨_,rfl⟩;obtain⟨out2,hout2⟩:∃v,O++T1=v:=⟨_,rfl⟩;have hol:=f.out.2.2.2.2.1;have AD1:=quk aa (by rw[<-aa];simp;omega);have AD2:=quk hout2 (by rw[<-hout2,<-aa];simp;omega)
   have C:Hid (TkI w w2.heap.size w.heap.size L (L.take (k+1)) out2 m):=by
        have q:=(f.out.1.later (jcc _ _).drew).step (x:=x) (W':=W') (told:=D) hans hL;rw[f.out.2.2.2.1,jcy,aa,hout2]at q;exact q
   by_cases h0:er=0
   ·subst h0;rw[if_pos rfl]at M;subst M
    go_wp2
    go_roundw
    case rel=>exact⟨k+1,z+1,_,S,by have:=HZ.out;omega,by go_num,rfl,C.out⟩
    simp[intOf];omega
   have h1:=beq_false_of_ne h0
   have h2:(er !=0)=true:=by show (!(er==0))=true;rw[h1];rfl
   rw[if_neg h0]at M;have AD0:=quk (a:=[101,114,114,111,114,32]) (b:=Lib.itoa er) (c:=D) M (by omega);have I:=boxed (jcc _ m) (.cells #[U er] 3);obtain⟨_,_,_,_,AB⟩:=C.out
   have WD:=qb7 (b:=m.heap.size) (o:=0) (cap:=1) (l:=[er]) (by simp) (by simp) (by simpa using hwe) (m.alloc (.cells #[U er] 3)) (V.out.1.later (qa AB.bl I)) (by simp) (λj v H=>by
        rcases j with _|j
        ·have:=(qd.new (w:=m) (T:=3) [U er] rfl).cell 0 _ rfl;simp at H;subst H;exact this
        simp at H)
   rw[quz]at WD;have HBZ:=hd1 I
   go_wp2_with fail
   refine WD.mono ?_;rintro e w5 ⟨rfl,hb5⟩;have FIN2:=hd1 ((C.out.later HBZ.out).later hb5)
   go_wp2
   go_roundw
   case rel=>exact⟨k+1,z+1,_,S,by have:=HZ.out;omega,by go_num,rfl,FIN2.out⟩
   simp[intOf];omega
 have g1:¬z<(N:Int):=by omega
 have hkN:k=N:=by omega
 subst hkN
 have C:Hid (qrp s w (.returned (.string (bya O))) wo):=by
  obtain⟨W,b,Gw,G,A⟩:=HS.out;exact⟨O,rfl,⟨W,by rw[HC.out.2.2];exact A.tk⟩,A.bl⟩
 go_wp2
 go_ret;exact C.out
end
section
open Tryz Go.RowKit
theorem q6k (l:∀i,i<19->yt i) (s:ByteArray) (m:s.size<=20000) (w:World) (h:Gl w) (o:qqx w):
 Calls prog 6 #[.string s] w (qrp s w):=by
 have f:=qrm 10 s (by omega) w h
 have v:¬20000<(s.size:Int):=by omega
 have d:=λu=>q1z l s m h o u;have p:=(qle 10 s).1;have R:=qd.new (w:=w) (T:=9) ((zr 10 s).map Value.string) rfl
 have c:quw s=if 1<(zr 10 s).length/\(zr 10 s).getLast?=some ⟨#[]⟩then (zr 10 s).length-1 else (zr 10 s).length:=rfl
 generalize x:w.alloc (.cells ((zr 10 s).map Value.string).toArray 9)=w1 at f d R
 generalize zr 10 s=L at f d R p c
 generalize quw s=N at d c
 by_cases j:1<L.length
 ·obtain⟨y,k⟩:∃y,L[L.length-1]?=some y:=⟨_,jcg (by omega)⟩;have B:=R.cell (L.length-1) _ (show (L.map Value.string)[L.length-1]?=some (.string y) by rw[jcv,k];rfl);rw[List.getLast?_eq_getElem?,k]at c
  generalize L.length=n at*
  obtain⟨z,r⟩:∃z:Int,(n:Int)-1=z:=⟨_,rfl⟩
  have t:(1:Int)<n:=by omega
  have C:0<=z:=by omega
  have D:z<n:=by omega
  have E:z.toNat=n-1:=by omega
  have F:z<=n:=by omega
  have G:(n:Int)<=20001:=by omega
  have W1:wrap64 ((n:Int)-1)=z:=by rw[r];unfold wrap64;omega
  by_cases e:y=⟨#[]⟩
  ·subst e;rw[if_pos ⟨j,rfl⟩]at c;subst c;have g:Hid (∀u,Code.wp prog qlq (bodyPost prog f6 (qrp s w)) ⟨qo0 s (.slice (some ⟨w.heap.size,0,none⟩) (n-1) n) u,[]⟩ w1):=d;go_enter func6,ntmps6
   go_wp2_with fail
   refine f.mono ?_;rintro e w' ⟨rfl,rfl⟩
   go_upto_region 5 with fail
   iterate 18 go_step
   repeat (first|exact g.out (λn=>List.getD (undef::undef::undef::undef::undef::undef::undef::undef::undef::undef::undef::undef::undef::undef::undef::_::_::_::_::_::_::_::_::_::_::_::_::_::_::_::_::_::_::_::_::_::_::[]) n undef)|go_step)
  ·have H:y.toList.isEmpty=false:=by
        rw[qca];cases q:y.data.toList with
        |nil=>exact absurd (show y=⟨#[]⟩from(show y=bya y.data.toList from rfl).trans (by rw[q])) e
        |cons a b=>simp[toL,q]
   rw[if_neg (λq=>e (jcu q.2))]at c;subst c;have g:Hid (∀u,Code.wp prog qlq (bodyPost prog f6 (qrp s w)) ⟨qo0 s (.slice (some ⟨w.heap.size,0,none⟩) N N) u,[]⟩ w1):=d;go_enter func6,ntmps6
   go_wp2_with fail
   refine f.mono ?_;rintro e w' ⟨rfl,rfl⟩
   go_upto_region 4 with fail
   iterate 18 go_step
   repeat (first|exact g.out (λn=>List.getD (undef::undef::undef::undef::undef::undef::undef::undef::undef::undef::undef::undef::undef::undef::undef::_::_::_::_::_::_::_::_::_::_::_::_::_::_::_::_::_::_::_::_::_::_::[]) n undef)|go_step)
 ·rw[if_neg (λq=>j q.1)]at c;subst c;have g:Hid (∀u,Code.wp prog qlq (bodyPost prog f6 (qrp s w)) ⟨qo0 s (.slice (some ⟨w.heap.size,0,none⟩) L.length L.length) u,[]⟩ w1):=d
  have t:¬(1:Int)<L.length:=by omega
  go_enter func6,ntmps6
  go_wp2_with fail
  refine f.mono ?_;rintro e w' ⟨rfl,rfl⟩
  go_upto_region 4 with fail
  iterate 12 go_step
  repeat (first|exact g.out (λn=>List.getD (undef::undef::undef::undef::undef::undef::undef::undef::undef::undef::undef::undef::undef::undef::undef::_::_::_::_::_::_::_::_::_::_::_::_::_::_::_::_::_::_::_::_::_::_::[]) n undef)|go_step)
end
section
open Go.RowKit
theorem q5g:yt 3:=λ{w w2 n0 hb b j cap nc Gw G W a na l ns} u h hn hlen ht _ hN hb2=>by
 have R:=(h.hs.later hb2).rw;obtain rfl:=qsd hlen;have C:=q8g w2 R h.wi.wf h.wi.nt;have c:=hd3 h hn hb2
 conv=>arg 2;whnf
 unfold qa3
 go_wp2_with fail
 refine C.mono ?_;rintro e i ⟨rfl,W',d,f⟩;have g:=hd1 (c.out.1.fin c.out.2.1 c.out.2.2 ⟨rfl,d.out.1,rfl⟩ (λ_=>rfl) f (jcc _ _))
 go_wp2
 go_ret2;exact g.out
theorem q09:yt 15:=λ{w w2 n0 hb b j cap nc Gw G W a na l ns} u h hn hlen ht _ hN hb2=>by
 have R:=(h.hs.later hb2).rw;obtain⟨x,rfl⟩:=qit hlen;simp[qx,qb8,thB,thC]at ht;obtain⟨k,rfl,d,f,n⟩:=qac ht;obtain⟨g,rfl,o,p,q⟩:=hN.cell 0 _ rfl;have r:=hN.cap;have C:=q57 w2 R h.wi.wf d;have c:=hd4 h hn hb2 f
 conv=>arg 2;whnf
 unfold qa3
 go_wp2_with fail
 refine C.mono ?_;rintro e s ⟨rfl,i⟩;have m:=hd1 (c.out.1.fin c.out.2.1 c.out.2.2.1 ⟨rfl,by rw[if_pos c.out.2.2.2];exact⟨rfl,rfl⟩⟩ (λ_=>rfl) i (jcc _ _))
 go_wp2
 go_ret2;exact m.out
theorem q6s:yt 10:=λ{w w2 n0 hb b j cap nc Gw G W a na l ns} u h hn hlen ht _ hN hb2=>by
 have R:=(h.hs.later hb2).rw;obtain⟨x,rfl⟩:=qit hlen;simp[qx,qb8,thB,thC]at ht;obtain⟨k,rfl,f,i,p⟩:=qac ht;obtain⟨g,rfl,q,r,s⟩:=hN.cell 0 _ rfl;have t:=hN.cap;obtain⟨d,m⟩:∃d,W.net[k]?=some d:=⟨_,jcg f⟩;have C:=qzc w2 R h.wi.wf.net m;have c:=hd4 h hn hb2 i
 conv=>arg 2;whnf
 unfold qa3
 go_wp2_with fail
 refine C.mono ?_;rintro e v ⟨y,rfl,z,n⟩;have o:=hd1 (c.out.1.fin c.out.2.1 c.out.2.2.1 ⟨rfl,by rw[if_pos c.out.2.2.2];exact⟨rfl,rfl⟩⟩ (λ_=>rfl) n.out.2.2 (jcc _ _))
 go_wp2
 go_ret2;exact o.out
theorem q05:yt 16:=λ{w w2 n0 hb b j cap nc Gw G W a na l ns} u h hn hlen ht _ hN hb2=>by
 have R:=(h.hs.later hb2).rw;obtain⟨x,rfl⟩:=qit hlen;simp[qx,qb8,thB,thC]at ht;obtain⟨k,rfl,i,m,q⟩:=qac ht;obtain⟨g,rfl,r,s,t⟩:=hN.cell 0 _ rfl;have v:=hN.cap;obtain⟨d,f⟩:∃d,W.net[k]?=some d:=⟨_,jcg i⟩;have C:=q4u w2 R f;have n:=hd1 f;have c:=hd4 h hn hb2 m
 conv=>arg 2;whnf
 unfold qa3
 go_wp2_with fail
 refine C.mono ?_;rintro e y ⟨rfl,o⟩;have p:=hd1 (c.out.1.fin c.out.2.1 c.out.2.2.1 ⟨rfl,by rw[if_pos c.out.2.2.2];exact⟨⟨d,n.out,rfl⟩,rfl⟩⟩ (λ_=>rfl) o (jcc _ _))
 go_wp2
 go_ret2;exact p.out
theorem que:yt 6:=λ{w w2 n0 hb b j cap nc Gw G W a na l ns} u h hn hlen ht _ hN hb2=>by
 have R:=(h.hs.later hb2).rw;obtain⟨x,rfl⟩:=qit hlen;simp[qx,qb8,thB,thC]at ht;obtain⟨k,rfl,m,n,v⟩:=qac ht;obtain⟨g,rfl,z,A,B⟩:=hN.cell 0 _ rfl;have D:=hN.cap;obtain⟨f,i⟩:∃f,W.net[k]?=some f:=⟨_,jcg m⟩;have C:=qzc w2 R h.wi.wf.net i;have d:=hd3 i h.wi.wf h.wi.nt;have c:=hd4 h hn hb2 n
 conv=>arg 2;whnf
 unfold qa3
 go_wp2_with fail
 refine C.mono ?_;rintro e E ⟨y,rfl,o,p⟩;have q:=qwm d.out.2.1 d.out.2.2 d.out.1 o p
 go_wp2_with fail
 refine q.mono ?_;rintro e F ⟨rfl,W',r,s⟩;have t:=hd1 (c.out.1.fin c.out.2.1 c.out.2.2.1 ⟨rfl,by rw[if_pos c.out.2.2.2];exact⟨r.out,rfl⟩⟩ (λ_=>rfl) s (jcc _ _))
 go_wp2
 go_ret2;exact t.out
end
section
open Go.RowKit
theorem qpv {b k:Nat} {wv:Value} {s:qy} {G:Nat->Prop} {F:Nat->Option Obj} {S:qe} (key:Int) (w:World) (h:qgs w b wv s) (z:RS w k G F S) (B:j3 S):
 Ca 32 #[PP b,PP k,U key] w (Rn (.tuple #[.string (vi S s key).1,U (vi S s key).2]) w):=by
 have C:=hd1 h;have m:=hd2 z B;have n:=h.box.cell 8 _ rfl;have g:=qla key w h;cases ho:s.opn
 ·rw[ho]at n
  have d:Hid (vi S s key=(⟨#[]⟩,6)):=by show _=_;unfold vi;rw[ho];rfl
  rw[d.out];go_enter Tryz.func32,Tryz.ntmps32
  go_wp2_with fail
  go_ret2;exact⟨rfl,jcc _ _⟩
 rw[ho]at n;cases hw:qay s.ws key with
 |none=>
  obtain⟨⟨⟨o,p,rs,q,l,r⟩,t⟩,u⟩:∃x,qbq S key s.s0 s.s1 s.s2 s.s3=x:=⟨_,rfl⟩
  have d:Hid (vi S s key=(l,t)):=by show _=_;unfold vi;rw[ho,hw,u];rfl
  rw[hw,show qav s.ws key=⟨0,⟨#[]⟩,false⟩ by unfold qav;rw[hw];rfl]at g
  have D:Hid (∀w',Bw w w'->Ca 79 #[PP k,U key,.agg #[U s.s0,U s.s1,U s.s2,U s.s3]] w' λe E=>e=.returned (.tuple #[.agg #[U o,U p,U rs,U q,.string l,.bool r],U t])/\Bw w' E):=λw' H=>by
   have:=q07 key s.s0 s.s1 s.s2 s.s3 w' (m.out.1.later H) m.out.2;rw[u]at this;exact this
  rw[d.out];go_enter Tryz.func32,Tryz.ntmps32
  go_wp2_with fail
  refine g.mono ?_;rintro e v ⟨rfl,i⟩;rw[show wrV ⟨0,⟨#[]⟩,false⟩=.agg #[U 0,.string ⟨#[]⟩,.bool false]from rfl,show (none:Option Wr).isSome=false from rfl];have f:=boxed i (.cells #[U 0,.string ⟨#[]⟩,.bool false] 100);have j:=C.out.box.later f;have L:=j.cell 4 _ rfl;have M:=j.cell 5 _ rfl;have N:=j.cell 6 _ rfl;have O:=j.cell 7 _ rfl;have I:=D.out _ f
  go_wp2_with fail
  refine I.mono ?_;rintro e P ⟨rfl,J⟩;have K:=boxed (qa f J) (.cells #[U o,U p,U rs,U q,.string l,.bool r] 130)
  go_wp2_with fail
  go_ret2;exact⟨rfl,K⟩
 |some x=>
  obtain⟨c,a,y⟩:=x;rw[hw,show qav s.ws key=⟨c,a,y⟩ by unfold qav;rw[hw];rfl]at g;cases y
  ·have d:Hid (vi S s key=(a,0)):=by show _=_;unfold vi;rw[ho,hw];rfl
   rw[d.out];go_enter Tryz.func32,Tryz.ntmps32
   go_wp2_with fail
   refine g.mono ?_;rintro e v ⟨rfl,i⟩;rw[show wrV ⟨c,a,false⟩=.agg #[U c,.string a,.bool false]from rfl,show (some (⟨c,a,false⟩:Wr)).isSome=true from rfl];have f:=boxed i (.cells #[U c,.string a,.bool false] 100)
   go_wp2_with fail
   go_ret2;exact⟨rfl,f⟩
  have d:Hid (vi S s key=(⟨#[]⟩,8)):=by show _=_;unfold vi;rw[ho,hw];rfl
  rw[d.out];go_enter Tryz.func32,Tryz.ntmps32
  go_wp2_with fail
  refine g.mono ?_;rintro e v ⟨rfl,i⟩;rw[show wrV ⟨c,a,true⟩=.agg #[U c,.string a,.bool true]from rfl,show (some (⟨c,a,true⟩:Wr)).isSome=true from rfl];have f:=boxed i (.cells #[U c,.string a,.bool true] 100)
  go_wp2_with fail
  go_ret2;exact⟨rfl,f⟩
end
section
open Tryz Go.RowKit
variable {d:ByteArray}
theorem ja9 (h:d.toList.isEmpty=false):d.size≠0:=λe=>by
 rw[qca]at h;have:=yh d;rw[e]at this;rw[List.length_eq_zero_iff.1 this]at h;cases h
theorem q73 (h:d.toList.isEmpty=true):d.size=0:=by
 rw[qca,List.isEmpty_iff]at h;rw[<-yh,h];rfl
variable {b:Nat} {s:qy}
theorem qnz {w j l:World} {g c H:Nat} {a:Option Addr} {cap:Nat} {x:Wr} (h:qgs w b (.slice a s.ws.length cap) s) (f:Bw w j) (p:l.ownsRow 0 100 3 (.slice (PT g) (s.ws.length+1) c) (s.ws.length+1) (qcf s.ws++wrC x)) (m:j.grownBy l (Value.slice a s.ws.length cap).ownBlock) (n:(Value.slice a s.ws.length cap).ownBlock=some g\/g=H) (t:j.heap.size<=H):
 qep w b (.slice a s.ws.length cap) {s with ws:=s.ws++[x]} (l.setCell (AD b 9) (.slice (PT g) (s.ws.length+1) c)):=by
 have q:=h.box.later f;have r:=q.grown m (λe=>h.nb e.symm);have u:=h.box.lt
 have o:g≠b:=by
  rcases n with e|e
  ·intro i;rw[i]at e;exact h.nb e
  have:=f.size;omega
 have R:=r.set 9 (.slice (PT g) (s.ws.length+1) c) (by simp[jr]);refine⟨.slice (PT g) (s.ws.length+1) c,⟨R,?_,λe=>o (by simpa[Value.ownBlock]using e)⟩,λk e=>?_,?_⟩
 ·show World.ownsRow _ 0 _ 3 _ (s.ws++[x]).length (qcf (s.ws++[x]));rw[qkh,jcl];refine qf p (λk e=>?_)
  have e:g=k:=by simpa[Value.ownBlock]using e
  rw[<-e];exact jce _ _ _ _ o
 ·have e:g=k:=by simpa[Value.ownBlock]using e
  rw[<-e];rcases n with i|i
  ·exact .inl i
  exact .inr (by have:=f.size;omega)
 exact((qc.ofBelow f).trans (qc.grown m (λk e=>.inr e))).trans (qc.setCell _ _ _ (.inl rfl))
theorem qsb {wv:Value} (x:Wr) (w:World) (h:qgs w b wv s) (hl:s.ws.length<=1000000):
 Ca 33 #[PP b,wrV x] w λe w'=>e=.returned (U (qaj s x))/\qep w b wv (qd2 s x) w':=by
 have NO:∀w9 ev,qaj s x=ev->ev≠0->Bw w w9->Hid ((.returned (U ev):Ending)=.returned (U (qaj s x))/\qep w b wv (qd2 s x) w9):=λw9 ev e1 e2 e3=>by
  show _/\_;rw[e1,show qd2 s x=s by unfold qd2;rw[if_neg (by rw[e1];exact e2)]];exact⟨rfl,qep.same h e3⟩
 obtain⟨a,cap,rfl,hWi⟩:=qbg h.row;obtain⟨c,f,j⟩:=x;have hb:=boxed (jcc _ w) (.cells #[U c,.string f,.bool j] 100);have RX:=qd.new (w:=w) (T:=100) [U c,.string f,.bool j] rfl;change qd (w.alloc (.cells #[U c,.string f,.bool j] 100)) w.heap.size [U c,.string f,.bool j]at RX;have HS:=hd1 h;have R:=hd1 hl;have B:=h.box.later hb;have HNO:=hd1 NO;show Ca 33 #[PP b,.agg #[U c,.string f,.bool j]] w _;have k8:=B.cell 8 _ rfl;have x0:=RX.cell 0 _ rfl;have x1:=RX.cell 1 _ rfl;have x2:=RX.cell 2 _ rfl;cases ho:s.opn
 ·rw[ho]at k8
  have E:qaj s ⟨c,f,j⟩=6:=by unfold qaj;rw[if_pos ho]
  have N:=(HNO.out _ 6 E (by decide) hb).out;go_enter func33,ntmps33
  go_wp2_with fail
  go_ret;exact N
 rw[ho]at k8
 have n1:¬s.opn=false:=by rw[ho];decide
 have GO:Hid (∀i,Below (w.alloc (.cells #[U c,.string f,.bool j] 100)).heap.size (w.alloc (.cells #[U c,.string f,.bool j] 100)) i->qgs i b (.slice a s.ws.length cap) s/\qd i w.heap.size [U c,.string f,.bool j]/\Bw w i):=λi m=>⟨(HS.out.later hb).later m,RX.later m,qa hb m⟩;cases hin:inB c 0 7
 ·have n2:c<0\/8<=c:=by
   simp only[inB,Bool.and_eq_false_iff,decide_eq_false_iff_not]at hin;omega
  have E:qaj s ⟨c,f,j⟩=2:=by unfold qaj;rw[if_neg n1,if_pos n2]
  have N:Hid (∀i,Bw w i->(.returned (U 2):Ending)=.returned (U (qaj s ⟨c,f,j⟩))/\qep w b (.slice a s.ws.length cap) (qd2 s ⟨c,f,j⟩) i):=λi m=>(HNO.out _ 2 E (by decide) m).out;have IN:=vj hin (w.alloc (.cells #[U c,.string f,.bool j] 100));go_enter func33,ntmps33
  go_wp2_with fail
  refine IN.mono ?_;rintro e D ⟨rfl,O⟩;obtain⟨_,_,F⟩:=GO.out D O
  go_wp2_with fail
  go_ret;exact N.out _ F
 have n2:¬(c<0\/8<=c):=by
  simp only[inB,jct,decide_eq_true_eq]at hin;omega
 have HK:Hid (0<=c/\c<8):=⟨by omega,by omega⟩;have IN:=vj hin (w.alloc (.cells #[U c,.string f,.bool j] 100));by_cases hlen:12<(f.size:Int)
 ·have E:qaj s ⟨c,f,j⟩=4:=by unfold qaj;rw[if_neg n1,if_neg n2,if_pos (by show 12<f.size;omega)]
  have N:Hid (∀i,Bw w i->(.returned (U 4):Ending)=.returned (U (qaj s ⟨c,f,j⟩))/\qep w b (.slice a s.ws.length cap) (qd2 s ⟨c,f,j⟩) i):=λi m=>(HNO.out _ 4 E (by decide) m).out;go_enter func33,ntmps33
  go_wp2_with fail
  refine IN.mono ?_;rintro e D ⟨rfl,O⟩;obtain⟨_,n,F⟩:=GO.out D O;have S:=n.cell 1 _ rfl
  go_wp2_with fail
  go_ret;exact N.out _ F
 have n3:¬12<f.size:=by omega
 cases hgg:(j&&!f.toList.isEmpty)
 ·have HT:Hid (¬(j=true/\f.size≠0)):=by
   show ¬_;rintro ⟨e1,e2⟩;rw[e1]at hgg;exact e2 (q73 (by simpa using hgg))
  have OW:Hid (∀i,qgs i b (.slice a s.ws.length cap) s->Ca 78 #[PP b,U c] i λe w'=>e=.returned (.tuple #[wrV (qav s.ws c),.bool (qay s.ws c).isSome])/\Bw i w'):=λi m=>qla c i m;have ALL:Hid (∀i,qgs i b (.slice a s.ws.length cap) s->Ca 80 #[PP b] i λe w'=>∃v,e=.returned v/\w'.ownsRow i.heap.size 100 3 v (jh s.ws).length (qcf (jh s.ws))/\Bw i w'):=λi m=>qp1 i m;obtain⟨⟨q,r,t⟩,hoo⟩:∃y,qav s.ws c=y:=⟨_,rfl⟩
  have HF:Hid (¬(qay s.ws c=none/\5<=(jh s.ws).length)->qaj s ⟨c,f,j⟩=0/\qd2 s ⟨c,f,j⟩={s with ws:=s.ws++[⟨c,f,j⟩]}):=λhno=>by
   have E:qaj s ⟨c,f,j⟩=0:=by unfold qaj;rw[if_neg n1,if_neg n2,if_neg n3,if_neg HT.out,if_neg hno]
   exact⟨E,by unfold qd2;rw[if_pos E]⟩
  have HF2:Hid ((qay s.ws c=none/\5<=(jh s.ws).length)->qaj s ⟨c,f,j⟩=12):=λhno=>by
   unfold qaj;rw[if_neg n1,if_neg n2,if_neg n3,if_neg HT.out,if_pos hno]
  have N:Hid (∀i,qaj s ⟨c,f,j⟩=12->Bw w i->(.returned (U 12):Ending)=.returned (U (qaj s ⟨c,f,j⟩))/\qep w b (.slice a s.ws.length cap) (qd2 s ⟨c,f,j⟩) i):=λi E m=>(HNO.out _ 12 E (by decide) m).out;obtain⟨i0,hi,hz0,hz1,hz2⟩:=info_parts qmn;rw[hoo]at OW;cases j
  ·clear hgg;go_enter func33,ntmps33
   go_wp2_with fail
   refine IN.mono ?_;rintro e D ⟨rfl,O⟩;obtain⟨V,n,F⟩:=GO.out D O;have y0:=n.cell 0 _ rfl;have S:=n.cell 1 _ rfl;have y2:=n.cell 2 _ rfl;have P:=OW.out D V;cases hw:qay s.ws c with
   |some y=>
    rw[hw,show (some y).isSome=true from rfl,show wrV ⟨q,r,t⟩=.agg #[U q,.string r,.bool t]from rfl]at P;have G:=hd1 (HF.out (λe=>by rw[hw]at e;cases e.1))
    go_wp2_with fail
    refine P.mono ?_;rintro e w2 ⟨rfl,W⟩;have z:=boxed W (.cells #[U q,.string r,.bool t] 100);have o:=V.later z;have p:=n.later z;have H:=qa F z;obtain⟨k,I⟩:∃k,w2.alloc (.cells #[U q,.string r,.bool t] 100)=k:=⟨_,rfl⟩;rw[I]at o p H
    go_wp2_with (rw[I])
    have l:=o.later ((jcc _ k).drew);have X:=l.row;have hbl:b<k.heap.size:=l.box.lt;have hxl:=p.lt;have z9:=o.box.cell 9 _ rfl;have g9:=o.box.free 9 (by simp[jr]);have y0:=p.cell 0 _ rfl;have S:=p.cell 1 _ rfl;have y2:=p.cell 2 _ rfl
    go_region_law (refine step_append_lies _ rfl (.tmp 46) (.tmp 48) 88 rfl 0 100 i0 (.agg #[U 0,.string ⟨#[]⟩,.bool false]) 3 32 underlying88 hi hz0 hz1 hz2 rfl (by decide) (.slice a s.ws.length cap) s.ws.length (qcf s.ws) (by simp[Act.eval]) (X.alloc _) (AD k.heap.size 0) 1 1 (wrC ⟨c,f,false⟩) (by simp[Act.eval]) rfl (World.news_of_block (heap_alloc_new k.drew (.cells #[U c,.string f,.bool false] 100))) (by intro u J;simp[wrC]at J;rcases J with rfl|rfl|rfl<;>rfl) (by decide) (by have:=R.out;simp only[maxLen];omega) (by have:=R.out;omega) (by simp) _ rfl ?_
                   intro g cap9 wE Y K Z ltE;have L:=((l.box).boxed (.cells #[U c,.string f,.bool false] 100)).grown K (λe=>l.nb e.symm);have e9:=L.cell 9 _ rfl
                   have h9:=L.free 9 (by simp[jr]))
    all_goals
     have M:=qnz HS.out (boxed ((qa H ((jcc _ k).drew))) (.cells #[U c,.string f,.bool false] 100)) Y K Z (by simp)
     go_wp2_with fail
     go_ret;refine⟨by rw[G.out.1];rfl,?_⟩;rw[G.out.2];exact M
   |none=>
    rw[hw,show (none:Option Wr).isSome=false from rfl,show wrV ⟨q,r,t⟩=.agg #[U q,.string r,.bool t]from rfl]at P
    go_wp2_with fail
    refine P.mono ?_;rintro e w2 ⟨rfl,W⟩;have z:=boxed W (.cells #[U q,.string r,.bool t] 100);have o:=V.later z;have p:=n.later z;have H:=qa F z;obtain⟨k,I⟩:∃k,w2.alloc (.cells #[U q,.string r,.bool t] 100)=k:=⟨_,rfl⟩;rw[I]at o p H;have AL:=ALL.out k o
    go_wp2_with (rw[I])
    refine AL.mono ?_;rintro e C ⟨v,rfl,ownv,aa⟩;obtain⟨va,vc,rfl,hWv⟩:=qbg ownv;have SA:=o.later aa;have Q:=p.later aa;have hbwA:=qa H aa;by_cases m:(5:Int)<=((jh s.ws).length:Int)
    ·have M:=N.out C (HF2.out ⟨hw,by omega⟩) hbwA
     go_wp2_with fail
     go_ret;exact M
    have G:=hd1 (HF.out (λe=>by have:=e.2;omega))
    go_wp2_with fail
    have l:=SA.later ((jcc _ C).drew);have X:=l.row;have hbl:b<C.heap.size:=l.box.lt;have hxl:=Q.lt;have z9:=SA.box.cell 9 _ rfl;have g9:=SA.box.free 9 (by simp[jr]);have y0:=Q.cell 0 _ rfl;have S:=Q.cell 1 _ rfl;have y2:=Q.cell 2 _ rfl
    go_region_law (refine step_append_lies _ rfl (.tmp 46) (.tmp 48) 88 rfl 0 100 i0 (.agg #[U 0,.string ⟨#[]⟩,.bool false]) 3 32 underlying88 hi hz0 hz1 hz2 rfl (by decide) (.slice a s.ws.length cap) s.ws.length (qcf s.ws) (by simp[Act.eval]) (X.alloc _) (AD C.heap.size 0) 1 1 (wrC ⟨c,f,false⟩) (by simp[Act.eval]) rfl (World.news_of_block (heap_alloc_new C.drew (.cells #[U c,.string f,.bool false] 100))) (by intro u J;simp[wrC]at J;rcases J with rfl|rfl|rfl<;>rfl) (by decide) (by have:=R.out;simp only[maxLen];omega) (by have:=R.out;omega) (by simp) _ rfl ?_
                   intro g cap9 wE Y K Z ltE;have L:=((l.box).boxed (.cells #[U c,.string f,.bool false] 100)).grown K (λe=>l.nb e.symm);have e9:=L.cell 9 _ rfl
                   have h9:=L.free 9 (by simp[jr]))
    all_goals
     have M:=qnz HS.out (boxed ((qa hbwA ((jcc _ C).drew))) (.cells #[U c,.string f,.bool false] 100)) Y K Z (by simp)
     go_wp2_with fail
     go_ret;refine⟨by rw[G.out.1];rfl,?_⟩;rw[G.out.2];exact M
  have hee:f.toList.isEmpty=true:=by simpa using hgg
  go_enter func33,ntmps33
  go_wp2_with fail
  refine IN.mono ?_;rintro e D ⟨rfl,O⟩;obtain⟨V,n,F⟩:=GO.out D O;have y0:=n.cell 0 _ rfl;have S:=n.cell 1 _ rfl;have y2:=n.cell 2 _ rfl;have P:=OW.out D V;cases hw:qay s.ws c with
  |some y=>
   rw[hw,show (some y).isSome=true from rfl,show wrV ⟨q,r,t⟩=.agg #[U q,.string r,.bool t]from rfl]at P;have G:=hd1 (HF.out (λe=>by rw[hw]at e;cases e.1))
   go_wp2_with fail
   refine P.mono ?_;rintro e w2 ⟨rfl,W⟩;have z:=boxed W (.cells #[U q,.string r,.bool t] 100);have o:=V.later z;have p:=n.later z;have H:=qa F z;obtain⟨k,I⟩:∃k,w2.alloc (.cells #[U q,.string r,.bool t] 100)=k:=⟨_,rfl⟩;rw[I]at o p H
   go_wp2_with (rw[I])
   have l:=o.later ((jcc _ k).drew);have X:=l.row;have hbl:b<k.heap.size:=l.box.lt;have hxl:=p.lt;have z9:=o.box.cell 9 _ rfl;have g9:=o.box.free 9 (by simp[jr]);have y0:=p.cell 0 _ rfl;have S:=p.cell 1 _ rfl;have y2:=p.cell 2 _ rfl
   go_region_law (refine step_append_lies _ rfl (.tmp 46) (.tmp 48) 88 rfl 0 100 i0 (.agg #[U 0,.string ⟨#[]⟩,.bool false]) 3 32 underlying88 hi hz0 hz1 hz2 rfl (by decide) (.slice a s.ws.length cap) s.ws.length (qcf s.ws) (by simp[Act.eval]) (X.alloc _) (AD k.heap.size 0) 1 1 (wrC ⟨c,f,true⟩) (by simp[Act.eval]) rfl (World.news_of_block (heap_alloc_new k.drew (.cells #[U c,.string f,.bool true] 100))) (by intro u J;simp[wrC]at J;rcases J with rfl|rfl|rfl<;>rfl) (by decide) (by have:=R.out;simp only[maxLen];omega) (by have:=R.out;omega) (by simp) _ rfl ?_
                  intro g cap9 wE Y K Z ltE;have L:=((l.box).boxed (.cells #[U c,.string f,.bool true] 100)).grown K (λe=>l.nb e.symm);have e9:=L.cell 9 _ rfl
                  have h9:=L.free 9 (by simp[jr]))
   all_goals
        have M:=qnz HS.out (boxed ((qa H ((jcc _ k).drew))) (.cells #[U c,.string f,.bool true] 100)) Y K Z (by simp)
        go_wp2_with fail
        go_ret;refine⟨by rw[G.out.1];rfl,?_⟩;rw[G.out.2];exact M
  |none=>
   rw[hw,show (none:Option Wr).isSome=false from rfl,show wrV ⟨q,r,t⟩=.agg #[U q,.string r,.bool t]from rfl]at P
   go_wp2_with fail
   refine P.mono ?_;rintro e w2 ⟨rfl,W⟩;have z:=boxed W (.cells #[U q,.string r,.bool t] 100);have o:=V.later z;have p:=n.later z;have H:=qa F z;obtain⟨k,I⟩:∃k,w2.alloc (.cells #[U q,.string r,.bool t] 100)=k:=⟨_,rfl⟩;rw[I]at o p H;have AL:=ALL.out k o
   go_wp2_with (rw[I])
   refine AL.mono ?_;rintro e C ⟨v,rfl,ownv,aa⟩;obtain⟨va,vc,rfl,hWv⟩:=qbg ownv;have SA:=o.later aa;have Q:=p.later aa;have hbwA:=qa H aa;by_cases m:(5:Int)<=((jh s.ws).length:Int)
   ·have M:=N.out C (HF2.out ⟨hw,by omega⟩) hbwA
    go_wp2_with fail
    go_ret;exact M
   have G:=hd1 (HF.out (λe=>by have:=e.2;omega))
   go_wp2_with fail
   have l:=SA.later ((jcc _ C).drew);have X:=l.row;have hbl:b<C.heap.size:=l.box.lt;have hxl:=Q.lt;have z9:=SA.box.cell 9 _ rfl;have g9:=SA.box.free 9 (by simp[jr]);have y0:=Q.cell 0 _ rfl;have S:=Q.cell 1 _ rfl;have y2:=Q.cell 2 _ rfl
   go_region_law (refine step_append_lies _ rfl (.tmp 46) (.tmp 48) 88 rfl 0 100 i0 (.agg #[U 0,.string ⟨#[]⟩,.bool false]) 3 32 underlying88 hi hz0 hz1 hz2 rfl (by decide) (.slice a s.ws.length cap) s.ws.length (qcf s.ws) (by simp[Act.eval]) (X.alloc _) (AD C.heap.size 0) 1 1 (wrC ⟨c,f,true⟩) (by simp[Act.eval]) rfl (World.news_of_block (heap_alloc_new C.drew (.cells #[U c,.string f,.bool true] 100))) (by intro u J;simp[wrC]at J;rcases J with rfl|rfl|rfl<;>rfl) (by decide) (by have:=R.out;simp only[maxLen];omega) (by have:=R.out;omega) (by simp) _ rfl ?_
                  intro g cap9 wE Y K Z ltE;have L:=((l.box).boxed (.cells #[U c,.string f,.bool true] 100)).grown K (λe=>l.nb e.symm);have e9:=L.cell 9 _ rfl
                  have h9:=L.free 9 (by simp[jr]))
   all_goals
        have M:=qnz HS.out (boxed ((qa hbwA ((jcc _ C).drew))) (.cells #[U c,.string f,.bool true] 100)) Y K Z (by simp)
        go_wp2_with fail
        go_ret;refine⟨by rw[G.out.1];rfl,?_⟩;rw[G.out.2];exact M
 simp only[jct,Bool.not_eq_true']at hgg;obtain⟨rfl,hee⟩:=hgg
 have E:qaj s ⟨c,f,true⟩=1:=by unfold qaj;rw[if_neg n1,if_neg n2,if_neg n3,if_pos ⟨rfl,ja9 hee⟩]
 have N:Hid (∀i,Bw w i->(.returned (U 1):Ending)=.returned (U (qaj s ⟨c,f,true⟩))/\qep w b (.slice a s.ws.length cap) (qd2 s ⟨c,f,true⟩) i):=λi m=>(HNO.out _ 1 E (by decide) m).out;go_enter func33,ntmps33
 go_wp2_with fail
 refine IN.mono ?_;rintro e D ⟨rfl,O⟩;obtain⟨_,n,F⟩:=GO.out D O;have y0:=n.cell 0 _ rfl;have S:=n.cell 1 _ rfl;have y2:=n.cell 2 _ rfl
 go_wp2_with fail
 go_ret;exact N.out _ F
end
section
open Go.RowKit
section
variable {w w':World} {b k:Nat} {M:RoM} {W:WoS} {G:Nat->Prop} {Gs:Nat->Nat->Prop}
theorem RWo.session (h:RWo w b M W Gs) (g:∀k,G k↔qg6 b M (W.n+W.c) Gs k) (d:k<W.c):∃wv,qgs w (M.bs k) wv (W.ses k)/\∀a w',qep w (M.bs k) wv a w'->qae w b G (vf W k a) w'/\qc (Gs (W.n+k)) w w':=by
 obtain⟨wv,i,e⟩:=h.sess d;refine⟨wv,i,λa w' f=>⟨h.stepC g d (f.left e),?_⟩⟩;obtain⟨_,_,_,j⟩:=f.left e;exact j
theorem q4k (h:RWo w b M W Gs) (d:∀k,G k↔qg6 b M (W.n+W.c) Gs k) (a:k<W.c) (f:W.at_ k<W.n):Ca 31 #[PP (M.bs k),.pointer (some (AD (M.bp (W.at_ k)) 0))] w λe w'=>e=.returned (U (qhl (W.S (W.at_ k)) (W.ses k)))/\qae w b G (vf W k (qhd (W.S (W.at_ k)) (W.ses k))) w'/\qc (Gs (W.n+k)) w w':=by
 obtain⟨wv,g,i⟩:=h.session d a;refine(qsz w g (h.site f) (λe=>?_)).mono λe w' ⟨j,l⟩=>⟨j,i _ _ l⟩;obtain⟨o,p,m⟩:=h.sess a;exact h.fam.apart (W.at_ k) (W.n+k) (M.bs k) (by omega) (by omega) (by omega) e ((m _).2 (.inl rfl))
theorem qvm (h:RWo w b M W Gs) (a:∀k,G k↔qg6 b M (W.n+W.c) Gs k) (d:k<W.c) (x:Go.Proofs.YtoanjdndmlffdaaGreatDoor.Wr) (f:(W.ses k).ws.length<=1000000):Ca 33 #[PP (M.bs k),wrV x] w λe w'=>e=.returned (U (qaj (W.ses k) x))/\qae w b G (vf W k (qd2 (W.ses k) x)) w'/\qc (Gs (W.n+k)) w w':=by
 obtain⟨wv,g,i⟩:=h.session a d;exact(qsb x w g f).mono λe w' ⟨j,l⟩=>⟨j,i _ _ l⟩
theorem q66 (h:RWo w b M W Gs) (a:∀k,G k↔qg6 b M (W.n+W.c) Gs k) (d:k<W.c):Ca 35 #[PP (M.bs k)] w λe w'=>e=.returned (U (qi5 (W.ses k)))/\qae w b G (vf W k (qhh (W.ses k))) w'/\qc (Gs (W.n+k)) w w':=by
 obtain⟨wv,f,g⟩:=h.session a d;exact(qiv w f).mono λe w' ⟨i,j⟩=>⟨i,g _ _ j⟩
theorem q8x (h:RWo w b M W Gs) (a:k<W.c) (d:W.at_ k<W.n) (f:j3 (W.S (W.at_ k))) (key:Int):Ca 32 #[PP (M.bs k),.pointer (some (AD (M.bp (W.at_ k)) 0)),U key] w λe w'=>e=.returned (.tuple #[.string (vi (W.S (W.at_ k)) (W.ses k) key).1,U (vi (W.S (W.at_ k)) (W.ses k) key).2])/\Bw w w':=by
 obtain⟨wv,g,_⟩:=h.session (G:=qg6 b M (W.n+W.c) Gs) (λ_=>jdl) a;exact qpv key w g (h.site d) f
theorem RWo.laterW (h:RWo w b M W Gs) (a:Bw w w'):RWo w' b M W Gs:=h.later a
structure jbp (w:World) (b:Nat) (M:RoM) (W:WoS) (k:Nat) (F:Nat->Prop) (cg ca ag aa sg sa:Nat):Prop where
 c2:w.cell? (AD b 2)=some (.slice (PT cg) W.c ca)
 l2:W.c<=ca
 c3:w.cell? (AD b 3)=some (.slice (PT ag) W.c aa)
 l3:W.c<=aa
 c0:w.cell? (AD b 0)=some (.slice (PT sg) W.n sa)
 l0:W.n<=sa
 x2:w.cell? (AD cg k)=some (PP (M.bs k))
 x3:w.cell? (AD ag k)=some (U (W.at_ k))
 x0:w.cell? (AD sg (W.at_ k))=some (.pointer (some (AD (M.bp (W.at_ k)) 0)))
 fb:F b
 f2:F cg
 f3:F ag
 f0:F sg
theorem RWo.cliAt (h:RWo w b M W Gs) (f:k<W.c) (v:W.at_ k<W.n):∃x e y z A sa,jbp w b M W k (ql b M) x e y z A sa:=by
 obtain⟨a,e,i,r⟩:=qq h.cr;obtain⟨d,B,j,l⟩:=qq h.ar;obtain⟨s,sa,m,o⟩:=qq h.sr;have p:=h.box.cell 2 _ rfl;have t:=h.box.cell 3 _ rfl;have u:=h.box.cell 0 _ rfl;rw[i]at p;rw[j]at t;rw[m]at u;rcases r.held with q|⟨g,rfl,H,C⟩
 ·omega
 rcases l.held with q|⟨g',rfl,I,D⟩
 ·omega
 rcases o.held with q|⟨E,rfl,J,F⟩
 ·omega
 exact⟨g,e,g',B,E,sa,p,r.len,t,l.len,u,o.len,C k _ (qn4 f),D k _ (qie f),F _ _ (qn4 v),by simp[ql,vx],by simp[ql,vx,i,Value.ownBlock],by simp[ql,vx,j,Value.ownBlock],by simp[ql,vx,m,Value.ownBlock]⟩
end
end
section
open Go.RowKit
theorem q2p:yt 2:=λ{w w2 n0 hb b j cap nc Gw G W a na l ns} u h hn hlen ht _ hN hb2=>by
 obtain⟨M,A,R,i⟩:=(h.hs.later hb2).rw;have o:=h.hs.rw.lt;obtain⟨x,rfl⟩:=qit hlen;simp[qx,qb8,thB,thC]at ht;obtain⟨k,rfl,m,p,B⟩:=qac ht;obtain⟨g,rfl,O,D,r⟩:=hN.cell 0 _ rfl;have P:=hN.cap;have s:=h.wi.wf.at_ k m;obtain⟨E,Q,F,T,H,sa,C⟩:=R.cliAt m s
 have t:∀q,(λq=>ql b M q\/q=g) q->q<w2.heap.size/\¬A (W.n+k) q:=λq e=>by
  rcases e with e|rfl
  ·exact⟨R.ltF q e,(R.fam.free q e).2 _ (by omega)⟩
  exact⟨D,λe=>by have:=o q ((i q).2 (.inr ⟨_,by omega,e⟩));omega⟩
 have c:∀(q:Addr) (v:Value),(λq=>ql b M q\/q=g) q.block->w2.cell? q=some v->∀w',jg (λq=>ql b M q\/q=g) w2 w'->w'.cell? q=some v:=λq v I e w' J=>(jch (w:=w2) (a:=q) (J.block q.block I)).trans e;have V:=c (AD b 2) _ (.inl C.fb) C.c2;have X:=c (AD E k) _ (.inl C.f2) C.x2;have Y:=c (AD g 0) _ (.inr rfl) r;have Z:=c (AD b 0) _ (.inl C.fb) C.c0;have K3:=c (AD b 3) _ (.inl C.fb) C.c3;have X0:=c (AD H (W.at_ k)) _ (.inl C.f0) C.x0;have X3:=c (AD F k) _ (.inl C.f3) C.x3;have g1:=C.l0;have g3:=C.l3;have K:=hd1 (q4k (R.laterW (jcc _ _).drew) i m s);have d:=hd5 h hn hb2 p t;have g2:=C.l2;have L:jg (λq=>ql b M q\/q=g) w2 w2:=jg.refl _ _;have KD:=vy L;clear h hn hb2 hlen ht hN R p B C c r t o i
 conv=>arg 2;whnf
 unfold qa3
 go_upto_region 24 with fail
 go_region_held3 (λw'=>jg (λq=>ql b M q\/q=g) w2 w') (repeat (first|(with_reducible assumption)|(with_reducible refine vy ?_))) (first
  |(go_at_call 31
    with_reducible refine K.out.mono ?_
    rintro e y ⟨rfl,z,f⟩;have KB:jg (λq=>ql b M q\/q=g) w2 y:=⟨f.os,f.tape,f.output,f.size,λq e=>f.block q (d.out.2.2.2.2 q e).1 (d.out.2.2.2.2 q e).2⟩;have N:Hid (vl 2 W l w hb G (.returned (.tuple #[.string (bya (qn 2)),U (qhl (W.S (W.at_ k)) (W.ses k))])) y):=d.out.1.fin d.out.2.1 (qa d.out.2.2.1 (jcc _ _).drew) ⟨rfl,by rw[if_pos d.out.2.2.2.1];exact⟨rfl,rfl⟩⟩ (λ_=>rfl) z (jcc _ _)
    clear z f))
 all_goals
  go_wp2
  go_ret2;exact N.out
theorem q2i:yt 0:=λ{w w2 n0 hb b j cap nc Gw G W a na l ns} u h hn hlen ht _ hN hb2=>by
 obtain⟨M,z,R,i⟩:=(h.hs.later hb2).rw;have o:=h.hs.rw.lt;obtain⟨x,rfl⟩:=qit hlen;simp[qx,qb8,thB,thC]at ht;obtain⟨k,rfl,m,p,A⟩:=qac ht;obtain⟨g,rfl,L,B,r⟩:=hN.cell 0 _ rfl;have N:=hN.cap;have D:=h.wi.wf.at_ k m;obtain⟨E,O,P,Q,S,sa,C⟩:=R.cliAt m D
 have s:∀q,(λq=>ql b M q\/q=g) q->q<w2.heap.size/\¬z (W.n+k) q:=λq e=>by
  rcases e with e|rfl
  ·exact⟨R.ltF q e,(R.fam.free q e).2 _ (by omega)⟩
  exact⟨B,λe=>by have:=o q ((i q).2 (.inr ⟨_,by omega,e⟩));omega⟩
 have f:∀(q:Addr) (v:Value),(λq=>ql b M q\/q=g) q.block->w2.cell? q=some v->∀w',jg (λq=>ql b M q\/q=g) w2 w'->w'.cell? q=some v:=λq v F e w' H=>(jch (w:=w2) (a:=q) (H.block q.block F)).trans e;have T:=f (AD b 2) _ (.inl C.fb) C.c2;have V:=f (AD E k) _ (.inl C.f2) C.x2;have X:=f (AD g 0) _ (.inr rfl) r;have I:=hd1 (q66 (R.laterW (jcc _ _).drew) i m);have c:=hd5 h hn hb2 p s;have Y:=C.l2;have J:jg (λq=>ql b M q\/q=g) w2 w2:=jg.refl _ _;have Z:=vy J;clear h hn hb2 hlen ht hN R p A C f r s o i
 conv=>arg 2;whnf
 unfold qa3
 go_upto_region 38 with fail
 go_region_held3 (λw'=>jg (λq=>ql b M q\/q=g) w2 w') (repeat (first|(with_reducible assumption)|(with_reducible refine vy ?_))) (first
  |(go_at_call 35
    with_reducible refine I.out.mono ?_
    rintro e t ⟨rfl,y,d⟩;have KB:jg (λq=>ql b M q\/q=g) w2 t:=⟨d.os,d.tape,d.output,d.size,λq e=>d.block q (c.out.2.2.2.2 q e).1 (c.out.2.2.2.2 q e).2⟩;have K:Hid (vl 0 W l w hb G (.returned (.tuple #[.string (bya (qn 0)),U (qi5 (W.ses k))])) t):=c.out.1.fin c.out.2.1 (qa c.out.2.2.1 (jcc _ _).drew) ⟨rfl,by rw[if_pos c.out.2.2.2.1];exact⟨rfl,rfl⟩⟩ (λ_=>rfl) y (jcc _ _)
    clear y d))
 all_goals
  go_wp2
  go_ret2;exact K.out
theorem q3c:yt 18:=λ{w w2 n0 hb b j cap nc Gw G W a na l ns} u h hn hlen ht _ hN hb2=>by
 obtain⟨M,y,R,r⟩:=(h.hs.later hb2).rw;have z:=h.hs.rw.lt;obtain⟨x,key,rfl⟩:=qk0 hlen;obtain⟨N,l1,d,rfl⟩:=q68 hn;obtain⟨c,t,rfl,A,B⟩:=h.st.cell 2 d rfl;have D:=(hb2.cell (p:=AD c (t+2)) A).trans B;have ac:3<=cap:=h.st.cap;have E:¬Gw c:=λe=>h.sn c t rfl ((h.g c).2 (.inr e));simp[qx,qb8,thB,thC]at ht;obtain⟨k,rfl,s,F,O⟩:=qac ht;obtain⟨g,rfl,ad,P,H⟩:=hN.cell 0 _ rfl;obtain⟨g',o,_,_,I⟩:=hN.cell 1 key rfl;injection o with o;injection o with o;subst o;have ae:=hN.cap;have Q:=h.wi.wf.at_ k s;obtain⟨S,ca,ag,aa,sg,sa,C⟩:=R.cliAt s Q
 have J:∀q,(λq=>ql b M q\/q=g\/q=c) q->q<w2.heap.size/\¬y (W.n+k) q:=λq e=>by
  rcases e with e|rfl|rfl
  ·exact⟨R.ltF q e,(R.fam.free q e).2 _ (by omega)⟩
  ·exact⟨P,λe=>by have:=z q ((r q).2 (.inr ⟨_,by omega,e⟩));omega⟩
  exact⟨jci A hb2.size,λe=>E ((r q).2 (.inr ⟨_,by omega,e⟩))⟩
 have f:∀(q:Addr) (v:Value),(λq=>ql b M q\/q=g\/q=c) q.block->w2.cell? q=some v->∀w',jg (λq=>ql b M q\/q=g\/q=c) w2 w'->w'.cell? q=some v:=λq v T e w' V=>(jch (w:=w2) (a:=q) (V.block q.block T)).trans e;have K2:=f (AD b 2) _ (.inl C.fb) C.c2;have X2:=f (AD S k) _ (.inl C.f2) C.x2;have N0:=f (AD g 0) _ (.inr (.inl rfl)) H;have N1:=f (AD g 1) _ (.inr (.inl rfl)) I;have D2:=f (AD c (t+2)) _ (.inr (.inr rfl)) D;have X:Hid (Ca 33 #[PP (M.bs k),.agg #[U key,.string d,.bool false]] w2.drew λe w'=>e=.returned (U (qaj (W.ses k) ⟨key,d,false⟩))/\qae w2.drew b Gw (vf W k (qd2 (W.ses k) ⟨key,d,false⟩)) w'/\qc (y (W.n+k)) w2.drew w'):=qvm (R.laterW (jcc _ _).drew) r s ⟨key,d,false⟩ (h.few s);have i:=hd5 h hn hb2 F J;have g2:=C.l2;have Y:jg (λq=>ql b M q\/q=g\/q=c) w2 w2:=jg.refl _ _;have KD:=vy Y;clear h hn hb2 hlen ht hN R F O C f H I J z r B D E
 conv=>arg 2;whnf
 unfold qa3
 go_upto_region 29 with fail
 go_region_held3 (λw'=>jg (λq=>ql b M q\/q=g\/q=c) w2 w') (repeat (first|(with_reducible assumption)|(with_reducible refine vy ?_))) (first
  |(go_at_call 33
    with_reducible refine X.out.mono ?_
    rintro e K ⟨rfl,L,m⟩;have KB:jg (λq=>ql b M q\/q=g\/q=c) w2 K:=⟨m.os,m.tape,m.output,m.size,λq e=>m.block q (i.out.2.2.2.2 q e).1 (i.out.2.2.2.2 q e).2⟩;have Z:Hid (vl 18 W [N,l1,d] w hb G (.returned (.tuple #[.string (bya (qn 18)),U (qaj (W.ses k) ⟨key,d,false⟩)])) K):=i.out.1.fin i.out.2.1 (qa i.out.2.2.1 (jcc _ _).drew) ⟨rfl,by rw[if_pos i.out.2.2.2.1];exact⟨rfl,rfl⟩⟩ (λ_=>rfl) L (jcc _ _)
    clear L m))
 all_goals
  go_wp2
  go_ret2;exact Z.out
theorem q5k:yt 7:=λ{w w2 n0 hb b j cap nc Gw G W a na l ns} u h hn hlen ht _ hN hb2=>by
 obtain⟨M,p,R,o⟩:=(h.hs.later hb2).rw;have r:=h.hs.rw.lt;obtain⟨x,key,rfl⟩:=qk0 hlen;simp[qx,qb8,thB,thC]at ht;obtain⟨k,rfl,m,s,D⟩:=qac ht;obtain⟨g,rfl,O,E,t⟩:=hN.cell 0 _ rfl;obtain⟨g',f,_,_,y⟩:=hN.cell 1 key rfl;injection f with f;injection f with f;subst f;have P:=hN.cap;have F:=h.wi.wf.at_ k m;obtain⟨H,Q,S,T,V,sa,C⟩:=R.cliAt m F
 have z:∀q,(λq=>ql b M q\/q=g) q->q<w2.heap.size/\¬p (W.n+k) q:=λq e=>by
  rcases e with e|rfl
  ·exact⟨R.ltF q e,(R.fam.free q e).2 _ (by omega)⟩
  exact⟨E,λe=>by have:=r q ((o q).2 (.inr ⟨_,by omega,e⟩));omega⟩
 have i:∀(q:Addr) (v:Value),(λq=>ql b M q\/q=g) q.block->w2.cell? q=some v->∀w',jg (λq=>ql b M q\/q=g) w2 w'->w'.cell? q=some v:=λq v I e w' J=>(jch (w:=w2) (a:=q) (J.block q.block I)).trans e;have X:=i (AD b 2) _ (.inl C.fb) C.c2;have Y:=i (AD H k) _ (.inl C.f2) C.x2;have Z:=i (AD g 0) _ (.inr rfl) t;have N1:=i (AD g 1) _ (.inr rfl) y;have K:Hid (Ca 33 #[PP (M.bs k),.agg #[U key,.string ⟨#[]⟩,.bool true]] w2.drew λe w'=>e=.returned (U (qaj (W.ses k) ⟨key,⟨#[]⟩,true⟩))/\qae w2.drew b Gw (vf W k (qd2 (W.ses k) ⟨key,⟨#[]⟩,true⟩)) w'/\qc (p (W.n+k)) w2.drew w'):=qvm (R.laterW (jcc _ _).drew) o m ⟨key,⟨#[]⟩,true⟩ (h.few m);have c:=hd5 h hn hb2 s z;have g2:=C.l2;have L:jg (λq=>ql b M q\/q=g) w2 w2:=jg.refl _ _;have KD:=vy L;clear h hn hb2 hlen ht hN R s D C i t y z r o
 conv=>arg 2;whnf
 unfold qa3
 go_upto_region 31 with fail
 go_region_held3 (λw'=>jg (λq=>ql b M q\/q=g) w2 w') (repeat (first|(with_reducible assumption)|(with_reducible refine vy ?_))) (first
  |(go_at_call 33
    with_reducible refine K.out.mono ?_
    rintro e A ⟨rfl,B,d⟩;have KB:jg (λq=>ql b M q\/q=g) w2 A:=⟨d.os,d.tape,d.output,d.size,λq e=>d.block q (c.out.2.2.2.2 q e).1 (c.out.2.2.2.2 q e).2⟩;have N:Hid (vl 7 W l w hb G (.returned (.tuple #[.string (bya (qn 7)),U (qaj (W.ses k) ⟨key,⟨#[]⟩,true⟩)])) A):=c.out.1.fin c.out.2.1 (qa c.out.2.2.1 (jcc _ _).drew) ⟨rfl,by rw[if_pos c.out.2.2.2.1];exact⟨rfl,rfl⟩⟩ (λ_=>rfl) B (jcc _ _)
    clear B d))
 all_goals
  go_wp2
  go_ret2;exact N.out
end
section
open Go.RowKit
theorem qro (x:Nat->Int) (y:Int) {i:Nat} (n:Nat) (hi:i<n):(qdw x n).set i (U y)=qdw (jj x i y) n:=by
 refine List.ext_getElem? λj=>?_;rw[List.getElem?_set];have c:=qlj x n;by_cases a:j<n
 ·rw[qie a (x:=jj x i y)];by_cases q:i=j
  ·subst q;rw[if_pos rfl,if_pos (by omega),qt]
  rw[if_neg q,qie a,yq _ _ (λe=>q e.symm)]
 rw[List.getElem?_eq_none (l:=qdw (jj x i y) n) (by rw[qlj];omega),if_neg (by omega)];exact List.getElem?_eq_none (by omega)
section
variable {w:World} {b g cc i:Nat} {M:RoM} {W:WoS} {Gs:Nat->Nat->Prop}
theorem RWo.setAt (h:RWo w b M W Gs) (l:M.av=.slice (PT g) W.c cc) (hi:i<W.c) (x:Nat):RWo (w.setCell (AD g i) (U x)) b M {W with at_:=jj W.at_ i x} Gs/\qc (λk=>k=g) w (w.setCell (AD g i) (U x)):=by
 have r:M.av.ownBlock=some g:=by rw[l];rfl
 have m:(vx b M)[4]?=some (some g):=by show some M.av.ownBlock=_;rw[r]
 have n:∀k,k≠g->(w.setCell (AD g i) (U x)).heap[k]?=w.heap[k]?:=λk d=>jce _ _ _ _ (λe=>d e)
 have f:(w.setCell (AD g i) (U x)).heap.size=w.heap.size:=by simp[World.setCell]
 have row:∀{j:Nat} (_:j≠4) (q:Nat),(vx b M)[j]?=some (some q)->(w.setCell (AD g i) (U x)).heap[q]?=w.heap[q]?:=λ{j} a q e=>n q (λt=>qpw h.ap (i:=4) (j:=j) (λe=>a e.symm) m (by rw[e,t]));have gf:ql b M g:=jcq m;have p:=λj k a e=>n k (λq=>(h.fam.free g gf).2 j a (by rw[<-q];exact e));refine⟨⟨h.box.kept (row (j:=0) (by decide) b rfl) (by rw[f];exact jcd _),qf h.sr (λq e=>row (j:=1) (by decide) q (by show some M.sv.ownBlock=_;rw[e])),qf h.wr (λq e=>row (j:=2) (by decide) q (by show some M.wv.ownBlock=_;rw[e])),qf h.cr (λq e=>row (j:=3) (by decide) q (by show some M.cv.ownBlock=_;rw[e])),?_,qf h.yr (λq e=>row (j:=5) (by decide) q (by show some M.yv.ownBlock=_;rw[e])),h.nl,λy u=>(h.gr y u).to (λj k o a e=>⟨e,(h.site a).frozen e,(p j k (by omega) ((h.site a).frozenG e)).trans ((h.site a).frozen e)⟩),h.fam.to p (by rw[f];exact jcd _) (λk d=>⟨.inl d,by rw[f];exact h.ltF k d⟩),h.ap⟩,qc.setCell _ _ _ rfl⟩;have o:=h.ar;rw[l]at o ⊢;have s:=(o.stored i (U x)).1;rw[qro _ _ _ hi]at s
 have e:(λk=>((jj W.at_ i x k:Nat):Int))=jj (λk=>(W.at_ k:Int)) i (x:Int):=by
  funext k
  unfold jj
  split<;>rfl
 show World.ownsRow _ 0 _ 1 _ W.c (qdw (λk=>((jj W.at_ i x k:Nat):Int)) W.c);rw[e];exact s
theorem RWo.setWall (h:RWo w b M W Gs) (f:M.wv=.slice (PT g) W.n cc) (hi:i<W.n) (x:Int):RWo (w.setCell (AD g i) (U x)) b M {W with wall:=jj W.wall i x} Gs/\qc (λk=>k=g) w (w.setCell (AD g i) (U x)):=by
 have r:M.wv.ownBlock=some g:=by rw[f];rfl
 have l:(vx b M)[2]?=some (some g):=by show some M.wv.ownBlock=_;rw[r]
 have m:∀k,k≠g->(w.setCell (AD g i) (U x)).heap[k]?=w.heap[k]?:=λk c=>jce _ _ _ _ (λe=>c e)
 have d:(w.setCell (AD g i) (U x)).heap.size=w.heap.size:=by simp[World.setCell]
 have row:∀{j:Nat} (_:j≠2) (q:Nat),(vx b M)[j]?=some (some q)->(w.setCell (AD g i) (U x)).heap[q]?=w.heap[q]?:=λ{j} a q e=>m q (λt=>qpw h.ap (i:=2) (j:=j) (λe=>a e.symm) l (by rw[e,t]));have gf:ql b M g:=jcq l;have p:=λj k a e=>m k (λq=>(h.fam.free g gf).2 j a (by rw[<-q];exact e));refine⟨⟨h.box.kept (row (j:=0) (by decide) b rfl) (by rw[d];exact jcd _),qf h.sr (λq e=>row (j:=1) (by decide) q (by show some M.sv.ownBlock=_;rw[e])),?_,qf h.cr (λq e=>row (j:=3) (by decide) q (by show some M.cv.ownBlock=_;rw[e])),qf h.ar (λq e=>row (j:=4) (by decide) q (by show some M.av.ownBlock=_;rw[e])),qf h.yr (λq e=>row (j:=5) (by decide) q (by show some M.yv.ownBlock=_;rw[e])),h.nl,λy u=>(h.gr y u).to (λj k o a e=>⟨e,(h.site a).frozen e,(p j k (by omega) ((h.site a).frozenG e)).trans ((h.site a).frozen e)⟩),h.fam.to p (by rw[d];exact jcd _) (λk c=>⟨.inl c,by rw[d];exact h.ltF k c⟩),h.ap⟩,qc.setCell _ _ _ rfl⟩;have o:=h.wr;rw[f]at o ⊢;have s:=(o.stored i (U x)).1;rw[qro _ _ _ hi]at s;exact s
end
end
section
open Go.RowKit
theorem q91:yt 1:=λ{w w2 n0 hb b j cap nc Gw G W a na l ns} u h hn hlen ht hne hN hb2=>by
 have R:=(h.hs.later hb2).rw;have p:=h.hs.rw.lt;obtain⟨x,y,rfl⟩:=qk0 hlen;simp[qx,qb8,thB,thC]at ht;obtain⟨k,rfl,B,r,_⟩:=qac ht.1;obtain⟨o,rfl,K,s,_⟩:=qac ht.2;obtain⟨g,rfl,L,C,t⟩:=hN.cell 0 _ rfl;obtain⟨g',d,_,_,z⟩:=hN.cell 1 _ rfl;injection d with d;injection d with d;subst d;have M:=hN.cap;have A:=hne rfl _ _ rfl;have i:∀(q:Addr) (v:Value),q.block=g->w2.cell? q=some v->∀w',jg (λq=>q=g) w2 w'->w'.cell? q=some v:=λq v D e w' E=>(jch (w:=w2) (a:=q) (E.block q.block D)).trans e;have N:=i (AD g 0) _ rfl t;have O:=i (AD g 1) _ rfl z;have F:Hid (Ca 36 #[PP b,U k,U o] w2.drew λe w'=>e=.returned (.tuple #[])/\qae w2.drew b Gw (qme W k o) w'):=q5z w2.drew (R.later (jcc _ _).drew) B;have c:=hd6 h hn hb2 (show (ye (k:Int) W.n/\ye (o:Int) W.n/\(k:Int)≠o)from⟨r,s,A⟩) C (show ¬Gw g from λe=>by have:=p g e;omega);have H:jg (λq=>q=g) w2 w2:=jg.refl _ _;have P:=vy H;clear h hn hb2 hlen ht hN R r s i t z p hne A
 conv=>arg 2;whnf
 unfold qa3
 go_upto_region 48 with fail
 go_region_held3 (λw'=>jg (λq=>q=g) w2 w') (repeat (first|(with_reducible assumption)|(with_reducible refine vy ?_))) (first
  |(go_at_call 36
    with_reducible refine F.out.mono ?_
    rintro e I ⟨rfl,m⟩
    have Q:jg (λq=>q=g) w2 I:=by
     obtain⟨_,_,_,f⟩:=m;exact⟨f.os,f.tape,f.output,f.size,λq e=>by rw[e];exact f.block g c.out.2.2.2.2.1 c.out.2.2.2.2.2⟩
    have J:=hd1 (c.out.1.fin c.out.2.1 (qa c.out.2.2.1 (jcc _ _).drew) ⟨rfl,by rw[if_pos c.out.2.2.2.1];exact⟨rfl,rfl⟩⟩ (λ_=>rfl) m (jcc _ _))
    clear m))
 all_goals
  go_wp2
  go_ret2;exact J.out
theorem q7l:yt 11:=λ{w w2 n0 hb b j cap nc Gw G W a na l ns} u h hn hlen ht _ hN hb2=>by
 obtain rfl:=qsd hlen;obtain⟨a0,p,a2,q,r,s,k,m,t,v,y⟩:=(h.hs.later hb2).rw.lens;have z:=h.wi.wf.net;have d:Bw w ((w2.alloc (.cells #[U W.net.length,U W.lost] 3)).drew):=(boxed hb2 _).drew
 have g:=qb7 (b:=w2.heap.size) (o:=0) (cap:=2) (l:=[(W.net.length:Int),W.lost]) (by simp) (by simp) (λx i=>by
  simp at i;rcases i with rfl|rfl
  ·exact⟨by omega,by omega⟩
  exact h.di.lost) ((w2.alloc (.cells #[U W.net.length,U W.lost] 3)).drew) (h.gl.later d) (by simp) (qee (w:=w2) (T:=3) [(W.net.length:Int),W.lost])
 have n:Hid (∀c,Below ((w2.alloc (.cells #[U W.net.length,U W.lost] 3)).drew).heap.size ((w2.alloc (.cells #[U W.net.length,U W.lost] 3)).drew) c->vl 11 W l w hb G (.returned (.tuple #[.string (bya (qv [(W.net.length:Int),W.lost])),U 0])) c):=λc f=>h.tell hn (qa d f) ⟨rfl,rfl,rfl⟩ (λ_=>rfl)
 dsimp only[List.length_cons,List.length_nil,Nat.reduceAdd]at g
 clear h hn hb2 hlen ht hN d k m
 conv=>arg 2;whnf
 unfold qa3
 go_upto_region 60 with fail
 go_region_with (first|(go_at_call 17;refine g.mono ?_;rintro e c ⟨rfl,f⟩))
 all_goals
  go_wp2
  go_ret2;exact n.out _ f
theorem q4y:yt 13:=λ{w w2 n0 hb b j cap nc Gw G W a na l ns} u h hn hlen ht _ hN hb2=>by
 obtain⟨M,E,R,D⟩:=(h.hs.later hb2).rw;obtain⟨x,key,rfl⟩:=qk0 hlen;simp[qx,qb8,thB,thC]at ht;obtain⟨k,rfl,d,r,_⟩:=qac ht;obtain⟨g,rfl,F,H,s⟩:=hN.cell 0 _ rfl;obtain⟨g',c,_,_,t⟩:=hN.cell 1 _ rfl;injection c with c;injection c with c;subst c;have I:=hN.cap;have m:=h.wi.wf.at_ k d;have n:=h.wi.wf.inv _ m;obtain⟨J,K,L,N,O,sa,C⟩:=R.cliAt d m;have o:=qjc (key:=key) (h.di.ses k d) n;have Q:=qb.one;have p:Hid (∀x:qb w2,Ca 32 #[PP (M.bs k),.pointer (some (AD (M.bp (W.at_ k)) 0)),U key] x.val λe w'=>e=.returned (.tuple #[.string (vi (W.S (W.at_ k)) (W.ses k) key).1,U (vi (W.S (W.at_ k)) (W.ses k) key).2])/\Below x.val.heap.size x.val w'):=λx=>q8x (R.laterW x.below) d m n key;have f:Hid (∀i,Bw w2 i->vl 13 W l w hb G (.returned (.tuple #[.string (bya ([105,115,32]++(vi (W.S (W.at_ k)) (W.ses k) key).1.data.toList)),U (vi (W.S (W.at_ k)) (W.ses k) key).2])) i):=λi q=>h.tell hn (qa hb2 q) ⟨rfl,by rw[if_pos r];exact⟨rfl,rfl⟩⟩ (λ_=>rfl);obtain⟨⟨v,er⟩,y⟩:∃z,vi (W.S (W.at_ k)) (W.ses k) key=z:=⟨_,rfl⟩;rw[y]at o p f
 dsimp only at o p f
 have T:=qb.cell C.c0;have V:=qb.cell C.c2;have X:=qb.cell C.c3;have Y:=qb.cell C.x0;have Z:=qb.cell C.x2;have m3:=qb.cell C.x3;have y0:=qb.cell s;have y1:=qb.cell t;have g1:=C.l0;have g2:=C.l2;have g3:=C.l3;have A1:=λw=>qfi (P:=Tryz.prog) ⟨#[105,115,32]⟩ v (by rw[show (⟨#[105,115,32]⟩:ByteArray).size=3 from rfl];omega) w
 have B:Hid (bya ([105,115,32]++v.data.toList)=⟨#[105,115,32]⟩++v):=by
  show _=_;rw[<-jz]
 rw[B.out]at f;clear h hn hb2 hlen ht hN R r C s t D y o n B
 conv=>arg 2;whnf
 unfold qa3
 go_upto_region 26 with fail
 refine wrl ?_
 repeat (go_big_quiet_step (first|rfl|(go_at_call 32;with_reducible exact qg (p.out _))))
 refine wpQuiet_nil ?_;rintro i ⟨⟨_,q⟩,rfl⟩
 go_wp2
 go_ret2;exact f.out _ q
end
section
open Go.RowKit
theorem q4e:yt 8:=λ{w w2 n0 hb b j cap nc Gw G W a na l ns} u h A hlen ht _ hN hb2=>by
 obtain⟨M,K,R,L⟩:=(h.hs.later hb2).rw;obtain⟨x,y,rfl⟩:=qk0 hlen;simp[qx,qb8,thB,thC]at ht;obtain⟨k,rfl,B,N,_⟩:=qac ht;obtain⟨g,rfl,hgB,O,P⟩:=hN.cell 0 _ rfl;obtain⟨g',o,_,_,Q⟩:=hN.cell 1 _ rfl;injection o with o;injection o with o;subst o;have hcap:=hN.cap;have c:=hd5 h A hb2 N L;have S:=h.wi.wl k B;by_cases r:0<=y/\y<=1099511627776
 ·have C:=vj (n:=y) (lo:=0) (hi:=1099511627776) (v:=true) (by simp[inB,r.1,r.2]) w2;have m:=hd1 r;have T:=hd1 R
  conv=>arg 2;whnf
  unfold qa3
  go_wp2_with fail
  refine C.mono ?_;rintro e f ⟨rfl,i⟩;have p:=T.out.laterW i;have N0:=cell_later i P;have N1:=cell_later i Q;have hgl3:=jci O i.size;obtain⟨V,avc,z,F⟩:=qq p.wr
  obtain⟨D,rfl,hag,X⟩:∃g,V=some (AD g 0)/\g<f.heap.size/\∀j u,(qdw W.wall W.n)[j]?=some u->f.cell? (AD g j)=some u:=by
   rcases F.held with H|H
   ·omega
   exact H
  have Y:=p.box.cell 1 _ rfl;rw[z]at Y;have Z:=X _ _ (qie B);have I:=p.wr;rw[z]at I;have d5:=I.frozenAt k;have hal:=F.len;have bl:=p.box.lt;obtain⟨d,J⟩:∃d,W.wall k=d:=⟨_,rfl⟩;rw[J]at Z S;have y1:=m.out.1;have y2:=m.out.2
  have hwz:wrap64 (d+y)=d+y:=by unfold wrap64;omega
  have E:Hid (∀v,v=qk3 (d+y)->vl 8 W l w hb G (.returned (.tuple #[.string (bya (qn 8)),U 0])) (f.setCell (AD D k) (U v)).drew):=λv hv=>by
   subst hv;have s:=p.setWall z B (qk3 (d+y))
   have gf:ql b M D:=by unfold ql vx;rw[z];simp[Value.ownBlock]
   have hp:qae f b Gw (qm8 W k y) (f.setCell (AD D k) (U (qk3 (d+y)))):=by
        rw[show qm8 W k y={W with wall:=jj W.wall k (qk3 (d+y))} by unfold qm8;rw[J]];exact⟨_,⟨M,K,s.1,c.out.2.2.2.2⟩,λq e=>.inl e,⟨s.2.os,s.2.tape,s.2.output,s.2.size,λq hq A=>s.2.block q hq (λe=>A ((c.out.2.2.2.2 q).2 (.inl (by rw[e];exact gf))))⟩⟩
   exact c.out.1.fin c.out.2.1 (qa c.out.2.2.1 i) ⟨rfl,by rw[if_pos ⟨c.out.2.2.2.1,m.out.1,m.out.2⟩];exact⟨rfl,rfl⟩⟩ (λ_=>rfl) hp (jcc _ _).drew
  have FIN0:=E.out (min 1099511627776 (d+y)) (by unfold qk3;split<;>omega)
  go_upto_region 46 with fail
  go_region
  all_goals
   go_wp2
   go_ret2;exact FIN0
 have C:=vj (n:=y) (lo:=0) (hi:=1099511627776) (v:=false) (by simp only[inB,Bool.and_eq_false_iff,decide_eq_false_iff_not];omega) w2;have m:=hd1 r
 conv=>arg 2;whnf
 unfold qa3
 go_wp2_with fail
 refine C.mono ?_;rintro e f ⟨rfl,i⟩;have E:Hid (vl 8 W l w hb G (.returned (.tuple #[.string ⟨#[]⟩,U 2])) f):=c.out.1.tell (told:=[]) (t:=qn 8) c.out.2.1 (qa c.out.2.2.1 i) ⟨rfl,by rw[if_neg (λe=>m.out e.2)];exact⟨rfl,rfl⟩⟩ (λe=>by cases e)
 go_wp2
 go_ret2;exact E.out
variable {w:World} {b:Nat} {G:Nat->Prop}
theorem RSe.openAt {s:qy} (h:RSe w b G s):w.cell? (AD b 8)=some (.bool s.opn)/\b<w.heap.size:=⟨h.snap.2.2.2.2.1,h.snap.2.2.2.2.2⟩
theorem q5j:yt 12:=λ{w w2 n0 hb b j cap nc Gw G W a na l ns} u h B hlen ht _ hN hb2=>by
 obtain⟨M,J,R,K⟩:=(h.hs.later hb2).rw;obtain⟨x,y,rfl⟩:=qk0 hlen;simp[qx,qb8,thB,thC]at ht;obtain⟨k,rfl,m,L,_⟩:=qac ht.1;obtain⟨o,rfl,ho,N,_⟩:=qac ht.2;obtain⟨g,rfl,hgB,O,E⟩:=hN.cell 0 _ rfl;obtain⟨g',p,_,_,P⟩:=hN.cell 1 _ rfl;injection p with p;injection p with p;subst p;have hcap:=hN.cap;have Q:=h.wi.wf.at_ k m;obtain⟨cg,ca,v,aa,sg,sa,C⟩:=R.cliAt m Q;obtain⟨S,hbs⟩:=(R.sess m).openAt;have hne:=qb.one;have d:=hd5 h B hb2 (show (ye (k:Int) W.c/\ye (o:Int) W.n)from⟨L,N⟩) K;have T:=hd1 R;have l2:=qb.cell C.c2;have m2:=qb.cell C.x2;have y0:=qb.cell E;have p0:=qb.cell S;have g2:=C.l2;cases hop:(W.ses k).opn with
 |true=>
  have z:=hd1 hop;rw[hop]at p0
  conv=>arg 2;whnf
  unfold qa3
  go_upto_region 40 with fail
  refine wrl ?_
  repeat (go_big_quiet_step (first|rfl|fail))
  refine wpQuiet_nil ?_;rintro f ⟨⟨_,i⟩,rfl⟩;have D:Hid (vl 12 W l w hb G (.returned (.tuple #[.string ⟨#[]⟩,U 6])) f):=d.out.1.tell (told:=[]) (t:=qn 12) d.out.2.1 (qa d.out.2.2.1 i) ⟨rfl,by rw[if_pos d.out.2.2.2.1];unfold qhx qll;rw[show ((k:Int)).toNat=k from rfl,z.out];exact⟨rfl,rfl⟩⟩ (λe=>by cases e)
  go_wp2
  go_ret2;exact D.out
 |false=>
  have z:=hd1 hop;rw[hop]at p0
  conv=>arg 2;whnf
  unfold qa3
  go_upto_region 40 with fail
  refine wrl ?_
  repeat (go_big_quiet_step (first|rfl|fail))
  refine wpQuiet_nil ?_;rintro f ⟨⟨_,i⟩,rfl⟩;have r:=T.out.laterW i;have N0:=cell_later i E;have N1:=cell_later i P;have hgl3:=jci O i.size;obtain⟨V,avc,A,F⟩:=qq r.ar
  obtain⟨v,rfl,hag,X⟩:∃g,V=some (AD g 0)/\g<f.heap.size/\∀j u,(qdw (λk=>(W.at_ k:Int)) W.c)[j]?=some u->f.cell? (AD g j)=some u:=by
   rcases F.held with H|H
   ·omega
   exact H
  have Y:=r.box.cell 3 _ rfl;rw[A]at Y;have d4:=X _ _ (qie m);have I:=r.ar;rw[A]at I;have d5:=I.frozenAt k;have hal:=F.len;have bl:=r.box.lt
  have D:Hid (vl 12 W l w hb G (.returned (.tuple #[.string (bya (qn 12)),U 0])) (f.setCell (AD v k) (U o)).drew):=by
   have s:=r.setAt A m o
   have gf:ql b M v:=by unfold ql vx;rw[A];simp[Value.ownBlock]
   have Z:qae f b Gw (qhx W k o) (f.setCell (AD v k) (U o)):=by
        rw[show qhx W k o={W with at_:=jj W.at_ k o} by unfold qhx;rw[z.out];rfl];exact⟨_,⟨M,J,s.1,d.out.2.2.2.2⟩,λq e=>.inl e,⟨s.2.os,s.2.tape,s.2.output,s.2.size,λq hq B=>s.2.block q hq (λe=>B ((d.out.2.2.2.2 q).2 (.inl (by rw[e];exact gf))))⟩⟩
   exact d.out.1.fin d.out.2.1 (qa d.out.2.2.1 i) ⟨rfl,by rw[if_pos d.out.2.2.2.1];exact⟨rfl,by unfold qll;rw[show ((k:Int)).toNat=k from rfl,z.out];rfl⟩⟩ (λ_=>rfl) Z (jcc _ _).drew
  go_upto_region 42 with fail
  go_region
  all_goals
   go_wp2
   go_ret2;exact D.out
theorem jaz {w2 f:World} {x d j cap o n c:Nat} {Gw p:Nat->Prop} {W:WoS} {a:Option Addr} {l:List ByteArray} (h:qgm w x d b Gw G W j a cap l) (y:qeb 17 l=some [(n:Int),(c:Int)]) (i:Bw w w2) (t:qhp w2 d b Gw W) (z:RW f o p (qcb n c)) (r:∀k,p k->w2.heap.size<=k) (m:Bw w2 f) (A:(1<=(n:Int)/\(n:Int)<=4)/\(0<=(c:Int)/\(c:Int)<=6)):
 vl 17 W l w d G (.returned (.tuple #[.string (bya (qn 17)),U 0])) (f.setCell (AD d 0) (PP o)):=by
 have D:=t.lt;have B:=(t.later m).box;have u:∀k,k≠d->(f.setCell (AD d 0) (PP o)).heap[k]?=f.heap[k]?:=λk s=>jce _ _ _ _ s
 have v:(f.setCell (AD d 0) (PP o)).heap.size=f.heap.size:=by simp[World.setCell]
 refine⟨_,0,rfl,qcb n c,qn 17,qc2.yes y ⟨rfl,by rw[if_pos A];exact⟨rfl,rfl⟩⟩,λ_=>rfl,λk=>k=d\/p k,⟨o,p,⟨by simp[World.setCell,Array.getElem?_modify,B],z.kept (λk e=>u k (λq=>by have:=r k e;omega)) (by rw[v];exact jcd _),λe=>by have:=r d e;omega⟩,λ_=>jdl⟩,λk e=>?_,?_⟩
 ·rcases e with rfl|e
  ·exact .inl ((h.g k).2 (.inl rfl))
  exact .inr (jcn i.size (r k e))
 have s2:=i.size;exact⟨m.os.trans i.os,m.tape.trans i.tape,m.output.trans i.output,by rw[v];exact jcn s2 m.size,λk s C=>(u k (λq=>C ((h.g k).2 (.inl q)))).trans ((m.block k (by omega)).trans (i.block k s))⟩
theorem q0y:yt 17:=λ{w w2 n0 hb b j cap nc Gw G W a na l ns} u h hn hlen ht _ hN hb2=>by
 have z:=h.hs.later hb2;obtain⟨x,y,rfl⟩:=qk0 hlen;obtain⟨g,rfl,K,L,C⟩:=hN.cell 0 _ rfl;obtain⟨g',f,_,_,D⟩:=hN.cell 1 _ rfl;injection f with f;injection f with f;subst f;have M:=hN.cap;have d:=hd4 h hn hb2 z;have N:=z.lt;have O:=λ(w':World) (h:Bw w2 w')=>cell_later h C;have P:=λ(w':World) (h:Bw w2 w')=>cell_later h D;by_cases o:(1<=x/\x<=4)/\(0<=y/\y<=6)
 ·obtain⟨n,rfl,E,F⟩:∃n:Nat,x=n/\1<=n/\n<=4:=⟨x.toNat,by omega,by omega,by omega⟩;obtain⟨c,rfl,H⟩:∃c:Nat,y=c/\c<=6:=⟨y.toNat,by omega,by omega⟩;have p:=q42 E F H w2.drew;have q:=hd1 o
  conv=>arg 2;whnf
  unfold qa3
  go_upto_region 19 with fail
  go_region_held3 (λw'=>Bw w2 w') ((repeat (first|(with_reducible assumption)|(with_reducible refine jc6 ?_)|(with_reducible exact jcc _ _)))) (first
   |(go_at_call 15
     with_reducible refine p.mono ?_
     rintro e r ⟨rfl,I,A,B,i⟩;have s:=qa (jcc _ _).drew i;have m:=hd3 A (show (∀k,I k->w2.heap.size<=k)from B) s
     clear A B i))
  all_goals
   have J:=(d.out.2.2.2.later m.out.2.2).box;have Q:=(d.out.2.2.2.later m.out.2.2).cell;have R:=Lib.frozen_of_heap J 0;have v:Hid (vl 17 W l w hb G (.returned (.tuple #[.string (bya (qn 17)),U 0])) (r.setCell (AD hb 0) (PP (w2.heap.size+1+1)))):=jaz d.out.1 d.out.2.1 d.out.2.2.1 d.out.2.2.2 m.out.1 m.out.2.1 m.out.2.2 q.out
   go_wp2
   go_ret2;exact v.out
 have p:=q2j o w2.drew;have q:=hd1 o
 conv=>arg 2;whnf
 unfold qa3
 go_upto_region 19 with fail
 go_region_held3 (λw'=>Bw w2 w') ((repeat (first|(with_reducible assumption)|(with_reducible refine jc6 ?_)|(with_reducible exact jcc _ _)))) (first
  |(go_at_call 15
    with_reducible refine p.mono ?_
    rintro e r ⟨rfl,i⟩;have s:=qa (jcc _ _).drew i;have v:Hid (vl 17 W l w hb G (.returned (.tuple #[.string ⟨#[]⟩,U 2])) r):=d.out.1.tell (told:=[]) (t:=qn 17) d.out.2.1 (qa d.out.2.2.1 s) ⟨rfl,by rw[if_neg q.out];exact⟨rfl,rfl⟩⟩ (λe=>by cases e)
    clear i))
 all_goals
  go_wp2
  go_ret2;exact v.out
end
section
open Go.RowKit
variable {w:World} {b:Nat}
theorem RSe.row {G:Nat->Prop} {s:qy} (h:RSe w b G s):∃wv,qd w b (jr s wv):=by
 obtain⟨wv,h,_⟩:=h;exact⟨wv,h.box⟩
theorem qyz {o:Nat} {a:List Value} {p0 p1 p2 p3:Int} (R:qd w b a) (h:∀(q:Nat) x,[p0,p1,p2,p3][q]?=some x->a[o+q]?=some (U x)) (d:∀x∈[p0,p1,p2,p3],wfI x) (w':World) (g:Gl w') (c:Bw w w'):
 Ca 17 #[.slice (some (AD b o)) 4 4] w' λe w2=>e=.returned (.string (bya (qv [p0,p1,p2,p3])))/\Bw w' w2:=
 qb7 (b:=b) (o:=o) (cap:=4) (l:=[p0,p1,p2,p3]) (by simp) (by simp) d w' g (jci R.lt c.size) (λq x f=>(R.later c).cell _ _ (h q x f))
theorem qzs:yt 4:=λ{w w2 n0 hb b j cap nc Gw G W a na l ns} u h hn hlen ht _ hN hb2=>by
 obtain⟨M,Gs,R,hG⟩:=(h.hs.later hb2).rw;obtain⟨x,rfl⟩:=qit hlen;simp[qx,qb8,thB,thC]at ht;obtain⟨k,rfl,y,N,_⟩:=qac ht;obtain⟨g,rfl,hgB,hgl,D⟩:=hN.cell 0 _ rfl;have hcap:=hN.cap;have ha:=h.wi.wf.at_ k y;have h4:=h.wi.wf.n4;obtain⟨cg,ca,ag,aa,sg,sa,C⟩:=R.cliAt y ha;obtain⟨wv,m⟩:=(R.sess y).row;have d:=h.di.ses k y;have hne:=qb.one;have z:Hid (qsi W k=qv [(W.at_ k:Int)]++[44,32]++qv [(W.ses k).p0,(W.ses k).p1,(W.ses k).p2,(W.ses k).p3]++if (W.ses k).opn=true then [44,32]++qv [(W.ses k).s0,(W.ses k).s1,(W.ses k).s2,(W.ses k).s3]else []):=rfl;have r:Hid (∀w',Bw w w'->vl 4 W l w hb G (.returned (.tuple #[.string (bya (qsi W k)),U 0])) w'):=λw' hb'=>h.tell hn hb' ⟨rfl,by rw[if_pos N];exact⟨rfl,rfl⟩⟩ (λ_=>rfl);obtain⟨⟨p0,p1,p2,p3,opn,s0,s1,s2,s3,ws⟩,O⟩:∃s,W.ses k=s:=⟨_,rfl⟩;rw[O]at m d z
 dsimp only at z
 rw[z.out]at r
 have Q:∀x∈[p0,p1,p2,p3],wfI x:=λx c=>by
  simp at c;rcases c with rfl|rfl|rfl|rfl
  ·exact j1 d.p0
  ·exact j1 d.p1
  ·exact j1 d.p2
  exact j1 d.p3
 have S:∀x∈[s0,s1,s2,s3],wfI x:=λx c=>by
  simp at c;rcases c with rfl|rfl|rfl|rfl
  ·exact j1 d.s0
  ·exact j1 d.s1
  ·exact j1 d.s2
  exact j1 d.s3
 have V:=hd5 Q S (show qd w2 (M.bs k) [U p0,U p1,U p2,U p3,U s0,U s1,U s2,U s3,.bool opn,wv]from m) (h.gl.later hb2) hb2;have l2:=qb.cell C.c2;have m2:=qb.cell C.x2;have y0:=qb.cell D;have g2:=C.l2;have g3:=C.l3;have X:=C.c3;have Y:=C.x3;clear h hn hb2 hlen ht hN R N C hG d m O Q S z
 conv=>arg 2;whnf
 unfold qa3
 go_upto_region 65 with fail
 refine wrl ?_
 repeat (go_big_quiet_step (first|rfl|fail))
 refine wpQuiet_nil ?_;rintro n ⟨⟨_,f⟩,rfl⟩;obtain⟨E,F,m,B,Z⟩:=V.out;have p:=m.later f;have n0':=cell_later f D;have e3':=cell_later f X;have f3':=cell_later f Y;have c8:=p.cell 8 _ rfl;have ab:=qa Z f;have H:Bw n ((n.alloc (.cells #[U (W.at_ k:Int)] 3)).drew):=(boxed (jcc _ n) _).drew;have I:=qb7 (b:=n.heap.size) (o:=0) (cap:=1) (l:=[(W.at_ k:Int)]) (by simp) (by simp) (λx c=>by simp at c;subst c;exact⟨by omega,by omega⟩) ((n.alloc (.cells #[U (W.at_ k:Int)] 3)).drew) ((B.later f).later H) (by simp) (qee (w:=n) (T:=3) [(W.at_ k:Int)])
 dsimp only[List.length_cons,List.length_nil,Nat.reduceAdd]at I
 have J:=hd1 (λw' t=>qyz (o:=0) p (λq x c=>by match q,c with|0,c=>exact(by simpa using c)|1,c=>exact(by simpa using c)|2,c=>exact(by simpa using c)|3,c=>exact(by simpa using c)) E w' ((B.later f).later t) t);have K:=hd1 (λw' t=>qyz (o:=4) p (λq x c=>by match q,c with|0,c=>exact(by simpa using c)|1,c=>exact(by simpa using c)|2,c=>exact(by simpa using c)|3,c=>exact(by simpa using c)) F w' ((B.later f).later t) t)
 have l1:(qv [(W.at_ k:Int)]).length<=22:=by have:=ze (l:=[(W.at_ k:Int)]) (λx c=>by simp at c;subst c;exact⟨by omega,by omega⟩);simpa using this
 have ll2:(qv [p0,p1,p2,p3]).length<=88:=by have:=ze E;simpa using this
 have ll3:(qv [s0,s1,s2,s3]).length<=88:=by have:=ze F;simpa using this
 have A1:=λw=>qfi (P:=Tryz.prog) (bya (qv [(W.at_ k:Int)])) ⟨#[44,32]⟩ (by simp[zo];omega) w;have A2:=λw=>qfi (P:=Tryz.prog) (bya (qv [(W.at_ k:Int)])++⟨#[44,32]⟩) (bya (qv [p0,p1,p2,p3])) (by simp[zo];omega) w;have A3:=λw=>qfi (P:=Tryz.prog) ⟨#[44,32]⟩ (bya (qv [s0,s1,s2,s3])) (by simp[zo];omega) w;have A4:=λw=>qfi (P:=Tryz.prog) (bya (qv [(W.at_ k:Int)])++⟨#[44,32]⟩++bya (qv [p0,p1,p2,p3])) (⟨#[44,32]⟩++bya (qv [s0,s1,s2,s3])) (by simp[zo];omega) w;have L:=hd2 ab p;have bsl:=p.lt;have hgl3:=jci hgl f.size;clear l1 ll2 ll3 E F m B Z p D X Y y0 l2 m2 V f ab
 go_upto_region 66 with fail
 go_region_with (first|(go_at_call 17;(with_reducible refine I.mono ?_);rintro e w4 ⟨rfl,hb4⟩;have ac:=qa H hb4;have ad:=J.out w4 ac)|(go_at_call 17;(with_reducible refine ad.mono ?_);rintro e w5 ⟨rfl,hb5⟩;have v:=qa ac hb5))
 all_goals
  have c8':=(L.out.2.later v).cell 8 _ rfl;have bsl5:=jci bsl v.size;clear I ad H n0' e3' f3' c8;cases opn
  ·have i:=r.out w5 (qa L.out.1 v);rw[if_neg (by simp)]at i
   rw[show bya (qv [(W.at_ k:Int)]++[44,32]++qv [p0,p1,p2,p3]++[])=bya (qv [(W.at_ k:Int)])++⟨#[44,32]⟩++bya (qv [p0,p1,p2,p3]) by
        rw[show (⟨#[44,32]⟩:ByteArray)=bya [44,32]from rfl,jz,jz];simp]at i
   clear J K r A1 A2 A3 A4
   go_wp2
   go_ret2;exact i
  have BL3:=K.out w5 v
  go_wp2_with fail
  refine BL3.mono ?_;rintro e w6 ⟨rfl,hb6⟩;have i:=r.out w6 (qa (qa L.out.1 v) hb6);rw[if_pos (by trivial)]at i
  rw[show bya (qv [(W.at_ k:Int)]++[44,32]++qv [p0,p1,p2,p3]++([44,32]++qv [s0,s1,s2,s3]))=bya (qv [(W.at_ k:Int)])++⟨#[44,32]⟩++bya (qv [p0,p1,p2,p3])++(⟨#[44,32]⟩++bya (qv [s0,s1,s2,s3])) by
   rw[show (⟨#[44,32]⟩:ByteArray)=bya [44,32]from rfl,jz,jz,jz,jz]]at i
  clear J K r BL3
  go_wp2
  go_ret2;exact i
end
section
open Go.RowKit
variable {S:qe}
theorem RS.lens {w:World} {b:Nat} {G:Nat->Prop} {F:Nat->Option Obj} (h:RS w b G F S):∃a c e f,w.cell? (AD b 8)=some (.slice a S.waits.length c)/\w.cell? (AD b 9)=some (.slice e S.l.length f):=by
 obtain⟨lv,wv,sv,log,waits,d,o,j,_⟩:=h;obtain⟨a,c,k,_⟩:=qq d.rwait;obtain⟨e,f,m,_⟩:=qq d.own;have g:=d.box.cell 8 _ rfl;have i:=d.box.cell 9 _ rfl
 have n:waits.length=S.waits.length:=by rw[<-j];simp
 rw[k,n]at g;rw[m]at i;exact⟨a,c,e,f,g,i⟩
def qnu (S:qe):List ByteArray:=(List.range 8).map (λ(q:Nat)=>qdf S.a0 S.a1 S.a2 S.a3 S.l q)
theorem qov (S:qe):(qnu S).map (·.data.toList)=qc0 S:=by unfold qnu qc0;rw[List.map_map];rfl
theorem q2q {w':World} {B:Nat} {v:Value} (h:w'.ownsRow B 9 1 v 8 (qej S.a0 S.a1 S.a2 S.a3 S.l 8)) (f:∀x∈qnu S,x.data.toList.length<=13):∃b c,v=.slice (PT b) 8 c/\Ca 42 #[.slice (PT b) 8 c,.string ⟨#[32]⟩] w' λe w2=>e=.returned (.string (bya (Lib.join (qc0 S) [32])))/\Bw w' w2:=by
 obtain⟨b,c,rfl,r,i⟩:=h.form (by decide);have j:=h.cells (g:=b) rfl
 have k:8<=c:=by
  rcases h.2 with ⟨h,_⟩|⟨g',s,cur,m,_,_,n,_⟩
  ·cases h
  cases m;exact n
 have d:(qnu S).length=8:=by simp[qnu]
 have J:=jd1 b 0 c (qnu S) ⟨#[32]⟩ w' (λq y a=>by
  rw[Nat.zero_add]
  have:=j q (.string y) (by unfold qej;unfold qnu at a;rw[jcv]at a ⊢;cases hq:(List.range 8)[q]?with
   |none=>rw[hq]at a;cases a
   |some z=>rw[hq]at a;injection a with a;subst a;rfl)
  rcases Nat.eq_zero_or_pos q with rfl|o
  ·simpa[Addr.add]using this
  simpa[Addr.add,Nat.ne_of_gt o]using this) i (by rw[d];decide) (by rw[d];exact k) (by
  have:=qgl 13 ((qnu S).map (·.data.toList)) (λy a=>by obtain⟨x,p,rfl⟩:=jcz.1 a;exact f x p);rw[jdh,d]at this
  exact jcn this (by decide))
 rw[d]at J;rw[show (⟨#[32]⟩:ByteArray).data.toList=[32]from rfl,qov]at J;exact⟨b,c,rfl,J⟩
theorem q4a:yt 14:=λ{w w2 n0 H b j cap nc Gw G W a na l ns} u h hn hlen ht _ hN hb2=>by
 obtain⟨M,Gs,R,hG⟩:=(h.hs.later hb2).rw;obtain⟨x,rfl⟩:=qit hlen;simp[qx,qb8,thB,thC]at ht;obtain⟨k,rfl,m,hth,_⟩:=qac ht;obtain⟨g,rfl,hgB,hgl,q0⟩:=hN.cell 0 _ rfl;have hcap:=hN.cap;obtain⟨sg,sa,c0,l0,hsgl,xs⟩:=R.sitesAt m;have x0:=xs k m;have i:=h.wi.wf.inv k m;have hwt:=h.wi.wf.wt k m;have hlen2:=i.len;have hlog:=i.log;have hne:=qb.one;have HF0:Hid (∀w',Bw w w'->vl 14 W l w H G (.returned (.tuple #[.string (bya (qmb (W.S k))),U 0])) w'):=λw' I=>h.tell hn I ⟨rfl,by rw[if_pos hth];exact⟨rfl,rfl⟩⟩ (λ_=>rfl);have HW:=hd4 R (h.gl.later hb2) hb2 i;have L0:=qb.cell c0;have L1:=qb.cell x0;have L2:=qb.cell q0
 have hk4:k<4:=by have:=h.wi.wf.n4;omega
 clear h hn hb2 hlen ht hN R hth hG xs i
 conv=>arg 2;whnf
 unfold qa3
 go_upto_region 62 with fail
 refine wrl ?_
 repeat (go_big_quiet_step (first|rfl|fail))
 refine wpQuiet_nil ?_;rintro d ⟨⟨_,t⟩,rfl⟩;obtain⟨R,g0,hbw,i⟩:=HW.out;have z:=(R.laterW t).site m;obtain⟨K,L,N,O,bpl⟩:=z.applied;obtain⟨wa,wc,va,vc,b8,b9⟩:=z.lens;have B:=g0.later t
 have Q:∀x∈[(W.S k).a0,(W.S k).a1,(W.S k).a2,(W.S k).a3],wfI x:=λx c=>by
  simp at c;rcases c with rfl|rfl|rfl|rfl
  ·exact j1 i.a0
  ·exact j1 i.a1
  ·exact j1 i.a2
  exact j1 i.a3
 have C:∀x∈[((W.S k).waits.length:Int),((W.S k).l.length:Int)],wfI x:=λx c=>by
  simp at c;rcases c with rfl|rfl
  ·exact⟨by omega,by omega⟩
  exact⟨by omega,by omega⟩
 have V:∀x∈qnu (W.S k),x.data.toList.length<=13:=λx c=>by
  obtain⟨q,_,rfl⟩:=jcz.1 c;exact qno i.ok
 have D:Hid (∀w',Bw d w'->Ca 17 #[.slice (some (AD (M.bp k) 1)) 4 4] w' λe w2=>e=.returned (.string (bya (qv [(W.S k).a0,(W.S k).a1,(W.S k).a2,(W.S k).a3])))/\Bw w' w2):=λw' f=>
  qb7 (b:=M.bp k) (o:=1) (cap:=4) (l:=[(W.S k).a0,(W.S k).a1,(W.S k).a2,(W.S k).a3]) (by simp) (by simp) Q w' (B.later f) (jci bpl f.size) (λq x c=>by
   match q,c with
   |0,c=>injection c with c;subst c;exact cell_later f K
   |1,c=>injection c with c;subst c;exact cell_later f L
   |2,c=>injection c with c;subst c;exact cell_later f N
   |3,c=>injection c with c;subst c;exact cell_later f O)
 have X:Hid (∀w',Bw d w'->Ca 17 #[.slice (PT w'.heap.size) 2 2] (w'.alloc (.cells #[U ((W.S k).waits.length:Int),U ((W.S k).l.length:Int)] 3)) λe w2=>e=.returned (.string (bya (qv [((W.S k).waits.length:Int),((W.S k).l.length:Int)])))/\Below (w'.alloc (.cells #[U ((W.S k).waits.length:Int),U ((W.S k).l.length:Int)] 3)).heap.size (w'.alloc (.cells #[U ((W.S k).waits.length:Int),U ((W.S k).l.length:Int)] 3)) w2):=λw' f=>
  qb7 (b:=w'.heap.size) (o:=0) (cap:=2) (l:=[((W.S k).waits.length:Int),((W.S k).l.length:Int)]) (by simp) (by simp) C _ (B.later (boxed f _)) (by simp) (qee (w:=w') (T:=3) [((W.S k).waits.length:Int),((W.S k).l.length:Int)])
 have Y:Bw d (d.alloc (.cells #[U ((W.S k).waits.length:Int),U ((W.S k).l.length:Int)] 3)).drew:=(boxed (jcc _ d) _).drew;have hd3:Bw d d.drew:=(jcc _ d).drew
 have Z:Hid (∀w',Below (d.alloc (.cells #[U ((W.S k).waits.length:Int),U ((W.S k).l.length:Int)] 3)).drew.heap.size (d.alloc (.cells #[U ((W.S k).waits.length:Int),U ((W.S k).l.length:Int)] 3)).drew w'->Ca 17 #[.slice (PT d.heap.size) 2 2] w' λe w2=>e=.returned (.string (bya (qv [((W.S k).waits.length:Int),((W.S k).l.length:Int)])))/\Bw w' w2):=λw' f=>
  qb7 (b:=d.heap.size) (o:=0) (cap:=2) (l:=[((W.S k).waits.length:Int),((W.S k).l.length:Int)]) (by simp) (by simp) C _ (B.later (qa Y f)) (jci (by simp) f.size) (λq x c=>cell_later f (qee (w:=d) (T:=3) [((W.S k).waits.length:Int),((W.S k).l.length:Int)] q x c))
 have TD:Hid (∀w',Bw d w'->Ca 43 #[.pointer (some (AD (M.bp k) 9)),.agg #[U (W.S k).a0,U (W.S k).a1,U (W.S k).a2,U (W.S k).a3]] w' λe w2=>∃n p,e=.returned (.slice (PT n) 8 p)/\Hid (Ca 42 #[.slice (PT n) 8 p,.string ⟨#[32]⟩] w2 λe d=>e=.returned (.string (bya (Lib.join (qc0 (W.S k)) [32])))/\Bw w2 d)/\Bw w' w2):=λw' f=>
  (q3z (W.S k).a0 (W.S k).a1 (W.S k).a2 (W.S k).a3 w' (z.later f) i).mono λe w2 ⟨v,he,ho,H⟩=>by
   obtain⟨n,p,rfl,J⟩:=q2q ho V;exact⟨n,p,he,J,H⟩
 have l1:(qv [(W.S k).a0,(W.S k).a1,(W.S k).a2,(W.S k).a3]).length<=88:=by have:=ze Q;simpa using this
 have l2:(qv [((W.S k).waits.length:Int),((W.S k).l.length:Int)]).length<=44:=by have:=ze C;simpa using this
 have l3:(Lib.join (qc0 (W.S k)) [32]).length<=112:=by
  have:=qgl 13 ((qnu (W.S k)).map (·.data.toList)) (λy hy=>by obtain⟨x,c,rfl⟩:=jcz.1 hy;exact V x c);rw[jdh,show (qnu (W.S k)).length=8 by simp[qnu],qov]at this;exact this
 have r:=hd1 (λw' I=>by
  have:=HF0.out w' I
  rw[show bya (qmb (W.S k))=bya (qv [(W.S k).a0,(W.S k).a1,(W.S k).a2,(W.S k).a3])++⟨#[44,32]⟩++bya (qv [((W.S k).waits.length:Int),((W.S k).l.length:Int)])++⟨#[44,32]⟩++bya (Lib.join (qc0 (W.S k)) [32]) by
   rw[show (⟨#[44,32]⟩:ByteArray)=bya [44,32]from rfl,jz,jz,jz,jz];rfl]at this
  exact this)
 obtain⟨s1,hs1⟩:∃s,bya (qv [(W.S k).a0,(W.S k).a1,(W.S k).a2,(W.S k).a3])=s:=⟨_,rfl⟩;obtain⟨s2,hs2⟩:∃s,bya (qv [((W.S k).waits.length:Int),((W.S k).l.length:Int)])=s:=⟨_,rfl⟩;obtain⟨s3,hs3⟩:∃s,bya (Lib.join (qc0 (W.S k)) [32])=s:=⟨_,rfl⟩
 have z1:s1.size<=88:=by rw[<-hs1,zo];exact l1
 have z2:s2.size<=44:=by rw[<-hs2,zo];exact l2
 have z3:s3.size<=112:=by rw[<-hs3,zo];exact l3
 have zc:(⟨#[44,32]⟩:ByteArray).size=2:=rfl;have A1:=λw=>qfi (P:=Tryz.prog) s1 ⟨#[44,32]⟩ (by omega) w;have A2:=λw=>qfi (P:=Tryz.prog) (s1++⟨#[44,32]⟩) s2 (by rw[jc4];omega) w;have A3:=λw=>qfi (P:=Tryz.prog) (s1++⟨#[44,32]⟩++s2) ⟨#[44,32]⟩ (by rw[jc4,jc4];omega) w;have A4:=λw=>qfi (P:=Tryz.prog) (s1++⟨#[44,32]⟩++s2++⟨#[44,32]⟩) s3 (by rw[jc4,jc4,jc4];omega) w;rw[hs1]at D r;rw[hs2]at X Z r;rw[hs3]at TD r;have HX:=hd1 (qa hbw t);clear l1 l2 l3 Q C V HF0 R g0 hbw i z B HW L0 L1 L2 c0 x0 q0 t hs1 hs2 hs3 z1 z2 z3 zc
 go_upto_region 63 with fail
 have X1:=λ(w':World) (h:Bw d w')=>cell_later h K;have X2:=λ(w':World) (h:Bw d w')=>cell_later h L;have X3:=λ(w':World) (h:Bw d w')=>cell_later h N;have X4:=λ(w':World) (h:Bw d w')=>cell_later h O;have X8:=λ(w':World) (h:Bw d w')=>cell_later h b8;have X9:=λ(w':World) (h:Bw d w')=>cell_later h b9;clear K L N O b8 b9
 go_region_held3 (λw'=>Bw d w') ((repeat (first|(with_reducible assumption)|(with_reducible refine boxed ?_ _)|(with_reducible refine jc6 ?_)|(with_reducible exact jcc _ _)))) (first
  |(go_at_call 17;(with_reducible refine(D.out d.drew hd3).mono ?_);rintro e w4 ⟨rfl,E⟩;have F:=qa hd3 E)
  |(go_at_call 17;(with_reducible refine(D.out (d.alloc (.cells #[U ((W.S k).waits.length:Int),U ((W.S k).l.length:Int)] 3)).drew Y).mono ?_);rintro e w4 ⟨rfl,E⟩;have F:=qa Y E)
  |(go_at_call 17;(with_reducible refine(X.out w4 F).mono ?_);rintro e w5 ⟨rfl,hb5⟩;have hb53:=qa (boxed F _) hb5)
  |(go_at_call 17;(with_reducible refine(Z.out w4 E).mono ?_);rintro e w5 ⟨rfl,hb5⟩;have hb53:=qa F hb5)
  |(go_at_call 43;(with_reducible refine(TD.out w5 hb53).mono ?_);rintro e w6 ⟨n,p,rfl,hJ,hb6⟩;have hb63:=qa hb53 hb6)
  |(go_at_call 42;(with_reducible refine hJ.out.mono ?_);rintro e w7 ⟨rfl,hb7⟩;have hb73:=qa hb63 hb7;have HF2:=r.out w7 (qa HX.out hb73)))
 all_goals
  clear D X Z TD r A1 A2 A3 A4 X1 X2 X3 X4 X8 X9
  go_wp2
  go_ret2;exact HF2
end
section
open Go.RowKit
theorem qgm.gl3 {w w2 c:World} {i m b j cap:Nat} {Gw G:Nat->Prop} {W W':WoS} {a:Option Addr} {l:List ByteArray} (h:qgm w i m b Gw G W j a cap l) (n:Bw w w2) (o:qae w2 b Gw W' c):Gl c:=by
 obtain⟨p,_,_,d⟩:=o;have g:=h.gl.later n;exact g.kept (λk f=>d.block k (jci f g.sz) (λe=>h.gn k (jci f h.nn.1) ((h.g k).2 (.inr e)))) d.size
theorem qy0:yt 5:=λ{w w2 n0 hb b j cap nc Gw G W a na l ns} u h hn hlen I _ hN hb2=>by
 have R:=(h.hs.later hb2).rw;obtain⟨x,rfl⟩:=qit hlen;simp[qx,qb8,thB,thC]at I;obtain⟨k,rfl,J,hth,_⟩:=qac I;obtain⟨g,rfl,hgB,hgl,q0⟩:=hN.cell 0 _ rfl;have hcap:=hN.cap;have CM:=q2t w2 R h.wi.wf J (h.wi.ps k J) (λe=>(h.wi.told J e).2);have K:=q61 h.di J;have L:Hid (qgx W k=if (wcT W k).seq=0 then [110,111,116,104,105,110,103]else qv [(wcT W k).site,(wcT W k).seq,(wcT W k).wall,(wcT W k).count]++[58,32]++qv [(wcT W k).d0,(wcT W k).d1,(wcT W k).d2,(wcT W k).d3]):=rfl
 have N:Hid (∀i d told,qae w2 b Gw (wcW W k) i->Bw i d->(wcE W k=0->told=qgx W k)->vl 5 W l w hb G (.returned (.tuple #[.string (bya told),U (wcE W k)])) d):=λi d told O hb4 I=>h.fin hn hb2 (by
  show (if ye (k:Int) W.c then qgx W k=qgx W k/\wcW W k=wcW W k/\wcE W k=wcE W k else qgx W k=[]/\wcW W k=W/\wcE W k=2);rw[if_pos hth]
  exact⟨rfl,rfl,rfl⟩) I O hb4
 have HG:Hid (∀i,qae w2 b Gw (wcW W k) i->Gl i):=λi O=>h.gl3 hb2 O;obtain⟨⟨m,f,n,p,s,v,y,z,D⟩,Z⟩:∃t,wcT W k=t:=⟨_,rfl⟩;obtain⟨C,aa⟩:∃C,wcE W k=C:=⟨_,rfl⟩;rw[Z]at K L
 dsimp only at K L
 rw[aa]at N;have w1:∀x∈[m,f,n,p],wfI x:=λx r=>K x (by simp at r ⊢;rcases r with e|e|e|e<;>simp[e]);have w2':∀x∈[s,v,y,z],wfI x:=λx r=>K x (by simp at r ⊢;rcases r with e|e|e|e<;>simp[e]);have M:=hd2 w1 w2'
 conv=>arg 2;whnf
 unfold qa3
 go_wp2_with fail
 refine CM.mono ?_;rintro e i ⟨⟨mt,E,F⟩,rfl,Q,hh⟩;rw[Z]at Q;simp only at Q;subst Q;rw[aa,show txV ⟨⟨m,f,n,p,s,v,y,z,D⟩,E,F⟩=.agg (List.toArray (T9 m f n p s v y z E D.length F))from rfl]
 have S:Hid (qae w2 b Gw (wcW W k) i):=by
  obtain⟨_,G',R',p2,tt,_⟩:=hh.out;exact⟨G',R',p2,tt⟩
 obtain⟨d,ab⟩:∃d,i.alloc (.cells (List.toArray (T9 m f n p s v y z E D.length F)) 102)=d:=⟨_,rfl⟩
 have V:qd d i.heap.size (T9 m f n p s v y z E D.length F):=by rw[<-ab];exact qd.new (w:=i) (T:=102) (T9 m f n p s v y z E D.length F) rfl
 have ac:Bw i d:=by rw[<-ab];exact boxed (jcc _ i) _
 have H:=hd3 V ac ((HG.out i S.out).later ac);obtain⟨t0,t1,t2,t3⟩:=V.c4;have tl:=V.lt;by_cases X:C=0/\f=0
 ·obtain⟨h0,B⟩:=X
  have FIN:Hid (vl 5 W l w hb G (.returned (.tuple #[.string (bya [110,111,116,104,105,110,103]),U 0])) d):=by
   have:=N.out i d [110,111,116,104,105,110,103] S.out H.out.2.1 (λ_=>by rw[L.out,if_pos B])
   rwa [h0]at this
  subst h0 B
  go_wp2
  go_ret2;exact FIN.out
 have H01:=hd1 X;have hbx:Bw d (d.alloc (.cells #[U m,U f,U n,U p] 3)).drew:=(boxed (jcc _ d) _).drew;have BL1:=qb7 (b:=d.heap.size) (o:=0) (cap:=4) (l:=[m,f,n,p]) (by simp) (by simp) M.out.1 ((d.alloc (.cells #[U m,U f,U n,U p] 3)).drew) (H.out.2.2.later hbx) (by simp) (qee (w:=d) (T:=3) [m,f,n,p])
 dsimp only[List.length_cons,List.length_nil,Nat.reduceAdd]at BL1
 have BLP:=hd1 (λw' B=>qyz (o:=4) H.out.1 (λq x r=>by match q,r with|0,r=>exact(by simpa using r)|1,r=>exact(by simpa using r)|2,r=>exact(by simpa using r)|3,r=>exact(by simpa using r)) M.out.2 w' (H.out.2.2.later B) B)
 have l1:(qv [m,f,n,p]).length<=88:=by have:=ze M.out.1;simpa using this
 have l2:(qv [s,v,y,z]).length<=88:=by have:=ze M.out.2;simpa using this
 have A1:=λw=>qfi (P:=Tryz.prog) (bya (qv [m,f,n,p])) ⟨#[58,32]⟩ (by simp[zo];omega) w;have A2:=λw=>qfi (P:=Tryz.prog) (bya (qv [m,f,n,p])++⟨#[58,32]⟩) (bya (qv [s,v,y,z])) (by simp[zo];omega) w
 have HF1:=hd1 (λw' B=>by
  have:=N.out i w' (qv [m,f,n,p]++[58,32]++qv [s,v,y,z]) S.out (qa H.out.2.1 B) (λe=>by rw[L.out,if_neg (λq=>H01.out ⟨e,q⟩)])
  rwa [show bya (qv [m,f,n,p]++[58,32]++qv [s,v,y,z])=bya (qv [m,f,n,p])++⟨#[58,32]⟩++bya (qv [s,v,y,z]) by
   rw[show (⟨#[58,32]⟩:ByteArray)=bya [58,32]from rfl,jz,jz]]at this)
 have Y:(C==0)=false\/((C==0)=true/\(f==0)=false):=by
  by_cases e:C=0
  ·exact .inr ⟨by simp[e],by simp;exact λq=>X ⟨e,q⟩⟩
  exact .inl (by simp[e])
 rcases Y with Y|⟨Y,hq1⟩
 all_goals
  go_upto_region 36 with fail
  have X0:=λ(w':World) (h:Bw d w')=>cell_later h t0;have X1:=λ(w':World) (h:Bw d w')=>cell_later h t1;have X2:=λ(w':World) (h:Bw d w')=>cell_later h t2;have X3:=λ(w':World) (h:Bw d w')=>cell_later h t3
  go_region_held3 (λw'=>Bw d w') ((repeat (first|(with_reducible assumption)|(with_reducible refine boxed ?_ _)|(with_reducible refine jc6 ?_)|(with_reducible exact jcc _ _)))) (first|(go_at_call 17;(with_reducible refine BL1.mono ?_);rintro e w5 ⟨rfl,hb5⟩;have hb54:=qa hbx hb5;have BL2:=BLP.out w5 hb54)|(go_at_call 17;(with_reducible refine BL2.mono ?_);rintro e w6 ⟨rfl,hb6⟩;have hb64:=qa hb54 hb6;have HF2:=HF1.out w6 hb64))
  all_goals
   go_wp2
   go_ret2;exact HF2
end
theorem q52 (a:yt 9):∀i,i<19->yt i:=
 qzg (p:=yt) @arm_abort @arm_ask @arm_begin @arm_calm @arm_client @arm_commit @arm_deliver @arm_drop @arm_goes @hh @arm_lose @arm_many @arm_move @arm_read @arm_site @arm_sweep @arm_twice @arm_world @arm_write
section
open Go.RowKit Go.Maps Go.Sort
theorem qwx:Go.strKeys qe2=qc9:=by decide
theorem qyv:Maps.size qe2=19:=by decide
theorem q5l:yt 9:=λ{w w2 n0 m b j cap nc Gw G W a na l ns} u h hn hlen ht _ hN hb2=>by
 obtain rfl:=qsd hlen;obtain⟨bm,cf,fm,hbm⟩:=h.fm;obtain⟨i0,hi,hz0,hz1,hz2⟩:=info_parts qki
 have hbl:bm<w2.heap.size:=by have:=h.nn.2;have:=hb2.size;omega
 have M:w2.ownsMap Tryz.prog 9 (plainElem Tryz.prog 9) bm 19 qe2:=fm.kept (hb2.block bm (by have:=h.nn.2;omega));have c0:=(hb2.cell (p:=AD 0 0) (jci (by decide) h.gl.sz)).trans cf;have F:=hd3 h hn hb2;have HO:=hd1 M
 conv=>arg 2;whnf
 unfold qa3
 go_wp2_with (at_range;refine wpList_range_own _ rfl _ 92 rfl 9 9 qhg Tryz.underlying92 _ bm 19 _ rfl M ?_;intro w0 N hg0 hs0)
 go_frame
 rw[qyv]at N
 go_loopw [25] (λv wr=>∃(left:Lit->Bool) (cnt:Nat) (d:List (List UInt8)),d.length+cnt<=19/\wr.ranges Tryz.prog 9 (plainElem Tryz.prog 9) bm w2.heap.size 19 qe2 left cnt/\wr.ownsRow w2.heap.size 9 1 v d.length (d.map encStr)/\Hid (Collected qe2 left d/\Bw w2 wr)) (λ_ wr=>wr.rangeLeft bm w2.heap.size)
 case atStart=>exact⟨_,19,[],by simp,N,jcx _ _ _ _,Collected.start qe2,(jcc _ _).grown hg0 (jcd _) (λj i=>by cases i)⟩
 obtain⟨left,cnt,d,hcs,H,I,k⟩:=hrel
 go_wp2_with (at_next;refine wpList_next_ranges _ rfl _ rfl 9 qhg (plainElem Tryz.prog 9) encStr Value.string (λkey kl hk=>by obtain⟨x,B,_⟩:=Maps.keyOf_str Tryz.underlying9 hk;exact⟨x,B⟩) (λv y o=>by obtain⟨c,rfl,_⟩:=qon o;exact⟨c,rfl⟩) bm w2.heap.size 19 _ _ _ rfl H ?_ ?_)
 ·intro hc0 hl0
  have O:d.Perm qc9:=by rw[<-qwx];exact k.out.1.perm HO.out qhg Tryz.underlying9 hl0
  have E:=qu9 O;have C:d.length=19:=O.length_eq;rcases I.2 with ⟨hnil,h0⟩|⟨g,r,cur,rfl,P,m,h1,h2,h3,h4⟩
  ·omega
  have hH:=holds_of_block m (by simpa using h4);have hgl:=(jcs.1 m).1;have Q:=jek g 0 r d wr hH hgl (by omega)
  have hlc:qc9.length=d.length:=by rw[C];rfl
  have HB:Hid (∀f,(∃n os,f=grow (putRow encStr (Sort.ahead wr n) g 0 qc9.toArray) os)->f.ownsRow w2.heap.size 9 1 (.slice (PT g) 19 r) 19 (qc9.map encStr)/\Bw w2 f):=λf ⟨n,os,e⟩=>by
   subst e;have q:=ownsRow_sorted (n:=n) (os:=os) hlc P m h1 h2 h3;rw[C]at q;exact⟨q,k.out.2.grown (grownBy_sorted _) k.out.2.size (λj i=>by cases i;exact P)⟩
  rw[E,C]at Q
  have hc19:19<=r:=by omega
  have HL:=hd1 C;rw[HL.out]
  go_wp2_with fail
  refine Q.mono ?_;rintro e f ⟨rfl,hw4⟩;obtain⟨R,b4⟩:=HB.out f hw4
  have J:=jd1 g 0 r (qc9.map bya) ⟨#[32]⟩ f (λq y S=>by
   rw[Nat.zero_add];rw[jcv]at S;obtain⟨x,B,rfl⟩:=Option.map_eq_some_iff.1 S;have i:q<19:=(jck.1 B).1;rw[R.cellAt q (by rw[Nat.mul_one];exact i),jcv,B]
   rfl) (R.lt g rfl).2 (by decide) hc19 (by decide)
  replace J:Ca 42 #[.slice (PT g) 19 r,.string ⟨#[32]⟩] f λe w'=>e=.returned (.string (bya (Lib.join qc9 [32])))/\Bw f w':=J;have HF:Hid (∀s,Bw f s->vl 9 W l w m G (.returned (.tuple #[.string (bya (Lib.join qc9 [32])),U 0])) s):=λs K=>F.out.1.tell (told:=Lib.join qc9 [32]) (t:=Lib.join qc9 [32]) F.out.2.1 (qa (qa F.out.2.2 b4) K) ⟨rfl,rfl,rfl⟩ (λ_=>rfl)
  go_wp2_with fail
  refine J.mono ?_;rintro e s ⟨rfl,K⟩;have HF0:=HF.out s K
  go_wp2
  go_ret2;exact HF0
 intro x c kl yd yp L cnt2 hkey hlk o hat T hlt V hs2 hen;obtain⟨x',ex,rfl,_⟩:=Maps.keyOf_str Tryz.underlying9 hkey;obtain rfl:x=x':=encStr_inj ex;have hrow2:=I.kept V (Or.inr (row_ne_iter I H).symm);have D:=qg3 hrow2 (boxed (jcc _ L) (.cells #[encStr x] 9));have z:=hd2 (k.out.2.grown V k.out.2.size (λj i=>by cases i;exact jcd _)) (k.out.1.step hlk hat)
 go_wp2_with (at_builtin;refine wpList_append_lies _ rfl _ _ 42 rfl w2.heap.size 9 i0 (.string ⟨#[]⟩) 1 16 Tryz.underlying42 hi hz0 hz1 hz2 rfl (by decide) _ _ _ rfl D (AD L.heap.size 0) 1 1 [encStr x] rfl rfl (World.news_of_block (heap_alloc_new L (.cells #[encStr x] 9))) ?c2 (by decide) ?c3 ?c4 ?c5 _ rfl ?_)
 case c2=>intro v o;simp at o;subst o;rfl
 case c3=>unfold maxLen;omega
 case c4=>omega
 case c5=>have:=z.out.1.size;simp;omega
 intro gb gc f own4 X at4 lt4;have Y:=(T.alloc (.cells #[encStr x] 9)).kept X (row_ne_low D hbl) (row_ne_iter D (T.alloc _))
 have Z:Hid (f.ownsRow w2.heap.size 9 1 (.slice (PT gb) (d.length+1) gc) (d++[x]).length ((d++[x]).map encStr)/\Bw w2 f):=by
  refine⟨by simpa using own4,?_⟩;exact(z.out.1.alloc z.out.1.size _).grown X (by have:=z.out.1.size;simp;omega) (λq e=>(D.lt q e).1)
 go_wp2
 go_roundw
 case rel=>exact⟨_,_,_,_,_,_,_,_,_,_,⟨_,cnt2,d++[x],by simp;omega,Y,Z.out.1,z.out.2,Z.out.2⟩,rfl⟩
 rw[Y.left_eq,H.left_eq];exact hlt
end
section
open Go.RowKit
theorem qti (s:ByteArray) (f:20000<s.size) (h:s.size<=1000000) (w:World) (g:Gl w):
 Ca 5 #[.string s] w (Rn (.string (bya [101,114,114,111,114,32,52,10])) w):=by
 have a:=qq7 4 ⟨by decide,by decide⟩ w g
 have i:20000<(s.size:Int):=by omega
 have b:qgt 4=[101,114,114,111,114,32,52]:=by unfold qgt;simp[Lib.itoa,Lib.decDigits]
 rw[b]at a;have j:=λw=>qfi (P:=Tryz.prog) (bya [101,114,114,111,114,32,52]) ⟨#[10]⟩ (by decide) w
 have c:Hid (bya [101,114,114,111,114,32,52]++⟨#[10]⟩=bya [101,114,114,111,114,32,52,10]):=by
  show _=_;rw[show (⟨#[10]⟩:ByteArray)=bya [10]from rfl,jz];rfl
 go_enter Tryz.func5,Tryz.ntmps5
 go_wp2_with fail
 refine a.mono ?_;rintro e k ⟨rfl,d⟩
 go_wp2
 rw[c.out];go_ret;exact⟨rfl,d⟩
end
section
open Go.RowKit
theorem q2f (s:ByteArray) (a:20000<s.size) (w:World):
 Ca 6 #[.string s] w (Rn (.string (bya [101,114,114,111,114,32,52,10])) w):=by
 have b:20000<(s.size:Int):=by omega
 go_enter Tryz.func6,Tryz.ntmps6
 go_wp2
 go_ret;exact⟨rfl,jcc _ _⟩
theorem qqx.later {w w':World} (h:qqx w) (c:10<=w.heap.size) (a:Bw w w'):qqx w':=by
 obtain⟨bm,f1,d,b⟩:=h;exact⟨bm,(a.cell (p:=AD 0 0) (jci (by decide) c)).trans f1,d.kept (a.block bm b),jci b a.size⟩
theorem qs3 (s:ByteArray) (w:World) (g:Gl w) (m:qqx w):
 Ca 4 #[.string s] w (Rn (.bool true) w):=by
 by_cases t:30000<(s.size:Int)
 ·have n:3000<(s.size:Int):=by omega
  have o:¬(s.size:Int)<=20000:=by omega
  go_enter Tryz.func4,Tryz.ntmps4
  go_wp2
  go_ret;exact⟨rfl,jcc _ _⟩
 by_cases n:3000<(s.size:Int)
 ·by_cases o:(s.size:Int)<=20000
  ·go_enter Tryz.func4,Tryz.ntmps4
   go_wp2
   go_ret;exact⟨rfl,jcc _ _⟩
  have c:=qti s (by omega) (by omega) w g;have d:=λw'=>q2f s (by omega) w';have p:=q93 (bya [101,114,114,111,114,32,52,10]) (bya [101,114,114,111,114,32,52,10]);go_enter Tryz.func4,Tryz.ntmps4
  go_wp2_with fail
  refine c.mono ?_;rintro e a ⟨rfl,b⟩;have f:=d a
  go_wp2_with fail
  refine f.mono ?_;rintro e w2 ⟨rfl,h⟩;have i:=qa b h
  go_wp2
  go_ret;exact⟨rfl,i⟩
 have c:=quu s (by omega) w g;have d:=λ(a:World) (j:Bw w a)=>q6k (q52 @arm_help) s (by omega) a (g.later j) (m.later g.sz j);go_enter Tryz.func4,Tryz.ntmps4
 go_wp2_with fail
 refine c.mono ?_;rintro e a ⟨k,rfl,⟨A,q⟩,b⟩;have f:=d a b;have l:=hd2 q b
 go_wp2_with fail
 refine f.mono ?_;rintro e w2 ⟨u,rfl,⟨v,r⟩,h⟩;obtain⟨_,rfl⟩:=qd8.det l.out.1 r;have i:=qa l.out.2 h
 have p:((bya k).toList==(bya k).toList)=true:=by rw[q93];simp
 go_wp2
 go_ret;exact⟨rfl,i⟩
end
section
open Tryz Go.ChangeShapes Go.WideShapes Go.ChangeAt Go.ChangeMaps Go.RowKit
theorem qy9:(Rows.laid_copse_copseref_forms:DataW Unit)=qe2:=rfl
variable {W:World}
theorem jbk (h:∃r,laidMet prog (("copse/copseref.forms",Rows.laid_copse_copseref_forms)::r) W):qqx W:=by
 obtain⟨r,ps,⟨o,p,s,t,p0,u,c,f,g,d,_,v⟩,_⟩:=h;obtain rfl:=jcu ((show prog.globalNamed "copse/copseref.forms"=some 0 by kernel_rfl).symm.trans c);obtain rfl:=jcu ((show (prog.globals[0]?).map (·.type)=some 92 by kernel_rfl).symm.trans f);rw[qy9]at d;rcases WideElems.open_map underlying92 d with ⟨_,a⟩|⟨bm,i,w,m,rfl,j,e,_,F,a⟩
 ·unfold qe2 at a;cases a
 simp only[Prod.mk.injEq]at a
 have k:W.cell? (AD 0 0)=some (.map (some bm)):=by
  have:=World.var?_cell c g 0;rw[Array.eq_one_of_toList j]at this;simpa using this
 have b:=World.ownsMap_of_fit (R:=plainElem prog 9) e F (λx _ z l=>elemAt_plainElem_string underlying9 l);rw[<-a.1]at b
 have n:i.size=19:=by
  have q:=a.1;unfold qe2 at q;injection q with q;have:=congrArg List.length q;rw[length_sorted,jdh,jdh,Array.length_toList]at this;exact this.symm
 rw[n]at b;exact⟨bm,k,b,(jcs.1 e).1⟩
noncomputable def qz0 (os:Os):World:=(World.doorLaid prog 179 os).layVars prog [("unicode/utf8.first",Rows.laid_unicode_utf8_first)]
theorem q6x (os:Os) (args:Array Value):laidMetH prog Rows.deskAnswersRow.laid ((qz0 os).forCall (λ_ _=>0) ⟨#[],args,[]⟩).memory:=
 laidMetH_of_parts3 (fuel:=8) (laidMet_layVars (w0:=World.doorLaid prog 179 os) ["unicode/utf8.first"] ((List.range (World.doorLaid prog 179 os).heap.size).filter (λx=>Nat.beq x 4==false)) (by rfl) (by kernel_rfl) (by kernel_rfl)
  (LaidIn.of_run _ 8 (by kernel_rfl) (by kernel_rfl) (by kernel_rfl) (by kernel_rfl))) (by kernel_rfl) (by kernel_rfl)
theorem qx6 (h:laidMetH prog Rows.deskAnswersRow.laid W) (b:W.ShapedOpen prog):Gl W/\qqx W:=by
 have a:laidMet prog [("math/bits.deBruijn32tab",Rows.laid_math_bits_deBruijn32tab),("math/bits.deBruijn64tab",Rows.laid_math_bits_deBruijn64tab),("internal/strconv.uint64pow10",Rows.laid_internal_strconv_uint64pow10),("unicode/utf8.acceptRanges",Rows.laid_unicode_utf8_acceptRanges),("strconv.ErrRange",Rows.laid_strconv_ErrRange),("strconv.ErrSyntax",Rows.laid_strconv_ErrSyntax),("copse/copseref.forms",Rows.laid_copse_copseref_forms),("unicode/utf8.first",Rows.laid_unicode_utf8_first)] W/\handlesMet prog [("errors.errorType",Rows.laid_errors_errorType)] W:=h;exact⟨jbw ⟨_,a.1.tail.tail⟩ ⟨_,a.1.tail.tail.tail.tail⟩ a.2 b,jbk ⟨_,a.1.tail.tail.tail.tail.tail.tail⟩⟩
theorem qm1 {H:Type} {enc:TypeId×Value->H} (W:World) (m:Nat) (args:Array Value) (n a:List (DataW H)) (o:List MemPlace)
 (b:∀(j:Nat) t v,f4.params[j]?=some t->args[j]?=some v->Value.okWide prog W .any m t v) (c:DataW.Whole enc prog f4.params.toList Rows.deskAnswersSpec.vars false W args.toList n a o) (g:Gl W/\qqx W):
 Ca 4 args W λe W'=>∃v,e=.returned v/\Rows.deskAnswersSpec.post enc prog f4 false true false false W args v W':=by
 have d:=b;have s:=c;obtain⟨p,q,f,u,rfl,C,D⟩:=c;have i:=f;have k:DataW.TrodVars enc prog W (λ_=>true) [] a q:=u;rw[Tryz.params4]at i d;obtain⟨l,E,F,G,p0,I,J,rfl,rfl,w,x⟩:=trodAll_cons i;obtain⟨rfl,rfl,rfl⟩:=trodAll_nil x
 obtain rfl:args=#[l]:=by cases args;simp_all
 obtain⟨rfl,rfl⟩:a=[]/\q=[]:=by
  cases a with
  |nil=>exact⟨rfl,k⟩
  |cons g r=>exact absurd k (by intro h;cases h)
 obtain⟨s0,rfl,rfl,rfl,y⟩:=open_string underlying9 (d 0 9 l rfl rfl) w;clear f b;refine(qs3 s0 W g.1 g.2).mono λe W' ⟨z,B⟩=>?_;subst z;exact⟨_,rfl,_,_,_,[],_,[],s,trodAll_mk1 (shut_bool underlying4 _),trodAll_cons_mk (shut_string underlying9 y) trodAll_mk0,rfl,B.frame _,λh=>by cases h⟩
theorem qk6 (os:Os) (b:os.Started) (H:Type) (enc:TypeId×Value->H):
 ReturnsInHanded {} Tryz.checked os 4 .any (λw args=>(Rows.deskAnswersSpec.pre enc prog f4 [] false w args/\laidMetH prog Rows.deskAnswersRow.laid w)/\sizedMet enc prog f4 (OpenSpec.ofChange Rows.deskAnswersSpec) false w args)
  (Rows.deskAnswersSpec.post enc prog f4 false true false false):=by
 refine returnsInHanded_of_calls own b (by kernel_rfl)
  (ChangeSpec.witness_shaped (enc:=enc) (C:=Tryz.checked) (os:=os) (fn:=f4) (s:=Rows.deskAnswersSpec) (conds:=[]) (apart:=false) (X:=λw _=>laidMetH prog Rows.deskAnswersRow.laid w) false (qz0 os) #[.string ⟨#[]⟩] 8 (World.layVars_os _ _ _) (World.shaped_of_RefB (by kernel_rfl) (by kernel_rfl)) (by kernel_rfl) (by kernel_rfl) (by kernel_rfl) (q6x os _)) ?_
 intro w a i _ c _ d f _;obtain⟨_,_,_,fn,g,_,_,_,_,h⟩:=d;obtain rfl:fn=f4:=jcu (g.symm.trans func4);obtain⟨⟨⟨j,k,l,m,_⟩,n⟩,_⟩:=f;refine(qm1 (w.forCall a i) w.heap.size i.args j k l h (DataW.Whole.of_heap (w':=w.forCall a i) (by rfl) m) (qx6 (n.of_heap (by rfl)) c)).mono λe W' ⟨v,o,p⟩=>?_;subst o;exact ChangeSpec.post_blind p
end
open Go.ChangeShapes Go.WideShapes Go.ChangeAt Go.ChangeMaps Go.RowKit
theorem qpx:joinedFacts Tryz.pinned.checked.prog 4 Tryz.f4 Rows.deskAnswersSpec Rows.deskAnswersRow=true:=by
 unfold joinedFacts;simp only[jct]
 repeat' apply And.intro
 all_goals (as_aux_lemma=>kernel_rfl)
theorem qmw:Rows.DeskAnswersSaid:=
 OpenClaim.holds_of_wide 4 Tryz.f4 rfl rfl rfl rfl rfl rfl rfl ⟨rfl,rfl,rfl,rfl,rfl⟩ rfl rfl rfl rfl rfl (by kernel_rfl) Tryz.func4 qpx
  (of_decide_eq_true (by kernel_rfl)) (by unfold Func.isWrapper;rw[if_neg (of_decide_eq_false (by kernel_rfl))];exact⟨rfl,rfl⟩)
  (λos a H enc _=>qk6 os a H enc)
theorem deskAnswers_card:Rows.DeskAnswersCardSaid:=
 Claim7.holds_tied_plain_at .later [] [.data,.data,.data,.data,.handle,.sentinel,.sentinel,.mapped,.pinned] true _ true
  qmw (λ_ h=>by cases h) (by kernel_rfl) (λ_ h=>by cases h) deskAnswers_row_tie rfl ⟨rfl,rfl⟩ (by kernel_rfl) rfl
  (λf fn b c=>by
    obtain rfl:f=4:=jcu ((show Tryz.prog.funcNamed Rows.deskAnswersRow.func=some 4 by kernel_rfl).symm.trans b)|>.symm;obtain rfl:fn=Tryz.f4:=(jcu (Tryz.func4.symm.trans c)).symm
    exact⟨by kernel_rfl,λj t a=>by
        rw[Tryz.params4]at a
        have d:t=9:=by
         rcases j with _|j
         ·simpa using a.symm
         ·simp at a
        subst d
        exact(show Tryz.prog.wantsStandIn 9=false by kernel_rfl)⟩)
  (by kernel_rfl)
end Go.Proofs.YtoanjdndmlffdaaGreatDoor
