import Derived.Test.YtoanjdndmlffdaaGreatDoorSiteB
set_option maxHeartbeats 8000000
set_option maxRecDepth 100000
namespace Go.Proofs.YtoanjdndmlffdaaGreatDoor
open Go.RowKit
def PS (w:World) (b:Nat) (G:Nat->Prop) (S:qe):Prop:=
 ∃lv bm F log waits,zf w b lv bm F S log waits/\log.map (·.t)=S.log/\waits.map (·.t)=S.waits/\∀k,G k↔(jn b lv bm F k\/∃m∈log++waits,m.blk k)
variable {w:World} {b:Nat} {G:Nat->Prop} {S:qe}
theorem PS.lt (h:PS w b G S):∀k,G k->k<w.heap.size:=by
 obtain⟨lv,bm,F,log,waits,h,_,_,c⟩:=h;intro k d;rcases(c k).1 d with a|⟨m,e,a⟩
 ·exact h.lt k a
 exact(h.hold m e).1.blk_lt k a
variable {w':World}
theorem PS.kept (h:PS w b G S) (c:∀k,G k->w'.heap[k]?=w.heap[k]?) (d:w.heap.size<=w'.heap.size):PS w' b G S:=by
 obtain⟨lv,bm,F,log,waits,h,f,g,a⟩:=h;exact⟨lv,bm,F,log,waits,h.kept (λk e=>c k ((a k).2 e)) d,f,g,a⟩
theorem PS.later (h:PS w b G S) (a:Bw w w'):PS w' b G S:=h.kept (λk c=>a.block k (h.lt k c)) a.size
def PPo (w:World) (b:Nat) (G:Nat->Prop) (S':qe) (w':World):Prop:=∃G',PS w' b G' S'/\(∀k,G' k->G k\/w.heap.size<=k)/\qc G w w'
variable {w1 w2:World}
theorem PPo.trans {a:Nat->Prop} {S':qe} (c:∀k,a k->G k\/w.heap.size<=k) (d:qc G w w1) (h:PPo w1 b a S' w2):PPo w b G S' w2:=by
 obtain⟨f,g,i,j⟩:=h;refine⟨f,g,λk l=>?_,d.more j c⟩;rcases i k l with e|e
 ·exact c k e
 exact .inr (by have:=d.size;omega)
theorem PPo.same (h:PS w b G S) (a:Bw w w'):PPo w b G S w':=⟨G,h.later a,λ_ c=>.inl c,qc.ofBelow a⟩
variable {m:TxM}
theorem qwt {log waits:List TxM} (a:waits.map (·.t)=S.waits)
 (c:log.map (·.t)=S.log):(log++[m]).map (·.t)=(qj5 S m.t).log/\(qgc waits m.t).map (·.t)=(qj5 S m.t).waits:=by
 constructor
 ·rw[jdb,c];rfl
 rw[qm0,a];rfl
structure GoM (w0:World) (b:Nat) (G:Nat->Prop) (S0 S:qe) (wr:World):Prop where
 mem:∃G',PS wr b G' S/\(∀k,G' k->G k\/w0.heap.size<=k)
 touch:qc G w0 wr
 inv:j3 S
 wn:S.waits.length<=1000
 go:∀X,qfm S X->qfm S0 X
variable {S0:qe} {wr:World}
theorem GoM.later {w0:World} (h:GoM w0 b G S0 S wr) (a:Bw wr w'):GoM w0 b G S0 S w':=by
 obtain⟨c,d,e⟩:=h.mem;exact⟨⟨c,d.later a,e⟩,h.touch.trans (qc.ofBelow a),h.inv,h.wn,h.go⟩
variable {lv:Value} {bm:Nat} {F:Nat->Prop}
theorem qzf {g:Value} {F':Nat->Prop} {log waits:List TxM} {j:Nat->Prop} (c:GoM w b G S0 S wr) (r:log.map (·.t)=S.log) (l:waits.map (·.t)=S.waits)
 (h:∀k,j k↔(jn b lv bm F k\/∃m∈log++waits,m.blk k)) (n:∀k,j k->G k\/w.heap.size<=k) (s:m∈waits) (u:S.log.length<200) (o:qd7 S=some m.t)
 (a:wr.grownBy w1 (some bm)) (z:zf w2 b g bm F' (vr {S with waits:=qdv S.waits m.t} m.t) (log++[m]) (qgc waits m.t)) (A:∀k,jn b g bm F' k->jn b lv bm F k\/w1.heap.size<=k) (f:qc (jn b lv bm F) w1 w2):GoM w b G S0 (qj5 S m.t) w2:=by
 have B:qc j wr w2:=⟨f.os.trans a.os,f.tape.trans a.tape,f.output.trans a.output,jcn a.size f.size,λk i v=>(f.block k (jci i a.size) (λe=>v ((h k).2 (.inl e)))).trans (a.block k i (λe=>v ((h k).2 (.inl (.inr (.inr (.inl (by injection e))))))))⟩
 have y:m.t∈S.waits:=by rw[<-l];exact jcz.2 ⟨m,s,rfl⟩
 refine⟨⟨λk=>jn b g bm F' k\/∃x∈(log++[m])++qgc waits m.t,x.blk k,⟨g,bm,F',log++[m],qgc waits m.t,z,(qwt l r).1,(qwt l r).2,λk=>jdl⟩,λk i=>?_⟩,c.touch.more B n,c.inv.gone y u,?_,λX C=>c.go X (.step u o C)⟩
 ·rcases i with p|⟨x,o,p⟩
  ·rcases A k p with d|d
   ·exact n k ((h k).2 (.inl d))
   exact .inr (by have:=c.touch.size;have:=a.size;omega)
  refine n k ((h k).2 (.inr ⟨x,?_,p⟩));rcases jcf.1 o with d|d
  ·rcases jcf.1 d with q|q
   ·exact jcf.2 (.inl q)
   rw[jcj.1 q];exact jcf.2 (.inr s)
  exact jcf.2 (.inr (qh2.1 d).1)
 have:=qf5 c.inv.nums y;have:=c.wn;show (qdv S.waits m.t).length<=1000;omega
structure NxA (A b bm:Nat) (w:World):Prop where
 c:w.cell? (AD A 0)=some (PP b)
 m:w.cell? (AD b 8)=some (.map (some bm))
def qkk (w:World) (b:Nat):Nat:=match w.cell? (AD b 7)with|some (.slice _ n _)=>200-n|_=>0
theorem PS.left (h:PS w b G S):qkk w b=200-S.log.length:=by
 obtain⟨lv,bm,F,log,waits,h,a,_,_⟩:=h;obtain⟨c,lc,rfl,d⟩:=yx h.rlog;unfold qkk;rw[h.box.cell 7 _ rfl,<-a];simp
theorem zf.waits {log waits:List TxM} (h:zf w b lv bm F S log waits) (l:List TxP):zf w b lv bm F {S with waits:=l} log waits:=
 ⟨h.box,h.st,h.rlog,h.map,h.nl,h.nm,h.lm,h.lf,h.mf,h.hold⟩
theorem qqg (w:World) (h:PS w b G S) (hI:j3 S) (z:S.waits.length<=1000):
 Ca 256 #[PP b] w λe w'=>e=.returned (.tuple #[])/\∃S',qfm S S'/\PPo w b G S' w':=by
 have L:=boxed (jcc _ w) (.cells #[PP b] 163);have E:=qd.new (w:=w) (T:=163) [PP b] rfl;have HG:=hd1 h.lt
 have M:(w.alloc (.cells #[PP b] 163)).heap.size=w.heap.size+1:=by simp
 have N:∀S' w',PPo (w.alloc (.cells #[PP b] 163)) b G S' w'->PPo w b G S' w':=λS' w' hp=>PPo.trans (λk O=>.inl O) (qc.ofBelow L) hp;have P:=h.later L;change qd (w.alloc (.cells #[PP b] 163)) w.heap.size [PP b]at E;clear h L;go_enter Tryz.func256,Tryz.ntmps256
 go_wp2_with fail
 obtain⟨W,hWW⟩:∃W,w.alloc (.cells #[PP b] 163)=W:=⟨_,rfl⟩;rw[hWW]at P E M N ⊢;have HFI:=hd1 N;have HWS:=hd1 M;have M0:GoM W b G S S W:=⟨⟨G,P,λk O=>.inl O⟩,⟨rfl,rfl,rfl,jcd _,λ_ _ _=>rfl⟩,hI,z,λX hX=>hX⟩;clear hWW hI z P N M
 go_loopw [3] (λ_ wr=>∃(a:qe),Hid (GoM W b G S a wr)/\Hid (qd wr w.heap.size [PP b])) (λ_ wr=>qkk wr b)
 case atStart=>exact⟨S,M0,E⟩
 clear M0 E;obtain⟨a,i,HR⟩:=hrel;obtain⟨G',PG,Q⟩:=i.out.mem;have LE:=hd1 PG.left;obtain⟨lv,bm,F,log,waits,PM,R,z,V⟩:=PG;have g:=hd5 PM R z V Q
 have hll:log.length=a.log.length:=by rw[<-R];simp
 have nA:¬jn b lv bm F w.heap.size:=λq=>by
  rcases Q _ ((V _).2 (.inl q))with r|r
  ·exact Nat.lt_irrefl _ (HG.out _ r)
  have:=HWS.out;omega
 have Y:=hd1 nA;have a0:=HR.out.cell 0 _ rfl;clear PM R z V Q nA;by_cases q:200<=log.length
 ·have Z:=qe0 (decide_eq_true q) wr g.out.1
  have H:Hid (200<=a.log.length):=by show _<=_;omega
  clear q hll
  go_wp2_with fail
  refine Z.mono ?_;rintro e w2 ⟨rfl,s⟩;have B:=hd1 (i.out.later s)
  go_wp2_with fail
  go_end0;refine⟨rfl,a,i.out.go a (.full H.out),HFI.out _ _ ?_⟩;obtain⟨G2,p1,p2⟩:=B.out.mem;exact⟨G2,p1,p2,B.out.touch⟩
 have Z:=qe0 (decide_eq_false q) wr g.out.1
 have H:Hid (a.log.length<200):=by show _<_;omega
 clear q hll
 go_wp2_with fail
 refine Z.mono ?_;rintro e w2 ⟨rfl,s⟩;have B:=hd1 (i.out.later s);have HR2:=hd1 (HR.out.later s);have PM2:=hd1 (g.out.1.later s);have LS:=q03 w2 (HR2.out.cell 0 _ rfl) PM2.out g.out.2.2.1 i.out.inv;clear s a0
 go_wp2_with fail
 refine LS.mono ?_;rintro e j ⟨(⟨x,u,rfl⟩|⟨u,rfl⟩),C⟩
 ·have HX:=hd1 u;have I:=hd1 (B.out.later C);have D:=hd1 (HR2.out.later C);have o:=hd1 (PM2.out.later C);obtain⟨J,hxr⟩:=qj8 u;rw[<-g.out.2.2.1]at J;obtain⟨m,hm,rfl⟩:=jcz.1 J;have hmo:=i.out.inv.wt m.t (by rw[<-g.out.2.2.1];exact J);obtain⟨⟨s0,s3⟩,hsq,hw5⟩:=qcg hmo.1;have hd:=i.out.inv.dep m.t.site;have hq:=(qgo hxr).1
  have hw2:IntKind.i64.wrap (qp m.t.site a.a0 a.a1 a.a2 a.a3+1)=m.t.seq:=by rw[hq,<-qd1 hd];unfold wrap64 IntKind.wrap;simp[IntKind.signed,IntKind.bits];omega
  have p:NxB w.heap.size b bm m.t.site (qp m.t.site a.a0 a.a1 a.a2 a.a3) j.drew:=⟨D.out.cell 0 _ rfl,o.out.box.cell 8 _ rfl,o.out.box.cell _ _ (qmz s0 s3)⟩;have nbm:=o.out.nm
  have TK:Hid (Ca 279 #[.map (some bm),U m.t.site,U (IntKind.i64.wrap (qp m.t.site a.a0 a.a1 a.a2 a.a3+1))] j.drew λe w'=>e=.returned (txV m)/\NxA w.heap.size b bm w'/\Hid (qd5 w' bm (qgc waits m.t)/\j.grownBy w' (some bm))):=by
   rw[hw2];refine(q46 hm j.drew (o.out.map.kept rfl)).mono λe w' ⟨he,r,f⟩=>⟨he,?_,r,⟨f.os,f.tape,f.output,f.size,f.block⟩⟩;have hbb:=f.block b o.out.box.lt (λe=>nbm (by injection e with e;exact e.symm));have haa:=f.block w.heap.size D.out.lt (λe=>Y.out (.inr (.inr (.inl (by injection e)))));exact⟨by rw[jch (w:=j.drew) haa];exact p.c,by rw[jch (w:=j.drew) hbb];exact p.m⟩
  have AP:Hid (∀n,qd5 n bm (qgc waits m.t)->j.grownBy n (some bm)->Ca 244 #[PP b,txV m] n λe w'=>e=.returned (.tuple #[])/\Hid (GoM W b G S (qj5 a m.t) w')/\Hid (qd w' w.heap.size [PP b])/\NxA w.heap.size b bm w'):=λn r f=>by
   have K:=o.out.hold m (jcf.2 (.inr hm));have PM4:zf n b lv bm F {a with waits:=qdv a.waits m.t} log (qgc waits m.t):=(o.out.turn f r (λy hy=>.inl (qh2.1 hy).1)).waits _;have hm4:qr n m.wa m.wc m.t.ws/\∀k,m.blk k->¬jn b lv bm F k:=⟨K.1.kept (λk e=>f.block k (K.1.blk_lt k e) (λe2=>K.2 k e (.inr (.inr (.inl (by injection e2)))))),K.2⟩;have hlen:=i.out.inv.len
   have hl2:log.length=a.log.length:=by rw[<-g.out.2.1];simp
   have hF:=H.out
   refine(qr3 m n PM4 hm4 s0 s3 (by show a.l.length+_<=_;omega) (by omega)).mono λe w' ⟨he,lv',F',p1,p2,p3⟩=>by
        have hRR:=D.out.kept ((p3.block _ (jci D.out.lt f.size) Y.out).trans (f.block _ D.out.lt (λe=>Y.out (.inr (.inr (.inl (by injection e))))))) (jcn f.size p3.size);exact⟨he,qzf I.out g.out.2.1 g.out.2.2.1 g.out.2.2.2.1 g.out.2.2.2.2 hm hF HX.out f p1 p2 p3,hRR,hRR.cell 0 _ rfl,p1.box.cell 8 _ rfl⟩
  have h4:m.t.site<4:=by omega
  have Y0:=λ(w':World) (h:NxA w.heap.size b bm w')=>h.c;have Y1:=λ(w':World) (h:NxA w.heap.size b bm w')=>h.m;have NA:NxA w.heap.size b bm j.drew:=⟨p.c,p.m⟩;have c3:=p.d;clear u J hxr hmo hsq hw5 hd hq hw2 C s3
  go_wp2_with fail
  have c1:=p.c;have c2:=p.m;clear Y0 Y1
  go_region_law (first
   |(refine je rfl 279 #[.map (some bm),U m.t.site,U (IntKind.i64.wrap (qp m.t.site a.a0 a.a1 a.a2 a.a3+1))] (by go_simp) TK.out ?_
     rintro e n ⟨rfl,N4,T4⟩;refine⟨_,rfl,?_⟩
     have n1:=N4.c)
   |(refine je rfl 244 #[PP b,txV m] (by go_simp) (AP.out _ T4.out.1 T4.out.2) ?_
     rintro e w5 ⟨rfl,HM5,HR5,N5⟩
     refine⟨_,rfl,?_⟩))
  all_goals
   go_wp2_with fail
   go_roundw
   case rel=>exact⟨_,HM5,HR5⟩
   obtain⟨G5,p5,_⟩:=HM5.out.mem;rw[p5.left,LE.out];have:=H.out;simp[qj5,vr];omega
 have HX:=hd1 u;have I:=hd1 (B.out.later C);clear u
 go_wp2_with fail
 refine bodyPost_ret (v:=.tuple #[]) (by simp[results,Tryz.results256,go_sem]) rfl ⟨rfl,a,i.out.go a (.none HX.out),HFI.out _ _ ?_⟩;obtain⟨G2,p1,p2⟩:=I.out.mem;exact⟨G2,p1,p2,I.out.touch⟩
end Go.Proofs.YtoanjdndmlffdaaGreatDoor
