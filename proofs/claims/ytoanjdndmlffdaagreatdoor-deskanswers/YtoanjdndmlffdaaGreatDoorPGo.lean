import Derived.Test.YtoanjdndmlffdaaGreatDoorSiteB
set_option maxHeartbeats 8000000
set_option maxRecDepth 100000
namespace Go.Proofs.YtoanjdndmlffdaaGreatDoor
open Go.RowKit
def PS (w:World) (b:Nat) (G:Nat->Prop) (S:qaf):Prop:=
 ∃lv bm F log waits,qd0 w b lv bm F S log waits/\log.map (·.t)=S.log/\waits.map (·.t)=S.waits/\∀k,G k↔(qbb b lv bm F k\/∃m∈log++waits,m.blk k)
variable {w:World} {b:Nat} {G:Nat->Prop} {S:qaf}
theorem PS.lt (h:PS w b G S):∀k,G k->k<w.heap.size:=by
 obtain⟨lv,bm,F,log,waits,h,_,_,c⟩:=h;intro k d;rcases(c k).1 d with a|⟨m,e,a⟩
 ·exact h.lt k a
 ·exact(h.hold m e).1.blk_lt k a
variable {w':World}
theorem PS.kept (h:PS w b G S) (c:∀k,G k->w'.heap[k]?=w.heap[k]?) (hs:w.heap.size<=w'.heap.size):PS w' b G S:=by
 obtain⟨lv,bm,F,log,waits,h,d,f,a⟩:=h;exact⟨lv,bm,F,log,waits,h.kept (λk e=>c k ((a k).2 e)) hs,d,f,a⟩
theorem PS.later (h:PS w b G S) (hb:Below w.heap.size w w'):PS w' b G S:=h.kept (λk a=>hb.block k (h.lt k a)) hb.size
def PPo (w:World) (b:Nat) (G:Nat->Prop) (S':qaf) (w':World):Prop:=∃G',PS w' b G' S'/\(∀k,G' k->G k\/w.heap.size<=k)/\qae G w w'
variable {w1 w2:World}
theorem PPo.trans {a:Nat->Prop} {S':qaf} (c:∀k,a k->G k\/w.heap.size<=k) (d:qae G w w1) (h:PPo w1 b a S' w2):PPo w b G S' w2:=by
 obtain⟨f,g,i,j⟩:=h;refine⟨f,g,λk l=>?_,d.more j c⟩;rcases i k l with e|e
 ·exact c k e
 ·exact .inr (by have:=d.size;omega)
theorem PPo.same (h:PS w b G S) (hb:Below w.heap.size w w'):PPo w b G S w':=⟨G,h.later hb,λ_ a=>.inl a,qae.ofBelow hb⟩
variable {m:TxM}
theorem qye {log waits:List TxM} (a:waits.map (·.t)=S.waits)
 (c:log.map (·.t)=S.log):(log++[m]).map (·.t)=(qnp S m.t).log/\(qkg waits m.t).map (·.t)=(qnp S m.t).waits:=by
 constructor
 ·rw[List.map_append,c];rfl
 ·rw[qoh,a];rfl
structure GoM (w0:World) (b:Nat) (G:Nat->Prop) (S0 S:qaf) (wr:World):Prop where
 mem:∃G',PS wr b G' S/\(∀k,G' k->G k\/w0.heap.size<=k)
 touch:qae G w0 wr
 inv:qcx S
 wn:S.waits.length<=1000
 go:∀X,Goes S X->Goes S0 X
variable {S0:qaf} {wr:World}
theorem GoM.later {w0:World} (h:GoM w0 b G S0 S wr) (hb:Below wr.heap.size wr w'):GoM w0 b G S0 S w':=by
 obtain⟨a,c,d⟩:=h.mem;exact⟨⟨a,c.later hb,d⟩,h.touch.trans (qae.ofBelow hb),h.inv,h.wn,h.go⟩
variable {lv:Value} {bm:Nat} {F:Nat->Prop}
theorem q00 {g:Value} {F':Nat->Prop} {log waits:List TxM} {j:Nat->Prop} (c:GoM w b G S0 S wr) (r:log.map (·.t)=S.log) (l:waits.map (·.t)=S.waits)
 (h:∀k,j k↔(qbb b lv bm F k\/∃m∈log++waits,m.blk k)) (n:∀k,j k->G k\/w.heap.size<=k) (s:m∈waits) (u:S.log.length<200) (o:qht S=some m.t)
 (a:wr.grownBy w1 (some bm)) (ap:qd0 w2 b g bm F' (qcb {S with waits:=qh0 S.waits m.t} m.t) (log++[m]) (qkg waits m.t)) (z:∀k,qbb b g bm F' k->qbb b lv bm F k\/w1.heap.size<=k) (f:qae (qbb b lv bm F) w1 w2):GoM w b G S0 (qnp S m.t) w2:=by
 have A:qae j wr w2:=⟨f.os.trans a.os,f.tape.trans a.tape,f.output.trans a.output,Nat.le_trans a.size f.size,λk i v=>(f.block k (Nat.lt_of_lt_of_le i a.size) (λe=>v ((h k).2 (.inl e)))).trans (a.block k i (λe=>v ((h k).2 (.inl (.inr (.inr (.inl (by injection e))))))))⟩
 have y:m.t∈S.waits:=by rw[<-l];exact List.mem_map.2 ⟨m,s,rfl⟩
 refine⟨⟨λk=>qbb b g bm F' k\/∃x∈(log++[m])++qkg waits m.t,x.blk k,⟨g,bm,F',log++[m],qkg waits m.t,ap,(qye l r).1,(qye l r).2,λk=>Iff.rfl⟩,λk i=>?_⟩,c.touch.more A n,c.inv.gone y u,?_,λX B=>c.go X (.step u o B)⟩
 ·rcases i with p|⟨x,o,p⟩
  ·rcases z k p with d|d
   ·exact n k ((h k).2 (.inl d))
   ·exact .inr (by have:=c.touch.size;have:=a.size;omega)
  ·refine n k ((h k).2 (.inr ⟨x,?_,p⟩));rcases List.mem_append.1 o with d|d
   ·rcases List.mem_append.1 d with q|q
    ·exact List.mem_append.2 (.inl q)
    ·rw[List.mem_singleton.1 q];exact List.mem_append.2 (.inr s)
   ·exact List.mem_append.2 (.inr (qjo.1 d).1)
 ·have:=qg1 c.inv.nums y;have:=c.wn;show (qh0 S.waits m.t).length<=1000;omega
structure NxA (A b bm:Nat) (w:World):Prop where
 c:w.cell? ⟨A,0,none⟩=some (.pointer (some ⟨b,0,none⟩))
 m:w.cell? ⟨b,8,none⟩=some (.map (some bm))
def qk6 (w:World) (b:Nat):Nat:=match w.cell? ⟨b,7,none⟩with|some (.slice _ n _)=>200-n|_=>0
theorem PS.left (h:PS w b G S):qk6 w b=200-S.log.length:=by
 obtain⟨lv,bm,F,log,waits,h,a,_,_⟩:=h;obtain⟨c,lc,rfl,d⟩:=qbl h.rlog;unfold qk6;rw[h.box.cell 7 _ rfl,<-a];simp
theorem qd0.waits {log waits:List TxM} (h:qd0 w b lv bm F S log waits) (l:List TxP):qd0 w b lv bm F {S with waits:=l} log waits:=
 ⟨h.box,h.st,h.rlog,h.map,h.nl,h.nm,h.lm,h.lf,h.mf,h.hold⟩
theorem qkp (w:World) (h:PS w b G S) (hI:qcx S) (B:S.waits.length<=1000):
 Calls Tryz.prog 256 #[.pointer (some ⟨b,0,none⟩)] w λe w'=>e=.returned (.tuple #[])/\∃S',Goes S S'/\PPo w b G S' w':=by
 have hb:=boxed (Below.refl _ w) (.cells #[.pointer (some ⟨b,0,none⟩)] 163);have H:=qag.new (w:=w) (T:=163) [.pointer (some ⟨b,0,none⟩)] rfl;have HG:Hid _:=h.lt
 have L:(w.alloc (.cells #[.pointer (some ⟨b,0,none⟩)] 163)).heap.size=w.heap.size+1:=by simp
 have M:∀S' w',PPo (w.alloc (.cells #[.pointer (some ⟨b,0,none⟩)] 163)) b G S' w'->PPo w b G S' w':=λS' w' hp=>PPo.trans (λk N=>.inl N) (qae.ofBelow hb) hp;have O:=h.later hb;change qag (w.alloc (.cells #[.pointer (some ⟨b,0,none⟩)] 163)) w.heap.size [.pointer (some ⟨b,0,none⟩)]at H;clear h hb;go_enter Tryz.func256,Tryz.ntmps256
 go_wp2_with fail
 obtain⟨W,hWW⟩:∃W,w.alloc (.cells #[.pointer (some ⟨b,0,none⟩)] 163)=W:=⟨_,rfl⟩;rw[hWW]at O H L M ⊢;have HFI:Hid _:=M;have HWS:Hid _:=L;have M0:GoM W b G S S W:=⟨⟨G,O,λk N=>.inl N⟩,⟨rfl,rfl,rfl,Nat.le_refl _,λ_ _ _=>rfl⟩,hI,B,λX hX=>hX⟩;clear hWW hI B O M L
 go_loopw [3] (λ_ wr=>∃(a:qaf),Hid (GoM W b G S a wr)/\Hid (qag wr w.heap.size [.pointer (some ⟨b,0,none⟩)])) (λ_ wr=>qk6 wr b)
 case atStart=>exact⟨S,M0,H⟩
 case round=>
  clear M0 H;obtain⟨a,n,HR⟩:=hrel;obtain⟨G',PG,P⟩:=n.out.mem;have LE:Hid _:=PG.left;obtain⟨lv,bm,F,log,waits,PM,Q,B,R⟩:=PG;have i:Hid (qd0 wr b lv bm F a log waits/\log.map (·.t)=a.log/\waits.map (·.t)=a.waits/\(∀k,G' k↔(qbb b lv bm F k\/∃m∈log++waits,m.blk k))/\∀k,G' k->G k\/W.heap.size<=k):=⟨PM,Q,B,R,P⟩
  have hll:log.length=a.log.length:=by rw[<-Q];simp
  have nA:¬qbb b lv bm F w.heap.size:=λr=>by
   rcases P _ ((R _).2 (.inl r))with s|s
   ·exact Nat.lt_irrefl _ (HG.out _ s)
   ·have:=HWS.out;omega
  have U:Hid _:=nA;have a0:=HR.out.cell 0 _ rfl;clear PM Q B R P nA;by_cases r:200<=log.length
  ·have V:=qgd (decide_eq_true r) wr i.out.1
   have I:Hid (200<=a.log.length):=by show _<=_;omega
   clear r hll
   go_wp2_with fail
   refine V.mono ?_;rintro e w2 ⟨rfl,u⟩;have C:Hid _:=n.out.later u
   go_wp2_with fail
   go_end0;refine⟨rfl,a,n.out.go a (.full I.out),HFI.out _ _ ?_⟩;obtain⟨Y,p1,p2⟩:=C.out.mem;exact⟨Y,p1,p2,C.out.touch⟩
  ·have V:=qgd (decide_eq_false r) wr i.out.1
   have I:Hid (a.log.length<200):=by show _<_;omega
   clear r hll
   go_wp2_with fail
   refine V.mono ?_;rintro e w2 ⟨rfl,u⟩;have C:Hid _:=n.out.later u;have HR2:Hid _:=HR.out.later u;have PM2:Hid _:=i.out.1.later u;have LS:=q2t w2 (HR2.out.cell 0 _ rfl) PM2.out i.out.2.2.1 n.out.inv;clear u a0
   go_wp2_with fail
   refine LS.mono ?_;rintro e j ⟨(⟨x,z,rfl⟩|⟨z,rfl⟩),D⟩
   ·have Z:Hid _:=z;have J:Hid _:=C.out.later D;have E:Hid _:=HR2.out.later D;have p:Hid _:=PM2.out.later D;obtain⟨K,hxr⟩:=qmj z;rw[<-i.out.2.2.1]at K;obtain⟨m,hm,rfl⟩:=List.mem_map.1 K;have hmo:=n.out.inv.wt m.t (by rw[<-i.out.2.2.1];exact K);obtain⟨⟨s0,s3⟩,hsq,hw5⟩:=qei hmo.1;have hd:=n.out.inv.dep m.t.site;have hq:=(qh3 hxr).1
    have hw2:IntKind.i64.wrap (qaq m.t.site a.a0 a.a1 a.a2 a.a3+1)=m.t.seq:=by rw[hq,<-qfq hd];unfold wrap64 IntKind.wrap;simp[IntKind.signed,IntKind.bits];omega
    have q:NxB w.heap.size b bm m.t.site (qaq m.t.site a.a0 a.a1 a.a2 a.a3) j.drew:=⟨E.out.cell 0 _ rfl,p.out.box.cell 8 _ rfl,p.out.box.cell _ _ (qqr s0 s3)⟩;have nbm:bm≠b:=p.out.nm
    have TK:Hid (Calls Tryz.prog 279 #[.map (some bm),.int .i64 m.t.site,.int .i64 (IntKind.i64.wrap (qaq m.t.site a.a0 a.a1 a.a2 a.a3+1))] j.drew λe w'=>e=.returned (txV m)/\NxA w.heap.size b bm w'/\Hid (qlg w' bm (qkg waits m.t)/\j.grownBy w' (some bm))):=by
     rw[hw2];refine(q70 hm j.drew (p.out.map.kept rfl)).mono λe w' ⟨he,s,g⟩=>⟨he,?_,s,⟨g.os,g.tape,g.output,g.size,g.block⟩⟩;have hbb:w'.heap[b]?=j.drew.heap[b]?:=g.block b p.out.box.lt (λe=>nbm (by injection e with e;exact e.symm));have haa:w'.heap[w.heap.size]?=j.drew.heap[w.heap.size]?:=g.block w.heap.size E.out.lt (λe=>U.out (.inr (.inr (.inl (by injection e)))));exact⟨by rw[World.cell?_of_block (w:=j.drew) haa];exact q.c,by rw[World.cell?_of_block (w:=j.drew) hbb];exact q.m⟩
    have AP:Hid (∀o,qlg o bm (qkg waits m.t)->j.grownBy o (some bm)->Calls Tryz.prog 244 #[.pointer (some ⟨b,0,none⟩),txV m] o λe w'=>e=.returned (.tuple #[])/\Hid (GoM W b G S (qnp a m.t) w')/\Hid (qag w' w.heap.size [.pointer (some ⟨b,0,none⟩)])/\NxA w.heap.size b bm w'):=λo s g=>by
     have hold:=p.out.hold m (List.mem_append.2 (.inr hm));have PM4:qd0 o b lv bm F {a with waits:=qh0 a.waits m.t} log (qkg waits m.t):=(p.out.turn g s (λy hy=>.inl (qjo.1 hy).1)).waits _;have hm4:qaz o m.wa m.wc m.t.ws/\∀k,m.blk k->¬qbb b lv bm F k:=⟨hold.1.kept (λk e=>g.block k (hold.1.blk_lt k e) (λe2=>hold.2 k e (.inr (.inr (.inl (by injection e2)))))),hold.2⟩;have hlen:=n.out.inv.len
     have hl2:log.length=a.log.length:=by rw[<-i.out.2.1];simp
     have hF:=I.out
     refine(qtw m o PM4 hm4 s0 s3 (by show a.l.length+_<=_;omega) (by omega)).mono λe w' ⟨he,lv',F',p1,p2,p3⟩=>by
      have hRR:qag w' w.heap.size [.pointer (some ⟨b,0,none⟩)]:=E.out.kept ((p3.block _ (Nat.lt_of_lt_of_le E.out.lt g.size) U.out).trans (g.block _ E.out.lt (λe=>U.out (.inr (.inr (.inl (by injection e))))))) (Nat.le_trans g.size p3.size);exact⟨he,q00 J.out i.out.2.1 i.out.2.2.1 i.out.2.2.2.1 i.out.2.2.2.2 hm hF Z.out g p1 p2 p3,hRR,hRR.cell 0 _ rfl,p1.box.cell 8 _ rfl⟩
    have h4:m.t.site<4:=by omega
    have Y0:=λ(w':World) (h:NxA w.heap.size b bm w')=>h.c;have Y1:=λ(w':World) (h:NxA w.heap.size b bm w')=>h.m;have NA:NxA w.heap.size b bm j.drew:=⟨q.c,q.m⟩;have c3:=q.d;clear z K hxr hmo hsq hw5 hd hq hw2 D s3
    go_wp2_with fail
    have c1:=q.c;have c2:=q.m;clear Y0 Y1
    go_region_law (first
     |(refine qav rfl 279 #[.map (some bm),.int .i64 m.t.site,.int .i64 (IntKind.i64.wrap (qaq m.t.site a.a0 a.a1 a.a2 a.a3+1))] (by go_simp) TK.out ?_
       rintro e o ⟨rfl,N4,T4⟩;refine⟨_,rfl,?_⟩
       have n1:=N4.c)
     |(refine qav rfl 244 #[.pointer (some ⟨b,0,none⟩),txV m] (by go_simp) (AP.out _ T4.out.1 T4.out.2) ?_
       rintro e w5 ⟨rfl,HM5,HR5,N5⟩
       refine⟨_,rfl,?_⟩))
    all_goals
     go_wp2_with fail
     go_roundw
     case rel=>exact⟨_,HM5,HR5⟩
     case measure=>
      obtain⟨G5,p5,_⟩:=HM5.out.mem;rw[p5.left,LE.out];have:=I.out;simp[qnp,qcb];omega
   ·have Z:Hid _:=z;have J:Hid _:=C.out.later D;clear z
    go_wp2_with fail
    refine bodyPost_ret (v:=.tuple #[]) (by simp[results,Tryz.results256,go_sem]) rfl ⟨rfl,a,n.out.go a (.none Z.out),HFI.out _ _ ?_⟩;obtain⟨Y,p1,p2⟩:=J.out.mem;exact⟨Y,p1,p2,J.out.touch⟩
end Go.Proofs.YtoanjdndmlffdaaGreatDoor
