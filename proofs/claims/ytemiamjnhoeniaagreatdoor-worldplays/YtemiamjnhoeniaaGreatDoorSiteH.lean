import Derived.Test.YtemiamjnhoeniaaGreatDoorSiteG
set_option maxHeartbeats 16000000
set_option maxRecDepth 1000000
namespace Go.Proofs.YtemiamjnhoeniaaGreatDoor
open Go.RowKit
section
theorem qoh (x:GrR):∀u∈qc4 x,u.oneCell'=true:=by
 intro u a;rcases List.mem_cons.1 a with rfl|a
 ·rfl
 ·rcases List.mem_append.1 a with q|q
  ·exact qi4 _ u q
  ·simp at q
   rcases q with rfl|rfl|rfl|rfl|rfl<;>rfl
theorem qp2:(Tryz.prog.info? 122).map (λi=>(i.zero,i.size,i.bytes))=some (some (.agg #[.int .i64 0,.int .i64 0,.int .i64 0,.int .i64 0,.int .i64 0,.int .i64 0,.int .i64 0,.int .i64 0,.int .i64 0,.slice none 0 0,.int .i64 0,.int .i64 0,.int .i64 0,.int .i64 0,.int .i64 0]),15,136):=by kernel_rfl
section
variable {w w':World} {b:Nat} {G:Nat->Prop} {M:RoM} {W:WoS} {Gs:Nat->Nat->Prop}
theorem RWo.apY (h:RWo w b M W Gs):M.yv.ownBlock≠some b:=(List.pairwise_cons.1 h.ap).1 M.yv.ownBlock (by simp) b rfl
theorem RWo.mid (h:RWo w b M W Gs) {x:Option Nat} (a:x∈[M.sv.ownBlock,M.wv.ownBlock,M.cv.ownBlock,M.av.ownBlock]) {k:Nat} (e:x=some k):k<w.heap.size/\k≠b/\M.yv.ownBlock≠some k:=by
 have c:=(List.pairwise_cons.1 h.ap).1 x (List.mem_append_left [M.yv.ownBlock] a);have d:=(List.pairwise_append (l₁:=[M.sv.ownBlock,M.wv.ownBlock,M.cv.ownBlock,M.av.ownBlock]) (l₂:=[M.yv.ownBlock])).1 (List.pairwise_cons.1 h.ap).2;exact⟨h.ltF k (by show some k∈some b::([M.sv.ownBlock,M.wv.ownBlock,M.cv.ownBlock,M.av.ownBlock]++[M.yv.ownBlock]);rw[<-e];exact List.mem_cons_of_mem _ (List.mem_append_left _ a)),λq=>c b rfl (by rw[e,q]),d.2.2 x a _ (by simp) k e⟩
theorem RWo.reway (h:RWo w b M W Gs) {a:Value} {d:List GrR} {u:List GrS} {v:Int} (f:∀k,k<w.heap.size->k≠b->M.yv.ownBlock≠some k->w'.heap[k]?=w.heap[k]?) (z:w.heap.size<=w'.heap.size)
 (H:qag w' b [M.sv,M.wv,M.cv,M.av,a,.int .i64 v]) (A:w'.ownsRow 0 122 15 a d.length (qhb d)) (B:∀k,a.ownBlock=some k->M.yv.ownBlock=some k\/w.heap.size<=k) (I:d.map (·.g)=u) (m:∀x∈d,x∈M.l\/x.Ok w W.n M.F):
 RWo w' b {M with yv:=a,l:=d} {W with net:=u,lost:=v} Gs:=by
 have L:=h.box.lt;have C:∀j k,j<W.n+W.c->Gs j k->w'.heap[k]?=w.heap[k]?:=λj k p e=>f k (h.ltG p e) (λq=>(h.fam.free k (by rw[q];simp[qav,qd5])).2 j p e) (λq=>(h.fam.free k (by unfold qav qd5;rw[q];simp)).2 j p e);refine⟨H,qad h.sr (λk e=>?_),qad h.wr (λk e=>?_),qad h.cr (λk e=>?_),qad h.ar (λk e=>?_),A,I,λx J=>?_,?_,?_⟩
 ·have:=h.mid (by simp) e;exact f k this.1 this.2.1 this.2.2
 ·have:=h.mid (x:=M.wv.ownBlock) (by simp) e;exact f k this.1 this.2.1 this.2.2
 ·have:=h.mid (x:=M.cv.ownBlock) (by simp) e;exact f k this.1 this.2.1 this.2.2
 ·have:=h.mid (x:=M.av.ownBlock) (by simp) e;exact f k this.1 this.2.1 this.2.2
 ·have ok:x.Ok w W.n M.F:=(m x J).elim (h.gr x) id;exact ok.to (λi k o s e=>⟨e,(h.site s).frozen e,(C i k (by omega) ((h.site s).frozenG e)).trans ((h.site s).frozen e)⟩)
 ·refine h.fam.to (X':=qav b {M with yv:=a,l:=d}) C z (λk e=>?_);have e:some k∈[some b,M.sv.ownBlock,M.wv.ownBlock,M.cv.ownBlock,M.av.ownBlock]++[a.ownBlock]:=e;rcases List.mem_append.1 e with q|q
  ·have:qav b M k:=List.mem_append_left [M.yv.ownBlock] q;exact⟨.inl this,Nat.lt_of_lt_of_le (h.ltF k this) z⟩
  ·have q:=(List.mem_singleton.1 q).symm;refine⟨?_,(A.lt k q).2⟩;rcases B k q with r|r
   ·exact .inl (by unfold qav qd5;rw[r];simp)
   ·exact .inr r
 ·have D:=(List.pairwise_append (l₁:=[some b,M.sv.ownBlock,M.wv.ownBlock,M.cv.ownBlock,M.av.ownBlock]) (l₂:=[M.yv.ownBlock])).1 h.ap;refine(List.pairwise_append (l₁:=[some b,M.sv.ownBlock,M.wv.ownBlock,M.cv.ownBlock,M.av.ownBlock]) (l₂:=[a.ownBlock])).2 ⟨D.1,List.pairwise_singleton _ _,λx m y K k e E=>?_⟩;rw[List.mem_singleton.1 K]at E;rcases B k E with r|r
  ·exact D.2.2 x m _ (List.mem_singleton.2 rfl) k e r
  ·have:qav b M k:=by rw[e]at m;exact List.mem_append_left [M.yv.ownBlock] m
   have:=h.ltF k this;omega
theorem RWo.later (h:RWo w b M W Gs) (hb:Below w.heap.size w w'):RWo w' b M W Gs:=
 h.reway (λk a _ _=>hb.block k a) hb.size (h.box.later hb) (qad h.yr (λk e=>hb.block k (h.yr.lt k e).2)) (λ_ e=>.inl e) h.nl (λ_ c=>.inl c)
theorem RWo.lostBox (h:RWo w b M W Gs) (hb:Below w.heap.size w w') (x:Int):RWo (w'.setCell ⟨b,5,none⟩ (.int .i64 x)) b M {W with lost:=x} Gs:=by
 have c:∀k,k<w.heap.size->k≠b->(w'.setCell ⟨b,5,none⟩ (.int .i64 x)).heap[k]?=w.heap[k]?:=λk a d=>(Below.heap_setCell _ _ _ _ (λe=>d e)).trans (hb.block k a);exact h.reway (λk a f _=>c k a f) (by have:=hb.size;simpa[World.setCell]using this) ((h.box.later hb).set 5 _ (by simp)) (qad h.yr (λk e=>c k (h.yr.lt k e).2 (λq=>h.apY (by rw[e,q])))) (λ_ e=>.inl e) h.nl (λ_ g=>.inl g)
def qfb (w:World) (b:Nat) (M:RoM) (Gs:Nat->Nat->Prop) (W':WoS) (w':World):Prop:=
 ∃yv' l',RWo w' b {M with yv:=yv',l:=l'} W' Gs/\(∀k,yv'.ownBlock=some k->M.yv.ownBlock=some k\/w.heap.size<=k)/\qae (λk=>k=b\/M.yv.ownBlock=some k) w w'
theorem qfb.none (h:RWo w b M W Gs) (hb:Below w.heap.size w w'):qfb w b M Gs W w':=⟨M.yv,M.l,h.later hb,λ_ e=>.inl e,qae.ofBelow hb⟩
theorem qfb.post {d:WoS} (h:qfb w b M Gs d w') (f:∀k,G k↔qli b M (W.n+W.c) Gs k) (l:d.n=W.n) (m:d.c=W.c):qgi w b G d w':=by
 obtain⟨o,x,p,s,a⟩:=h
 have t:qav b M b:=by simp[qav,qd5]
 have j:∀k,M.yv.ownBlock=some k->qav b M k:=λk e=>by unfold qav qd5;rw[e];simp
 refine⟨_,⟨_,Gs,p,λ_=>Iff.rfl⟩,λk g=>?_,⟨a.os,a.tape,a.output,a.size,λk g u=>a.block k g (λe=>u ((f k).2 (.inl (e.elim (λq=>by rw[q];exact t) (j k)))))⟩⟩;rw[l,m]at g;rcases g with e|⟨i,v,e⟩
 ·have e:some k∈[some b,M.sv.ownBlock,M.wv.ownBlock,M.cv.ownBlock,M.av.ownBlock]++[o.ownBlock]:=e;rcases List.mem_append.1 e with q|q
  ·exact .inl ((f k).2 (.inl (List.mem_append_left [M.yv.ownBlock] q)))
  ·rcases s k (List.mem_singleton.1 q).symm with r|r
   ·exact .inl ((f k).2 (.inl (j k r)))
   ·exact .inr r
 ·exact .inl ((f k).2 (.inr ⟨i,v,e⟩))
end
end
section
open Go.Value Go.IntKind
theorem qln {b:Nat} {M:RoM} {W:WoS} {P:Nat->Nat->Prop} (w:World) (h:RWo w b M W P) (x:GrR) (Q:x.Ok w W.n M.F) {i j m o p s v z B C D E G H:Int} {a:Option Addr} {n c:Nat} (L:qc4 x=[int i64 i,int i64 j,int i64 m,int i64 o,int i64 p,int i64 s,int i64 v,int i64 z,int i64 B,.slice a n c,int i64 C,int i64 D,int i64 E,int i64 G,int i64 H]):
 Calls Tryz.prog 77 #[.pointer (some ⟨b,0,none⟩),.agg #[int i64 i,int i64 j,int i64 m,int i64 o,int i64 p,int i64 s,int i64 v,int i64 z,int i64 B,.slice a n c,int i64 C,int i64 D,int i64 E,int i64 G,int i64 H]] w λe w'=>e=.returned (.tuple #[])/\qfb w b M P (qcq W x.g) w':=by
 have J:Hid (RWo w b M W P/\x.Ok w W.n M.F/\qc4 x=[int i64 i,int i64 j,int i64 m,int i64 o,int i64 p,int i64 s,int i64 v,int i64 z,int i64 B,.slice a n c,int i64 C,int i64 D,int i64 E,int i64 G,int i64 H]):=⟨h,Q,L⟩
 have aa:M.l.length=W.net.length:=by rw[<-h.nl];simp
 obtain⟨na,nc,N,r⟩:=qan h.yr;have hlt:=h.box.lt;have R:=boxed (Below.refl _ w) (.cells #[int i64 i,int i64 j,int i64 m,int i64 o,int i64 p,int i64 s,int i64 v,int i64 z,int i64 B,.slice a n c,int i64 C,int i64 D,int i64 E,int i64 G,int i64 H] 122);have K:=h.box.later R;rw[N]at K;have c4:=K.cell 4 _ rfl;have c5:=K.cell 5 _ rfl;have f4:=K.free 4 (by simp);have f5:=K.free 5 (by simp);by_cases O:300<=W.net.length
 ·have q:300<=(M.l.length:Int):=by omega
  have S:Hid (qcq W x.g={W with lost:=wrap64 (W.lost+1)}):=if_pos O;clear h Q L r aa O;go_enter Tryz.func77,Tryz.ntmps77
  go_wp2_with fail
  go_end0;refine⟨rfl,?_⟩;rw[S.out];exact⟨M.yv,M.l,(J.out.1.lostBox (Below.refl _ w) (wrap64 (W.lost+1))).later (boxed (Below.refl _ _) _),λ_ e=>.inl e,(qae.setCell _ _ _ (.inl rfl)).trans (qae.ofBelow (boxed (Below.refl _ _) _))⟩
 ·have q:¬300<=(M.l.length:Int):=by omega
  have S:Hid (qcq W x.g={W with net:=W.net++[x.g]}):=if_neg O
  have HL:Hid (M.l.length<300):=by show _<_;omega
  obtain⟨i0,hi,hz0,hz1,hz2⟩:=info_parts qp2;have hb2:=(boxed R.drew (.cells #[int i64 i,int i64 j,int i64 m,int i64 o,int i64 p,int i64 s,int i64 v,int i64 z,int i64 B,.slice a n c,int i64 C,int i64 D,int i64 E,int i64 G,int i64 H] 122));have own1:=qad h.yr (λk e=>R.drew.block k (h.yr.lt k e).2);rw[N]at own1;have U:Hid _:=N;have HSB:Hid _:=h.apY
  have one:∀u∈([int i64 i,int i64 j,int i64 m,int i64 o,int i64 p,int i64 s,int i64 v,int i64 z,int i64 B,.slice a n c,int i64 C,int i64 D,int i64 E,int i64 G,int i64 H]:List Value),u.oneCell'=true:=by rw[<-L];exact qoh x
  have d:=qag.new (w:=w) (T:=122) [int i64 i,int i64 j,int i64 m,int i64 o,int i64 p,int i64 s,int i64 v,int i64 z,int i64 B,.slice a n c,int i64 C,int i64 D,int i64 E,int i64 G,int i64 H] rfl;change qag (w.alloc (.cells #[int i64 i,int i64 j,int i64 m,int i64 o,int i64 p,int i64 s,int i64 v,int i64 z,int i64 B,.slice a n c,int i64 C,int i64 D,int i64 E,int i64 G,int i64 H] 122)) w.heap.size [int i64 i,int i64 j,int i64 m,int i64 o,int i64 p,int i64 s,int i64 v,int i64 z,int i64 B,.slice a n c,int i64 C,int i64 D,int i64 E,int i64 G,int i64 H]at d;have g0:=d.cell 0 _ rfl;have k0:=d.free 0 (by simp);have g1:=d.cell 1 _ rfl;have k1:=d.free 1 (by simp);have g2:=d.cell 2 _ rfl;have k2:=d.free 2 (by simp);have g3:=d.cell 3 _ rfl;have k3:=d.free 3 (by simp);have g4:=d.cell 4 _ rfl;have k4:=d.free 4 (by simp);have g5:=d.cell 5 _ rfl;have k5:=d.free 5 (by simp);have g6:=d.cell 6 _ rfl;have k6:=d.free 6 (by simp);have g7:=d.cell 7 _ rfl;have k7:=d.free 7 (by simp);have g8:=d.cell 8 _ rfl;have k8:=d.free 8 (by simp);have I:=d.cell 9 _ rfl;have k9:=d.free 9 (by simp);have g10:=d.cell 10 _ rfl;have k10:=d.free 10 (by simp);have g11:=d.cell 11 _ rfl;have k11:=d.free 11 (by simp);have g12:=d.cell 12 _ rfl;have k12:=d.free 12 (by simp);have g13:=d.cell 13 _ rfl;have k13:=d.free 13 (by simp);have g14:=d.cell 14 _ rfl;have k14:=d.free 14 (by simp);clear h Q L r aa O N d;go_enter Tryz.func77,Tryz.ntmps77
  go_wp2_with fail
  go_region_law (refine step_append_lies _ rfl (.tmp 21) (.tmp 23) 42 rfl 0 122 i0 (.agg #[int i64 0,int i64 0,int i64 0,int i64 0,int i64 0,int i64 0,int i64 0,int i64 0,int i64 0,.slice none 0 0,int i64 0,int i64 0,int i64 0,int i64 0,int i64 0]) 15 136 Tryz.underlying42 hi hz0 hz1 hz2 rfl (by decide) (.slice na M.l.length nc) M.l.length (qhb M.l) (by simp[Act.eval]) (own1.alloc _) ⟨w.heap.size+1,0,none⟩ 1 1 [int i64 i,int i64 j,int i64 m,int i64 o,int i64 p,int i64 s,int i64 v,int i64 z,int i64 B,.slice a n c,int i64 C,int i64 D,int i64 E,int i64 G,int i64 H] (by simp[Act.eval]) rfl (qn4 _ _ (by simp) [int i64 i,int i64 j,int i64 m,int i64 o,int i64 p,int i64 s,int i64 v,int i64 z,int i64 B,.slice a n c,int i64 C,int i64 D,int i64 E,int i64 G,int i64 H] 122) one (by decide) (by have:=HL.out;simp only[maxLen];omega) (by have:=HL.out;omega) (by omega) _ rfl ?_
                 intro I V wE ownE grE egE ltE;have X:qag wE b _:=(K.later (boxed (Below.refl _ _) _).drew).grown grE (λe=>HSB.out (by rw[U.out];exact e.symm));have e4:=X.cell 4 _ rfl
                 have f4E:=X.free 4 (by simp))
  all_goals
   go_wp2_with fail
   go_end0;refine⟨rfl,?_⟩;rw[S.out];have Y:=((qae.ofBelow hb2).trans (qae.grown (F:=λk=>k=b\/M.yv.ownBlock=some k) grE (λk e=>.inr (by rw[U.out];exact e)))).trans (qae.setCell wE ⟨b,4,none⟩ (.slice (some ⟨I,0,none⟩) (M.l.length+1) V) (.inl rfl))
   have Z:∀k,(Value.slice (some ⟨I,0,none⟩) (M.l.length+1) V).ownBlock=some k->M.yv.ownBlock=some k\/w.heap.size<=k:=λk e=>by
        rw[U.out];have e':I=k:=Option.some.inj e;subst e';rcases egE with e|e
        ·exact .inl e
        ·exact .inr (by rw[e];simp;omega)
   have gb:I≠b:=λe=>by
        rcases Z I rfl with q|q
        ·exact HSB.out (by rw[q,e])
        ·have:=J.out.1.box.lt;omega
   refine⟨.slice (some ⟨I,0,none⟩) (M.l.length+1) V,M.l++[x],J.out.1.reway (λk hk h1 h2=>Y.block k hk (λq=>q.elim h1 h2)) Y.size ?_ ?_ Z (by rw[List.map_append,J.out.1.nl];rfl) (λy hy=>(List.mem_append.1 hy).imp id (λq=>by rw[List.mem_singleton.1 q];exact J.out.2.1)),Z,Y⟩
   ·exact X.set 4 _ (by simp)
   ·rw[qyj,List.length_append,J.out.2.2];exact qad ownE (λk e=>Below.heap_setCell _ _ _ _ (λq=>gb ((Option.some.inj e).trans q)))
end
section
variable {i:Nat} {G:Nat->Prop}
section
variable {w:World} {b:Nat} {M:RoM} {W:WoS} {Gs:Nat->Nat->Prop}
theorem RWo.sitesAt (h:RWo w b M W Gs) (k:i<W.n):∃g cap,w.cell? ⟨b,0,none⟩=some (.slice (some ⟨g,0,none⟩) W.n cap)/\W.n<=cap/\g<w.heap.size/\∀j,j<W.n->w.cell? ⟨g,j,none⟩=some (.pointer (some ⟨M.bp j,0,none⟩)):=by
 obtain⟨a,cap,c,r⟩:=qan h.sr;rcases r.held with l|⟨g,rfl,d,e⟩
 ·omega
 ·exact⟨g,cap,by have:=h.box.cell 0 _ rfl;rw[c]at this;exact this,r.len,d,λj f=>e j _ (qzs f)⟩
theorem RS.applied {F:Nat->Option Obj} {S:qaf} (h:RS w b G F S):w.cell? ⟨b,1,none⟩=some (.int .i64 S.a0)/\w.cell? ⟨b,2,none⟩=some (.int .i64 S.a1)/\w.cell? ⟨b,3,none⟩=some (.int .i64 S.a2)/\w.cell? ⟨b,4,none⟩=some (.int .i64 S.a3)/\b<w.heap.size:=by
 obtain⟨_,_,_,_,_,a,_⟩:=h;exact⟨a.box.cell 1 _ rfl,a.box.cell 2 _ rfl,a.box.cell 3 _ rfl,a.box.cell 4 _ rfl,a.box.lt⟩
end
variable {b:Nat} {W:WoS}
theorem q20 (w:World) (h:RW w b G W) {o:Nat} (a:i<W.n):
 Calls Tryz.prog 43 #[.pointer (some ⟨b,0,none⟩),.int .i64 i,.int .i64 o] w λe w'=>e=.returned (.tuple #[])/\qgi w b G (quu W i o) w':=by
 obtain⟨M,Gs,h,d⟩:=h;obtain⟨g,cap,c0,s,t,j⟩:=h.sitesAt a;have c1:=j i a;obtain⟨a0,a1,a2,a3,u⟩:=(h.site a).applied
 have v:(i:Int)<(W.n:Int):=by omega
 have x:=h.box.lt;have m:=qln w h ⟨⟨o,.ask i (W.S i).a0 (W.S i).a1 (W.S i).a2 (W.S i).a3⟩,none,0⟩ ⟨⟨Nat.le_refl _,Nat.zero_le _,.inl rfl⟩,λk p=>absurd rfl p.1,λ_ _ _ _ _ _=>⟨rfl,rfl⟩⟩ rfl;have q:Hid _:=d;clear h d j a;go_enter Tryz.func43,Tryz.ntmps43
 go_wp2_with fail
 refine m.mono ?_;rintro e y ⟨rfl,r⟩
 go_wp2_with fail
 go_end0;have l:=qbv W ⟨o,.ask i (W.S i).a0 (W.S i).a1 (W.S i).a2 (W.S i).a3⟩;exact⟨rfl,r.post (W:=W) q.out l.n l.c⟩
theorem q07 (w:World) (h:RW w b G W) {g:GrS} (k:W.net[i]?=some g):
 Calls Tryz.prog 49 #[.pointer (some ⟨b,0,none⟩),.int .i64 i] w λe w'=>e=.returned (.tuple #[])/\qgi w b G (qcq W g) w':=by
 obtain⟨M,Gs,h,m⟩:=h
 have v:M.l.length=W.net.length:=by rw[<-h.nl];simp
 have y:i<M.l.length:=by have:=(List.getElem?_eq_some_iff.1 k).1;omega
 obtain⟨x,d⟩:∃x,M.l[i]?=some x:=⟨_,List.getElem?_eq_getElem y⟩
 have z:x.g=g:=by
  have:=k;rw[<-h.nl,List.getElem?_map,d]at this;exact Option.some.inj this
 subst z;have o:x∈M.l:=List.mem_of_getElem? d;obtain⟨B,H,p,r⟩:=qan h.yr
 obtain⟨nb,rfl,I,q⟩:∃g,B=some ⟨g,0,none⟩/\g<w.heap.size/\∀j u,(qhb M.l)[j]?=some u->w.cell? ⟨g,j,none⟩=some u:=by
  rcases r.held with s|s
  ·omega
  ·exact s
 have C:=h.box.cell 4 _ rfl;rw[p]at C;have a:=λr u (hu:(qc4 x)[r]?=some u)=>q _ _ (qx2 d hu);have x0:w.cell? ⟨nb,i*15,none⟩=some (.int .i64 x.g.to):=a 0 _ rfl;have x1:=a 1 _ rfl;have x2:=a 2 _ rfl;have x3:=a 3 _ rfl;have J:=a 4 _ rfl;have K:=a 5 _ rfl;have L:=a 6 _ rfl;have N:=a 7 _ rfl;have O:=a 8 _ rfl;have P:=a 9 _ rfl;have Q:=a 10 _ rfl;have R:=a 11 _ rfl;have S:=a 12 _ rfl;have T:=a 13 _ rfl;have U:=a 14 _ rfl;have D:=qln w h x (h.gr x o) rfl;have E:Hid _:=m;have V:=h.box.lt
 have X:(i:Int)<(M.l.length:Int):=by omega
 have Y:=r.len;clear h m q a r p d o k v;go_enter Tryz.func49,Tryz.ntmps49
 go_wp2_with fail
 refine D.mono ?_;rintro e Z ⟨rfl,F⟩
 go_wp2_with fail
 go_end0;have t:=qbv W x.g;exact⟨rfl,F.post (W:=W) E.out t.n t.c⟩
end
section
open Go.Value Go.IntKind
theorem qev {site seq wall count d0 d1 d2 d3:Int} {a:Option Addr} {cap:Nat} {l:List Wr} {w:World} {v:Bool} (b:qat w a cap l) (h:qc7 site seq wall count d0 d1 d2 d3 l=v):
 Calls Tryz.prog 115 #[.agg #[int i64 site,int i64 seq,int i64 wall,int i64 count,int i64 d0,int i64 d1,int i64 d2,int i64 d3,.slice a l.length cap]] w λe w'=>e=.returned (.bool v)/\Below w.heap.size w w':=by
 subst h;exact qnm site seq wall count d0 d1 d2 d3 a cap l w b
theorem quz {b:Nat} {G:Nat->Prop} {F:Nat->Option Obj} {S:qaf} (m:TxM) (w:World) (h:RS w b G F S) (hI:qcr S) (hn:S.waits.length<=900) (hW:qat w m.wa m.wc m.t.ws) (hnz:qa2 S m.t≠0):
 Calls Tryz.prog 84 #[.pointer (some ⟨b,0,none⟩),txV m] w λe w'=>e=.returned (int i64 (qa2 S m.t))/\∃S',qbu S m.t S'/\RPo w b G F S' w':=by
 obtain⟨⟨site,seq,wall,count,d0,d1,d2,d3,ws⟩,a,cap⟩:=m;simp only at hW hnz ⊢;have HNZ:Hid (qa2 S ⟨site,seq,wall,count,d0,d1,d2,d3,ws⟩≠0):=hnz;clear hnz;have hb:=boxed (Below.refl _ w) (.cells #[int i64 site,int i64 seq,int i64 wall,int i64 count,int i64 d0,int i64 d1,int i64 d2,int i64 d3,.slice a ws.length cap] 80);have v:=qag.new (w:=w) (T:=80) [int i64 site,int i64 seq,int i64 wall,int i64 count,int i64 d0,int i64 d1,int i64 d2,int i64 d3,.slice a ws.length cap] rfl;change qag (w.alloc (.cells #[int i64 site,int i64 seq,int i64 wall,int i64 count,int i64 d0,int i64 d1,int i64 d2,int i64 d3,.slice a ws.length cap] 80)) w.heap.size [int i64 site,int i64 seq,int i64 wall,int i64 count,int i64 d0,int i64 d1,int i64 d2,int i64 d3,.slice a ws.length cap]at v;have hne:=Later.one;have P1:=h.later hb;have W1:=hW.later hb
 have NO:∀c ev,qa2 S ⟨site,seq,wall,count,d0,d1,d2,d3,ws⟩=ev->ev≠0->Below w.heap.size w c->Hid ((.returned (int i64 ev):Ending)=.returned (int i64 (qa2 S ⟨site,seq,wall,count,d0,d1,d2,d3,ws⟩))/\∃S',qbu S ⟨site,seq,wall,count,d0,d1,d2,d3,ws⟩ S'/\RPo w b G F S' c):=λc ev e1 e2 e3=>by
  show _/\_;rw[e1];exact⟨rfl,S,.inl ⟨by rw[e1];exact e2,rfl⟩,RPo.same h e3⟩
 clear h hW;show Calls Tryz.prog 84 #[.pointer (some ⟨b,0,none⟩),.agg #[int i64 site,int i64 seq,int i64 wall,int i64 count,int i64 d0,int i64 d1,int i64 d2,int i64 d3,.slice a ws.length cap]] w _;obtain⟨lv,wv,sv,log,waits,PM,hl,hw,hG,hF⟩:=id P1;obtain⟨P,lc,rfl,hLT⟩:=qa6 PM.rlog;obtain⟨M,Q,rfl,hVT⟩:=qa6 PM.rwait;have k0:=Later.cell (PM.box.cell 0 _ rfl);have U:=Later.cell (v.cell 0 _ rfl);have V:=Later.cell (v.cell 1 _ rfl);have t2:=Later.cell (v.cell 2 _ rfl);have t3:=Later.cell (v.cell 3 _ rfl);have t4:=Later.cell (v.cell 4 _ rfl);have t5:=Later.cell (v.cell 5 _ rfl);have t6:=Later.cell (v.cell 6 _ rfl);have t7:=Later.cell (v.cell 7 _ rfl);have t8:=Later.cell (v.cell 8 _ rfl);cases hok:okT ⟨site,seq,wall,count,d0,d1,d2,d3,ws⟩
 ·have HK:Hid (qc7 site seq wall count d0 d1 d2 d3 ws=false):=hok
  have E:qa2 S ⟨site,seq,wall,count,d0,d1,d2,d3,ws⟩=1:=by unfold qa2;rw[if_pos hok]
  have g:=λc d=>NO c 1 E (by decide) d;clear E NO hok PM hl hw hG P1 hI;go_enter Tryz.func84,Tryz.ntmps84
  go_wp2_with fail
  refine qaa (by kernel_rfl) (by kernel_rfl) ?_
  repeat (go_big_quiet_step (first|rfl|(go_at_call 115;with_reducible exact qab (qev (W1.later (Later.below _)) HK.out))))
  refine wpQuiet_nil ?_;rintro w2 ⟨⟨_,R⟩,rfl⟩
  go_wp2_with fail
  go_ret;exact(g _ (qac hb R)).out
 ·have HK:Hid (qc7 site seq wall count d0 d1 d2 d3 ws=true):=hok;obtain⟨⟨s0,s3⟩,⟨sq1,sq2⟩,sw⟩:=qdn hok;simp only at s0 s3 sq1 sq2 sw;have HOK:Hid (okT ⟨site,seq,wall,count,d0,d1,d2,d3,ws⟩=true):=hok;clear hok;by_cases W:site=S.id
  ·have E:qa2 S ⟨site,seq,wall,count,d0,d1,d2,d3,ws⟩=1:=by unfold qa2;rw[if_neg (by rw[HOK.out];decide),if_pos W]
   have g:=λc d=>NO c 1 E (by decide) d
   have i1:(site==S.id)=true:=by simp[W]
   have i2:decide (site=S.id)=true:=by simp[W]
   clear E NO PM hl hw hG P1 hI W;go_enter Tryz.func84,Tryz.ntmps84
   go_wp2_with fail
   refine qaa (by kernel_rfl) (by kernel_rfl) ?_
   repeat (go_big_quiet_step (first|rfl|(go_at_call 115;with_reducible exact qab (qev (W1.later (Later.below _)) HK.out))))
   refine wpQuiet_nil ?_;rintro w2 ⟨⟨_,R⟩,rfl⟩
   go_wp2_with fail
   go_ret;exact(g _ (qac hb R)).out
  ·have i1:(site==S.id)=false:=by simp[W]
   have i2:decide (site=S.id)=false:=by simp[W]
   have HID:Hid (¬site=S.id):=W;have HPM:Hid (qc6 (w.alloc (.cells #[int i64 site,int i64 seq,int i64 wall,int i64 count,int i64 d0,int i64 d1,int i64 d2,int i64 d3,.slice a ws.length cap] 80)) b (.slice P log.length lc) (.slice M waits.length Q) sv S log waits/\log.map (·.t)=S.log/\waits.map (·.t)=S.waits/\∀k,G k↔(qap b (.slice P log.length lc) (.slice M waits.length Q) sv k\/∃m∈log++waits,m.blk k)):=⟨PM,hl,hw,hG⟩;have HI:Hid (qcr S):=hI;have q:Hid (∀c ev,qa2 S ⟨site,seq,wall,count,d0,d1,d2,d3,ws⟩=ev->ev≠0->Below w.heap.size w c->Hid ((.returned (int i64 ev):Ending)=.returned (int i64 (qa2 S ⟨site,seq,wall,count,d0,d1,d2,d3,ws⟩))/\∃S',qbu S ⟨site,seq,wall,count,d0,d1,d2,d3,ws⟩ S'/\RPo w b G F S' c)):=NO;have HVT:Hid (qec (w.alloc (.cells #[int i64 site,int i64 seq,int i64 wall,int i64 count,int i64 d0,int i64 d1,int i64 d2,int i64 d3,.slice a ws.length cap] 80)) M Q waits/\qec (w.alloc (.cells #[int i64 site,int i64 seq,int i64 wall,int i64 count,int i64 d0,int i64 d1,int i64 d2,int i64 d3,.slice a ws.length cap] 80)) P lc log):=⟨hVT,hLT⟩;have hvl:=hVT.len;have hvc:=hVT.cap;have hll:=hLT.len;have hlc:=hLT.cap;clear NO PM hl hw hG P1 hI W hVT hLT;go_enter Tryz.func84,Tryz.ntmps84
   go_wp2_with fail
   refine qaa (by kernel_rfl) (by kernel_rfl) ?_
   repeat (go_big_quiet_step (first|rfl|(go_at_call 115;with_reducible exact qab (qev (W1.later (Later.below _)) HK.out))))
   refine wpQuiet_nil ?_;rintro w2 ⟨⟨_,R⟩,rfl⟩;clear U V t2 t3 t4 t5 t6 t7 t8 k0;have PM2:Hid (qc6 w2 b (.slice P log.length lc) (.slice M waits.length Q) sv S log waits):=HPM.out.1.later R;have RB2:=v.later R;have hbw:=qac hb R;have HB2:Hid (Below (w.alloc (.cells #[int i64 site,int i64 seq,int i64 wall,int i64 count,int i64 d0,int i64 d1,int i64 d2,int i64 d3,.slice a ws.length cap] 80)).heap.size (w.alloc (.cells #[int i64 site,int i64 seq,int i64 wall,int i64 count,int i64 d0,int i64 d1,int i64 d2,int i64 d3,.slice a ws.length cap] 80)) w2):=R;clear v hb R;have U:=Later.cell (RB2.cell 0 _ rfl);have V:=Later.cell (RB2.cell 1 _ rfl);have ks:=Later.cell (qkw PM2.out.box s0 s3)
   have s4:site<4:=by omega
   obtain⟨D,hD⟩:∃D,qao site S.a0 S.a1 S.a2 S.a3=D:=⟨_,rfl⟩;have HD:Hid (qao site S.a0 S.a1 S.a2 S.a3=D):=hD;rw[hD]at ks;clear hD;by_cases hle:seq<=D
   ·have E:qa2 S ⟨site,seq,wall,count,d0,d1,d2,d3,ws⟩=9:=by unfold qa2;rw[if_neg (by rw[HOK.out];decide),if_neg HID.out,if_pos (by rw[HD.out];exact hle)]
    have g:=λc d=>q.out c 9 E (by decide) d;clear E q HPM HI
    go_wp2_with fail
    refine qaa (by kernel_rfl) (by kernel_rfl) ?_
    repeat (go_big_quiet_step (first|rfl|fail))
    refine wpQuiet_nil ?_;rintro w3 ⟨⟨_,hb3⟩,rfl⟩
    go_wp2_with fail
    go_ret;exact(g _ (qac hbw hb3)).out
   ·have HLE:Hid (D<seq):=by show _<_;omega
    have q1:decide (seq<=D)=false:=decide_eq_false hle;clear hle
    go_wp2_with fail
    refine qaa (by kernel_rfl) (by kernel_rfl) ?_
    repeat (go_big_quiet_step (first|rfl|fail))
    refine wpQuiet_nil ?_;rintro w3 ⟨⟨_,hb3⟩,rfl⟩;have PM3:Hid (qc6 w3 b (.slice P log.length lc) (.slice M waits.length Q) sv S log waits):=PM2.out.later hb3;have RB3:Hid (qag w3 w.heap.size [int i64 site,int i64 seq,int i64 wall,int i64 count,int i64 d0,int i64 d1,int i64 d2,int i64 d3,.slice a ws.length cap]):=RB2.later hb3;have hbw3:=qac hbw hb3;have HB3:Hid (Below (w.alloc (.cells #[int i64 site,int i64 seq,int i64 wall,int i64 count,int i64 d0,int i64 d1,int i64 d2,int i64 d3,.slice a ws.length cap] 80)).heap.size (w.alloc (.cells #[int i64 site,int i64 seq,int i64 wall,int i64 count,int i64 d0,int i64 d1,int i64 d2,int i64 d3,.slice a ws.length cap] 80)) w3):=qac HB2.out hb3;clear RB2 hbw hb3 U V ks PM2 HB2;have s8:=PM3.out.box.cell 8 _ rfl
    go_wp2_with fail
    go_loopw [39] (λiv wr=>∃(k:Nat) (z:Int),k<=waits.length/\z=k/\iv=int i64 z/\Hid (∀j x,j<k->waits[j]?=some x->qb5 x.t ⟨site,seq,wall,count,d0,d1,d2,d3,ws⟩=false)/\Below w3.heap.size w3 wr) (λi _=>waits.length-(intOf i).toNat)
    case atStart=>exact⟨0,0,by omega,rfl,rfl,(λj x hj=>by omega),Below.refl _ _⟩
    case round=>
     obtain⟨k,z,hk,hz,rfl,HNM,N⟩:=hrel;have HZ:Hid (z=k):=hz;by_cases hlt:k<waits.length
     ·have g1:z<(waits.length:Int):=by omega
      have g2:z.toNat=k:=by omega
      have g3:0<=z:=by omega
      clear hz
      obtain⟨wb,off,hwa,hcc⟩:∃wb off,M=some ⟨wb,off,none⟩/\∀i m r u,waits[i]?=some m->(txC m)[r]?=some u->(w.alloc (.cells #[int i64 site,int i64 seq,int i64 wall,int i64 count,int i64 d0,int i64 d1,int i64 d2,int i64 d3,.slice a ws.length cap] 80)).cell? ⟨wb,off+(i*9+r),none⟩=some u:=by
          rcases HVT.out.1.held with e|e
          ·rw[e]at hlt;simp at hlt
          ·exact e
      obtain⟨⟨⟨xs,xq,xw,xc,y0,y1,y2,y3,yw⟩,ya,yc⟩,l⟩:∃m,waits[k]?=some m:=⟨waits[k],List.getElem?_eq_getElem hlt⟩;have HX:Hid (waits[k]?=some ⟨⟨xs,xq,xw,xc,y0,y1,y2,y3,yw⟩,ya,yc⟩):=l;have O:=λr u (hu:(txC ⟨⟨xs,xq,xw,xc,y0,y1,y2,y3,yw⟩,ya,yc⟩)[r]?=some u)=>(show wr.cell? ⟨wb,off+k*9+r,none⟩=some u by rw[Nat.add_assoc];exact cell_later (qac HB3.out N) (hcc k _ r u l hu));have x0:=O 0 _ rfl;have x1:=O 1 _ rfl;have x2:=O 2 _ rfl;have x3:=O 3 _ rfl;have x4:=O 4 _ rfl;have x5:=O 5 _ rfl;have x6:=O 6 _ rfl;have x7:=O 7 _ rfl;have x8:=O 8 _ rfl;rw[Nat.add_zero]at x0;have n:=RB3.out.later N;have U:=n.cell 0 _ rfl;have V:=n.cell 1 _ rfl;have lt0:=n.lt;rw[hwa];clear O hcc l n;by_cases X:xs=site
      ·by_cases s:xq=seq
       ·have e1:(xs==site)=true:=by simp[X]
        have e2:(xq==seq)=true:=by simp[s]
        have E:qa2 S ⟨site,seq,wall,count,d0,d1,d2,d3,ws⟩=9:=by
              unfold qa2;rw[if_neg (by rw[HOK.out];decide),if_neg HID.out,if_neg (by rw[HD.out];have:=HLE.out;simp only;omega),if_pos];rw[<-HPM.out.2.2.1];exact List.any_eq_true.2 ⟨_,List.mem_map.2 ⟨_,List.mem_of_getElem? HX.out,rfl⟩,qe6.2 ⟨X,s⟩⟩
        have g:=λc d=>q.out c 9 E (by decide) d;have d:=qac hbw3 N;clear E q HPM HI X s HX hwa
        go_wp2_with fail
        go_ret;exact(g _ (boxed d _)).out
       ·have e1:(xs==site)=true:=by simp[X]
        have e2:(xq==seq)=false:=by simp[s]
        have HNQ:Hid (qb5 ⟨xs,xq,xw,xc,y0,y1,y2,y3,yw⟩ ⟨site,seq,wall,count,d0,d1,d2,d3,ws⟩=false):=by show _=_;simp[qb5,s]
        clear X s hwa
        go_wp2_with fail
        go_roundw
        case rel=>exact⟨k+1,z+1,by omega,by have:=HZ.out;omega,by go_num,(λj x hj l=>by
              rcases Nat.lt_or_ge j k with h1|h1
              ·exact HNM.out j x h1 l
              ·have:j=k:=by omega
               subst this;rw[HX.out]at l;injection l with l;subst l
               exact HNQ.out),boxed N _⟩
        case measure=>simp[intOf];have:=HZ.out;omega
      ·have e1:(xs==site)=false:=by simp[X]
       have HNQ:Hid (qb5 ⟨xs,xq,xw,xc,y0,y1,y2,y3,yw⟩ ⟨site,seq,wall,count,d0,d1,d2,d3,ws⟩=false):=by show _=_;simp[qb5,X]
       clear X hwa
       go_wp2_with fail
       go_roundw
       case rel=>exact⟨k+1,z+1,by omega,by have:=HZ.out;omega,by go_num,(λj x hj l=>by
           rcases Nat.lt_or_ge j k with h1|h1
           ·exact HNM.out j x h1 l
           ·have:j=k:=by omega
            subst this;rw[HX.out]at l;injection l with l;subst l
            exact HNQ.out),boxed N _⟩
       case measure=>simp[intOf];have:=HZ.out;omega
     ·have g1:¬z<(waits.length:Int):=by omega
      have HNA:Hid (∀x∈waits,qb5 x.t ⟨site,seq,wall,count,d0,d1,d2,d3,ws⟩=false):=λx l=>by
          obtain⟨j,hj⟩:=List.getElem?_of_mem l;exact HNM.out j x (by have:=(List.getElem?_eq_some_iff.1 hj).1;omega) hj
      clear hz HNM;have C:Hid (qc6 wr b (.slice P log.length lc) (.slice M waits.length Q) sv S log waits):=PM3.out.later N;have n:Hid (qag wr w.heap.size [int i64 site,int i64 seq,int i64 wall,int i64 count,int i64 d0,int i64 d1,int i64 d2,int i64 d3,.slice a ws.length cap]):=RB3.out.later N;have hbwr:=qac hbw3 N;have HBr:Hid (Below (w.alloc (.cells #[int i64 site,int i64 seq,int i64 wall,int i64 count,int i64 d0,int i64 d1,int i64 d2,int i64 d3,.slice a ws.length cap] 80)).heap.size (w.alloc (.cells #[int i64 site,int i64 seq,int i64 wall,int i64 count,int i64 d0,int i64 d1,int i64 d2,int i64 d3,.slice a ws.length cap] 80)) wr):=qac HB3.out N;clear hbw3 N PM3 RB3 HB3 s8 hk;have U:=Later.cell (n.out.cell 0 _ rfl);have V:=Later.cell (n.out.cell 1 _ rfl);have t4:=Later.cell (n.out.cell 4 _ rfl);have t5:=Later.cell (n.out.cell 5 _ rfl);have t6:=Later.cell (n.out.cell 6 _ rfl);have t7:=Later.cell (n.out.cell 7 _ rfl);have ks:=Later.cell (qkw C.out.box s0 s3);have k1:=Later.cell (C.out.box.cell 1 _ rfl);have k2:=Later.cell (C.out.box.cell 2 _ rfl);have k3:=Later.cell (C.out.box.cell 3 _ rfl);have k4:=Later.cell (C.out.box.cell 4 _ rfl);rw[HD.out]at ks;have hdd:=HI.out.dep site;rw[HD.out]at hdd;have hwr:=qek hdd
      have hlw:waits.length=S.waits.length:=by rw[<-HPM.out.2.2.1];simp
      have hlg:log.length=S.log.length:=by rw[<-HPM.out.2.1];simp
      have HLN:Hid (waits.length=S.waits.length/\log.length=S.log.length/\S.waits.length<=900):=⟨hlw,hlg,hn⟩
      have HRE:Hid (qar S ⟨site,seq,wall,count,d0,d1,d2,d3,ws⟩=(decide (seq=D+1)&&qe3 S.a0 S.a1 S.a2 S.a3 d0 d1 d2 d3)):=by show qar S ⟨site,seq,wall,count,d0,d1,d2,d3,ws⟩=_;unfold qar;rw[HD.out]
      have HAN:Hid (S.waits.any (λx=>qb5 x ⟨site,seq,wall,count,d0,d1,d2,d3,ws⟩)=false):=by
          show _=_;rw[<-HPM.out.2.2.1,List.any_eq_false];intro x l;obtain⟨y,hy,rfl⟩:=List.mem_map.1 l;rw[HNA.out y hy]
          decide
      have B:Hid (qa2 S ⟨site,seq,wall,count,d0,d1,d2,d3,ws⟩=if 200<=log.length then 12 else if 40<=waits.length/\qar S ⟨site,seq,wall,count,d0,d1,d2,d3,ws⟩=false then 12 else 0):=by
          show qa2 S ⟨site,seq,wall,count,d0,d1,d2,d3,ws⟩=_;unfold qa2;rw[if_neg (by rw[HOK.out];decide),if_neg HID.out,if_neg (by rw[HD.out];have:=HLE.out;simp only;omega),if_neg (by rw[HAN.out];decide),HLN.out.1,HLN.out.2.1]
      clear hn hdd hlw hlg;by_cases s:seq=D+1
      ·have q2:(seq==D+1)=true:=by simp[s]
       have HQ:Hid (seq=D+1):=s;clear s;cases hc:qe3 S.a0 S.a1 S.a2 S.a3 d0 d1 d2 d3
       ·have HC:Hid (qe3 S.a0 S.a1 S.a2 S.a3 d0 d1 d2 d3=false):=hc
        have Y:Hid (qar S ⟨site,seq,wall,count,d0,d1,d2,d3,ws⟩=false):=by show _=_;rw[HRE.out,hc];simp
        clear hc
        go_wp2_with fail
        refine qaa (by kernel_rfl) (by kernel_rfl) ?_
        repeat (go_big_quiet_step (first|rfl|(go_at_call 70;with_reducible exact qab (qbc HC.out _))))
        refine wpQuiet_nil ?_;rintro H ⟨⟨_,o⟩,rfl⟩;clear HQ HC q2;have Z:Hid (qc6 H b (.slice P log.length lc) (.slice M waits.length Q) sv S log waits):=C.out.later o;have RB4:Hid (qag H w.heap.size [int i64 site,int i64 seq,int i64 wall,int i64 count,int i64 d0,int i64 d1,int i64 d2,int i64 d3,.slice a ws.length cap]):=n.out.later o;have aa:=qac hbwr o;have HB4:Hid (Below (w.alloc (.cells #[int i64 site,int i64 seq,int i64 wall,int i64 count,int i64 d0,int i64 d1,int i64 d2,int i64 d3,.slice a ws.length cap] 80)).heap.size (w.alloc (.cells #[int i64 site,int i64 seq,int i64 wall,int i64 count,int i64 d0,int i64 d1,int i64 d2,int i64 d3,.slice a ws.length cap] 80)) H):=qac HBr.out o;clear hbwr o C n HBr U V t4 t5 t6 t7 ks k1 k2 k3 k4;have s7:=Z.out.box.cell 7 _ rfl;have s8:=Z.out.box.cell 8 _ rfl;by_cases I:200<=log.length
        ·have E:qa2 S ⟨site,seq,wall,count,d0,d1,d2,d3,ws⟩=12:=by rw[B.out,if_pos I]
         have g:=λc d=>q.out c 12 E (by decide) d
         have h2:(200:Int)<=(log.length:Int):=by omega
         clear E q I
         go_wp2_with fail
         go_ret;exact(g _ aa).out
        ·have h2:¬(200:Int)<=(log.length:Int):=by omega
         have J:Hid (log.length<200):=by show _<_;omega
         clear I;by_cases p:40<=waits.length
         ·have g40:(40:Int)<=(waits.length:Int):=by omega
          first
              |(have K:Hid (qar S ⟨site,seq,wall,count,d0,d1,d2,d3,ws⟩=false):=Y
                have E:qa2 S ⟨site,seq,wall,count,d0,d1,d2,d3,ws⟩=12:=by rw[B.out,if_neg (by have:=J.out;omega),if_pos ⟨p,K.out⟩]
                have g:=λc d=>q.out c 12 E (by decide) d;clear E q p
                go_wp2_with fail
                go_ret
                exact(g _ aa).out)
              |(have K:Hid (qar S ⟨site,seq,wall,count,d0,d1,d2,d3,ws⟩=true):=Y
                have L:Hid (qa2 S ⟨site,seq,wall,count,d0,d1,d2,d3,ws⟩=0):=by show _=_;rw[B.out,if_neg (by have:=J.out;omega),if_neg (λe=>by rw[K.out]at e;cases e.2)]
                clear p
                exact absurd L.out HNZ.out)
         ·have g40:¬(40:Int)<=(waits.length:Int):=by omega
          have L:Hid (qa2 S ⟨site,seq,wall,count,d0,d1,d2,d3,ws⟩=0):=by show _=_;rw[B.out,if_neg (by have:=J.out;omega),if_neg (λe=>p e.1)]
          clear p;exact absurd L.out HNZ.out
       ·have HC:Hid (qe3 S.a0 S.a1 S.a2 S.a3 d0 d1 d2 d3=true):=hc
        have Y:Hid (qar S ⟨site,seq,wall,count,d0,d1,d2,d3,ws⟩=true):=by show _=_;rw[HRE.out,hc,HQ.out];simp
        clear hc
        go_wp2_with fail
        refine qaa (by kernel_rfl) (by kernel_rfl) ?_
        repeat (go_big_quiet_step (first|rfl|(go_at_call 70;with_reducible exact qab (qbc HC.out _))))
        refine wpQuiet_nil ?_;rintro H ⟨⟨_,o⟩,rfl⟩;clear HQ HC q2;have Z:Hid (qc6 H b (.slice P log.length lc) (.slice M waits.length Q) sv S log waits):=C.out.later o;have RB4:Hid (qag H w.heap.size [int i64 site,int i64 seq,int i64 wall,int i64 count,int i64 d0,int i64 d1,int i64 d2,int i64 d3,.slice a ws.length cap]):=n.out.later o;have aa:=qac hbwr o;have HB4:Hid (Below (w.alloc (.cells #[int i64 site,int i64 seq,int i64 wall,int i64 count,int i64 d0,int i64 d1,int i64 d2,int i64 d3,.slice a ws.length cap] 80)).heap.size (w.alloc (.cells #[int i64 site,int i64 seq,int i64 wall,int i64 count,int i64 d0,int i64 d1,int i64 d2,int i64 d3,.slice a ws.length cap] 80)) H):=qac HBr.out o;clear hbwr o C n HBr U V t4 t5 t6 t7 ks k1 k2 k3 k4;have s7:=Z.out.box.cell 7 _ rfl;have s8:=Z.out.box.cell 8 _ rfl;by_cases I:200<=log.length
        ·have E:qa2 S ⟨site,seq,wall,count,d0,d1,d2,d3,ws⟩=12:=by rw[B.out,if_pos I]
         have g:=λc d=>q.out c 12 E (by decide) d
         have h2:(200:Int)<=(log.length:Int):=by omega
         clear E q I
         go_wp2_with fail
         go_ret;exact(g _ aa).out
        ·have h2:¬(200:Int)<=(log.length:Int):=by omega
         have J:Hid (log.length<200):=by show _<_;omega
         clear I;by_cases p:40<=waits.length
         ·have g40:(40:Int)<=(waits.length:Int):=by omega
          first
              |(have K:Hid (qar S ⟨site,seq,wall,count,d0,d1,d2,d3,ws⟩=false):=Y
                have E:qa2 S ⟨site,seq,wall,count,d0,d1,d2,d3,ws⟩=12:=by rw[B.out,if_neg (by have:=J.out;omega),if_pos ⟨p,K.out⟩]
                have g:=λc d=>q.out c 12 E (by decide) d;clear E q p
                go_wp2_with fail
                go_ret
                exact(g _ aa).out)
              |(have K:Hid (qar S ⟨site,seq,wall,count,d0,d1,d2,d3,ws⟩=true):=Y
                have L:Hid (qa2 S ⟨site,seq,wall,count,d0,d1,d2,d3,ws⟩=0):=by show _=_;rw[B.out,if_neg (by have:=J.out;omega),if_neg (λe=>by rw[K.out]at e;cases e.2)]
                clear p
                exact absurd L.out HNZ.out)
         ·have g40:¬(40:Int)<=(waits.length:Int):=by omega
          have L:Hid (qa2 S ⟨site,seq,wall,count,d0,d1,d2,d3,ws⟩=0):=by show _=_;rw[B.out,if_neg (by have:=J.out;omega),if_neg (λe=>p e.1)]
          clear p;exact absurd L.out HNZ.out
      ·have q2:(seq==D+1)=false:=by simp[s]
       have Y:Hid (qar S ⟨site,seq,wall,count,d0,d1,d2,d3,ws⟩=false):=by show _=_;rw[HRE.out];simp[s]
       clear s
       go_wp2_with fail
       refine qaa (by kernel_rfl) (by kernel_rfl) ?_
       repeat (go_big_quiet_step (first|rfl|fail))
       refine wpQuiet_nil ?_;rintro H ⟨⟨_,o⟩,rfl⟩;clear q2;have Z:Hid (qc6 H b (.slice P log.length lc) (.slice M waits.length Q) sv S log waits):=C.out.later o;have RB4:Hid (qag H w.heap.size [int i64 site,int i64 seq,int i64 wall,int i64 count,int i64 d0,int i64 d1,int i64 d2,int i64 d3,.slice a ws.length cap]):=n.out.later o;have aa:=qac hbwr o;have HB4:Hid (Below (w.alloc (.cells #[int i64 site,int i64 seq,int i64 wall,int i64 count,int i64 d0,int i64 d1,int i64 d2,int i64 d3,.slice a ws.length cap] 80)).heap.size (w.alloc (.cells #[int i64 site,int i64 seq,int i64 wall,int i64 count,int i64 d0,int i64 d1,int i64 d2,int i64 d3,.slice a ws.length cap] 80)) H):=qac HBr.out o;clear hbwr o C n HBr U V t4 t5 t6 t7 ks k1 k2 k3 k4;have s7:=Z.out.box.cell 7 _ rfl;have s8:=Z.out.box.cell 8 _ rfl;by_cases I:200<=log.length
       ·have E:qa2 S ⟨site,seq,wall,count,d0,d1,d2,d3,ws⟩=12:=by rw[B.out,if_pos I]
        have g:=λc d=>q.out c 12 E (by decide) d
        have h2:(200:Int)<=(log.length:Int):=by omega
        clear E q I
        go_wp2_with fail
        go_ret;exact(g _ aa).out
       ·have h2:¬(200:Int)<=(log.length:Int):=by omega
        have J:Hid (log.length<200):=by show _<_;omega
        clear I;by_cases p:40<=waits.length
        ·have g40:(40:Int)<=(waits.length:Int):=by omega
         first
             |(have K:Hid (qar S ⟨site,seq,wall,count,d0,d1,d2,d3,ws⟩=false):=Y
               have E:qa2 S ⟨site,seq,wall,count,d0,d1,d2,d3,ws⟩=12:=by rw[B.out,if_neg (by have:=J.out;omega),if_pos ⟨p,K.out⟩]
               have g:=λc d=>q.out c 12 E (by decide) d;clear E q p
               go_wp2_with fail
               go_ret
               exact(g _ aa).out)
             |(have K:Hid (qar S ⟨site,seq,wall,count,d0,d1,d2,d3,ws⟩=true):=Y
               have L:Hid (qa2 S ⟨site,seq,wall,count,d0,d1,d2,d3,ws⟩=0):=by show _=_;rw[B.out,if_neg (by have:=J.out;omega),if_neg (λe=>by rw[K.out]at e;cases e.2)]
               clear p
               exact absurd L.out HNZ.out)
        ·have g40:¬(40:Int)<=(waits.length:Int):=by omega
         have L:Hid (qa2 S ⟨site,seq,wall,count,d0,d1,d2,d3,ws⟩=0):=by show _=_;rw[B.out,if_neg (by have:=J.out;omega),if_neg (λe=>p e.1)]
         clear p;exact absurd L.out HNZ.out
end
section
def qft (S:qaf) (waits:List TxM) (k:Nat) (z:Int):Prop:=
 (z= -1/\∀j x,j<k->waits[j]?=some x->qar S x.t=false)\/
 (∃(i:Nat) (x:TxM),z=i/\i<k/\waits[i]?=some x/\qar S x.t=true/\(∀j y,j<k->waits[j]?=some y->qar S y.t=true->x.t.site<=y.t.site)/\∀j y,j<i->waits[j]?=some y->qar S y.t=true->x.t.site<y.t.site)
theorem qv1 (S:qaf) (waits:List TxM):qft S waits 0 (-1):=.inl ⟨rfl,λj x h=>by omega⟩
variable {S:qaf} {k:Nat} {z:Int} {x:TxM}
theorem qzp {waits:List TxM} (h:qft S waits k z) (l:waits[k]?=some x) (m:qar S x.t=false):qft S waits (k+1) z:=by
 have e:∀j y,j<k+1->waits[j]?=some y->qar S y.t=true->j<k:=λj y c a b=>by
  rcases Nat.lt_or_ge j k with d|d
  ·exact d
  ·have:j=k:=by omega
   subst this;rw[l]at a;injection a with a;subst a;rw[m]at b;cases b
 rcases h with ⟨rfl,h⟩|⟨i,y,rfl,d,n,o,p,q⟩
 ·refine .inl ⟨rfl,λj y c a=>?_⟩;cases b:qar S y.t with
  |false=>rfl
  |true=>rw[<-b];exact h j y (e j y c a b) a
 ·exact .inr ⟨i,y,rfl,by omega,n,o,λj u c f g=>p j u (e j u c f g) f g,q⟩
theorem qwj {waits:List TxM} (h:qft S waits k (-1)) (c:waits[k]?=some x) (g:qar S x.t=true):qft S waits (k+1) k:=by
 rcases h with ⟨_,h⟩|⟨i,y,e,_⟩
 ·refine .inr ⟨k,x,rfl,by omega,c,g,λj y d a b=>?_,λj y d a b=>?_⟩
  ·rcases Nat.lt_or_ge j k with f|f
   ·rw[h j y f a]at b;cases b
   ·have:j=k:=by omega
    subst this;rw[c]at a;injection a with a;rw[a];exact Int.le_refl _
  ·rw[h j y d a]at b;cases b
 ·omega
theorem q3d {waits:List TxM} (h:qft S waits k z) (c:0<=z):∃(i:Nat) (x:TxM),z=i/\i<k/\waits[i]?=some x:=by
 rcases h with ⟨e,_⟩|⟨i,x,e,a,b,_⟩
 ·omega
 ·exact⟨i,x,e,a,b⟩
variable {i:Nat} {y:TxM}
theorem qy5 {waits:List TxM} (h:qft S waits k i) (m:waits[i]?=some y) (d:waits[k]?=some x) (n:qar S x.t=true) (p:x.t.site<y.t.site):qft S waits (k+1) k:=by
 rcases h with ⟨e,_⟩|⟨o,q,e,r,b,s,f,v⟩
 ·omega
 ·have:o=i:=by omega
  subst this;rw[m]at b;injection b with b;subst b;refine .inr ⟨k,x,rfl,by omega,d,n,λj u g a c=>?_,λj u g a c=>?_⟩
  ·rcases Nat.lt_or_ge j k with l|l
   ·have:=f j u l a c;omega
   ·have:j=k:=by omega
    subst this;rw[d]at a;injection a with a;rw[a];exact Int.le_refl _
  ·have:=f j u g a c;omega
theorem qy9 {waits:List TxM} (h:qft S waits k i) (c:waits[i]?=some y) (g:waits[k]?=some x) (p:¬x.t.site<y.t.site):qft S waits (k+1) i:=by
 rcases h with ⟨e,_⟩|⟨d,q,e,r,b,l,m,n⟩
 ·omega
 ·have:d=i:=by omega
  subst this;rw[c]at b;injection b with b;subst b;refine .inr ⟨d,y,rfl,by omega,c,l,λj u s a o=>?_,n⟩;rcases Nat.lt_or_ge j k with f|f
  ·exact m j u f a o
  ·have:j=k:=by omega
   subst this;rw[g]at a;injection a with a;rw[<-a];omega
theorem qoc {α:Type} {p:α->Bool}:∀{l:List α} {i:Nat} {x:α},l[i]?=some x->p x=true->(∀j y,j<i->l[j]?=some y->p y=false)->l.find? p=some x
 |[],_,_,h,_,_=>by simp at h
 |a::l,0,x,h,hp,_=>by
  simp at h;subst h;simp[hp]
 |a::l,i+1,x,h,hp,hn=>by
  have b:=hn 0 a (by omega) rfl;rw[List.find?_cons,b];exact qoc (l:=l) (i:=i) (by simpa using h) hp (λj y d c=>hn (j+1) y (by omega) (by simpa using c))
theorem q1e {waits:List TxM} (h:qft S waits waits.length z) (g:waits.map (·.t)=S.waits) (r:∀x∈S.waits,0<=x.site/\x.site<=3):
 (z= -1/\qgw S=none)\/∃(i:Nat) (x:TxM),z=i/\waits[i]?=some x/\qgw S=some x.t:=by
 rcases h with ⟨rfl,h⟩|⟨i,x,rfl,B,n,u,v,w⟩
 ·have no:∀s,qd4 S s=none:=λs=>qi3 (λt c _=>by
   rw[<-g]at c;obtain⟨m,d,rfl⟩:=List.mem_map.1 c;obtain⟨j,a⟩:=List.getElem?_of_mem d
   exact h j m (List.getElem?_eq_some_iff.1 a).1 a)
  exact .inl ⟨rfl,by simp[qgw,no]⟩
 ·refine .inr ⟨i,x,rfl,n,?_⟩
  have o:S.waits[i]?=some x.t:=by rw[<-g,List.getElem?_map,n];rfl
  have p:∀j t,S.waits[j]?=some t->∃m,waits[j]?=some m/\m.t=t/\j<waits.length:=λj t a=>by
   rw[<-g,List.getElem?_map]at a;cases d:waits[j]?with
   |none=>rw[d]at a;cases a
   |some m=>
    rw[d]at a;injection a with a;exact⟨m,rfl,a,(List.getElem?_eq_some_iff.1 d).1⟩
  have f:qd4 S x.t.site=some x.t:=by
   refine qoc o (by simp[u]) (λj t a c=>?_);obtain⟨m,l,rfl,q⟩:=p j t c;cases hr:qar S m.t with
   |false=>simp
   |true=>
    have:=w j m a l hr;simp;omega
  have b:∀s,s<x.t.site->qd4 S s=none:=λs C=>qi3 (λt c D=>by
   obtain⟨j,a⟩:=List.getElem?_of_mem c;obtain⟨m,l,rfl,q⟩:=p j t a;cases hr:qar S m.t with
   |false=>rfl
   |true=>
    have:=v j m q l hr
    omega)
  obtain⟨E,F⟩:=r x.t (List.mem_of_getElem? o)
  have A:x.t.site=0\/x.t.site=1\/x.t.site=2\/x.t.site=3:=by omega
  unfold qgw
  rcases A with e|e|e|e<;>rw[e]at f b
  ·rw[f]
  ·rw[b 0 (by omega),f]
  ·rw[b 0 (by omega),b 1 (by omega),f]
  ·rw[b 0 (by omega),b 1 (by omega),b 2 (by omega),f]
end
section
structure qwq (w0:World) (b:Nat) (G:Nat->Prop) (F:Nat->Option Obj) (S0 S:qaf) (wr:World):Prop where
 mem:∃G',RS wr b G' F S/\(∀k,G' k->G k\/w0.heap.size<=k)
 touch:qae G w0 wr
 inv:qcr S
 wn:S.waits.length<=1000
 go:∀X,Goes S X->Goes S0 X
variable {w0 wr:World} {b:Nat} {G:Nat->Prop} {F:Nat->Option Obj} {S0 S:qaf}
theorem qwq.later {w':World} (h:qwq w0 b G F S0 S wr) (hb:Below wr.heap.size wr w'):qwq w0 b G F S0 S w':=by
 obtain⟨G',a,c⟩:=h.mem;exact⟨⟨G',a.later hb,c⟩,h.touch.trans (qae.ofBelow hb),h.inv,h.wn,h.go⟩
variable {w:World}
theorem RS.left (h:RS w b G F S):qkt w b=200-S.log.length:=by
 obtain⟨lv,wv,sv,log,waits,h,a,_,_⟩:=h;obtain⟨c,lc,rfl,d⟩:=qa6 h.rlog;unfold qkt;rw[h.box.cell 7 _ rfl,<-a];simp
theorem qwq.done (h:qwq w0 b G F S0 S wr):RPo w0 b G F S wr:=by
 obtain⟨G',a,c⟩:=h.mem;exact⟨G',a,c,h.touch⟩
variable {lv wv sv:Value}
theorem qc6.reset {f:World} {log waits d:List TxM} (h:qc6 w b lv wv sv S log waits) (hb:Below w.heap.size w f) {g n c:Nat} (v:w.heap.size<=g)
 (own:f.ownsRow 0 80 9 (.slice (some ⟨g,0,none⟩) n c) n (qef d)) (j:d.length=n) (r:∀m∈d,m∈waits\/(qat w m.wa m.wc m.t.ws/\∀k,m.blk k->¬qap b lv wv sv k)) (W:List TxP):
 qc6 (f.setCell ⟨b,8,none⟩ (.slice (some ⟨g,0,none⟩) n c)) b lv (.slice (some ⟨g,0,none⟩) n c) sv {S with waits:=W} log d/\qae (qap b lv wv sv) w (f.setCell ⟨b,8,none⟩ (.slice (some ⟨g,0,none⟩) n c))/\
  ∀k,qap b lv (.slice (some ⟨g,0,none⟩) n c) sv k->qap b lv wv sv k\/w.heap.size<=k:=by
 subst j;have y:=h.box.lt
 have z:g≠b:=by omega
 have o:∀k,k<w.heap.size->k≠b->(f.setCell ⟨b,8,none⟩ (.slice (some ⟨g,0,none⟩) d.length c)).heap[k]?=w.heap[k]?:=λk l j=>(Below.heap_setCell _ _ _ _ j).trans (hb.block k l);have s:qag (f.setCell ⟨b,8,none⟩ (.slice (some ⟨g,0,none⟩) d.length c)) b (qcf {S with waits:=W} lv (.slice (some ⟨g,0,none⟩) d.length c) sv):=(h.box.later hb).set 8 _ (by simp[qcf]);have u:(f.setCell ⟨b,8,none⟩ (.slice (some ⟨g,0,none⟩) d.length c)).ownsRow 0 80 9 (.slice (some ⟨g,0,none⟩) d.length c) d.length (qef d):=qad own (λk e=>Below.heap_setCell _ _ _ _ (by simp[Value.ownBlock]at e;simp only;omega));refine⟨h.rewait (λk l j _=>o k ?_ j) s rfl u (λk e=>by simp[Value.ownBlock]at e;omega) (λm p=>?_),⟨?_,?_,?_,?_,λk l j=>o k l (λe=>j (.inl e))⟩,λk l=>?_⟩
 ·rcases l with a|⟨m,p,a⟩
  ·exact h.lt k a
  ·exact(h.hold m p).1.blk_lt k a
 ·rcases r m p with a|⟨a,q⟩
  ·exact .inl a
  ·refine .inr ⟨a.kept (λk e=>o k (a.blk_lt k e) (λx=>q k e (.inl x))),λk e=>⟨q k e,λx=>?_⟩⟩;have:=a.blk_lt k e;simp[Value.ownBlock]at x;omega
 ·exact hb.os
 ·exact hb.tape
 ·exact hb.output
 ·have:=hb.size;simpa[World.setCell]using this
 ·rcases l with a|a|a|a
  ·exact .inl (.inl a)
  ·exact .inl (.inr (.inl a))
  ·simp[Value.ownBlock]at a;exact .inr (by omega)
  ·exact .inl (.inr (.inr (.inr a)))
variable {w6:World} {G':Nat->Prop} {i:Nat} {m:TxM}
theorem qsb {j:World} {c l n:Value} {log waits:List TxM} (d:qwq w0 b G F S0 S wr) (C:qc6 wr b lv wv sv S log waits) (D:qfr wr F log) (E:log.map (·.t)=S.log) (p:waits.map (·.t)=S.waits)
 (q:∀k,G' k↔(qap b lv wv sv k\/∃m∈log++waits,m.blk k)) (r:∀k,G' k->G k\/w0.heap.size<=k) (u:waits[i]?=some m) (v:S.log.length<200) (f:qgw S=some m.t)
 (y:qae (qap b lv wv sv) wr w6) (z:∀k,qap b lv c sv k->qap b lv wv sv k\/wr.heap.size<=k)
 (ap:qc6 j b l c n (qbr {S with waits:=qgc S.waits m.t} m.t) (log++[m]) (waits.take i++waits.drop (i+1))) (H:∀k,qap b l c n k->qap b lv c sv k\/w6.heap.size<=k) (I:qae (qap b lv c sv) w6 j):
 qwq w0 b G F S0 (ql5 S m.t) j:=by
 have A:m∈waits:=List.mem_of_getElem? u
 have B:m.t∈S.waits:=by rw[<-p];exact List.mem_map.2 ⟨m,A,rfl⟩
 have J:S.waits[i]?=some m.t:=by rw[<-p,List.getElem?_map,u];rfl
 have K:∀x∈waits.take i++waits.drop (i+1),x∈waits:=λx f=>by
  rcases List.mem_append.1 f with a|a
  ·exact List.mem_of_mem_take a
  ·exact List.mem_of_mem_drop a
 have L:∀k,qap b l c n k->qap b lv wv sv k\/wr.heap.size<=k:=λk o=>by
  rcases H k o with a|a
  ·exact z k a
  ·exact .inr (by have:=y.size;omega)
 have g:qae (qap b lv wv sv) wr j:=y.more I z;have M:qae G' wr j:=⟨g.os,g.tape,g.output,g.size,λk o N=>g.block k o (λe=>N ((q k).2 (.inl e)))⟩;refine⟨⟨λk=>qap b l c n k\/∃x∈(log++[m])++(waits.take i++waits.drop (i+1)),x.blk k,⟨l,c,n,log++[m],waits.take i++waits.drop (i+1),ap,by rw[List.map_append,E];rfl,?_,λk=>Iff.rfl,D.touch C g (λx f=>List.mem_append.2 (.inl f))⟩,λk o=>?_⟩,d.touch.more M r,d.inv.gone B v,?_,λX O=>d.go X (.step v f O)⟩
 ·show _=qgc S.waits m.t;rw[qpj d.inv.nums J,List.map_append,List.map_take,List.map_drop,p]
 ·rcases o with a|⟨x,f,a⟩
  ·rcases L k a with h|h
   ·exact r k ((q k).2 (.inl h))
   ·exact .inr (by have:=d.touch.size;omega)
  ·refine r k ((q k).2 (.inr ⟨x,?_,a⟩));rcases List.mem_append.1 f with h|h
   ·rcases List.mem_append.1 h with s|s
    ·exact List.mem_append.2 (.inl s)
    ·rw[List.mem_singleton.1 s];exact List.mem_append.2 (.inr A)
   ·exact List.mem_append.2 (.inr (K x h))
 ·have:=qfv d.inv.nums B;have:=d.wn;show (qgc S.waits m.t).length<=1000;omega
theorem qqn {a:Value} {log waits:List TxM} (c:qwq w0 b G F S0 S wr) (d:qc6 wr b lv wv sv S log waits) (r:qfr wr F log) (g:log.map (·.t)=S.log) (h:waits.map (·.t)=S.waits)
 (s:∀k,G' k↔(qap b lv wv sv k\/∃m∈log++waits,m.blk k)) (u:∀k,G' k->G k\/w0.heap.size<=k) (j:waits[i]?=some m) (v:S.log.length<200) (x:qgw S=some m.t)
 (n:qae (qap b lv wv sv) wr w6) (o:∀k,qap b lv a sv k->qap b lv wv sv k\/wr.heap.size<=k) (y:qc6 w6 b lv a sv {S with waits:=qgc S.waits m.t} log (waits.take i++waits.drop (i+1))):
 Calls Tryz.prog 116 #[.pointer (some ⟨b,0,none⟩),.agg #[.int .i64 m.t.site,.int .i64 m.t.seq,.int .i64 m.t.wall,.int .i64 m.t.count,.int .i64 m.t.d0,.int .i64 m.t.d1,.int .i64 m.t.d2,.int .i64 m.t.d3,.slice m.wa m.t.ws.length m.wc]] w6 λe w'=>
  e=.returned (.tuple #[])/\qwq w0 b G F S0 (ql5 S m.t) w'/\qae (qap b lv a sv) w6 w':=by
 have p:m∈waits:=List.mem_of_getElem? j;have hold:=d.hold m (List.mem_append.2 (.inr p))
 have z:m.t∈S.waits:=by rw[<-h];exact List.mem_map.2 ⟨m,p,rfl⟩
 obtain⟨⟨s0,s3⟩,D,E⟩:=qdn (c.inv.wt m.t z).1;have H:=c.inv.len
 have I:log.length=S.log.length:=by rw[<-g];simp
 refine(qi0 m w6 y ⟨hold.1.kept (λk e=>n.block k (hold.1.blk_lt k e) (hold.2 k e)),λk e B=>?_⟩ s0 s3 (by show S.l.length+_<=_;omega) (by omega)).mono λe w' ⟨C,J,K,p1,p2,p3⟩=>⟨C,qsb c d r g h s u j v x n o p1 p2 p3,p3⟩;rcases o k B with q|q
 ·exact hold.2 k e q
 ·have:=hold.1.blk_lt k e;omega
end
section
open Go.Value Go.IntKind
noncomputable def q5r:Code:=((Tryz.f84.body.bind (qeh 19)).getD .skip)
theorem qut {b:Nat} {S:qaf} {lv sv:Value} {F:Option Addr} {J:Nat} {log waits:List TxM} {y1 y2 y3 y4 y5 y6 y7 y9 y10 y11 y12 y13 y14 y15 y16 y17 y18 y19 y20 y21 y22 y23 y24 y25 y26 y27 y28 y29 y30 y31 y32 y33 y34 y35 y36 y37 y38 y39 y40 y41 y42 y43 y44 y45 y46 y47 y48 y49 y50 y51 y52 y53 y54 y55 y56 y57 y58 y59 y60 y61 y62 y63 y64 y65 y66 y67 y68 y69 y70 y71 y72 y73 y74 y75 y76 y77 y78 y79 y80 y81 y82 y83 y84 y85 y86 y87 y88 y89 y90 y91 y92 y93 y94 y95 y96 y97 y98 y99 y100 y101 y102 y103 y104 y105 y106 y107 y108 y109 y110 y111 y112 y113 y114 y115 y116 y117 y118 y119 y123 y124 y125 y126 y127 y128 y129 y130 y131 y132 y133 y134 y135 y136 y137 y138 y139 y140 y141 y142 y143 y144 y145 y146 y147 y148 y149 y150 y151 y152 y153 y154 y155 y156 y157 y158 y159 y160 y161 y162 y163 y164 y165 y166 y167 y168 y169 y170 y171 y172 y173 y174 y175 y176 y177 y178 y179 y180 y181 y182 y183 y184 y185 y186 y187 y188 y189 y190 y191 y192 y193 y194 y195 y196:Value} (w:World) (U:qc6 w b lv (.slice F waits.length J) sv S log waits) (hw:waits.map (·.t)=S.waits) (hI:qcr S) (hn:waits.length<=1000) (R:Act->World->Prop)
 (hR:∀(u9 u10 u122 u123 u124 u125 u126 u127 u128 u129 u130 u131 u132 u133 u134 u135 u136 u137 u138 u139 u140 u141 u142 u143 u144 u145 u146 u147 u148 u149 u150 u151 u152 u153 u154 u155 u156 u157 u158 u159 u160 u161 u162 u163 u164 u165:Value) (z:Int) (w':World),qft S waits waits.length z->Below w.heap.size w w'->R ⟨List.toArray ((.pointer (some ⟨b,0,none⟩))::y1::y2::y3::y4::y5::y6::y7::(int i64 z)::u9::u10::y11::y12::y13::y14::y15::y16::y17::y18::y19::y20::y21::y22::y23::y24::y25::y26::y27::y28::y29::y30::y31::y32::y33::y34::y35::y36::y37::y38::y39::y40::y41::y42::y43::y44::y45::y46::y47::y48::y49::y50::y51::y52::y53::y54::y55::y56::y57::y58::y59::y60::y61::y62::y63::y64::y65::y66::y67::y68::y69::y70::y71::y72::y73::y74::y75::y76::y77::y78::y79::y80::y81::y82::y83::y84::y85::y86::y87::y88::y89::y90::y91::y92::y93::y94::y95::y96::y97::y98::y99::y100::y101::y102::y103::y104::y105::y106::y107::y108::y109::y110::y111::y112::y113::y114::y115::y116::y117::y118::y119::(.slice F waits.length J)::(int i64 waits.length)::u122::u123::u124::u125::u126::u127::u128::u129::u130::u131::u132::u133::u134::u135::u136::u137::u138::u139::u140::u141::u142::u143::u144::u145::u146::u147::u148::u149::u150::u151::u152::u153::u154::u155::u156::u157::u158::u159::u160::u161::u162::u163::u164::u165::y166::y167::y168::y169::y170::y171::y172::y173::y174::y175::y176::y177::y178::y179::y180::y181::y182::y183::y184::y185::y186::y187::y188::y189::y190::y191::y192::y193::y194::y195::y196::[]),[]⟩ w'):
 Code.wp Tryz.prog q5r (λe a w=>e=.exit 4/\R a w) ⟨List.toArray ((.pointer (some ⟨b,0,none⟩))::y1::y2::y3::y4::y5::y6::y7::(int i64 (-1))::y9::y10::y11::y12::y13::y14::y15::y16::y17::y18::y19::y20::y21::y22::y23::y24::y25::y26::y27::y28::y29::y30::y31::y32::y33::y34::y35::y36::y37::y38::y39::y40::y41::y42::y43::y44::y45::y46::y47::y48::y49::y50::y51::y52::y53::y54::y55::y56::y57::y58::y59::y60::y61::y62::y63::y64::y65::y66::y67::y68::y69::y70::y71::y72::y73::y74::y75::y76::y77::y78::y79::y80::y81::y82::y83::y84::y85::y86::y87::y88::y89::y90::y91::y92::y93::y94::y95::y96::y97::y98::y99::y100::y101::y102::y103::y104::y105::y106::y107::y108::y109::y110::y111::y112::y113::y114::y115::y116::y117::y118::y119::(.slice F waits.length J)::(int i64 waits.length)::(int i64 0)::y123::y124::y125::y126::y127::y128::y129::y130::y131::y132::y133::y134::y135::y136::y137::y138::y139::y140::y141::y142::y143::y144::y145::y146::y147::y148::y149::y150::y151::y152::y153::y154::y155::y156::y157::y158::y159::y160::y161::y162::y163::y164::y165::y166::y167::y168::y169::y170::y171::y172::y173::y174::y175::y176::y177::y178::y179::y180::y181::y182::y183::y184::y185::y186::y187::y188::y189::y190::y191::y192::y193::y194::y195::y196::[]),[]⟩ w:=by
 have HR:Hid _:=hR;clear hR;have O:Hid (qc6 w b lv (.slice F waits.length J) sv S log waits/\waits.map (·.t)=S.waits/\qcr S):=⟨U,hw,hI⟩
 have V:Hid (qec w F J waits):=by
  obtain⟨a9,c9,e9,h9⟩:=qa6 U.rwait;injection e9 with c h d;rw[c,d];exact h9
 have hvl:=V.out.len;have hvc:=V.out.cap;have hne:=Later.one;clear U hw hI
 conv=>arg 2;whnf
 go_loopw [8,122] (λbv iv wr=>∃(k:Nat) (z j:Int),k<=waits.length/\z=k/\bv=int i64 j/\iv=int i64 z/\Hid (qft S waits k j)/\Below w.heap.size w wr) (λ_ i _=>waits.length-(intOf i).toNat)
 case atStart=>exact⟨0,0, -1,by omega,rfl,rfl,rfl,qv1 S waits,Below.refl _ _⟩
 case round=>
  obtain⟨k,z,j,hk,hz,rfl,rfl,B,W⟩:=hrel;have n:Hid _:=hz;by_cases X:k<waits.length
  ·have g1:z<(waits.length:Int):=by omega
   have g2:z.toNat=k:=by omega
   have g3:0<=z:=by omega
   clear hz
   obtain⟨K,L,hwa,Y⟩:∃K L,F=some ⟨K,L,none⟩/\∀i m r u,waits[i]?=some m->(txC m)[r]?=some u->w.cell? ⟨K,L+(i*9+r),none⟩=some u:=by
        rcases V.out.held with e|e
        ·rw[e]at X;simp at X
        ·exact e
   obtain⟨⟨⟨xs,g,o,p,l,c,h,d,q⟩,G,H⟩,P⟩:∃m,waits[k]?=some m:=⟨waits[k],List.getElem?_eq_getElem X⟩;have M:Hid _:=P;have hok:=(O.out.2.2.wt ⟨xs,g,o,p,l,c,h,d,q⟩ (by rw[<-O.out.2.1];exact List.mem_map.2 ⟨_,List.mem_of_getElem? P,rfl⟩)).1;obtain⟨⟨s0,s3⟩,_,_⟩:=qdn hok;simp only at s0 s3
   have s4:xs<4:=by omega
   have s:=λr u (hu:(txC ⟨⟨xs,g,o,p,l,c,h,d,q⟩,G,H⟩)[r]?=some u)=>(show wr.cell? ⟨K,L+k*9+r,none⟩=some u by rw[Nat.add_assoc];exact cell_later W (Y k _ r u P hu));have x0:=s 0 _ rfl;have x1:=s 1 _ rfl;have x2:=s 2 _ rfl;have x3:=s 3 _ rfl;have x4:=s 4 _ rfl;have x5:=s 5 _ rfl;have x6:=s 6 _ rfl;have x7:=s 7 _ rfl;have x8:=s 8 _ rfl;rw[Nat.add_zero]at x0;have C:=boxed W (.cells #[int i64 xs,int i64 g,int i64 o,int i64 p,int i64 l,int i64 c,int i64 h,int i64 d,.slice G q.length H] 80);have y:=qag.new (w:=wr) (T:=80) [int i64 xs,int i64 g,int i64 o,int i64 p,int i64 l,int i64 c,int i64 h,int i64 d,.slice G q.length H] rfl;change qag (wr.alloc (.cells #[int i64 xs,int i64 g,int i64 o,int i64 p,int i64 l,int i64 c,int i64 h,int i64 d,.slice G q.length H] 80)) wr.heap.size [int i64 xs,int i64 g,int i64 o,int i64 p,int i64 l,int i64 c,int i64 h,int i64 d,.slice G q.length H]at y;have E:=O.out.1.later C;have t0:=Later.cell (y.cell 0 _ rfl);have t1:=Later.cell (y.cell 1 _ rfl);have t4:=Later.cell (y.cell 4 _ rfl);have t5:=Later.cell (y.cell 5 _ rfl);have t6:=Later.cell (y.cell 6 _ rfl);have t7:=Later.cell (y.cell 7 _ rfl);have ks:=Later.cell (qkw E.box s0 s3);have k1:=Later.cell (E.box.cell 1 _ rfl);have k2:=Later.cell (E.box.cell 2 _ rfl);have k3:=Later.cell (E.box.cell 3 _ rfl);have k4:=Later.cell (E.box.cell 4 _ rfl);have k8:=Later.cell (E.box.cell 8 _ rfl);obtain⟨D,Z⟩:∃D,qao xs S.a0 S.a1 S.a2 S.a3=D:=⟨_,rfl⟩;have HD:Hid _:=Z;have aa:=O.out.2.2.dep xs;rw[Z]at ks aa;have hwr:=qek aa
   have ab:Hid (qar S ⟨xs,g,o,p,l,c,h,d,q⟩=(decide (g=D+1)&&qe3 S.a0 S.a1 S.a2 S.a3 l c h d)):=by show qar S ⟨xs,g,o,p,l,c,h,d,q⟩=_;unfold qar;rw[HD.out]
   rw[hwa]at k8 ⊢;have HCC:Hid _:=Y;clear s Y P y E Z aa hok s3;by_cases I:g=D+1
   ·have q2:(g==D+1)=true:=by simp[I]
    have HQ:Hid _:=I;clear I;cases hc:qe3 S.a0 S.a1 S.a2 S.a3 l c h d
    ·have N:Hid _:=hc
     have HN:Hid (qar S ⟨xs,g,o,p,l,c,h,d,q⟩=false):=by show _=_;rw[ab.out,hc];simp
     clear hc
     go_wp2_with fail
     refine qaa (by kernel_rfl) (by kernel_rfl) ?_
     repeat (go_big_quiet_step (first|rfl|(go_at_call 70;with_reducible exact qab (qbc N.out _))))
     refine wpQuiet_nil ?_;rintro Q ⟨⟨_,v⟩,rfl⟩
     go_wp2_with fail
     go_roundw
     case rel=>exact⟨k+1,z+1,j,by omega,by have:=n.out;omega,rfl,by go_num,qzp B.out M.out HN.out,qac C v⟩
     case measure=>simp[intOf];have:=n.out;omega
    ·have N:Hid _:=hc
     have HY:Hid (qar S ⟨xs,g,o,p,l,c,h,d,q⟩=true):=by show _=_;rw[ab.out,hc,HQ.out];simp
     clear hc;by_cases hbz:j<0
     ·have HE:Hid (j= -1):=by
          show _=_;rcases B.out with ⟨e,_⟩|⟨i,x,e,_⟩
          ·exact e
          ·omega
      go_wp2_with fail
      refine qaa (by kernel_rfl) (by kernel_rfl) ?_
      repeat (go_big_quiet_step (first|rfl|(go_at_call 70;with_reducible exact qab (qbc N.out _))))
      refine wpQuiet_nil ?_;rintro Q ⟨⟨_,v⟩,rfl⟩
      go_wp2_with fail
      go_roundw
      case rel=>exact⟨k+1,z+1,z,by omega,by have:=n.out;omega,rfl,by go_num,(by rw[n.out];exact qwj (by rw[<-HE.out];exact B.out) M.out HY.out),qac C v⟩
      case measure=>simp[intOf];have:=n.out;omega
     ·obtain⟨i,⟨⟨bs,bq,bw,bc,f0,f1,f2,f3,bws⟩,ba,bcap⟩,hzi,hik,hbx⟩:=q3d B.out (by omega);have HBX:Hid _:=hbx;have HZI:Hid (j=i/\qft S waits k i):=⟨hzi,by rw[<-hzi];exact B.out⟩;have b1:decide (j<0)=false:=decide_eq_false hbz
      have z0:0<=j:=by omega
      have z1:j.toNat=i:=by omega
      have z2:j<(waits.length:Int):=by omega
      have cb:(wr.alloc (.cells #[int i64 xs,int i64 g,int i64 o,int i64 p,int i64 l,int i64 c,int i64 h,int i64 d,.slice G q.length H] 80)).cell? ⟨K,L+i*9,none⟩=some (int i64 bs):=cell_later C (HCC.out i _ 0 _ hbx rfl);have cbl:=Later.cell cb;clear hbx hzi cb;by_cases hl:xs<bs
      ·have b2:decide (xs<bs)=true:=decide_eq_true hl
       go_wp2_with fail
       refine qaa (by kernel_rfl) (by kernel_rfl) ?_
       repeat (go_big_quiet_step (first|rfl|(go_at_call 70;with_reducible exact qab (qbc N.out _))))
       refine wpQuiet_nil ?_;rintro Q ⟨⟨_,v⟩,rfl⟩
       go_wp2_with fail
       go_roundw
       case rel=>exact⟨k+1,z+1,z,by omega,by have:=n.out;omega,rfl,by go_num,(by rw[n.out];exact qy5 HZI.out.2 HBX.out M.out HY.out hl),qac C v⟩
       case measure=>simp[intOf];have:=n.out;omega
      ·have b2:decide (xs<bs)=false:=decide_eq_false hl
       go_wp2_with fail
       refine qaa (by kernel_rfl) (by kernel_rfl) ?_
       repeat (go_big_quiet_step (first|rfl|(go_at_call 70;with_reducible exact qab (qbc N.out _))))
       refine wpQuiet_nil ?_;rintro Q ⟨⟨_,v⟩,rfl⟩
       go_wp2_with fail
       go_roundw
       case rel=>exact⟨k+1,z+1,j,by omega,by have:=n.out;omega,rfl,by go_num,(by rw[HZI.out.1];exact qy9 HZI.out.2 HBX.out M.out (by simp only;omega)),qac C v⟩
       case measure=>simp[intOf];have:=n.out;omega
   ·have q2:(g==D+1)=false:=by simp[I]
    have HN:Hid (qar S ⟨xs,g,o,p,l,c,h,d,q⟩=false):=by show _=_;rw[ab.out];simp[I]
    clear I
    go_wp2_with fail
    refine qaa (by kernel_rfl) (by kernel_rfl) ?_
    repeat (go_big_quiet_step (first|rfl|fail))
    refine wpQuiet_nil ?_;rintro Q ⟨⟨_,v⟩,rfl⟩
    go_wp2_with fail
    go_roundw
    case rel=>exact⟨k+1,z+1,j,by omega,by have:=n.out;omega,rfl,by go_num,qzp B.out M.out HN.out,qac C v⟩
    case measure=>simp[intOf];have:=n.out;omega
  ·have g1:¬z<(waits.length:Int):=by omega
   have hkk:k=waits.length:=by omega
   subst hkk
   go_wp2_with fail
   exact HR.out _ _ _ _ _ _ _ _ _ _ _ _ _ _ _ _ _ _ _ _ _ _ _ _ _ _ _ _ _ _ _ _ _ _ _ _ _ _ _ _ _ _ _ _ _ _ j wr B.out W
end
section
open Go.Value Go.IntKind
theorem qot {b:Nat} {lv wv sv:Value} {S:qaf} {log waits:List TxM} (a:Int) (w:World) (h:qc6 w b lv wv sv S log waits):
 Calls Tryz.prog 90 #[.pointer (some ⟨b,0,none⟩),int i64 a] w λe w'=>
  e=.returned (.agg #[int i64 (qak S (qcz a)).v0,int i64 (qak S (qcz a)).v1,int i64 (qak S (qcz a)).v2,int i64 (qak S (qcz a)).v3])/\Below w.heap.size w w':=by
 have D:=(qbe.new w 47 0 0 0 0).boxed (.cells #[int i64 S.a0,int i64 S.a1,int i64 S.a2,int i64 S.a3] 47);have E:=qbe.newest (w:=w.alloc (.cells #[int i64 0,int i64 0,int i64 0,int i64 0] 47)) (T:=47) (n:=w.heap.size+1) (a0:=S.a0) (a1:=S.a1) (a2:=S.a2) (a3:=S.a3) (by simp);have hb:=boxed (boxed (Below.refl _ w) (.cells #[int i64 0,int i64 0,int i64 0,int i64 0] 47)) (.cells #[int i64 S.a0,int i64 S.a1,int i64 S.a2,int i64 S.a3] 47);have M:Hid _:=h;have F:=h.box.lt;have N:=h.box.cell 1 _ rfl;have O:=h.box.cell 2 _ rfl;have P:=h.box.cell 3 _ rfl;have Q:=h.box.cell 4 _ rfl;clear h;go_enter Tryz.func90,Tryz.ntmps90
 go_wp2_with fail
 have o:Hid (StM w S 0 ((w.alloc (.cells #[int i64 0,int i64 0,int i64 0,int i64 0] 47)).alloc (.cells #[int i64 S.a0,int i64 S.a1,int i64 S.a2,int i64 S.a3] 47))):=⟨D,E,hb⟩;obtain⟨W,G⟩:∃W,(w.alloc (.cells #[int i64 0,int i64 0,int i64 0,int i64 0] 47)).alloc (.cells #[int i64 S.a0,int i64 S.a1,int i64 S.a2,int i64 S.a3] 47)=W:=⟨_,rfl⟩;rw[G]at o ⊢;clear G D E hb N O P Q F
 go_loopw [6] (λiv wr=>∃(k:Nat) (z:Int),k<=(qcz a)/\z=k/\iv=int i64 z/\Hid (StM w S k wr)) (λi _=>4-(intOf i).toNat)
 case atStart=>exact⟨0,0,by omega,rfl,rfl,o⟩
 case round=>
  clear o;obtain⟨k,z,hk,l,rfl,c⟩:=hrel;have H:Hid _:=l;have hcut:(qcz a)=min 4 a.toNat:=rfl;by_cases F:k<(qcz a)
  ·have R:z<a:=by omega
   have U:z<4:=by omega
   have h5:0<=z:=by omega
   have h6:z.toNat=k:=by omega
   have V:k<4:=by omega
   clear hcut;have g:=M.out.later c.out.b;have i0:=g.box.cell 0 _ rfl;by_cases p:z=S.id
   ·have e:Hid (qak S (k+1)=qak S k):=by
     show qak S (k+1)=qak S k
     have:(k:Int)=S.id:=by omega
     simp[qak,this]
    have X:Hid (StM w S (k+1) wr):=⟨c.out.r,by rw[e.out];exact c.out.v,c.out.b⟩
    have Y:(z==S.id)=true:=by simp[p]
    clear l g
    go_wp2_with fail
    go_roundw
    case rel=>exact⟨k+1,z+1,by omega,by have:=H.out;omega,by go_num,X⟩
    case measure=>simp[intOf];omega
   ·have Y:(z==S.id)=false:=by simp[p]
    obtain⟨I,J,K,L⟩:=qz0 (S:=S) (lv:=lv) (wv:=wv) (sv:=sv) V;have Z:=g.box.cell _ _ I;have q1:=g.box.cell _ _ J;have q2:=g.box.cell _ _ K;have q3:=g.box.cell _ _ L;obtain⟨⟨v0,v1,v2,v3⟩,q⟩:∃v,qak S k=v:=⟨_,rfl⟩;obtain⟨p0,s⟩:∃x,S.oth (k*4)=x:=⟨_,rfl⟩;obtain⟨p1,u⟩:∃x,S.oth (k*4+1)=x:=⟨_,rfl⟩;obtain⟨p2,y⟩:∃x,S.oth (k*4+2)=x:=⟨_,rfl⟩;obtain⟨p3,B⟩:∃x,S.oth (k*4+3)=x:=⟨_,rfl⟩
    have EQ:Hid (qak S (k+1)=⟨qaz v0 p0,qaz v1 p1,qaz v2 p2,qaz v3 p3⟩):=by
     show qak S (k+1)=_
     have:¬(k:Int)=S.id:=by omega
     simp[qak,this,q,s,u,y,B]
    rw[s]at Z;rw[u]at q1;rw[y]at q2;rw[B]at q3
    have j:qbe wr (w.heap.size+1) v0 v1 v2 v3:=by have:=c.out.v;rw[q]at this;exact this
    have x0:=j.c0;have x1:=j.c1;have x2:=j.c2;have x3:=j.c3
    have PU:Hid (Calls Tryz.prog 89 #[.agg #[int i64 v0,int i64 v1,int i64 v2,int i64 v3],.agg #[int i64 p0,int i64 p1,int i64 p2,int i64 p3]] wr.drew λe w'=>e=.returned (.agg #[int i64 (qaz v0 p0),int i64 (qaz v1 p1),int i64 (qaz v2 p2),int i64 (qaz v3 p3)])/\qbe w' w.heap.size 0 0 0 0/\qbe w' (w.heap.size+1) v0 v1 v2 v3/\Below w.heap.size w w'):=
     (qgk v0 v1 v2 v3 p0 p1 p2 p3 wr.drew).mono λe w' ⟨he,C⟩=>⟨he,qbe.later C c.out.r.drew,qbe.later C j.drew,qac c.out.b.drew C⟩
    have hB:w.heap.size<=w.heap.size+1:=by omega
    have hBB:=c.out.b.drew;clear l g I J K L q s u y B j c p
    go_wp2_with fail
    go_region_with
     (first|(go_at_call 89;with_reducible refine PU.out.mono ?_;rintro e w5 ⟨rfl,RR5,d,hb5⟩;have y0:=d.c0;have y1:=d.c1;have y2:=d.c2;have y3:=d.c3;have z0:=d.f0;have z1:=d.f1;have z2:=d.f2;have z3:=d.f3))
    all_goals
     have SM:Hid (StM w S (k+1) ((((w5.setCell ⟨w.heap.size+1,0,none⟩ (int i64 (qaz v0 p0))).setCell ⟨w.heap.size+1,1,none⟩ (int i64 (qaz v1 p1))).setCell ⟨w.heap.size+1,2,none⟩ (int i64 (qaz v2 p2))).setCell ⟨w.heap.size+1,3,none⟩ (int i64 (qaz v3 p3)))):=
      ⟨RR5.far4 (by omega),by rw[EQ.out];exact d.set,qkn hb5 hB _ _ _ _⟩
     go_wp2_with fail
     go_roundw
     case rel=>exact⟨k+1,z+1,by omega,by have:=H.out;omega,by go_num,SM⟩
     case measure=>simp[intOf];omega
  ·have hke:k=(qcz a):=by omega
   by_cases R:z<a
   have U:¬z<4:=by omega
   all_goals
      clear hcut;subst hke;have r0:=c.out.r.c0;have r1:=c.out.r.c1;have r2:=c.out.r.c2;have r3:=c.out.r.c3;have f0:=c.out.r.f0;have f1:=c.out.r.f1;have f2:=c.out.r.f2;have f3:=c.out.r.f3;have x0:=c.out.v.c0;have x1:=c.out.v.c1;have x2:=c.out.v.c2;have x3:=c.out.v.c3;have m:=c.out.r.set (x0:=(qak S (qcz a)).v0) (x1:=(qak S (qcz a)).v1) (x2:=(qak S (qcz a)).v2) (x3:=(qak S (qcz a)).v3);have hbZ:=qkn c.out.b (Nat.le_refl _) (qak S (qcz a)).v0 (qak S (qcz a)).v1 (qak S (qcz a)).v2 (qak S (qcz a)).v3;have g0:=m.c0;have g1:=m.c1;have g2:=m.c2;have g3:=m.c3;clear l
      go_wp2_with fail
      exact bodyPost_ret (v:=.agg #[int i64 (qak S (qcz a)).v0,int i64 (qak S (qcz a)).v1,int i64 (qak S (qcz a)).v2,int i64 (qak S (qcz a)).v3]) (by simp[results,Tryz.results90,go_sem,g0,g1,g2,g3]) rfl ⟨rfl,hbZ⟩
end
section
open Go.Value Go.IntKind
theorem qu8 {sb G:Nat} {sv:Value} {l:List Hd} (a0 a1 a2 a3:Int) (w:World) (P:qg4 w sb G sv l) (hl:l.length<=1000):
 Calls Tryz.prog 91 #[.pointer (some ⟨sb,G,none⟩),.agg #[int i64 a0,int i64 a1,int i64 a2,int i64 a3]] w λe w'=>e=.returned (.tuple #[])/\qfz w sb G sv (qel a0 a1 a2 a3 l) w':=by
 have hne:=Later.one;obtain⟨a,cap,rfl,hH⟩:=qh6 P.own;have q:=qbe.new w 47 a0 a1 a2 a3;have hb:=boxed (Below.refl _ w) (.cells #[int i64 a0,int i64 a1,int i64 a2,int i64 a3] 47);have S1:=P.later hb;have s0:(w.alloc (.cells #[int i64 a0,int i64 a1,int i64 a2,int i64 a3] 47)).cell? ⟨sb,G,none⟩=some (.slice a l.length cap):=S1.box.cell;have hsb:sb<w.heap.size:=P.box.lt;go_enter Tryz.func91,Tryz.ntmps91
 go_wp2_with fail
 clear s0 S1;obtain⟨W,hWW⟩:∃W,w.alloc (.cells #[int i64 a0,int i64 a1,int i64 a2,int i64 a3] 47)=W:=⟨_,rfl⟩;rw[hWW]at q hb ⊢;clear hWW
 go_loopw [4,14] (λsl iv wr=>∃(k:Nat) (z:Int) (kept:List Hd) (lv:Value),lv=sl/\k<=l.length/\z=k/\iv=int i64 z/\(l.take k).filter (qhu a0 a1 a2 a3 l)=kept/\wr.ownsRow (w.heap.size+1) 204 7 lv kept.length (qp8 kept)/\qbe wr w.heap.size a0 a1 a2 a3/\Below w.heap.size w wr) (λ_ i _=>l.length-(intOf i).toNat)
 case atStart=>exact⟨0,0,[],_,rfl,by omega,rfl,rfl,rfl,World.ownsRow_nil _ _ _ _,q,hb⟩
 case round=>
  clear q hb;obtain⟨k,z,kept,lv,hsl,hk,hz,rfl,hkp,C,q,hb⟩:=hrel;subst hsl;have Q:Hid _:=hkp;have HZ:Hid _:=hz;clear hkp;by_cases D:k<l.length
  ·have h1:z<(l.length:Int):=by omega
   have h2:z.toNat=k:=by omega
   have h3:0<=z:=by omega
   clear hz;have R:=P.later hb;have hH4:=hH.later hb
   obtain⟨b,J,rfl,S⟩:∃b J,a=some ⟨b,J,none⟩/\∀i r u,i<l.length->(hdL (qfh l i))[r]?=some u->wr.cell? ⟨b,J+(i*7+r),none⟩=some u:=by
        rcases hH4.held with h0|h0
        ·rw[h0]at D;simp at D
        ·exact h0
   obtain⟨⟨y,⟨m,n,d,h,o,p⟩⟩,F⟩:∃x,qfh l k=x:=⟨_,rfl⟩;have x0:wr.cell? ⟨b,J+k*7,none⟩=some (int i64 y):=S k 0 _ D (by rw[F];rfl);have x1:wr.cell? ⟨b,J+k*7+1,none⟩=some (int i64 m):=S k 1 _ D (by rw[F];rfl);have x2:wr.cell? ⟨b,J+k*7+2,none⟩=some (int i64 n):=S k 2 _ D (by rw[F];rfl);have x3:wr.cell? ⟨b,J+k*7+3,none⟩=some (int i64 d):=S k 3 _ D (by rw[F];rfl);have x4:wr.cell? ⟨b,J+k*7+4,none⟩=some (int i64 h):=S k 4 _ D (by rw[F];rfl);have x5:wr.cell? ⟨b,J+k*7+5,none⟩=some (.string o):=S k 5 _ D (by rw[F];rfl);have x6:wr.cell? ⟨b,J+k*7+6,none⟩=some (.bool p):=S k 6 _ D (by rw[F];rfl);have hsite:=qkk (P.ok (qfh l k) (by simp only[qfh,List.getD,List.getElem?_eq_getElem D,Option.getD_some];exact List.getElem_mem D));rw[F]at hsite;simp only at hsite;obtain⟨t0,t1⟩:=hsite
   have t2:d<4:=by omega
   have HX:Hid _:=F;clear F S;replace R:=R.later (boxed (Below.refl _ wr) (.cells #[int i64 y,int i64 m,int i64 n,int i64 d,int i64 h,.string o,.bool p] 204));replace hH4:=hH4.later (boxed (Below.refl _ wr) (.cells #[int i64 y,int i64 m,int i64 n,int i64 d,int i64 h,.string o,.bool p] 204));replace q:=q.boxed (.cells #[int i64 y,int i64 m,int i64 n,int i64 d,int i64 h,.string o,.bool p] 204);replace C:=C.alloc (.cells #[int i64 y,int i64 m,int i64 n,int i64 d,int i64 h,.string o,.bool p] 204);replace hb:=boxed hb (.cells #[int i64 y,int i64 m,int i64 n,int i64 d,int i64 h,.string o,.bool p] 204);have c:=qag.new (w:=wr) (T:=204) [int i64 y,int i64 m,int i64 n,int i64 d,int i64 h,.string o,.bool p] rfl;have c0:=q.c0;have c1:=q.c1;have c2:=q.c2;have c3:=q.c3;have y0:=c.cell 0 _ rfl
   go_wp2_with fail
   clear x0 x1 x2 x3 x4 x5 x6;refine(qqt y a0 a1 a2 a3 _ (R.box.cell) hH4 P.ok (by omega)).mono ?_;rintro e w2 ⟨rfl,hb2⟩;clear c0 c1 c2 c3 y0 R hH4;obtain⟨Z,hbest⟩:∃Z,qct y a0 a1 a2 a3 l=Z:=⟨_,rfl⟩
   have KE:Hid (qhu a0 a1 a2 a3 l (qfh l k)=(!(qit Z)||eqV (Z.getD qcj) ⟨m,n,d,h,o,p⟩||!(qij a0 a1 a2 a3 ⟨m,n,d,h,o,p⟩))):=by
        show qhu a0 a1 a2 a3 l (qfh l k)=_;rw[HX.out,<-hbest];rfl
   rw[hbest,qjn];clear hbest;obtain⟨sbv,hsbv⟩:∃s,qit Z=s:=⟨_,rfl⟩;obtain⟨bv,hbv⟩:∃v,Z.getD qcj=v:=⟨_,rfl⟩;rw[hsbv,hbv]at KE ⊢;clear hsbv hbv;obtain⟨K,L,bs,M,N,O⟩:=bv;rw[show qah ⟨K,L,bs,M,N,O⟩=[int i64 K,int i64 L,int i64 bs,int i64 M,.string N,.bool O]from rfl];replace q:=(q.later hb2).boxed (.cells #[int i64 K,int i64 L,int i64 bs,int i64 M,.string N,.bool O] 130);replace c:=(c.later hb2).boxed (.cells #[int i64 K,int i64 L,int i64 bs,int i64 M,.string N,.bool O] 130);replace C:=(qey C hb2).alloc (.cells #[int i64 K,int i64 L,int i64 bs,int i64 M,.string N,.bool O] 130);replace hb:=boxed (qac hb hb2) (.cells #[int i64 K,int i64 L,int i64 bs,int i64 M,.string N,.bool O] 130);have RB:=qag.new (w:=w2) (T:=130) [int i64 K,int i64 L,int i64 bs,int i64 M,.string N,.bool O] rfl;clear hb2;have hat:=Later.cell (qmv q t0 t1);have w0:=Later.cell (c.cell 0 _ rfl);have w1:=Later.cell (c.cell 1 _ rfl);have w2':=Later.cell (c.cell 2 _ rfl);have w3:=Later.cell (c.cell 3 _ rfl);have w4:=Later.cell (c.cell 4 _ rfl);have w5':=Later.cell (c.cell 5 _ rfl);have w6:=Later.cell (c.cell 6 _ rfl);have v0:=Later.cell (RB.cell 0 _ rfl);have v1:=Later.cell (RB.cell 1 _ rfl);have v2:=Later.cell (RB.cell 2 _ rfl);have v3:=Later.cell (RB.cell 3 _ rfl);have v4:=Later.cell (RB.cell 4 _ rfl);have v5:=Later.cell (RB.cell 5 _ rfl);cases sbv
   ·go_wp2_with fail
    refine qaa (by kernel_rfl) (by kernel_rfl) ?_
    repeat (go_big_quiet_step (fail))
    refine wpQuiet_nil ?_;rintro H ⟨⟨_,B⟩,rfl⟩;replace q:=q.later B;replace c:=c.later B;replace C:=qey C B;replace hb:=qac hb B;clear B
    have Y:Hid ((l.take (k+1)).filter (qhu a0 a1 a2 a3 l)=kept++[⟨y,⟨m,n,d,h,o,p⟩⟩]):=by
     have e:qhu a0 a1 a2 a3 l (qfh l k)=true:=by rw[KE.out];rfl
     show (l.take (k+1)).filter (qhu a0 a1 a2 a3 l)=_;rw[qpb D,List.filter_append,Q.out,<-HX.out];simp[e]
    have y0:=c.cell 0 _ rfl;have y1:=c.cell 1 _ rfl;have y2:=c.cell 2 _ rfl;have y3:=c.cell 3 _ rfl;have y4:=c.cell 4 _ rfl;have y5:=c.cell 5 _ rfl;have y6:=c.cell 6 _ rfl;obtain⟨i0,hi,hz0,hz1,hz2⟩:=info_parts qjt;have hk6:=qi1 Q.out
    have hsz5:w.heap.size+1<=H.heap.size:=by have:=q.lt;omega
    go_wp2_with (at_builtin;refine wpList_append_lies _ rfl (.tmp 45) (.tmp 47) 54 rfl (w.heap.size+1) 204 i0 (.agg #[int i64 0,int i64 0,int i64 0,int i64 0,int i64 0,.string ⟨#[]⟩,.bool false]) 7 64 Tryz.underlying54 hi hz0 hz1 hz2 rfl (by decide) lv kept.length (qp8 kept) rfl (C.alloc _) ⟨H.heap.size,0,none⟩ 1 1 (hdL ⟨y,⟨m,n,d,h,o,p⟩⟩) rfl rfl (World.news_of_block (heap_alloc_new H (.cells #[int i64 y,int i64 m,int i64 n,int i64 d,int i64 h,.string o,.bool p] 204))) (by intro u U;simp[hdL]at U;rcases U with rfl|rfl|rfl|rfl|rfl|rfl|rfl<;>rfl) (by decide) (by simp only[maxLen];omega) (by omega) (by simp;omega) _ rfl ?_;intro g V wE ownE X egE ltE)
    have I:∀j,lv.ownBlock=some j->w.heap.size+1<=j:=λj E=>(C.lt j E).1;have RAE:=(q.boxed (.cells #[int i64 y,int i64 m,int i64 n,int i64 d,int i64 h,.string o,.bool p] 204)).grown4 X (λe=>by have:=I _ e.symm;omega);have hbE:=(boxed hb (.cells #[int i64 y,int i64 m,int i64 n,int i64 d,int i64 h,.string o,.bool p] 204)).grown X (by have:=hb.size;simp;omega) (λj E=>by have:=I j E;omega)
    go_roundw
    case rel=>exact⟨k+1,z+1,kept++[⟨y,⟨m,n,d,h,o,p⟩⟩],_,rfl,by omega,by have:=HZ.out;omega,by go_num,Y.out,by rw[qhy,List.length_append];exact ownE,RAE,hbE⟩
    case measure=>simp[intOf];omega
   ·cases ev:eqV ⟨K,L,bs,M,N,O⟩ ⟨m,n,d,h,o,p⟩
    ·have eqv2:=λw=>(qzy ⟨K,L,bs,M,N,O⟩ ⟨m,n,d,h,o,p⟩ w).trans (by rw[ev]);cases hh:qij a0 a1 a2 a3 ⟨m,n,d,h,o,p⟩
     ·have dh:decide (qao d a0 a1 a2 a3<h)=true:=decide_eq_true (by have:=of_decide_eq_false (show decide (h<=qao d a0 a1 a2 a3)=false from hh);omega)
      go_wp2_with fail
      refine qaa (by kernel_rfl) (by kernel_rfl) ?_
      repeat (go_big_quiet_step (fail))
      refine wpQuiet_nil ?_;rintro H ⟨⟨_,B⟩,rfl⟩;replace q:=q.later B;replace c:=c.later B;replace C:=qey C B;replace hb:=qac hb B;clear B
      have Y:Hid ((l.take (k+1)).filter (qhu a0 a1 a2 a3 l)=kept++[⟨y,⟨m,n,d,h,o,p⟩⟩]):=by
          have e:qhu a0 a1 a2 a3 l (qfh l k)=true:=by rw[KE.out];rw[ev,hh];rfl
          show (l.take (k+1)).filter (qhu a0 a1 a2 a3 l)=_;rw[qpb D,List.filter_append,Q.out,<-HX.out];simp[e]
      have y0:=c.cell 0 _ rfl;have y1:=c.cell 1 _ rfl;have y2:=c.cell 2 _ rfl;have y3:=c.cell 3 _ rfl;have y4:=c.cell 4 _ rfl;have y5:=c.cell 5 _ rfl;have y6:=c.cell 6 _ rfl;obtain⟨i0,hi,hz0,hz1,hz2⟩:=info_parts qjt;have hk6:=qi1 Q.out
      have hsz5:w.heap.size+1<=H.heap.size:=by have:=q.lt;omega
      go_wp2_with (at_builtin;refine wpList_append_lies _ rfl (.tmp 45) (.tmp 47) 54 rfl (w.heap.size+1) 204 i0 (.agg #[int i64 0,int i64 0,int i64 0,int i64 0,int i64 0,.string ⟨#[]⟩,.bool false]) 7 64 Tryz.underlying54 hi hz0 hz1 hz2 rfl (by decide) lv kept.length (qp8 kept) rfl (C.alloc _) ⟨H.heap.size,0,none⟩ 1 1 (hdL ⟨y,⟨m,n,d,h,o,p⟩⟩) rfl rfl (World.news_of_block (heap_alloc_new H (.cells #[int i64 y,int i64 m,int i64 n,int i64 d,int i64 h,.string o,.bool p] 204))) (by intro u U;simp[hdL]at U;rcases U with rfl|rfl|rfl|rfl|rfl|rfl|rfl<;>rfl) (by decide) (by simp only[maxLen];omega) (by omega) (by simp;omega) _ rfl ?_;intro g V wE ownE X egE ltE)
      have I:∀j,lv.ownBlock=some j->w.heap.size+1<=j:=λj E=>(C.lt j E).1;have RAE:=(q.boxed (.cells #[int i64 y,int i64 m,int i64 n,int i64 d,int i64 h,.string o,.bool p] 204)).grown4 X (λe=>by have:=I _ e.symm;omega);have hbE:=(boxed hb (.cells #[int i64 y,int i64 m,int i64 n,int i64 d,int i64 h,.string o,.bool p] 204)).grown X (by have:=hb.size;simp;omega) (λj E=>by have:=I j E;omega)
      go_roundw
      case rel=>exact⟨k+1,z+1,kept++[⟨y,⟨m,n,d,h,o,p⟩⟩],_,rfl,by omega,by have:=HZ.out;omega,by go_num,Y.out,by rw[qhy,List.length_append];exact ownE,RAE,hbE⟩
      case measure=>simp[intOf];omega
     ·have dh:decide (qao d a0 a1 a2 a3<h)=false:=decide_eq_false (by have:=of_decide_eq_true (show decide (h<=qao d a0 a1 a2 a3)=true from hh);omega)
      go_wp2_with fail
      refine qaa (by kernel_rfl) (by kernel_rfl) ?_
      repeat (go_big_quiet_step (fail))
      refine wpQuiet_nil ?_;rintro H ⟨⟨_,B⟩,rfl⟩;replace q:=q.later B;replace c:=c.later B;replace C:=qey C B;replace hb:=qac hb B;clear B
      have Y:Hid ((l.take (k+1)).filter (qhu a0 a1 a2 a3 l)=kept):=by
          have e:qhu a0 a1 a2 a3 l (qfh l k)=false:=by rw[KE.out];rw[ev,hh];rfl
          show (l.take (k+1)).filter (qhu a0 a1 a2 a3 l)=kept;rw[qpb D,List.filter_append,Q.out];simp[e]
      go_wp2_with fail
      go_roundw
      case rel=>exact⟨k+1,z+1,kept,_,rfl,by omega,by have:=HZ.out;omega,by go_num,Y.out,C,q,hb⟩
      case measure=>simp[intOf];omega
    ·have eqv2:=λw=>(qzy ⟨K,L,bs,M,N,O⟩ ⟨m,n,d,h,o,p⟩ w).trans (by rw[ev])
     go_wp2_with fail
     refine qaa (by kernel_rfl) (by kernel_rfl) ?_
     repeat (go_big_quiet_step (fail))
     refine wpQuiet_nil ?_;rintro H ⟨⟨_,B⟩,rfl⟩;replace q:=q.later B;replace c:=c.later B;replace C:=qey C B;replace hb:=qac hb B;clear B
     have Y:Hid ((l.take (k+1)).filter (qhu a0 a1 a2 a3 l)=kept++[⟨y,⟨m,n,d,h,o,p⟩⟩]):=by
      have e:qhu a0 a1 a2 a3 l (qfh l k)=true:=by rw[KE.out];rw[ev];rfl
      show (l.take (k+1)).filter (qhu a0 a1 a2 a3 l)=_;rw[qpb D,List.filter_append,Q.out,<-HX.out];simp[e]
     have y0:=c.cell 0 _ rfl;have y1:=c.cell 1 _ rfl;have y2:=c.cell 2 _ rfl;have y3:=c.cell 3 _ rfl;have y4:=c.cell 4 _ rfl;have y5:=c.cell 5 _ rfl;have y6:=c.cell 6 _ rfl;obtain⟨i0,hi,hz0,hz1,hz2⟩:=info_parts qjt;have hk6:=qi1 Q.out
     have hsz5:w.heap.size+1<=H.heap.size:=by have:=q.lt;omega
     go_wp2_with (at_builtin;refine wpList_append_lies _ rfl (.tmp 45) (.tmp 47) 54 rfl (w.heap.size+1) 204 i0 (.agg #[int i64 0,int i64 0,int i64 0,int i64 0,int i64 0,.string ⟨#[]⟩,.bool false]) 7 64 Tryz.underlying54 hi hz0 hz1 hz2 rfl (by decide) lv kept.length (qp8 kept) rfl (C.alloc _) ⟨H.heap.size,0,none⟩ 1 1 (hdL ⟨y,⟨m,n,d,h,o,p⟩⟩) rfl rfl (World.news_of_block (heap_alloc_new H (.cells #[int i64 y,int i64 m,int i64 n,int i64 d,int i64 h,.string o,.bool p] 204))) (by intro u U;simp[hdL]at U;rcases U with rfl|rfl|rfl|rfl|rfl|rfl|rfl<;>rfl) (by decide) (by simp only[maxLen];omega) (by omega) (by simp;omega) _ rfl ?_;intro g V wE ownE X egE ltE)
     have I:∀j,lv.ownBlock=some j->w.heap.size+1<=j:=λj E=>(C.lt j E).1;have RAE:=(q.boxed (.cells #[int i64 y,int i64 m,int i64 n,int i64 d,int i64 h,.string o,.bool p] 204)).grown4 X (λe=>by have:=I _ e.symm;omega);have hbE:=(boxed hb (.cells #[int i64 y,int i64 m,int i64 n,int i64 d,int i64 h,.string o,.bool p] 204)).grown X (by have:=hb.size;simp;omega) (λj E=>by have:=I j E;omega)
     go_roundw
     case rel=>exact⟨k+1,z+1,kept++[⟨y,⟨m,n,d,h,o,p⟩⟩],_,rfl,by omega,by have:=HZ.out;omega,by go_num,Y.out,by rw[qhy,List.length_append];exact ownE,RAE,hbE⟩
     case measure=>simp[intOf];omega
  ·have h4:¬z<(l.length:Int):=by omega
   have e:k=l.length:=by omega
   have KP:Hid (qel a0 a1 a2 a3 l=kept):=by
        show qel a0 a1 a2 a3 l=kept;have:=Q.out;rw[e,List.take_length]at this;exact this
   clear hz e;have R:=P.later hb;have s0:wr.cell? ⟨sb,G,none⟩=some (.slice a l.length cap):=R.box.cell;have s1:wr.frozen? ⟨sb,G,none⟩=false:=R.box.free;have I:∀j,lv.ownBlock=some j->w.heap.size+1<=j:=λj E=>(C.lt j E).1;obtain⟨a9,V,rfl,_⟩:=qh6 C;have BZ:=R.box.set (.slice a9 kept.length V)
   have nsb:(Value.slice a9 kept.length V).ownBlock≠some sb:=λe=>by have:=I sb e;omega
   have ownZ:=Joins.ownsRow_le (C.kept (row:=some sb) (qhz sb G wr (.slice a9 kept.length V)) (.inr nsb)) (Nat.zero_le _);have TZ:qae (q1l sb (.slice a l.length cap)) w (wr.setCell ⟨sb,G,none⟩ (.slice a9 kept.length V)):=(qae.ofBelow hb).trans (qae.setCell wr ⟨sb,G,none⟩ _ (.inl rfl))
   have FIN:Hid (qfz w sb G (.slice a l.length cap) kept (wr.setCell ⟨sb,G,none⟩ (.slice a9 kept.length V))):=
        ⟨_,⟨BZ,ownZ,nsb,λx F=>by
          rw[<-KP.out]at F
          exact P.ok x (List.mem_filter.1 F).1⟩,λj E=>.inr (by have:=I j E;omega),TZ,(qfm.ofBlock (hb.block sb hsb)).trans (qfm.set sb G wr _)⟩
   clear BZ ownZ TZ
   go_wp2_with fail
   go_end0;exact⟨rfl,by rw[KP.out];exact FIN.out⟩
end
section
open Go.Value Go.IntKind
theorem qz4 {sb M:Nat} {sv:Value} {l:List Hd} (a0 a1 a2 a3:Int) (w:World) (E:qg4 w sb M sv l) (hl:l.length<=1000):
 Calls Tryz.prog 16 #[.pointer (some ⟨sb,M,none⟩),.agg #[int i64 a0,int i64 a1,int i64 a2,int i64 a3]] w λe w'=>∃v,e=.returned v/\w'.ownsRow (w.heap.size+1) 9 1 v 8 (qfj a0 a1 a2 a3 l 8)/\Below w.heap.size w w':=by
 obtain⟨a,cap,rfl,hH⟩:=qh6 E.own;have c:=qbe.new w 47 a0 a1 a2 a3;have hb:=boxed (Below.refl _ w) (.cells #[int i64 a0,int i64 a1,int i64 a2,int i64 a3] 47);go_enter Tryz.func16,Tryz.ntmps16
 go_wp2_with fail
 obtain⟨W,N⟩:∃W,w.alloc (.cells #[int i64 a0,int i64 a1,int i64 a2,int i64 a3] 47)=W:=⟨_,rfl⟩;rw[N]at c hb ⊢;clear N
 go_loopw [5,9] (λsl iv wr=>∃(k:Nat) (z:Int) (lv:Value),lv=sl/\k<=8/\z=k/\iv=int i64 z/\wr.ownsRow (w.heap.size+1) 9 1 lv k (qfj a0 a1 a2 a3 l k)/\qbe wr w.heap.size a0 a1 a2 a3/\Below w.heap.size w wr) (λ_ i _=>8-(intOf i).toNat)
 case atStart=>exact⟨0,0,_,rfl,by omega,rfl,rfl,World.ownsRow_nil _ _ _ _,c,hb⟩
 case round=>
  clear c hb;obtain⟨k,z,lv,hsl,hk,O,rfl,r,c,hb⟩:=hrel;subst hsl;have F:Hid _:=O;by_cases hlt:k<8
  ·have h1:z<8:=by omega
   have h3:0<=z:=by omega
   have Q:=E.later hb;have R:=hH.later hb;have c0:=c.c0;have c1:=c.c1;have c2:=c.c2;have c3:=c.c3;clear O
   go_wp2_with fail
   refine(qp7 z a0 a1 a2 a3 _ (Q.box.cell) R E.ok (by omega)).mono ?_;rintro e w2 ⟨rfl,q⟩;clear c0 c1 c2 c3 Q R;have G:=qn9 (key:=z) (a0:=a0) (a1:=a1) (a2:=a2) (a3:=a3) E.ok
   have s:Hid (qhj a0 a1 a2 a3 l k=if (qdf z a0 a1 a2 a3 l).2=0 then (⟨#[61]⟩:ByteArray)++(qdf z a0 a1 a2 a3 l).1.data else ⟨#[]⟩):=by
        show qhj a0 a1 a2 a3 l k=_;rw[F.out];rfl
   obtain⟨⟨rv,H⟩,S⟩:∃x,qdf z a0 a1 a2 a3 l=x:=⟨_,rfl⟩;rw[S]at s G ⊢;simp only at s G ⊢;clear S;obtain⟨d,m,bs,n,b,o⟩:=rv;simp only at s G;rw[show qah ⟨d,m,bs,n,b,o⟩=[int i64 d,int i64 m,int i64 bs,int i64 n,.string b,.bool o]from rfl];replace c:=(c.later q).boxed (.cells #[int i64 d,int i64 m,int i64 bs,int i64 n,.string b,.bool o] 130);have U:w2.ownsRow (w.heap.size+1) 9 1 lv k (qfj a0 a1 a2 a3 l k):=r.kept (row:=none) ⟨q.os,q.tape,q.output,q.size,λj p _=>q.block j p⟩ (by cases lv.ownBlock<;>simp);replace r:=U.alloc (.cells #[int i64 d,int i64 m,int i64 bs,int i64 n,.string b,.bool o] 130);replace hb:=boxed (qac hb q) (.cells #[int i64 d,int i64 m,int i64 bs,int i64 n,.string b,.bool o] 130);have RB:=qag.new (w:=w2) (T:=130) [int i64 d,int i64 m,int i64 bs,int i64 n,.string b,.bool o] rfl;clear q U;have d3:=RB.cell 4 _ rfl;obtain⟨V,X,Y,Z,aa⟩:=info_parts qw8
   have hsz:w.heap.size+1<=w2.heap.size+1:=by have h:=c.lt;rw[World.size_alloc]at h;omega
   by_cases y:H=0
   ·have ee:(H==0)=true:=by simp[y]
    have I:Hid (qhj a0 a1 a2 a3 l k=(⟨#[61]⟩:ByteArray)++b):=by show qhj a0 a1 a2 a3 l k=_;rw[s.out,if_pos y]
    have ad:=λw=>q6b (P:=Tryz.prog) (⟨#[61]⟩:ByteArray) b (by have z:(⟨#[61]⟩:ByteArray).size=1:=rfl;omega) w;clear y s
    have nw:((w2.alloc (.cells #[int i64 d,int i64 m,int i64 bs,int i64 n,.string b,.bool o] 130)).alloc (.cells #[.string ((⟨#[61]⟩:ByteArray)++b)] 9)).heap[w2.heap.size+1]?=some (.cells #[.string ((⟨#[61]⟩:ByteArray)++b)] 9):=by have h:=heap_alloc_new (w2.alloc (.cells #[int i64 d,int i64 m,int i64 bs,int i64 n,.string b,.bool o] 130)) (.cells #[.string ((⟨#[61]⟩:ByteArray)++b)] 9);rw[World.size_alloc]at h;exact h
    go_wp2_with (at_builtin;refine wpList_append_lies _ rfl (.tmp 21) (.tmp 25) 48 rfl (w.heap.size+1) 9 V (.string ⟨#[]⟩) 1 16 Tryz.underlying48 X Y Z aa rfl (by decide) lv k (qfj a0 a1 a2 a3 l k) rfl (r.alloc _) ⟨w2.heap.size+1,0,none⟩ 1 1 [.string ((⟨#[61]⟩:ByteArray)++b)] rfl rfl (World.news_of_block nw) (by intro u B;simp at B;rw[B];rfl) (by decide) (by simp only[maxLen];omega) (by omega) (by simp;omega) _ rfl ?_;intro g cap9 wE J C egE ltE)
    have D:∀j,lv.ownBlock=some j->w.heap.size+1<=j:=λj p=>(r.lt j p).1;have K:=(c.boxed (.cells #[.string ((⟨#[61]⟩:ByteArray)++b)] 9)).grown4 C (λe=>by have:=D _ e.symm;omega);have L:=(boxed hb (.cells #[.string ((⟨#[61]⟩:ByteArray)++b)] 9)).grown C (by have:=hb.size;simp;omega) (λj p=>by have:=D j p;omega)
    go_roundw
    case rel=>exact⟨k+1,z+1,_,rfl,by omega,by have:=F.out;omega,by go_num,by rw[qii,I.out];exact J,K,L⟩
    case measure=>simp[intOf];omega
   ·have ee:(H==0)=false:=beq_eq_false_iff_ne.2 y
    have I:Hid (qhj a0 a1 a2 a3 l k=⟨#[]⟩):=by show qhj a0 a1 a2 a3 l k=_;rw[s.out,if_neg y]
    clear y s
    have nw:((w2.alloc (.cells #[int i64 d,int i64 m,int i64 bs,int i64 n,.string b,.bool o] 130)).alloc (.cells #[.string ⟨#[]⟩] 9)).heap[w2.heap.size+1]?=some (.cells #[.string ⟨#[]⟩] 9):=by have h:=heap_alloc_new (w2.alloc (.cells #[int i64 d,int i64 m,int i64 bs,int i64 n,.string b,.bool o] 130)) (.cells #[.string ⟨#[]⟩] 9);rw[World.size_alloc]at h;exact h
    go_wp2_with (at_builtin;refine wpList_append_lies _ rfl (.tmp 27) (.tmp 28) 48 rfl (w.heap.size+1) 9 V (.string ⟨#[]⟩) 1 16 Tryz.underlying48 X Y Z aa rfl (by decide) lv k (qfj a0 a1 a2 a3 l k) rfl (r.alloc _) ⟨w2.heap.size+1,0,none⟩ 1 1 [.string ⟨#[]⟩] rfl rfl (World.news_of_block nw) (by intro u B;simp at B;rw[B];rfl) (by decide) (by simp only[maxLen];omega) (by omega) (by simp;omega) _ rfl ?_;intro g cap9 wE J C egE ltE)
    have D:∀j,lv.ownBlock=some j->w.heap.size+1<=j:=λj p=>(r.lt j p).1;have K:=(c.boxed (.cells #[.string ⟨#[]⟩] 9)).grown4 C (λe=>by have:=D _ e.symm;omega);have L:=(boxed hb (.cells #[.string ⟨#[]⟩] 9)).grown C (by have:=hb.size;simp;omega) (λj p=>by have:=D j p;omega)
    go_roundw
    case rel=>exact⟨k+1,z+1,_,rfl,by omega,by have:=F.out;omega,by go_num,by rw[qii,I.out];exact J,K,L⟩
    case measure=>simp[intOf];omega
  ·obtain rfl:k=8:=by omega
   go_wp2_with fail
   go_ret;exact⟨lv,rfl,r,hb⟩
end
section
open Go.Value Go.IntKind
variable {b:Nat} {wv:Value} {s:qbp}
theorem q36 {w w2:World} {c:Value} (hb:Below w.heap.size w w2) (B:qag w2 b (qbl s c)) (x0 x1 x2 x3:Int):
 qkh w b wv ⟨x0,x1,x2,x3,false,0,0,0,0,[]⟩ ((((((((((w2.setCell ⟨b,0,none⟩ (int i64 x0)).setCell ⟨b,1,none⟩ (int i64 x1)).setCell ⟨b,2,none⟩ (int i64 x2)).setCell ⟨b,3,none⟩ (int i64 x3)).setCell ⟨b,8,none⟩ (.bool false)).setCell ⟨b,4,none⟩ (int i64 0)).setCell ⟨b,5,none⟩ (int i64 0)).setCell ⟨b,6,none⟩ (int i64 0)).setCell ⟨b,7,none⟩ (int i64 0)).setCell ⟨b,9,none⟩ (.slice none 0 0)):=by
 have d:=B.set 0 (int i64 x0) (by simp[qbl]);have e:=d.set 1 (int i64 x1) (by simp[qbl]);have f:=e.set 2 (int i64 x2) (by simp[qbl]);have g:=f.set 3 (int i64 x3) (by simp[qbl]);have h:=g.set 8 (.bool false) (by simp[qbl]);have i:=h.set 4 (int i64 0) (by simp[qbl]);have j:=i.set 5 (int i64 0) (by simp[qbl]);have l:=j.set 6 (int i64 0) (by simp[qbl]);have m:=l.set 7 (int i64 0) (by simp[qbl]);have n:=m.set 9 (.slice none 0 0) (by simp[qbl]);refine quj hb (λk a=>?_) ?_ ?_ ?_ ?_ n rfl
 ·rw[Below.heap_setCell _ _ _ _ a,Below.heap_setCell _ _ _ _ a,Below.heap_setCell _ _ _ _ a,Below.heap_setCell _ _ _ _ a,Below.heap_setCell _ _ _ _ a,Below.heap_setCell _ _ _ _ a,Below.heap_setCell _ _ _ _ a,Below.heap_setCell _ _ _ _ a,Below.heap_setCell _ _ _ _ a,Below.heap_setCell _ _ _ _ a]
 ·simp only[World.setCell]
 ·simp only[World.setCell]
 ·simp only[World.setCell]
 ·simp only[World.setCell,Array.size_modify,Nat.le_refl]
theorem qhp (w:World) (h:qla w b wv s):
 Calls Tryz.prog 39 #[.pointer (some ⟨b,0,none⟩)] w λe w'=>e=.returned (int i64 (qps s))/\qkh w b wv (qnz s) w':=by
 have g:Hid _:=h;have i:=h.box.cell 8 _ rfl;cases ho:s.opn
 ·rw[ho]at i;have d:Hid (qps s=6/\qnz s=s):=⟨by unfold qps;rw[ho];rfl,by unfold qnz;rw[ho];rfl⟩;clear h ho;go_enter Tryz.func39,Tryz.ntmps39
  go_wp2_with fail
  go_ret;refine⟨by rw[d.out.1];rfl,?_⟩;rw[d.out.2];exact qkh.same g.out (Below.refl _ _)
 ·rw[ho]at i;have d:Hid (qps s=0/\qnz s=qil s):=⟨by unfold qps;rw[ho];rfl,by unfold qnz;rw[ho];rfl⟩;have j:Below w.heap.size w w.drew:=(Below.refl _ w).drew;have c:=h.box.later j;clear h ho;go_enter Tryz.func39,Tryz.ntmps39
  go_wp2_with fail
  have m:=c.cell 0 _ rfl;have n:=c.cell 1 _ rfl;have o:=c.cell 2 _ rfl;have p:=c.cell 3 _ rfl;have q:=c.cell 4 _ rfl;have r:=c.cell 5 _ rfl;have t:=c.cell 6 _ rfl;have u:=c.cell 7 _ rfl
  go_region_law (refine qas rfl 80 #[.agg #[int i64 s.p0,int i64 s.p1,int i64 s.p2,int i64 s.p3],.agg #[int i64 s.s0,int i64 s.s1,int i64 s.s2,int i64 s.s3]] (by go_simp) (qnr s.p0 s.p1 s.p2 s.p3 s.s0 s.s1 s.s2 s.s3 _) ?_
                 rintro e wa ⟨rfl,l⟩;refine⟨_,rfl,?_⟩;have k:=qac j l;have a:=g.out.box.later k;have v:=a.cell 0 _ rfl;have x:=a.cell 1 _ rfl;have y:=a.cell 2 _ rfl;have z:=a.cell 3 _ rfl;have B:=a.cell 4 _ rfl;have C:=a.cell 5 _ rfl;have D:=a.cell 6 _ rfl;have E:=a.cell 7 _ rfl;have F:=a.cell 8 _ rfl;have G:=a.cell 9 _ rfl;have f0:=a.free 0 (by simp[qbl]);have f1:=a.free 1 (by simp[qbl]);have f2:=a.free 2 (by simp[qbl]);have f3:=a.free 3 (by simp[qbl]);have H:=a.free 4 (by simp[qbl]);have I:=a.free 5 (by simp[qbl]);have J:=a.free 6 (by simp[qbl]);have K:=a.free 7 (by simp[qbl]);have L:=a.free 8 (by simp[qbl])
                 have M:=a.free 9 (by simp[qbl]))
  all_goals
   go_wp2_with fail
   go_ret;refine⟨by rw[d.out.1];rfl,?_⟩;rw[d.out.2];exact q36 k a _ _ _ _
end
structure qj1 (w:World) (a:Option Addr) (cap:Nat) (l:List GrR):Prop where
 len:l.length<=cap
 cap:cap<=9223372036854775807
 held:l=[]\/∃b off,a=some ⟨b,off,none⟩/\∀i m r u,l[i]?=some m->(qc4 m)[r]?=some u->w.cell? ⟨b,off+(i*15+r),none⟩=some u
variable {w:World} {a:Option Addr} {l:List GrR}
theorem qj1.later {w':World} {cap:Nat} (hb:Below w.heap.size w w') (h:qj1 w a cap l):qj1 w' a cap l:=
 ⟨h.len,h.cap,h.held.elim .inl λ⟨b,d,e,c⟩=>.inr ⟨b,d,e,λi m r u f j=>cell_later hb (c i m r u f j)⟩⟩
theorem qyf {B:Nat} {T:TypeId} {v:Value} (h:w.ownsRow B T 15 v l.length (qhb l)):∃a cap,v=.slice a l.length cap/\qj1 w a cap l:=by
 rcases h.2 with ⟨rfl,b⟩|⟨g,cap,cur,rfl,hb,o,e,f,p,q⟩
 ·exact⟨none,0,by rw[b],⟨by omega,by omega,.inl (List.eq_nil_of_length_eq_zero b)⟩⟩
 ·refine⟨_,cap,rfl,⟨e,by simp only[maxLen]at f;omega,.inr ⟨g,0,rfl,λi m r u j k=>?_⟩⟩⟩;have d:=h.cells (g:=g) rfl _ _ (qx2 j k);rw[qb8]at d;rw[Nat.zero_add];exact d
theorem q2n (l:List GrR):∀u∈qhb l,u.oneCell'=true:=by
 intro u b;obtain⟨x,_,d⟩:=List.mem_flatMap.1 b;exact qoh x u d
theorem qt8:∀(l:List GrR) (j:Nat) (u:Value),(qhb l)[j]?=some u->∃m,l[j/15]?=some m/\(qc4 m)[j%15]?=some u
 |[],j,u,h=>by simp[qhb]at h
 |x::l,j,u,h=>by
  have e:qhb (x::l)=qc4 x++qhb l:=rfl;rw[e]at h;have b:(qc4 x).length=15:=rfl;by_cases d:j<15
  ·rw[List.getElem?_append_left (by rw[b];exact d)]at h;exact⟨x,by rw[Nat.div_eq_of_lt d];rfl,by rw[Nat.mod_eq_of_lt d];exact h⟩
  ·rw[List.getElem?_append_right (by rw[b];omega),b]at h;obtain⟨m,f,i⟩:=qt8 l (j-15) u h;refine⟨m,?_,?_⟩
   ·rw[show j/15=(j-15)/15+1 by omega];simpa using f
   ·rw[show j%15=(j-15)%15 by omega];exact i
variable {wb:Nat}
theorem q0o {b:Nat} (h:∀i m r u,l[i]?=some m->(qc4 m)[r]?=some u->w.cell? ⟨wb,b+(i*15+r),none⟩=some u):∀j u,(qhb l)[j]?=some u->w.cell? ((⟨wb,b,none⟩:Addr).add j)=some u:=λj u d=>by
 obtain⟨m,e,f⟩:=qt8 l j u d
 have k:(⟨wb,b,none⟩:Addr).add j=⟨wb,b+j,none⟩:=by unfold Addr.add;split<;>simp_all
 rw[k];have:=h (j/15) m (j%15) u e f;rw[show j/15*15+j%15=j by omega]at this;exact this
theorem qlf (w:World) (b:TypeId) (g n cap c:Nat) (d:n<=cap):(Builtin.append_ #[42,42] b #[.slice (some ⟨g,0,none⟩) n cap,.slice none 0 c]).run Tryz.prog w=.ok (.slice (some ⟨g,0,none⟩) n cap) w:=by
 simp[Builtin.append_,go_sem,Builtin.lenOf,Builtin.firstCells,d]
variable {g n c:Nat} {xs:List Value}
theorem qm7 (w:World) (f:TypeId) {cap:Nat} (b:w.ownsRow 0 122 15 (.slice (some ⟨g,0,none⟩) n cap) n xs) (m:qj1 w a c l) (G:n+l.length<=2000):
 ∃g' d w',(Builtin.append_ #[42,42] f #[.slice (some ⟨g,0,none⟩) n cap,.slice a l.length c]).run Tryz.prog w=.ok (.slice (some ⟨g',0,none⟩) (n+l.length) d) w'/\
  w'.ownsRow 0 122 15 (.slice (some ⟨g',0,none⟩) (n+l.length) d) (n+l.length) (xs++qhb l)/\w.grownBy w' (some g)/\(g'=g\/g'=w.heap.size)/\g'<w'.heap.size:=by
 obtain⟨o,p,q,r,s⟩:=info_parts qp2;have v:g<w.heap.size:=(b.lt g (by simp[Value.ownBlock])).2
 have x:n<=cap:=by
  rcases b.2 with ⟨h,_⟩|⟨H,I,cur,e,_,_,i,_⟩
  ·cases h
  ·injection e with _ _ e3;rw[e3];exact i
 cases a with
 |none=>
  have y:l=[]:=by
   rcases m.held with h|⟨_,_,h,_⟩
   ·exact h
   ·cases h
  subst y;refine⟨g,cap,w,qlf w f g n cap c x,?_,⟨rfl,rfl,rfl,Nat.le_refl _,λ_ _ _=>rfl⟩,.inl rfl,v⟩;show w.ownsRow 0 _ 15 _ n (xs++[]);rw[List.append_nil];exact b
 |some ad=>
  have z:∀j u,(qhb l)[j]?=some u->w.cell? (ad.add j)=some u:=by
   rcases m.held with h|⟨wb,J,h,B⟩
   ·subst h;intro j u C;simp[qhb]at C
   ·injection h with h;subst h;exact q0o B
  obtain⟨v',w',D,k,i,E,F⟩:=run_append_own_at (P:=Tryz.prog) w 0 42 f 122 o (.agg #[.int .i64 0,.int .i64 0,.int .i64 0,.int .i64 0,.int .i64 0,.int .i64 0,.int .i64 0,.int .i64 0,.int .i64 0,.slice none 0 0,.int .i64 0,.int .i64 0,.int .i64 0,.int .i64 0,.int .i64 0]) 15 136 Tryz.underlying42 p q r s rfl (by decide) (.slice (some ⟨g,0,none⟩) n cap) n xs b ad l.length c (qhb l) (qrx l) z (q2n l) (by simp only[maxLen];omega) (by omega) (Nat.zero_le _);rcases k.2 with ⟨e,_⟩|⟨g',d,cur,rfl,_,_⟩
  ·have:=(E.1 e).1;cases this
  ·refine⟨g',d,w',D,k,i,?_,(k.lt g' (by simp[Value.ownBlock])).2⟩;rcases F with h|h
   ·exact .inl (by simpa[Value.ownBlock]using h)
   ·exact .inr (by simpa[Value.ownBlock]using h)
theorem qd6 {d:Array Oper} {o:Oper} {a:Act} {K:Act->World->Prop} {Q:Exit->Act->World->Prop} {E:Prop} (w:World) (e:o.guard=none) (s x:Operand) (f:o.op=.call {callee:=.builtin .append,args:=#[s,x],argTypes:=#[42,42]})
 {cap:Nat} (i:a.eval s=.slice (some ⟨g,0,none⟩) n cap) (j:w.ownsRow 0 122 15 (.slice (some ⟨g,0,none⟩) n cap) n xs) {sa:Option Addr} (k:a.eval x=.slice sa l.length c) (m:qj1 w sa c l) (p:n+l.length<=2000)
 (h:∀g' b w',w'.ownsRow 0 122 15 (.slice (some ⟨g',0,none⟩) (n+l.length) b) (n+l.length) (xs++qhb l)->w.grownBy w' (some g)->(g'=g\/g'=w.heap.size)->g'<w'.heap.size->K (a.put o.dst (.slice (some ⟨g',0,none⟩) (n+l.length) b)) w'):
 if Region.wanted o (yielded d a.tmps)=true then Oper.wp Tryz.prog o a w K Q else E:=by
 have q:Region.wanted o (yielded d a.tmps)=true:=by simp[Region.wanted,e]
 rw[if_pos q];obtain⟨g',b,w',r,u,v,y,z⟩:=qm7 w o.type j m p;unfold Oper.wp execOp;simp only[f,resolve,invoke,builtin,Sem.run_bind,Sem.run_pure,Result.andThen_ok,List.map_toArray,List.map_cons,List.map_nil,i,k,r];exact h g' b w' u v y z
theorem qn0 (w:World) (T:TypeId) (b:w.heap.size=n):(w.alloc (.cells #[] T)).ownsRow 0 T 15 (.slice (some ⟨n,0,none⟩) 0 0) 0 []:=by
 subst b;exact⟨rfl,.inr ⟨w.heap.size,0,#[],rfl,Nat.zero_le _,heap_alloc_new w (.cells #[] T),Nat.le_refl _,by decide,rfl,rfl⟩⟩
theorem qj1.take {d:Nat} (h:qj1 w (some ⟨wb,d,none⟩) c l) (k:Nat) (s:k<=l.length):qj1 w (some ⟨wb,d,none⟩) c (l.take k):=by
 refine⟨by rw[List.length_take];have:=h.len;omega,h.cap,?_⟩;rcases h.held with f|⟨j,o,e,p⟩
 ·exact .inl (by rw[f];simp)
 ·refine .inr ⟨j,o,e,λi m r u b q=>p i m r u ?_ q⟩;rw[List.getElem?_take]at b;split at b
  ·exact b
  ·cases b
theorem qj1.drop {b:Nat} (h:qj1 w (some ⟨wb,b,none⟩) c l) (k:Nat) (p:k<=l.length):qj1 w (some ⟨wb,b+k*15,none⟩) (c-k) (l.drop k):=by
 refine⟨by rw[List.length_drop];have:=h.len;omega,by have:=h.cap;omega,?_⟩;rcases h.held with f|⟨q,s,e,j⟩
 ·exact .inl (by rw[f];simp)
 ·injection e with e;injection e with e1 e2;subst e1 e2;refine .inr ⟨_,_,rfl,λi m r u d o=>?_⟩;rw[List.getElem?_drop]at d;have:=j (k+i) m r u d o;rw[show b+k*15+(i*15+r)=b+((k+i)*15+r) by omega];exact this
theorem qsh (l b:List GrR):qhb (l++b)=qhb l++qhb b:=by simp[qhb]
end Go.Proofs.YtemiamjnhoeniaaGreatDoor
