import Derived.Test.YtemiamjnhoeniaaGreatDoorPgRead
set_option maxHeartbeats 8000000
set_option maxRecDepth 100000
namespace Go.Proofs.YtemiamjnhoeniaaGreatDoor
section
open Go.Value Go.IntKind Go.RowKit
variable {S:qaf}
theorem qzh {waits:List TxM} {s:Int} {m:TxM} {v:Bool} (c:qrc waits s (qao s S.a0 S.a1 S.a2 S.a3+1) m v) (d:waits.map (·.t)=S.waits) (f:qm1 S.waits):
 (v=false->qd4 S s=none)/\(v=true->(qar S m.t=false->qd4 S s=none)/\(qar S m.t=true->qd4 S s=some m.t)):=by
 refine⟨λe=>qi3 (λx g i=>?_),λe=>?_⟩
 ·obtain⟨_,h⟩:=c.no e;rw[<-d]at g;obtain⟨y,n,rfl⟩:=List.mem_map.1 g;have o:=h y n;cases a:qar S y.t with
  |false=>rfl
  |true=>
   have:=(qgd a).1;rw[i]at this;exact absurd ⟨i,this⟩ o
 ·obtain⟨p,j,q⟩:=c.yes e
  have k:m.t∈S.waits:=by rw[<-d];exact List.mem_map.2 ⟨m,p,rfl⟩
  refine⟨λa=>?_,λa=>by rw[<-j];exact qwn f k a⟩;cases hp:qd4 S s with
  |none=>rfl
  |some y=>
   obtain⟨p1,p2,p3⟩:=qc8 hp;have l:=(qgd p3).1;rw[p2]at l;rw[f.uniq p1 k (by rw[p2,j]) (by rw[l,q]),a]at p3;cases p3
structure NxB (A b bm:Nat) (s D:Int) (w:World):Prop where
 c:w.cell? ⟨A,0,none⟩=some (.pointer (some ⟨b,0,none⟩))
 m:w.cell? ⟨b,8,none⟩=some (.map (some bm))
 d:w.cell? ⟨b,1+s.toNat,none⟩=some (int i64 D)
variable {A b bm:Nat} {lv:Value} {F:Nat->Prop}
theorem qwp {log waits:List TxM} (s:Int) (w:World) (E:w.cell? ⟨A,0,none⟩=some (.pointer (some ⟨b,0,none⟩))) (h:qc9 w b lv bm F S log waits) (L:waits.map (·.t)=S.waits) (x:qcr S) (M:0<=s) (N:s<=3):
 Calls Tryz.prog 169 #[int i64 s,.pointer (some ⟨A,0,none⟩)] w λe w'=>e=.returned (.bool (qd4 S s).isSome)/\Below w.heap.size w w':=by
 have y:=x.dep s;have O:=x.nums;have P:wfI (qao s S.a0 S.a1 S.a2 S.a3+1):=⟨by have:=y.1;omega,by have:=y.2;omega⟩;have Q:wfI s:=⟨by omega,by omega⟩;obtain⟨m,v,z⟩:=qxv waits s (qao s S.a0 S.a1 S.a2 S.a3+1);have R:=qzh z L O
 have G:v=true->0<=m.t.site/\m.t.site<=3:=λe=>by rw[(z.yes e).2.1];exact⟨M,N⟩
 have B:NxB A b bm s (qao s S.a0 S.a1 S.a2 S.a3) w.drew:=⟨E,h.box.cell 8 _ rfl,h.box.cell _ _ (qny M N)⟩;have C:Hid (∀W,Below w.heap.size w W->Calls Tryz.prog 168 #[.map (some bm),int i64 s,int i64 (qao s S.a0 S.a1 S.a2 S.a3+1)] W λe w'=>e=.returned (.tuple #[txV m,.bool v])/\Below W.heap.size W w'):=λW hb=>qtq z Q P W (h.later hb).map;have n:Hid (∀W,Below w.heap.size w W->v=true->∀r,qar S m.t=r->Calls Tryz.prog 150 #[.pointer (some ⟨b,0,none⟩),txV m] W λe w'=>e=.returned (.bool r)/\Below W.heap.size W w'):=λW hb U r l=>qmr m W (h.later hb) (G U).1 (G U).2 (x.dep _) l;have i:Hid _:=R;have V:=qek y;obtain⟨⟨site,seq,wall,count,d0,d1,d2,d3,ws⟩,a,cap⟩:=m;obtain⟨D,X⟩:∃D,qao s S.a0 S.a1 S.a2 S.a3=D:=⟨_,rfl⟩;rw[X]at V B C
 have Y:IntKind.i64.wrap (D+1)=D+1:=by rw[<-V];unfold wrap64 IntKind.wrap;simp[IntKind.signed,IntKind.bits];omega
 rw[<-Y]at C
 have h4:s<4:=by omega
 have hbl:=h.box.lt;have hal:A<w.heap.size:=World.block_lt_of_cell? _ _ E;have p:NxB A b bm s D w:=⟨B.c,B.m,B.d⟩;have Z:=λ(w':World) (h:Below w.heap.size w w')=>cell_later h p.c;have Y1:=λ(w':World) (h:Below w.heap.size w w')=>cell_later h p.m;have Y2:=λ(w':World) (h:Below w.heap.size w w')=>cell_later h p.d;have hbD:=(Below.refl w.heap.size w).drew;clear Y R z y O P Q G X x L h E;go_enter Tryz.func169,Tryz.ntmps169
 go_wp2_with fail
 go_region_held3 (λw'=>Below w.heap.size w w') (repeat (first|(with_reducible assumption)|(with_reducible exact Below.refl _ _)|(with_reducible refine boxed ?_ _)|(with_reducible refine Below.drew ?_)|(refine Below.setCell ?_ (by first|(with_reducible exact Nat.le_refl _)|(have:=Below.size (by with_reducible assumption);simpa using this)) _)))
  (first
    |(go_at_call 168;with_reducible refine(C.out (w.alloc (.cells #[int i64 0,int i64 0,int i64 0,int i64 0,int i64 0,int i64 0,int i64 0,int i64 0,.slice none 0 0] 80)).drew ((boxed (Below.refl w.heap.size w) (.cells #[int i64 0,int i64 0,int i64 0,int i64 0,int i64 0,int i64 0,int i64 0,int i64 0,.slice none 0 0] 80)).drew)).mono ?_;rintro e w2 ⟨rfl,o⟩;have q:Below w.heap.size w w2:=qac ((boxed (Below.refl w.heap.size w) (.cells #[int i64 0,int i64 0,int i64 0,int i64 0,int i64 0,int i64 0,int i64 0,int i64 0,.slice none 0 0] 80)).drew) o;have g:=((qag.new (w:=w) (T:=80) [int i64 0,int i64 0,int i64 0,int i64 0,int i64 0,int i64 0,int i64 0,int i64 0,.slice none 0 0] rfl).drew).later o;have y0:=g.cell 0 _ rfl;have z0:=g.free 0 (by simp);have y1:=g.cell 1 _ rfl;have z1:=g.free 1 (by simp);have y2:=g.cell 2 _ rfl;have z2:=g.free 2 (by simp);have y3:=g.cell 3 _ rfl;have z3:=g.free 3 (by simp);have y4:=g.cell 4 _ rfl;have z4:=g.free 4 (by simp);have y5:=g.cell 5 _ rfl;have z5:=g.free 5 (by simp);have y6:=g.cell 6 _ rfl;have z6:=g.free 6 (by simp);have y7:=g.cell 7 _ rfl;have z7:=g.free 7 (by simp);have y8:=g.cell 8 _ rfl;have z8:=g.free 8 (by simp);simp only[txV])
    |(go_at_call 168;with_reducible refine(C.out _ (by with_reducible assumption)).mono ?_;rintro e w2 ⟨rfl,o⟩;have q:Below w.heap.size w w2:=qac (by with_reducible assumption) o;simp only[txV]))
 ·have j:=boxed q (.cells #[int i64 site,int i64 seq,int i64 wall,int i64 count,int i64 d0,int i64 d1,int i64 d2,int i64 d3,.slice a ws.length cap] 80);have H:=qag.new (w:=w2) (T:=80) [int i64 site,int i64 seq,int i64 wall,int i64 count,int i64 d0,int i64 d1,int i64 d2,int i64 d3,.slice a ws.length cap] rfl;have b0:=cell_later j p.c;obtain⟨c0,c1,c2,c3,c4,c5,c6,c7,c8⟩:=H.c9;clear Z Y1 Y2 q o;cases v
  ·have I:Hid _:=i.out.1 rfl;clear i n
   go_wp2_with fail
   go_ret;exact⟨by rw[I.out];rfl,j⟩
  ·obtain⟨r,l⟩:∃r,qar S ⟨site,seq,wall,count,d0,d1,d2,d3,ws⟩=r:=⟨_,rfl⟩;have k:Hid _:=l;clear l;have u:=n.out _ j rfl r k.out
   have J:Hid ((qd4 S s).isSome=r):=by
        show _=_;cases r
        ·rw[((i.out.2 rfl).1 k.out)];rfl
        ·rw[((i.out.2 rfl).2 k.out)];rfl
   clear i n k;simp only[txV]at u
   go_wp2_with fail
   refine u.mono ?_;rintro e w3 ⟨rfl,K⟩
   go_wp2_with fail
   go_ret;exact⟨by rw[J.out];rfl,qac j K⟩
 ·have j:=qfu q (Nat.le_refl _) site seq wall count d0 d1 d2 d3 (.slice a ws.length cap);have H:=qbk g rfl site seq wall count d0 d1 d2 d3 (.slice a ws.length cap);clear g y0 y1 y2 y3 y4 y5 y6 y7 y8 z0 z1 z2 z3 z4 z5 z6 z7 z8;have b0:=cell_later j p.c;obtain⟨c0,c1,c2,c3,c4,c5,c6,c7,c8⟩:=H.c9;clear Z Y1 Y2 q o;cases v
  ·have I:Hid _:=i.out.1 rfl;clear i n
   go_wp2_with fail
   go_ret;exact⟨by rw[I.out];rfl,j⟩
  ·obtain⟨r,l⟩:∃r,qar S ⟨site,seq,wall,count,d0,d1,d2,d3,ws⟩=r:=⟨_,rfl⟩;have k:Hid _:=l;clear l;have u:=n.out _ j rfl r k.out
   have J:Hid ((qd4 S s).isSome=r):=by
        show _=_;cases r
        ·rw[((i.out.2 rfl).1 k.out)];rfl
        ·rw[((i.out.2 rfl).2 k.out)];rfl
   clear i n k;simp only[txV]at u
   go_wp2_with fail
   refine u.mono ?_;rintro e w3 ⟨rfl,K⟩
   go_wp2_with fail
   go_ret;exact⟨by rw[J.out];rfl,qac j K⟩
def qnj (S:qaf):Nat->Option TxP
 |0=>none
 |n+1=>match qnj S n with
  |some x=>some x
  |none=>qd4 S n
theorem qnw (S:qaf):qnj S 4=qgw S:=by
 cases h0:qd4 S 0<;>cases h1:qd4 S 1<;>cases h2:qd4 S 2<;>simp[qnj,qgw,h0,h1,h2]
def q3l (S:qaf) (e:Ending):Prop:=(∃x,qgw S=some x/\e=.returned (.tuple #[int i64 x.site,.bool true]))\/(qgw S=none/\e=.returned (.tuple #[int i64 0,.bool false]))
theorem qyo {log waits:List TxM} (w:World) (n:w.cell? ⟨A,0,none⟩=some (.pointer (some ⟨b,0,none⟩))) (h:qc9 w b lv bm F S log waits) (o:waits.map (·.t)=S.waits) (p:qcr S):
 Calls Tryz.prog 170 #[.func (.func 169) #[] #[.pointer (some ⟨A,0,none⟩)]] w λe w'=>
  q3l S e/\Below w.heap.size w w':=by
 have r:Hid (∀W,Below w.heap.size w W->∀s,0<=s->s<=3->Calls Tryz.prog 169 #[int i64 s,.pointer (some ⟨A,0,none⟩)] W λe w'=>e=.returned (.bool (qd4 S s).isSome)/\Below W.heap.size W w'):=λW hb s u q=>qwp s W (cell_later hb n) (h.later hb) o p u q;clear n h o p;go_enter Tryz.func170,Tryz.ntmps170
 go_wp2_with fail
 go_loopw [5] (λiv wr=>∃(k:Nat) (z:Int),k<=4/\z=k/\iv=int i64 z/\Hid (qnj S k=none)/\Below w.heap.size w wr) (λi _=>4-(intOf i).toNat)
 case atStart=>exact⟨0,0,by omega,rfl,rfl,rfl,Below.refl _ _⟩
 case round=>
  obtain⟨k,z,D,a,rfl,l,hb⟩:=hrel;have c:Hid _:=a;by_cases E:k<4
  ·have y:z<4:=by omega
   have q:0<=z:=by omega
   have d:=r.out wr hb z (by omega) (by omega);cases hp:qd4 S z with
   |none=>
    have g:Hid _:=hp;rw[hp]at d;clear a hp
    go_wp2_with fail
    refine d.mono ?_;rintro e w2 ⟨rfl,m⟩
    go_wp2_with fail
    go_roundw
    case rel=>
     refine⟨k+1,z+1,by omega,by have:=c.out;omega,by go_num,?_,qac hb m⟩;show qnj S (k+1)=none;simp only[qnj];rw[l.out,<-c.out];exact g.out
    case measure=>simp[intOf];have:=c.out;omega
   |some x=>
    have g:Hid _:=hp;rw[hp]at d;clear a hp
    go_wp2_with fail
    refine d.mono ?_;rintro e w2 ⟨rfl,m⟩
    go_wp2_with fail
    refine bodyPost_ret (v:=.tuple #[int i64 z,.bool true]) (by simp[results,Tryz.results170,go_sem]) rfl ⟨.inl ⟨x,?_,by rw[(qc8 g.out).2.1]⟩,qac hb m⟩
    have B:qnj S (k+1)=some x:=by
     simp only[qnj];rw[l.out,<-c.out];exact g.out
    have C:∀j,qnj S (k+1+j)=some x:=λj=>by
     induction j with
     |zero=>exact B
     |succ j ih=>rw[<-Nat.add_assoc];simp only[qnj];rw[ih]
    have:=C (3-k);rw[show k+1+(3-k)=4 by omega,qnw]at this;exact this
  ·have y:¬z<4:=by omega
   obtain rfl:k=4:=by omega
   clear a
   go_wp2_with fail
   exact bodyPost_ret (v:=.tuple #[int i64 0,.bool false]) (by simp[results,Tryz.results170,go_sem]) rfl ⟨.inr ⟨by rw[<-qnw];exact l.out,rfl⟩,hb⟩
end
section
open Go.Value Go.IntKind Go.RowKit
theorem qpx (a c d i:Int):qio a c d i<0↔0<qio d i a c:=by
 rcases qdw a c d i with ⟨h,e⟩|⟨h,e⟩|⟨h,e⟩<;>rcases qdw d i a c with ⟨g,f⟩|⟨g,f⟩|⟨g,f⟩<;>rw[e,f]<;>constructor<;>intro k<;>omega
theorem q2p {lw lc a c x y:Int} (d:(if 0<qio a c lw lc then a else lw)=x) (g:(if 0<qio a c lw lc then c else lc)=y) (w:World):
 Calls Tryz.prog 165 #[.agg #[int i64 lw,int i64 lc],.agg #[int i64 a,int i64 c]] w λe w'=>e=.returned (.agg #[int i64 x,int i64 y])/\Below w.heap.size w w':=by
 subst d g;by_cases h:0<qio a c lw lc
 ·rw[if_pos h,if_pos h];exact q4l lw lc a c w ((qpx lw lc a c).2 h)
 ·rw[if_neg h,if_neg h];exact q4r lw lc a c w (λe=>h ((qpx lw lc a c).1 e))
structure qmd (w0:World) (b:Nat) (lv:Value) (bm:Nat) (F:Nat->Prop) (S:qaf) (log waits:List TxM) (m:TxM) (k:Nat) (F':Nat->Prop) (wr:World):Prop where
 mem:qc9 wr b lv bm F' {S with l:=qfl m.t (m.t.ws.take k) S.l} log waits
 box:qag wr w0.heap.size (txC m)
 far:¬qa4 b lv bm F' w0.heap.size
 foot:∀j,qa4 b lv bm F' j->qa4 b lv bm F j\/w0.heap.size<=j
 touch:qae (qa4 b lv bm F) w0 wr
variable {w0 wr w':World} {b bm k:Nat} {lv:Value} {F F':Nat->Prop} {S:qaf} {m:TxM}
theorem qmd.later {log waits:List TxM} (h:qmd w0 b lv bm F S log waits m k F' wr) (hb:Below wr.heap.size wr w'):qmd w0 b lv bm F S log waits m k F' w':=
 ⟨h.mem.later hb,h.box.later hb,h.far,h.foot,h.touch.trans (qae.ofBelow hb)⟩
theorem qmd.put {log waits:List TxM} (h:qmd w0 b lv bm F S log waits m k F' wr) (f:k<m.t.ws.length)
 (g:qjg wr b 25 F' (qfd (qfl m.t (m.t.ws.take k) S.l) (qff m.t.ws k).key (qrg m.t (qff m.t.ws k))) w'):∃c,qmd w0 b lv bm F S log waits m (k+1) c w':=by
 obtain⟨c,i,e,d⟩:=h.mem.store g;refine⟨c,by rw[qof f];exact i,h.box.kept (d.block _ h.box.lt h.far) d.size,λn=>?_,λj o=>?_,h.touch.more d h.foot⟩
 ·rcases e _ n with a|a
  ·exact h.far a
  ·have:=h.box.lt;omega
 ·rcases e j o with a|a
  ·exact h.foot j a
  ·exact .inr (by have:=h.touch.size;omega)
theorem qmd.outside {log waits:List TxM} {c:Nat} {xs:List Value} {e:List Hd} (h:qmd w0 b lv bm F S log waits m k F' wr)
 (f:qjg wr b 25 F' e w') (d:qag wr c xs) (g:¬qa4 b lv bm F' c):ApB w0.heap.size c (txC m) xs w':=by
 obtain⟨i,j,l,a⟩:=h.mem.store f;exact⟨h.box.kept (a.block _ h.box.lt h.far) a.size,d.kept (a.block _ d.lt g) a.size⟩
structure PaE (w0:World) (b:Nat) (lv:Value) (bm:Nat) (F:Nat->Prop) (S:qaf) (log waits:List TxM) (m:TxM) (F':Nat->Prop) (wr:World):Prop where
 mem:qc9 wr b lv bm F' S log waits
 box:qag wr w0.heap.size (txC m)
 far:¬qa4 b lv bm F' w0.heap.size
 foot:∀j,qa4 b lv bm F' j->qa4 b lv bm F j\/w0.heap.size<=j
 touch:qae (qa4 b lv bm F) w0 wr
theorem PaE.later {log waits:List TxM} (h:PaE w0 b lv bm F S log waits m F' wr) (hb:Below wr.heap.size wr w'):PaE w0 b lv bm F S log waits m F' w':=
 ⟨h.mem.later hb,h.box.later hb,h.far,h.foot,h.touch.trans (qae.ofBelow hb)⟩
theorem PaE.seq {log waits:List TxM} (h:PaE w0 b lv bm F S log waits m F' wr) {s:Int} (x:Int) (a:0<=s) (c:s<=3):
 PaE w0 b lv bm F {S with a0:=qf8 s x S.a0,a1:=qf7 s x S.a1,a2:=qgf s x S.a2,a3:=qf5 s x S.a3} log waits m F' (wr.setCell ⟨b,1+s.toNat,none⟩ (int i64 x)):=
 ⟨h.mem.seq x a c,h.box.far _ _ (λe=>h.far (.inl e.symm)),h.far,h.foot,h.touch.trans (qae.setCell wr ⟨b,1+s.toNat,none⟩ _ (.inl rfl))⟩
theorem PaE.last {log waits:List TxM} (h:PaE w0 b lv bm F S log waits m F' wr) (x y:Int):
 PaE w0 b lv bm F {S with lw:=x,lc:=y} log waits m F' ((wr.setCell ⟨b,5,none⟩ (int i64 x)).setCell ⟨b,6,none⟩ (int i64 y)):=
 ⟨h.mem.last x y,(h.box.far _ _ (λe=>h.far (.inl e.symm))).far _ _ (λe=>h.far (.inl e.symm)),h.far,h.foot,(h.touch.trans (qae.setCell wr ⟨b,5,none⟩ _ (.inl rfl))).trans (qae.setCell _ ⟨b,6,none⟩ _ (.inl rfl))⟩
theorem PaE.append {log waits:List TxM} {c:World} (h:PaE w0 b lv bm F S log waits m F' wr) (a:qat w0 m.wa m.wc m.t.ws/\∀k,m.blk k->¬qa4 b lv bm F k) {g f:Nat} (gr:wr.grownBy c lv.ownBlock)
 (n:c.ownsRow 0 80 9 (.slice (some ⟨g,0,none⟩) (log.length+1) f) (log.length+1) (qef log++txC m)) (o:lv.ownBlock=some g\/wr.heap.size<=g):
 ∃i j,qc9 (c.setCell ⟨b,7,none⟩ (.slice (some ⟨g,0,none⟩) (log.length+1) f)) b i bm j S (log++[m]) waits/\(∀k,qa4 b i bm j k->qa4 b lv bm F k\/w0.heap.size<=k)/\qae (qa4 b lv bm F) w0 (c.setCell ⟨b,7,none⟩ (.slice (some ⟨g,0,none⟩) (log.length+1) f)):=by
 obtain⟨d,p,q⟩:=h.mem.append m ⟨a.1.kept (λk e=>h.touch.block k (a.1.blk_lt k e) (a.2 k e)),λk e r=>by
  rcases h.foot k r with d|d
  ·exact a.2 k e d
  ·have:=a.1.blk_lt k e
   omega⟩ gr n o
 refine⟨_,_,d,λk s=>?_,h.touch.more q h.foot⟩;rcases p k s with l|l
 ·exact h.foot k l
 ·exact .inr (by have:=h.touch.size;omega)
theorem qqd {log waits:List TxM} (m:TxM) (w:World) (h:qc9 w b lv bm F S log waits) (I:qat w m.wa m.wc m.t.ws/\∀k,m.blk k->¬qa4 b lv bm F k) (hs0:0<=m.t.site) (hs1:m.t.site<=3) (hl:S.l.length+m.t.ws.length<=1000) (hlog:log.length<=1000):
 Calls Tryz.prog 137 #[.pointer (some ⟨b,0,none⟩),.agg #[int i64 m.t.site,int i64 m.t.seq,int i64 m.t.wall,int i64 m.t.count,int i64 m.t.d0,int i64 m.t.d1,int i64 m.t.d2,int i64 m.t.d3,.slice m.wa m.t.ws.length m.wc]] w λe w'=>
  e=.returned (.tuple #[])/\∃p F',qc9 w' b p bm F' (qbr S m.t) (log++[m]) waits/\(∀k,qa4 b p bm F' k->qa4 b lv bm F k\/w.heap.size<=k)/\qae (qa4 b lv bm F) w w':=by
 have hb:=boxed (Below.refl _ w) (.cells #[int i64 m.t.site,int i64 m.t.seq,int i64 m.t.wall,int i64 m.t.count,int i64 m.t.d0,int i64 m.t.d1,int i64 m.t.d2,int i64 m.t.d3,.slice m.wa m.t.ws.length m.wc] 80);have P:=qag.new (w:=w) (T:=80) (txC m) rfl;change qag (w.alloc (.cells #[int i64 m.t.site,int i64 m.t.seq,int i64 m.t.wall,int i64 m.t.count,int i64 m.t.d0,int i64 m.t.d1,int i64 m.t.d2,int i64 m.t.d3,.slice m.wa m.t.ws.length m.wc] 80)) w.heap.size (txC m)at P
 have Q:qmd w b lv bm F S log waits m 0 F (w.alloc (.cells #[int i64 m.t.site,int i64 m.t.seq,int i64 m.t.wall,int i64 m.t.count,int i64 m.t.d0,int i64 m.t.d1,int i64 m.t.d2,int i64 m.t.d3,.slice m.wa m.t.ws.length m.wc] 80)):=
  ⟨by simpa[qfl]using h.later hb,P,λe=>Nat.lt_irrefl _ (h.lt _ e),λj hj=>.inl hj,qae.ofBelow hb⟩
 have J:Hid _:=I;have hc1:=I.1.len;have hc2:=I.1.cap;clear I hb P;go_enter Tryz.func137,Tryz.ntmps137
 go_wp2_with fail
 obtain⟨W,hWW⟩:∃W,w.alloc (.cells #[int i64 m.t.site,int i64 m.t.seq,int i64 m.t.wall,int i64 m.t.count,int i64 m.t.d0,int i64 m.t.d1,int i64 m.t.d2,int i64 m.t.d3,.slice m.wa m.t.ws.length m.wc] 80)=W:=⟨_,rfl⟩;rw[hWW]at Q ⊢;clear hWW
 go_loopw [9] (λiv wr=>∃(k:Nat) (z:Int) (F':Nat->Prop),k<=m.t.ws.length/\z=k/\iv=int i64 z/\Hid (qmd w b lv bm F S log waits m k F' wr)) (λi _=>m.t.ws.length-(intOf i).toNat)
 case atStart=>exact⟨0,0,F,by omega,rfl,rfl,Q⟩
 case round=>
  clear Q;obtain⟨k,z,F',hk,R,rfl,u⟩:=hrel;have HZ:Hid _:=R;by_cases y:k<m.t.ws.length
  ·have c:z<(m.t.ws.length:Int):=by omega
   have h2:z.toNat=k:=by omega
   have h3:0<=z:=by omega
   clear R
   obtain⟨d,q,K,hcc⟩:∃d q,m.wa=some ⟨d,q,none⟩/\qcy w d q m.t.ws:=by
        rcases J.out.1.held with U|U
        ·rw[U]at y;simp at y
        ·exact U
   have V:m.blk d:=⟨λe=>by rw[e]at y;simp at y,q,K⟩;have hwl:=J.out.1.blk_lt d V;have L:=u.out.touch.block d hwl (J.out.2 d V);obtain⟨⟨xk,xd,xg⟩,X⟩:∃x,qff m.t.ws k=x:=⟨_,rfl⟩;have D:=hcc k y;rw[X]at D
   have x0:wr.cell? ⟨d,q+k*3,none⟩=some (int i64 xk):=by rw[World.cell?_of_block (w:=w) L];exact D.1
   have x1:wr.cell? ⟨d,q+k*3+1,none⟩=some (.string xd):=by rw[World.cell?_of_block (w:=w) L];exact D.2.1
   have x2:wr.cell? ⟨d,q+k*3+2,none⟩=some (.bool xg):=by rw[World.cell?_of_block (w:=w) L];exact D.2.2
   have HX:Hid _:=X;have HWA:Hid _:=K;rw[K];clear hcc V L D X K hwl;have hbx:=boxed (Below.refl _ wr) (.cells #[int i64 xk,.string xd,.bool xg] 34);have E:=(u.out.later hbx).later (Below.refl _ (wr.alloc (.cells #[int i64 xk,.string xd,.bool xg] 34))).drew;have M:=(qag.new (w:=wr) (T:=34) [int i64 xk,.string xd,.bool xg] rfl).drew;change qag (wr.alloc (.cells #[int i64 xk,.string xd,.bool xg] 34)).drew wr.heap.size [int i64 xk,.string xd,.bool xg]at M;have SB:ApB w.heap.size wr.heap.size (txC m) [int i64 xk,.string xd,.bool xg] (wr.alloc (.cells #[int i64 xk,.string xd,.bool xg] 34)).drew:=⟨E.box,M⟩
   have hll:(qfl m.t (m.t.ws.take k) S.l).length<=1000:=by
        have:=qfs m.t (m.t.ws.take k) S.l;rw[List.length_take]at this;omega
   have Y:Hid (Calls Tryz.prog 164 #[.pointer (some ⟨b,25,none⟩),int i64 xk,.agg #[int i64 m.t.wall,int i64 m.t.count,int i64 m.t.site,int i64 m.t.seq,.string xd,.bool xg]] (wr.alloc (.cells #[int i64 xk,.string xd,.bool xg] 34)).drew λe w'=>e=.returned (qa9 (qgs (qfl m.t (m.t.ws.take k) S.l) xk ⟨m.t.wall,m.t.count,m.t.site,m.t.seq,xd,xg⟩))/\ApB w.heap.size wr.heap.size (txC m) [int i64 xk,.string xd,.bool xg] w'/\∃o,Hid (qmd w b lv bm F S log waits m (k+1) o w')):=
        (q0s xk ⟨m.t.wall,m.t.count,m.t.site,m.t.seq,xd,xg⟩ _ E.mem.st hll).mono λe w' ⟨Z,hp⟩=>⟨Z,E.outside hp M (λhf=>Nat.lt_irrefl _ (u.out.mem.lt _ hf)),E.put y (by rw[HX.out];exact hp)⟩
   have T0:=λ(w':World) (h:ApB w.heap.size wr.heap.size (txC m) [int i64 xk,.string xd,.bool xg] w')=>h.t.cell 0 _ rfl;have T1:=λ(w':World) (h:ApB w.heap.size wr.heap.size (txC m) [int i64 xk,.string xd,.bool xg] w')=>h.t.cell 1 _ rfl;have T2:=λ(w':World) (h:ApB w.heap.size wr.heap.size (txC m) [int i64 xk,.string xd,.bool xg] w')=>h.t.cell 2 _ rfl;have T3:=λ(w':World) (h:ApB w.heap.size wr.heap.size (txC m) [int i64 xk,.string xd,.bool xg] w')=>h.t.cell 3 _ rfl;have X0:=λ(w':World) (h:ApB w.heap.size wr.heap.size (txC m) [int i64 xk,.string xd,.bool xg] w')=>h.x.cell 0 _ rfl;have X1:=λ(w':World) (h:ApB w.heap.size wr.heap.size (txC m) [int i64 xk,.string xd,.bool xg] w')=>h.x.cell 1 _ rfl;have X2:=λ(w':World) (h:ApB w.heap.size wr.heap.size (txC m) [int i64 xk,.string xd,.bool xg] w')=>h.x.cell 2 _ rfl;clear E M hbx hll u
   go_wp2_with fail
   go_region_held3 (λw'=>ApB w.heap.size wr.heap.size (txC m) [int i64 xk,.string xd,.bool xg] w') (with_reducible assumption)
        (first|(go_at_call 164;with_reducible refine Y.out.mono ?_;rintro e w5 ⟨rfl,SB5,o,AM3⟩))
   all_goals
        go_wp2_with fail
        go_roundw
        case rel=>exact⟨k+1,z+1,o,by omega,by have:=HZ.out;omega,by go_num,AM3⟩
        case measure=>simp[intOf];have:=HZ.out;omega
  ·have h4:¬z<(m.t.ws.length:Int):=by omega
   obtain rfl:k=m.t.ws.length:=by omega
   clear R
   have G:Hid (PaE w b lv bm F {S with l:=qfl m.t m.t.ws S.l} log waits m F' wr):=by
        have H:=u.out;refine⟨?_,H.box,H.far,H.foot,H.touch⟩;have:=H.mem;rw[List.take_length]at this;exact this
   have BX:=G.out.box;have t0:=BX.cell 0 _ rfl;have t1:=BX.cell 1 _ rfl;have s1:=G.out.mem.box.free (1+m.t.site.toNat) (by simp[qb4];omega);obtain⟨ov,s0⟩:∃v,wr.cell? ⟨b,1+m.t.site.toNat,none⟩=some v:=⟨_,G.out.mem.box.cell (1+m.t.site.toNat) _ (List.getElem?_eq_getElem (by simp[qb4];omega))⟩
   go_wp2_with fail
   go_region
   have r:Hid _:=(G.out.seq m.t.seq hs0 hs1).later (Below.refl _ _).drew;obtain⟨W1,hW1⟩:∃W1,(wr.setCell ⟨b,1+m.t.site.toNat,none⟩ (int i64 m.t.seq)).drew=W1:=⟨_,rfl⟩;rw[hW1]at r ⊢;clear hW1 G u BX t0 t1 s0 s1;have t2:=r.out.box.cell 2 _ rfl;have t3:=r.out.box.cell 3 _ rfl;have l5:=r.out.mem.box.cell 5 _ rfl;have l6:=r.out.mem.box.cell 6 _ rfl;obtain⟨N,hlw⟩:∃x,(if 0<qio m.t.wall m.t.count S.lw S.lc then m.t.wall else S.lw)=x:=⟨_,rfl⟩;obtain⟨O,hlc⟩:∃x,(if 0<qio m.t.wall m.t.count S.lw S.lc then m.t.count else S.lc)=x:=⟨_,rfl⟩;have HLW:Hid ((if 0<qio m.t.wall m.t.count S.lw S.lc then m.t.wall else S.lw)=N/\(if 0<qio m.t.wall m.t.count S.lw S.lc then m.t.count else S.lc)=O):=⟨hlw,hlc⟩
   have Y:Hid (Calls Tryz.prog 165 #[.agg #[int i64 S.lw,int i64 S.lc],.agg #[int i64 m.t.wall,int i64 m.t.count]] W1.drew λe w'=>e=.returned (.agg #[int i64 N,int i64 O])/\Hid (PaE w b lv bm F {S with l:=qfl m.t m.t.ws S.l,a0:=qf8 m.t.site m.t.seq S.a0,a1:=qf7 m.t.site m.t.seq S.a1,a2:=qgf m.t.site m.t.seq S.a2,a3:=qf5 m.t.site m.t.seq S.a3} log waits m F' w')):=
        (q2p hlw hlc W1.drew).mono λe w' ⟨Z,hb'⟩=>⟨Z,r.out.later (qac (Below.refl _ W1).drew hb')⟩
   clear hlw hlc r
   go_wp2_with fail
   go_region_with
        (first|(go_at_call 165;with_reducible refine Y.out.mono ?_;rintro e w5 ⟨rfl,B⟩;have k5:=B.out.mem.box.cell 5 _ rfl;have k6:=B.out.mem.box.cell 6 _ rfl;have q5:=B.out.mem.box.free 5 (by simp[qb4]);have q6:=B.out.mem.box.free 6 (by simp[qb4])))
   all_goals
        have n:Hid _:=B.out.last N O;obtain⟨a,hw6⟩:∃a,(w5.setCell ⟨b,5,none⟩ (int i64 N)).setCell ⟨b,6,none⟩ (int i64 O)=a:=⟨_,rfl⟩;rw[hw6]at n ⊢;clear hw6 B k5 k6 q5 q6 t2 t3 l5 l6
        have FIN9:∀(S9:qaf) (a:World),Hid (PaE w b lv bm F S9 log waits m F' a)->{S9 with log:=S.log++[m.t]}=qbr S m.t->∀(g C:Nat) (s:World),(a.drew.alloc (.cells #[int i64 m.t.site,int i64 m.t.seq,int i64 m.t.wall,int i64 m.t.count,int i64 m.t.d0,int i64 m.t.d1,int i64 m.t.d2,int i64 m.t.d3,.slice m.wa m.t.ws.length m.wc] 80)).grownBy s lv.ownBlock->
         s.ownsRow 0 80 9 (.slice (some ⟨g,0,none⟩) (log.length+1) C) (log.length+1) (qef log++txC m)->(lv.ownBlock=some g\/g=(a.drew.alloc (.cells #[int i64 m.t.site,int i64 m.t.seq,int i64 m.t.wall,int i64 m.t.count,int i64 m.t.d0,int i64 m.t.d1,int i64 m.t.d2,int i64 m.t.d3,.slice m.wa m.t.ws.length m.wc] 80)).heap.size)->
         Hid (∃p o,qc9 (s.setCell ⟨b,7,none⟩ (.slice (some ⟨g,0,none⟩) (log.length+1) C)) b p bm o (qbr S m.t) (log++[m]) waits/\(∀k,qa4 b p bm o k->qa4 b lv bm F k\/w.heap.size<=k)/\qae (qa4 b lv bm F) w (s.setCell ⟨b,7,none⟩ (.slice (some ⟨g,0,none⟩) (log.length+1) C))):=λS9 a A e g C s gr ow eg=>by
         have A':=A.out.later (boxed ((Below.refl _ a).drew) (.cells #[int i64 m.t.site,int i64 m.t.seq,int i64 m.t.wall,int i64 m.t.count,int i64 m.t.d0,int i64 m.t.d1,int i64 m.t.d2,int i64 m.t.d3,.slice m.wa m.t.ws.length m.wc] 80));obtain⟨p,o,c,h2,h3⟩:=A'.append J.out gr ow (eg.imp id (λe=>Nat.le_of_eq e.symm));rw[<-e];exact⟨p,o,⟨c.box,c.st,c.rlog,c.map,c.nl,c.nm,c.lm,c.lf,c.mf,c.hold⟩,h2,h3⟩
        obtain⟨i0,hi,hz0,hz1,hz2⟩:=info_parts qqr;have AP:=FIN9 _ a n (by simp only[qbr];obtain⟨e1,e2⟩:=HLW.out;rw[e1,e2]);obtain⟨t0,t1,t2,t3,t4,t5,t6,t7,t8⟩:=n.out.box.c9;have s7:=n.out.mem.box.cell 7 _ rfl;have f7:=n.out.mem.box.free 7 (by simp[qb4]);have own6:a.drew.ownsRow 0 80 9 lv log.length (qef log):=n.out.mem.rlog;have hsb:=n.out.mem.box.lt;have nb:some b≠lv.ownBlock:=λe=>n.out.mem.nl e.symm;have bx:qag a b (qb4 _ lv bm):=n.out.mem.box;clear FIN9
        go_wp2_with fail
        go_region_law (refine step_append_lies _ rfl (.tmp 53) (.tmp 55) 53 rfl 0 80 i0 (.agg #[int i64 0,int i64 0,int i64 0,int i64 0,int i64 0,int i64 0,int i64 0,int i64 0,.slice none 0 0]) 9 88 Tryz.underlying53 hi hz0 hz1 hz2 rfl (by decide) lv log.length (qef log) (by simp[Act.eval]) (own6.alloc _) ⟨a.heap.size,0,none⟩ 1 1 (txC m) (by simp[Act.eval]) rfl (World.news_of_block (heap_alloc_new a.drew (.cells #[int i64 m.t.site,int i64 m.t.seq,int i64 m.t.wall,int i64 m.t.count,int i64 m.t.d0,int i64 m.t.d1,int i64 m.t.d2,int i64 m.t.d3,.slice m.wa m.t.ws.length m.wc] 80))) (qi4 m) (by decide) (by simp only[maxLen];omega) (by omega) (by simp) _ rfl ?_
                       intro g C s ownE grE egE ltE;have FIN:=AP g C s grE ownE egE;have BE:=((bx.drew).boxed (.cells #[int i64 m.t.site,int i64 m.t.seq,int i64 m.t.wall,int i64 m.t.count,int i64 m.t.d0,int i64 m.t.d1,int i64 m.t.d2,int i64 m.t.d3,.slice m.wa m.t.ws.length m.wc] 80)).grown grE nb;have s0E:=BE.cell 7 _ rfl
                       have s1E:=BE.free 7 (by simp[qb4]))
        all_goals
         go_wp2_with fail
         go_end0;exact⟨rfl,FIN.out⟩
end
section
open Tryz Go.RowKit
variable {v:Bool}
theorem qhr {n:Int} (h:inB n 0 3=v) (w:World):
 Calls prog 112 #[.int .i64 n] w λe w'=>e=.returned (.bool v)/\Below w.heap.size w w':=by
 subst h;by_cases a:0<=n
 ·by_cases b:n<4
  ·have e:Hid (inB n 0 3=true):=by show inB n 0 3=true;rw[qa5];omega
   go_enter func112,ntmps112
   go_wp2
   go_ret;exact⟨by rw[e.out];rfl,Below.refl _ _⟩
  ·have e:Hid (inB n 0 3=false):=by show inB n 0 3=false;simp[inB];omega
   go_enter func112,ntmps112
   go_wp2
   go_ret;exact⟨by rw[e.out];rfl,Below.refl _ _⟩
 ·have e:Hid (inB n 0 3=false):=by show inB n 0 3=false;simp[inB,a]
  go_enter func112,ntmps112
  go_wp2
  go_ret;exact⟨by rw[e.out];rfl,Below.refl _ _⟩
def qnl (data:ByteArray) (gone:Bool):Bool:=if gone then data.toList.isEmpty else decide ((data.size:Int)<=12)
theorem qp3 {key:Int} {data:ByteArray} {gone:Bool} (h:qnl data gone=v) (w:World):
 Calls prog 161 #[.agg #[.int .i64 key,.string data,.bool gone]] w λe w'=>e=.returned (.bool v)/\Below w.heap.size w w':=by
 subst h;cases gone
 ·by_cases a:(data.size:Int)<=12
  ·have e:Hid (qnl data false=true):=decide_eq_true a;go_enter func161,ntmps161
   go_wp2
   go_ret;exact⟨by rw[e.out];rfl,boxed (Below.refl _ _) _⟩
  ·have e:Hid (qnl data false=false):=decide_eq_false a;go_enter func161,ntmps161
   go_wp2
   go_ret;exact⟨by rw[e.out];rfl,boxed (Below.refl _ _) _⟩
 ·cases he:data.toList.isEmpty
  ·have e:Hid (qnl data true=false):=he;go_enter func161,ntmps161
   go_wp2
   go_ret;exact⟨by rw[e.out];rfl,boxed (Below.refl _ _) _⟩
  ·have e:Hid (qnl data true=true):=he;go_enter func161,ntmps161
   go_wp2
   go_ret;exact⟨by rw[e.out];rfl,boxed (Below.refl _ _) _⟩
def qr2 (l:List Wr) (k:Nat):Int:=if k=0 then-1 else (qff l (k-1)).key
theorem qri {data:ByteArray} (h:data.toList.isEmpty=true):data.size=0:=by
 have a:∀(n i:Nat) (r:List UInt8),data.size-i=n->(ByteArray.toList.loop data i r).length=r.length+n:=by
  intro n
  induction n with
  |zero=>
   intro i r b;unfold ByteArray.toList.loop;rw[if_neg (by omega)];simp
  |succ n ih=>
   intro i r b;unfold ByteArray.toList.loop;rw[if_pos (by omega),ih _ _ (by omega)];simp;omega
 have:=a data.size 0 [] (by omega);have e:data.toList=[]:=List.isEmpty_iff.1 h;rw[show ByteArray.toList.loop data 0 []=data.toList from rfl,e]at this;simpa using this.symm
variable {l:List Wr} {k:Nat}
theorem q04 {key:Int} {data:ByteArray} {gone:Bool} (a:qff l k=⟨key,data,gone⟩) (h:key<=qr2 l k):qhk l k=false:=by
 rw[qmf a];unfold qr2 at h;split at h
 ·exact qs5 (by simp[inB];omega)
 ·exact qt3 (by omega) h
theorem qzf {key:Int} {data:ByteArray} {gone:Bool} (a:qff l k=⟨key,data,gone⟩) (h:8<=key):qhk l k=false:=by
 rw[qmf a];exact qs5 (by simp[inB];omega)
theorem q16 {key:Int} {data:ByteArray} {gone:Bool} (a:qff l k=⟨key,data,gone⟩) (h:qnl data gone=false):qhk l k=false:=by
 rw[qmf a];cases gone
 ·exact qs8 (by have:=of_decide_eq_false (show decide ((data.size:Int)<=12)=false from h);omega)
 ·exact qpe rfl h
theorem q1m {key:Int} {data:ByteArray} {gone:Bool} (c:qff l k=⟨key,data,gone⟩) (d:∀j,j<k->qhk l j=true) (b:¬key<=qr2 l k) (e:¬8<=key) (h:qnl data gone=true):qhk l k=true:=by
 rw[qmf c]
 have a:¬12<(data.size:Int)/\(gone=false\/data.toList.isEmpty=true):=by
  cases gone
  ·exact⟨by have:=of_decide_eq_true (show decide ((data.size:Int)<=12)=true from h);omega,.inl rfl⟩
  ·have:=qri h;exact⟨by omega,.inr h⟩
 unfold qr2 at b;split at b
 ·exact qie (by rw[qa5];omega) (.inl (by assumption)) a.1 a.2
 ·have:=qon (d (k-1) (by omega));exact qie (by rw[qa5];omega) (.inr b) a.1 a.2
theorem qrb (b m cap:Nat) (l:List Wr) (w:World) (F:qcy w b m l) (G:¬(l.length:Int)<1) (M:¬5<(l.length:Int)):
 Calls prog 134 #[.slice (some ⟨b,m,none⟩) l.length cap] w λe w'=>e=.returned (.bool (qd7 l))/\Below w.heap.size w w':=by
 go_enter func134,ntmps134
 go_wp2_with fail
 go_loopw [3,16] (λp i wr=>∃(k:Nat) (z:Int),k<=l.length/\z=k/\i=.int .i64 z/\p=.int .i64 (qr2 l k)/\(∀j,j<k->qhk l j=true)/\Below w.heap.size w wr/\qcy wr b m l) (λ_ i _=>l.length-(intOf i).toNat)
 case atStart=>exact⟨0,0,by omega,rfl,rfl,rfl,λj H=>by omega,Below.refl _ _,F⟩
 case round=>
  obtain⟨k,z,N,s,rfl,rfl,u,hb,C⟩:=hrel;have n:Hid (∀j,j<k->qhk l j=true):=u;clear u;obtain⟨p,o⟩:∃p,qr2 l k=p:=⟨_,rfl⟩;rw[o];have y:Hid (qr2 l k=p):=o;clear o;by_cases g:k<l.length
  ·obtain⟨x0,x1,x2⟩:=C k g
   have G:z<(l.length:Int):=by omega
   have O:z.toNat=k:=by omega
   have P:0<=z:=by omega
   have I:Hid (z=k):=s;clear s;obtain⟨⟨key,data,gone⟩,q⟩:∃x,qff l k=x:=⟨_,rfl⟩;rw[q]at x0 x1 x2;have a:Hid (qff l k=⟨key,data,gone⟩):=q;clear q;simp only at x0 x1 x2;have h:=boxed hb (.cells #[.int .i64 key,.string data,.bool gone] 34);have J:=C.later (boxed (Below.refl _ wr) (.cells #[.int .i64 key,.string data,.bool gone] 34));by_cases B:key<=p
   ·have c:Hid (qd7 l=false):=qet g (q04 a.out (by rw[y.out];exact B))
    go_wp2_with fail
    go_ret;exact⟨by rw[c.out];rfl,h⟩
   ·by_cases D:8<=key
    ·have c:Hid (qd7 l=false):=qet g (qzf a.out D)
     go_wp2_with fail
     go_ret;exact⟨by rw[c.out];rfl,h⟩
    ·cases h8:qnl data gone
     ·have c:Hid (qd7 l=false):=qet g (q16 a.out h8);have r:Hid (qnl data gone=false):=h8;clear h8
      go_wp2_with (go_at_call 161;refine(qp3 r.out _).mono ?_;rintro e K ⟨rfl,d⟩)
      go_ret;exact⟨by rw[c.out];rfl,qac h d⟩
     ·have L:Hid (qhk l k=true):=q1m a.out n.out (by rw[y.out];exact B) D h8;have r:Hid (qnl data gone=true):=h8;clear h8
      have E:(wr.alloc (.cells #[.int .i64 key,.string data,.bool gone] 34)).cell? ⟨wr.heap.size,0,none⟩=some (.int .i64 key):=by go_simp
      go_wp2_with (go_at_call 161;refine(qp3 r.out _).mono ?_;rintro e K ⟨rfl,d⟩;replace E:=cell_later d E)
      go_roundw
      case rel=>exact⟨k+1,z+1,by omega,by have:=I.out;omega,by go_num,by show _=Value.int .i64 (qff l (k+1-1)).key;rw[Nat.add_sub_cancel,a.out],qmq n.out L.out,qac h d,J.later d⟩
      case measure=>simp[intOf];omega
  ·have e:Hid (qd7 l=true):=by
        show qd7 l=true;rw[quc (λj H=>n.out j (by omega)),qa5];omega
   go_wp2
   go_ret;exact⟨by rw[e.out];rfl,hb⟩
theorem qcm {a:Option Addr} {cap:Nat} {w:World} (h:qat w a cap l):
 Calls prog 134 #[.slice a l.length cap] w λe w'=>e=.returned (.bool (qd7 l))/\Below w.heap.size w w':=by
 by_cases c:(l.length:Int)<1
 ·have e:Hid (qd7 l=false):=by
   show qd7 l=false
   have:inB l.length 1 5=false:=by simp[inB];omega
   simp[qd7,this]
  go_enter func134,ntmps134
  go_wp2
  go_ret;exact⟨by rw[e.out];rfl,Below.refl _ _⟩
 ·by_cases d:5<(l.length:Int)
  ·have e:Hid (qd7 l=false):=by
        show qd7 l=false
        have:inB l.length 1 5=false:=by simp[inB];omega
        simp[qd7,this]
   go_enter func134,ntmps134
   go_wp2
   go_ret;exact⟨by rw[e.out];rfl,Below.refl _ _⟩
  ·rcases h.held with rfl|⟨b,g,rfl,i⟩
   ·simp at c
   ·exact qrb b g cap l w i c d
end
section
open Tryz Go.Value Go.IntKind Go.RowKit
theorem qvr (a0 a1 a2 a3:Int) (w:World):
 Calls prog 113 #[.agg #[int i64 a0,int i64 a1,int i64 a2,int i64 a3]] w λe w'=>e=.returned (.bool (qau a0 a1 a2 a3))/\Below w.heap.size w w':=by
 have a:∀w,(Instr.index 47 (.agg #[int i64 a0,int i64 a1,int i64 a2,int i64 a3]) (int i64 0)).run prog w=.ok (int i64 a0) w:=λ_=>by kernel_rfl
 have b:∀w,(Instr.index 47 (.agg #[int i64 a0,int i64 a1,int i64 a2,int i64 a3]) (int i64 1)).run prog w=.ok (int i64 a1) w:=λ_=>by kernel_rfl
 have c:∀w,(Instr.index 47 (.agg #[int i64 a0,int i64 a1,int i64 a2,int i64 a3]) (int i64 2)).run prog w=.ok (int i64 a2) w:=λ_=>by kernel_rfl
 have d:∀w,(Instr.index 47 (.agg #[int i64 a0,int i64 a1,int i64 a2,int i64 a3]) (int i64 3)).run prog w=.ok (int i64 a3) w:=λ_=>by kernel_rfl
 by_cases g:a0<0
 ·have e:qau a0 a1 a2 a3=false:=by simp[qau,qai];omega
  rw[e];clear e;go_enter func113,ntmps113
  go_wp2
  refine wp_loop_rounds 5 ?_;rw[rounds_succ]
  go_wp2
  go_ret;exact⟨rfl,by repeat (first|exact Below.refl _ _|apply qam|apply boxed)⟩
 by_cases h:1099511627776<a0
 ·have e:qau a0 a1 a2 a3=false:=by simp[qau,qai];omega
  rw[e];clear e;go_enter func113,ntmps113
  go_wp2
  refine wp_loop_rounds 5 ?_;rw[rounds_succ]
  go_wp2
  go_ret;exact⟨rfl,by repeat (first|exact Below.refl _ _|apply qam|apply boxed)⟩
 by_cases i:a1<0
 ·have e:qau a0 a1 a2 a3=false:=by simp[qau,qai];omega
  rw[e];clear e;go_enter func113,ntmps113
  go_wp2
  refine wp_loop_rounds 5 ?_;rw[rounds_succ]
  go_wp2
  rw[rounds_succ]
  go_wp2
  go_ret;exact⟨rfl,by repeat (first|exact Below.refl _ _|apply qam|apply boxed)⟩
 by_cases j:1099511627776<a1
 ·have e:qau a0 a1 a2 a3=false:=by simp[qau,qai];omega
  rw[e];clear e;go_enter func113,ntmps113
  go_wp2
  refine wp_loop_rounds 5 ?_;rw[rounds_succ]
  go_wp2
  rw[rounds_succ]
  go_wp2
  go_ret;exact⟨rfl,by repeat (first|exact Below.refl _ _|apply qam|apply boxed)⟩
 by_cases k:a2<0
 ·have e:qau a0 a1 a2 a3=false:=by simp[qau,qai];omega
  rw[e];clear e;go_enter func113,ntmps113
  go_wp2
  refine wp_loop_rounds 5 ?_;rw[rounds_succ]
  go_wp2
  rw[rounds_succ]
  go_wp2
  rw[rounds_succ]
  go_wp2
  go_ret;exact⟨rfl,by repeat (first|exact Below.refl _ _|apply qam|apply boxed)⟩
 by_cases l:1099511627776<a2
 ·have e:qau a0 a1 a2 a3=false:=by simp[qau,qai];omega
  rw[e];clear e;go_enter func113,ntmps113
  go_wp2
  refine wp_loop_rounds 5 ?_;rw[rounds_succ]
  go_wp2
  rw[rounds_succ]
  go_wp2
  rw[rounds_succ]
  go_wp2
  go_ret;exact⟨rfl,by repeat (first|exact Below.refl _ _|apply qam|apply boxed)⟩
 by_cases m:a3<0
 ·have e:qau a0 a1 a2 a3=false:=by simp[qau,qai];omega
  rw[e];clear e;go_enter func113,ntmps113
  go_wp2
  refine wp_loop_rounds 5 ?_;rw[rounds_succ]
  go_wp2
  rw[rounds_succ]
  go_wp2
  rw[rounds_succ]
  go_wp2
  rw[rounds_succ]
  go_wp2
  go_ret;exact⟨rfl,by repeat (first|exact Below.refl _ _|apply qam|apply boxed)⟩
 by_cases n:1099511627776<a3
 ·have e:qau a0 a1 a2 a3=false:=by simp[qau,qai];omega
  rw[e];clear e;go_enter func113,ntmps113
  go_wp2
  refine wp_loop_rounds 5 ?_;rw[rounds_succ]
  go_wp2
  rw[rounds_succ]
  go_wp2
  rw[rounds_succ]
  go_wp2
  rw[rounds_succ]
  go_wp2
  go_ret;exact⟨rfl,by repeat (first|exact Below.refl _ _|apply qam|apply boxed)⟩
 have e:qau a0 a1 a2 a3=true:=by simp[qau,qai];omega
 rw[e];clear e;go_enter func113,ntmps113
 go_wp2
 refine wp_loop_rounds 5 ?_;rw[rounds_succ]
 go_wp2
 rw[rounds_succ]
 go_wp2
 rw[rounds_succ]
 go_wp2
 rw[rounds_succ]
 go_wp2
 rw[rounds_succ]
 go_wp2
 go_ret;exact⟨rfl,by repeat (first|exact Below.refl _ _|apply qam|apply boxed)⟩
end
section
open Tryz Go.Value Go.IntKind Go.RowKit
variable {v:Bool}
theorem qei {x c:Int} (h:(qai x&&qai c)=v) (w:World):
 Calls prog 162 #[.agg #[int i64 x,int i64 c]] w λe w'=>e=.returned (.bool v)/\Below w.heap.size w w':=by
 subst h;exact qfg x c w
theorem qca {a0 a1 a2 a3:Int} (h:qau a0 a1 a2 a3=v) (w:World):
 Calls prog 113 #[.agg #[int i64 a0,int i64 a1,int i64 a2,int i64 a3]] w λe w'=>e=.returned (.bool v)/\Below w.heap.size w w':=by
 subst h;exact qvr a0 a1 a2 a3 w
theorem qtc (site seq wall count d0 d1 d2 d3:Int) (a:Option Addr) (cap:Nat) (l:List Wr) (w:World) (r:qat w a cap l):
 Calls prog 148 #[.agg #[int i64 site,int i64 seq,int i64 wall,int i64 count,int i64 d0,int i64 d1,int i64 d2,int i64 d3,.slice a l.length cap]] w λe w'=>e=.returned (.bool (qc7 site seq wall count d0 d1 d2 d3 l))/\Below w.heap.size w w':=by
 have x:=Later.one;have g:=r.later (boxed (Below.refl _ w) (.cells #[int i64 site,int i64 seq,int i64 wall,int i64 count,int i64 d0,int i64 d1,int i64 d2,int i64 d3,.slice a l.length cap] 80));clear r
 have c0:(w.alloc (.cells #[int i64 site,int i64 seq,int i64 wall,int i64 count,int i64 d0,int i64 d1,int i64 d2,int i64 d3,.slice a l.length cap] 80)).cell? ⟨w.heap.size,0,none⟩=some (int i64 site):=by go_simp
 have c1:(w.alloc (.cells #[int i64 site,int i64 seq,int i64 wall,int i64 count,int i64 d0,int i64 d1,int i64 d2,int i64 d3,.slice a l.length cap] 80)).cell? ⟨w.heap.size,1,none⟩=some (int i64 seq):=by go_simp
 have c2:(w.alloc (.cells #[int i64 site,int i64 seq,int i64 wall,int i64 count,int i64 d0,int i64 d1,int i64 d2,int i64 d3,.slice a l.length cap] 80)).cell? ⟨w.heap.size,2,none⟩=some (int i64 wall):=by go_simp
 have c3:(w.alloc (.cells #[int i64 site,int i64 seq,int i64 wall,int i64 count,int i64 d0,int i64 d1,int i64 d2,int i64 d3,.slice a l.length cap] 80)).cell? ⟨w.heap.size,3,none⟩=some (int i64 count):=by go_simp
 have i:(w.alloc (.cells #[int i64 site,int i64 seq,int i64 wall,int i64 count,int i64 d0,int i64 d1,int i64 d2,int i64 d3,.slice a l.length cap] 80)).cell? ⟨w.heap.size,4,none⟩=some (int i64 d0):=by go_simp
 have j:(w.alloc (.cells #[int i64 site,int i64 seq,int i64 wall,int i64 count,int i64 d0,int i64 d1,int i64 d2,int i64 d3,.slice a l.length cap] 80)).cell? ⟨w.heap.size,5,none⟩=some (int i64 d1):=by go_simp
 have c6:(w.alloc (.cells #[int i64 site,int i64 seq,int i64 wall,int i64 count,int i64 d0,int i64 d1,int i64 d2,int i64 d3,.slice a l.length cap] 80)).cell? ⟨w.heap.size,6,none⟩=some (int i64 d2):=by go_simp
 have k:(w.alloc (.cells #[int i64 site,int i64 seq,int i64 wall,int i64 count,int i64 d0,int i64 d1,int i64 d2,int i64 d3,.slice a l.length cap] 80)).cell? ⟨w.heap.size,7,none⟩=some (int i64 d3):=by go_simp
 have m:(w.alloc (.cells #[int i64 site,int i64 seq,int i64 wall,int i64 count,int i64 d0,int i64 d1,int i64 d2,int i64 d3,.slice a l.length cap] 80)).cell? ⟨w.heap.size,8,none⟩=some (.slice a l.length cap):=by go_simp
 cases p1:inB site 0 3
 ·have e:Hid (qc7 site seq wall count d0 d1 d2 d3 l=false):=by show qc7 site seq wall count d0 d1 d2 d3 l=false;simp only[qc7,p1,Bool.false_and]
  have h:Hid _:=p1;clear p1;go_enter func148,ntmps148
  go_wp2_with (go_at_call 112;refine(qhr h.out _).mono ?_;rintro e q ⟨rfl,b⟩;replace c0:=cell_later b c0;replace c1:=cell_later b c1;replace c2:=cell_later b c2;replace c3:=cell_later b c3;replace i:=cell_later b i;replace j:=cell_later b j;replace c6:=cell_later b c6;replace k:=cell_later b k;replace m:=cell_later b m;replace g:=g.later b)
  go_ret;exact⟨by rw[e.out];rfl,qac (boxed (Below.refl _ _) _) b⟩
 ·have h:Hid _:=p1;by_cases s1:seq<1
  ·have e:Hid (qc7 site seq wall count d0 d1 d2 d3 l=false):=by
        have p2:inB seq 1 1099511627776=false:=by simp[inB];omega
        show qc7 site seq wall count d0 d1 d2 d3 l=false;simp only[qc7,p2,Bool.and_false,Bool.false_and]
   clear p1;go_enter func148,ntmps148
   go_wp2_with (go_at_call 112;refine(qhr h.out _).mono ?_;rintro e q ⟨rfl,b⟩;replace c0:=cell_later b c0;replace c1:=cell_later b c1;replace c2:=cell_later b c2;replace c3:=cell_later b c3;replace i:=cell_later b i;replace j:=cell_later b j;replace c6:=cell_later b c6;replace k:=cell_later b k;replace m:=cell_later b m;replace g:=g.later b)
   go_ret;exact⟨by rw[e.out];rfl,qac (boxed (Below.refl _ _) _) b⟩
  ·by_cases s2:1099511627776<seq
   ·have e:Hid (qc7 site seq wall count d0 d1 d2 d3 l=false):=by
     have p2:inB seq 1 1099511627776=false:=by simp[inB];omega
     show qc7 site seq wall count d0 d1 d2 d3 l=false;simp only[qc7,p2,Bool.and_false,Bool.false_and]
    clear p1;go_enter func148,ntmps148
    go_wp2_with (go_at_call 112;refine(qhr h.out _).mono ?_;rintro e q ⟨rfl,b⟩;replace c0:=cell_later b c0;replace c1:=cell_later b c1;replace c2:=cell_later b c2;replace c3:=cell_later b c3;replace i:=cell_later b i;replace j:=cell_later b j;replace c6:=cell_later b c6;replace k:=cell_later b k;replace m:=cell_later b m;replace g:=g.later b)
    go_ret;exact⟨by rw[e.out];rfl,qac (boxed (Below.refl _ _) _) b⟩
   ·have p2:inB seq 1 1099511627776=true:=by rw[qa5];omega
    have o:Hid _:=p2;clear p2;clear p1;go_enter func148,ntmps148
    go_wp2_with (go_at_call 112;refine(qhr h.out _).mono ?_;rintro e q ⟨rfl,b⟩;replace c0:=cell_later b c0;replace c1:=cell_later b c1;replace c2:=cell_later b c2;replace c3:=cell_later b c3;replace i:=cell_later b i;replace j:=cell_later b j;replace c6:=cell_later b c6;replace k:=cell_later b k;replace m:=cell_later b m;replace g:=g.later b)
    have hb:=qac (boxed (Below.refl _ _) _) b;clear b;replace c0:=Later.cell c0;replace c1:=Later.cell c1;replace c2:=Later.cell c2;replace c3:=Later.cell c3;replace i:=Later.cell i;replace j:=Later.cell j;replace c6:=Later.cell c6;replace k:=Later.cell k;replace m:=Later.cell m;cases p3:(qai wall&&qai count)
    ·have e:Hid (qc7 site seq wall count d0 d1 d2 d3 l=false):=by show qc7 site seq wall count d0 d1 d2 d3 l=false;simp only[qc7,p3,Bool.and_false,Bool.false_and]
     refine qaa (by kernel_rfl) (by kernel_rfl) ?_
     repeat (go_big_quiet_step (first|(go_at_call 162;with_reducible exact qab (qei p3 _))|(go_at_call 113;with_reducible exact qab (qca p4 _))|(go_at_call 134;exact qab (qcm (qat.later (Later.below _) g)))))
     refine wpQuiet_nil ?_;rintro n ⟨⟨_,d⟩,rfl⟩
     go_wp2
     go_ret;exact⟨by rw[e.out];rfl,qac hb d⟩
    ·cases p4:qau d0 d1 d2 d3
     ·have e:Hid (qc7 site seq wall count d0 d1 d2 d3 l=false):=by show qc7 site seq wall count d0 d1 d2 d3 l=false;simp only[qc7,p4,Bool.and_false,Bool.false_and]
      refine qaa (by kernel_rfl) (by kernel_rfl) ?_
      repeat (go_big_quiet_step (first|(go_at_call 162;with_reducible exact qab (qei p3 _))|(go_at_call 113;with_reducible exact qab (qca p4 _))|(go_at_call 134;exact qab (qcm (qat.later (Later.below _) g)))))
      refine wpQuiet_nil ?_;rintro n ⟨⟨_,d⟩,rfl⟩
      go_wp2
      go_ret;exact⟨by rw[e.out];rfl,qac hb d⟩
     ·have s:=qa5.1 h.out
      have u:site=0\/site=1\/site=2\/site=3:=by omega
      clear s;rcases u with rfl|rfl|rfl|rfl
      ·by_cases c:d0=seq-1
       ·have p:(d0==seq-1)=true:=by simp[c]
        have e:Hid (qc7 0 seq wall count d0 d1 d2 d3 l=qd7 l):=by show qc7 0 seq wall count d0 d1 d2 d3 l=qd7 l;simp only[qc7,h.out,o.out,p3,p4,Bool.and_true,Bool.true_and,qao];simp[c]
        clear c;refine qaa (by kernel_rfl) (by kernel_rfl) ?_
        repeat (go_big_quiet_step (first|(go_at_call 162;with_reducible exact qab (qei p3 _))|(go_at_call 113;with_reducible exact qab (qca p4 _))|(go_at_call 134;exact qab (qcm (qat.later (Later.below _) g)))))
        refine wpQuiet_nil ?_;rintro n ⟨⟨_,d⟩,rfl⟩
        go_wp2
        go_ret;exact⟨by rw[e.out];rfl,qac hb d⟩
       ·have p:(d0==seq-1)=false:=by simp[c]
        have e:Hid (qc7 0 seq wall count d0 d1 d2 d3 l=false):=by show qc7 0 seq wall count d0 d1 d2 d3 l=false;simp only[qc7,h.out,o.out,p3,p4,Bool.and_true,Bool.true_and,qao];simp[c]
        clear c;refine qaa (by kernel_rfl) (by kernel_rfl) ?_
        repeat (go_big_quiet_step (first|(go_at_call 162;with_reducible exact qab (qei p3 _))|(go_at_call 113;with_reducible exact qab (qca p4 _))|(go_at_call 134;exact qab (qcm (qat.later (Later.below _) g)))))
        refine wpQuiet_nil ?_;rintro n ⟨⟨_,d⟩,rfl⟩
        go_wp2
        go_ret;exact⟨by rw[e.out];rfl,qac hb d⟩
      ·by_cases c:d1=seq-1
       ·have p:(d1==seq-1)=true:=by simp[c]
        have e:Hid (qc7 1 seq wall count d0 d1 d2 d3 l=qd7 l):=by show qc7 1 seq wall count d0 d1 d2 d3 l=qd7 l;simp only[qc7,h.out,o.out,p3,p4,Bool.and_true,Bool.true_and,qao];simp[c]
        clear c;refine qaa (by kernel_rfl) (by kernel_rfl) ?_
        repeat (go_big_quiet_step (first|(go_at_call 162;with_reducible exact qab (qei p3 _))|(go_at_call 113;with_reducible exact qab (qca p4 _))|(go_at_call 134;exact qab (qcm (qat.later (Later.below _) g)))))
        refine wpQuiet_nil ?_;rintro n ⟨⟨_,d⟩,rfl⟩
        go_wp2
        go_ret;exact⟨by rw[e.out];rfl,qac hb d⟩
       ·have p:(d1==seq-1)=false:=by simp[c]
        have e:Hid (qc7 1 seq wall count d0 d1 d2 d3 l=false):=by show qc7 1 seq wall count d0 d1 d2 d3 l=false;simp only[qc7,h.out,o.out,p3,p4,Bool.and_true,Bool.true_and,qao];simp[c]
        clear c;refine qaa (by kernel_rfl) (by kernel_rfl) ?_
        repeat (go_big_quiet_step (first|(go_at_call 162;with_reducible exact qab (qei p3 _))|(go_at_call 113;with_reducible exact qab (qca p4 _))|(go_at_call 134;exact qab (qcm (qat.later (Later.below _) g)))))
        refine wpQuiet_nil ?_;rintro n ⟨⟨_,d⟩,rfl⟩
        go_wp2
        go_ret;exact⟨by rw[e.out];rfl,qac hb d⟩
      ·by_cases c:d2=seq-1
       ·have p:(d2==seq-1)=true:=by simp[c]
        have e:Hid (qc7 2 seq wall count d0 d1 d2 d3 l=qd7 l):=by show qc7 2 seq wall count d0 d1 d2 d3 l=qd7 l;simp only[qc7,h.out,o.out,p3,p4,Bool.and_true,Bool.true_and,qao];simp[c]
        clear c;refine qaa (by kernel_rfl) (by kernel_rfl) ?_
        repeat (go_big_quiet_step (first|(go_at_call 162;with_reducible exact qab (qei p3 _))|(go_at_call 113;with_reducible exact qab (qca p4 _))|(go_at_call 134;exact qab (qcm (qat.later (Later.below _) g)))))
        refine wpQuiet_nil ?_;rintro n ⟨⟨_,d⟩,rfl⟩
        go_wp2
        go_ret;exact⟨by rw[e.out];rfl,qac hb d⟩
       ·have p:(d2==seq-1)=false:=by simp[c]
        have e:Hid (qc7 2 seq wall count d0 d1 d2 d3 l=false):=by show qc7 2 seq wall count d0 d1 d2 d3 l=false;simp only[qc7,h.out,o.out,p3,p4,Bool.and_true,Bool.true_and,qao];simp[c]
        clear c;refine qaa (by kernel_rfl) (by kernel_rfl) ?_
        repeat (go_big_quiet_step (first|(go_at_call 162;with_reducible exact qab (qei p3 _))|(go_at_call 113;with_reducible exact qab (qca p4 _))|(go_at_call 134;exact qab (qcm (qat.later (Later.below _) g)))))
        refine wpQuiet_nil ?_;rintro n ⟨⟨_,d⟩,rfl⟩
        go_wp2
        go_ret;exact⟨by rw[e.out];rfl,qac hb d⟩
      ·by_cases c:d3=seq-1
       ·have p:(d3==seq-1)=true:=by simp[c]
        have e:Hid (qc7 3 seq wall count d0 d1 d2 d3 l=qd7 l):=by show qc7 3 seq wall count d0 d1 d2 d3 l=qd7 l;simp only[qc7,h.out,o.out,p3,p4,Bool.and_true,Bool.true_and,qao];simp[c]
        clear c;refine qaa (by kernel_rfl) (by kernel_rfl) ?_
        repeat (go_big_quiet_step (first|(go_at_call 162;with_reducible exact qab (qei p3 _))|(go_at_call 113;with_reducible exact qab (qca p4 _))|(go_at_call 134;exact qab (qcm (qat.later (Later.below _) g)))))
        refine wpQuiet_nil ?_;rintro n ⟨⟨_,d⟩,rfl⟩
        go_wp2
        go_ret;exact⟨by rw[e.out];rfl,qac hb d⟩
       ·have p:(d3==seq-1)=false:=by simp[c]
        have e:Hid (qc7 3 seq wall count d0 d1 d2 d3 l=false):=by show qc7 3 seq wall count d0 d1 d2 d3 l=false;simp only[qc7,h.out,o.out,p3,p4,Bool.and_true,Bool.true_and,qao];simp[c]
        clear c;refine qaa (by kernel_rfl) (by kernel_rfl) ?_
        repeat (go_big_quiet_step (first|(go_at_call 162;with_reducible exact qab (qei p3 _))|(go_at_call 113;with_reducible exact qab (qca p4 _))|(go_at_call 134;exact qab (qcm (qat.later (Later.below _) g)))))
        refine wpQuiet_nil ?_;rintro n ⟨⟨_,d⟩,rfl⟩
        go_wp2
        go_ret;exact⟨by rw[e.out];rfl,qac hb d⟩
theorem qe2 {site seq wall count d0 d1 d2 d3:Int} {a:Option Addr} {cap:Nat} {l:List Wr} {w:World} (b:qat w a cap l) (h:qc7 site seq wall count d0 d1 d2 d3 l=v):
 Calls prog 148 #[.agg #[int i64 site,int i64 seq,int i64 wall,int i64 count,int i64 d0,int i64 d1,int i64 d2,int i64 d3,.slice a l.length cap]] w λe w'=>e=.returned (.bool v)/\Below w.heap.size w w':=by
 subst h;exact qtc site seq wall count d0 d1 d2 d3 a cap l w b
end
section
open Go.Value Go.IntKind Go.RowKit
def q40 (w:World) (L:List TxM) (v:Value) (w':World):Prop:=∃kept:List TxM,L.map (·.t)=kept.map (·.t)/\(∃B,w.heap.size<=B/\w'.ownsRow B 80 9 v kept.length (qef kept))/\(∀m∈kept,qat w' m.wa m.wc m.t.ws/\∀j,m.blk j->w.heap.size<=j)/\Below w.heap.size w w'
theorem qr3 {b:Nat} {lv:Value} {bm:Nat} {F:Nat->Prop} {S:qaf} {log waits:List TxM} (d a l n:Int) (w:World) (h:qc9 w b lv bm F S log waits) (hs:∀m∈log,(0<=m.t.site/\m.t.site<=3)/\1<=m.t.ws.length/\m.t.ws.length<=5) (hl:log.length<=1000):
 Calls Tryz.prog 154 #[.pointer (some ⟨b,0,none⟩),.agg #[int i64 d,int i64 a,int i64 l,int i64 n]] w λe w'=>
  ∃v,e=.returned v/\q40 w (log.filter (qe4 d a l n)) v w':=by
 obtain⟨la,lc,rfl,P⟩:=qa6 h.rlog;have hc1:=P.len;have hc2:=P.cap;have o:=qbe.new w 47 d a l n;have hb:=boxed (Below.refl _ w) (.cells #[int i64 d,int i64 a,int i64 l,int i64 n] 47);have s7:=cell_later hb (h.box.cell 7 _ rfl);have HH:Hid _:=h;have HS:Hid _:=hs;clear h hs;go_enter Tryz.func154,Tryz.ntmps154
 go_wp2_with fail
 obtain⟨W,hWW⟩:∃W,w.alloc (.cells #[int i64 d,int i64 a,int i64 l,int i64 n] 47)=W:=⟨_,rfl⟩;rw[hWW]at o hb s7 ⊢;clear hWW s7
 go_loopw [5,13] (λsl iv wr=>∃(k:Nat) (z:Int) (kept:List TxM) (s:Value),s=sl/\k<=log.length/\z=k/\iv=int i64 z/\((log.take k).filter (qe4 d a l n)).map (·.t)=kept.map (·.t)/\wr.ownsRow (w.heap.size+1) 80 9 s kept.length (qef kept)/\Hid (∀m∈kept,qat wr m.wa m.wc m.t.ws/\∀j,m.blk j->s.ownBlock≠some j/\w.heap.size<=j)/\qbe wr w.heap.size d a l n/\Below w.heap.size w wr) (λ_ i _=>log.length-(intOf i).toNat)
 case atStart=>exact⟨0,0,[],_,rfl,by omega,rfl,rfl,by simp,World.ownsRow_nil _ _ _ _,(λm x=>(by cases x)),o,hb⟩
 case round=>
  clear o hb;obtain⟨k,z,kept,s,hsl,hk,Q,rfl,E,p,D,o,hb⟩:=hrel;subst hsl;have HZ:Hid _:=Q;by_cases R:k<log.length
  ·have g1:z<(log.length:Int):=by omega
   have g2:z.toNat=k:=by omega
   have g3:0<=z:=by omega
   have hk6:kept.length<=1000:=by
        have a0:=congrArg List.length E;simp only[List.length_map]at a0;have a1:=List.length_filter_le (qe4 d a l n) (log.take k);have a2:=List.length_take_le k log;omega
   obtain⟨M,N,hwa,hcc⟩:∃M N,la=some ⟨M,N,none⟩/\∀i m r u,log[i]?=some m->(txC m)[r]?=some u->w.cell? ⟨M,N+(i*9+r),none⟩=some u:=by
        rcases P.held with e|e
        ·rw[e]at R;simp at R
        ·exact e
   obtain⟨⟨⟨site,seq,wall,count,d0,d1,d2,d3,ws⟩,B,C⟩,H⟩:∃m,log[k]?=some m:=⟨log[k],List.getElem?_eq_getElem R⟩;obtain⟨⟨hs0,hs1⟩,U,V⟩:=HS.out _ (List.mem_of_getElem? H);simp only at hs0 hs1 U V;have HL5:Hid (1<=ws.length/\ws.length<=5):=⟨U,V⟩;have HWX:Hid _:=(HH.out.hold _ (List.mem_append.2 (.inl (List.mem_of_getElem? H)))).1;clear U V;have HX:Hid _:=H;have HKP:Hid _:=E;have y:=λr u (hu:(txC ⟨⟨site,seq,wall,count,d0,d1,d2,d3,ws⟩,B,C⟩)[r]?=some u)=>(show wr.cell? ⟨M,N+k*9+r,none⟩=some u by rw[Nat.add_assoc];exact cell_later hb (hcc k _ r u H hu));have x0:=y 0 _ rfl;have x1:=y 1 _ rfl;have x2:=y 2 _ rfl;have x3:=y 3 _ rfl;have x4:=y 4 _ rfl;have x5:=y 5 _ rfl;have x6:=y 6 _ rfl;have x7:=y 7 _ rfl;have x8:=y 8 _ rfl;rw[Nat.add_zero]at x0;rw[hwa];clear y hcc H E Q;replace o:=o.boxed (.cells #[int i64 site,int i64 seq,int i64 wall,int i64 count,int i64 d0,int i64 d1,int i64 d2,int i64 d3,.slice B ws.length C] 80);replace p:=p.alloc (.cells #[int i64 site,int i64 seq,int i64 wall,int i64 count,int i64 d0,int i64 d1,int i64 d2,int i64 d3,.slice B ws.length C] 80);replace hb:=boxed hb (.cells #[int i64 site,int i64 seq,int i64 wall,int i64 count,int i64 d0,int i64 d1,int i64 d2,int i64 d3,.slice B ws.length C] 80);have I:=qag.new (w:=wr) (T:=80) [int i64 site,int i64 seq,int i64 wall,int i64 count,int i64 d0,int i64 d1,int i64 d2,int i64 d3,.slice B ws.length C] rfl;have X:=Later.cell (I.cell 0 _ rfl);have Y:=Later.cell (I.cell 1 _ rfl);have va:=Later.cell (qmv o hs0 hs1);have KE:Hid (qe4 d a l n ⟨⟨site,seq,wall,count,d0,d1,d2,d3,ws⟩,B,C⟩=decide (qao site d a l n<seq)):=rfl
   go_wp2_with fail
   clear x0 x1 x2 x3 x4 x5 x6 x7 x8;refine qaa (by kernel_rfl) (by kernel_rfl) ?_
   repeat (go_big_quiet_step (first|rfl|fail))
   refine wpQuiet_nil ?_;rintro J ⟨⟨_,G⟩,rfl⟩;replace o:=o.later G;replace I:=I.later G;replace p:=qad p (λj c=>G.block j (p.lt j c).2);replace hb:=qac hb G;replace D:Hid (∀m∈kept,qat J m.wa m.wc m.t.ws/\∀j,m.blk j->s.ownBlock≠some j/\w.heap.size<=j):=λm x=>⟨((D.out m x).1.later (boxed (Below.refl _ wr) _)).later G,(D.out m x).2⟩;clear G X Y va;cases hd:decide (qao site d a l n<seq)
   ·have Z:Hid (((log.take (k+1)).filter (qe4 d a l n)).map (·.t)=kept.map (·.t)):=by
     have e:qe4 d a l n ⟨⟨site,seq,wall,count,d0,d1,d2,d3,ws⟩,B,C⟩=false:=by rw[KE.out];exact hd
     show ((log.take (k+1)).filter (qe4 d a l n)).map (·.t)=kept.map (·.t);rw[List.take_add_one,HX.out,List.filter_append,List.map_append,HKP.out];simp[e]
    clear hd
    go_wp2_with fail
    go_roundw
    case rel=>exact⟨k+1,z+1,kept,_,rfl,by omega,by have:=HZ.out;omega,by go_num,Z.out,p,D,o,hb⟩
    case measure=>simp[intOf];omega
   ·have Z:Hid (((log.take (k+1)).filter (qe4 d a l n)).map (·.t)=kept.map (·.t)++[⟨site,seq,wall,count,d0,d1,d2,d3,ws⟩]):=by
     have e:qe4 d a l n ⟨⟨site,seq,wall,count,d0,d1,d2,d3,ws⟩,B,C⟩=true:=by rw[KE.out];exact hd
     show ((log.take (k+1)).filter (qe4 d a l n)).map (·.t)=_;rw[List.take_add_one,HX.out,List.filter_append,List.map_append,HKP.out];simp[e]
    obtain⟨X,Y,y2,y3,y4,y5,y6,y7,y8⟩:=I.c9;obtain⟨i0,hi,hz0,hz1,hz2⟩:=info_parts qqr
    have hsz5:w.heap.size+1<=J.heap.size:=by have:=o.lt;omega
    have HOLD:Hid (∀j,s.ownBlock=some j->j<J.heap.size):=λj c=>(p.lt j c).2;have CP:=qf6 ⟨⟨site,seq,wall,count,d0,d1,d2,d3,ws⟩,B,C⟩ J (HWX.out.later hb) HL5.out.1 (by have:=HL5.out;simp only;omega);simp only[txV]at CP;clear hd
    go_wp2_with fail
    refine CP.mono ?_;rintro e K ⟨m2,hm2,rfl,aa,ab,L⟩;obtain⟨t2,a2,c2⟩:=m2;simp only at hm2 aa;subst hm2;simp only[txV];replace o:=o.later L;replace p:=qad p (λj c=>L.block j (p.lt j c).2)
    have HO5:Hid (∀j,s.ownBlock=some j->j<J.heap.size):=λj c=>by
     have:=(p.lt j c).1;exact HOLD.out j c
    replace hb:=qac hb L
    have HW6:Hid (∀m∈kept++[⟨⟨site,seq,wall,count,d0,d1,d2,d3,ws⟩,a2,c2⟩],qat K m.wa m.wc m.t.ws/\∀j,m.blk j->s.ownBlock≠some j/\w.heap.size<=j):=λm x=>by
     rcases List.mem_append.1 x with a|a
     ·exact⟨(D.out m a).1.later L,(D.out m a).2⟩
     ·rw[List.mem_singleton.1 a];refine⟨aa,λj c=>⟨λe=>?_,?_⟩⟩
      ·have O:=ab j c;have q2:=HO5.out j e;omega
      ·have O:=ab j c;omega
    have hsz6:w.heap.size+1<=K.heap.size:=by have:=o.lt;omega
    have HS6:Hid _:=hsz6;clear L ab aa X Y y2 y3 y4 y5 y6 y7 y8 hsz5
    go_wp2_with (at_builtin;refine wpList_append_lies _ rfl (.tmp 24) (.tmp 27) 53 rfl (w.heap.size+1) 80 i0 (.agg #[int i64 0,int i64 0,int i64 0,int i64 0,int i64 0,int i64 0,int i64 0,int i64 0,.slice none 0 0]) 9 88 Tryz.underlying53 hi hz0 hz1 hz2 rfl (by decide) s kept.length (qef kept) rfl (p.alloc _) ⟨K.heap.size,0,none⟩ 1 1 (txC ⟨⟨site,seq,wall,count,d0,d1,d2,d3,ws⟩,a2,c2⟩) rfl rfl (World.news_of_block (heap_alloc_new K (.cells #[int i64 site,int i64 seq,int i64 wall,int i64 count,int i64 d0,int i64 d1,int i64 d2,int i64 d3,.slice a2 ws.length c2] 80))) (qi4 _) (by decide) (by simp only[maxLen];omega) (by omega) (by simp;omega) _ rfl ?_;intro g cap9 wE ownE ac egE ltE)
    have rowsg:∀j,s.ownBlock=some j->w.heap.size+1<=j:=λj c=>(p.lt j c).1;have RAE:=(o.boxed (.cells #[int i64 site,int i64 seq,int i64 wall,int i64 count,int i64 d0,int i64 d1,int i64 d2,int i64 d3,.slice a2 ws.length c2] 80)).grown4 ac (λe=>by have:=rowsg _ e.symm;omega);have hbE:=(boxed hb (.cells #[int i64 site,int i64 seq,int i64 wall,int i64 count,int i64 d0,int i64 d1,int i64 d2,int i64 d3,.slice a2 ws.length c2] 80)).grown ac (by have:=hb.size;simp;omega) (λj c=>by have:=rowsg j c;omega)
    have HWE:Hid (∀m∈kept++[⟨⟨site,seq,wall,count,d0,d1,d2,d3,ws⟩,a2,c2⟩],qat wE m.wa m.wc m.t.ws/\∀j,m.blk j->(Value.slice (some ⟨g,0,none⟩) (kept.length+1) cap9).ownBlock≠some j/\w.heap.size<=j):=λm x=>by
     have q:=HW6.out m x;have O:=q.1.later (boxed (Below.refl _ K) (.cells #[int i64 site,int i64 seq,int i64 wall,int i64 count,int i64 d0,int i64 d1,int i64 d2,int i64 d3,.slice a2 ws.length c2] 80));refine⟨O.kept (λj c=>ac.block j (O.blk_lt j c) (λe=>(q.2 j c).1 e.symm)),λj c=>⟨λe=>?_,(q.2 j c).2⟩⟩
     have eg:g=j:=by simpa[Value.ownBlock]using e
     rcases egE with a|a
     ·exact(q.2 j c).1 (by rw[a,eg])
     ·have:=q.1.blk_lt j c;simp at a;omega
    go_roundw
    case rel=>exact⟨k+1,z+1,kept++[⟨⟨site,seq,wall,count,d0,d1,d2,d3,ws⟩,a2,c2⟩],_,rfl,by omega,by have:=HZ.out;omega,by go_num,by rw[List.map_append];exact Z.out,by rw[qjy,List.length_append];exact ownE,HWE,RAE,hbE⟩
    case measure=>simp[intOf];omega
  ·have g1:¬z<(log.length:Int):=by omega
   obtain rfl:k=log.length:=by omega
   rw[List.take_length]at E;have HKF:Hid _:=E;clear Q E
   go_wp2_with fail
   go_ret;exact⟨s,rfl,kept,HKF.out,⟨_,Nat.le_succ _,p⟩,λm x=>⟨(D.out m x).1,λj c=>((D.out m x).2 j c).2⟩,hb⟩
end
section
open Go.RowKit
variable {i:Nat} {p:qm0}
section
variable {w w':World} {n o:Nat} {ps ps':Nat->qm0} {Gs:Nat->Nat->Prop} {X:Nat->Prop}
theorem qbx.stepG (h:qbx w n ps Gs X o NoY) (q:i<n) (z:qvh p w (Gs i) w') (A:ps' i=p) (B:∀j,j<n->j≠i->ps' j=ps j):∃v,qbx w' n ps' v X o NoY/\(∀j k,v j k->Gs j k\/w.heap.size<=k)/\qby X w w'/\qae (Gs i) w w':=by
 obtain⟨x,p1,p2,f⟩:=z;refine⟨λj=>if j=i then x else Gs j,⟨λj m=>?_,λa b k u hb y c l=>?_,λk c=>⟨Nat.lt_of_lt_of_le (h.free k c).1 f.size,λj m s=>?_⟩,λk c=>c.elim⟩,λj k c=>?_,⟨f.os,f.tape,f.output,f.size,λk c=>f.block k (h.free k c).1 (λe=>(h.free k c).2 i q e)⟩,f⟩
 ·by_cases d:j=i
  ·rw[if_pos d,d,A];exact p1
  ·rw[if_neg d,B j m d];exact(ps j).kept _ _ _ (h.is j m) (λk c=>f.block k ((ps j).lt _ _ (h.is j m) k c) (λe=>h.apart j i k m q d c e)) f.size
 ·by_cases t:a=i
  ·rw[if_pos t]at c;have r:b≠i:=λe=>y (t.trans e.symm);rw[if_neg r]at l;rcases p2 k c with g|g
   ·exact h.apart i b k q hb (Ne.symm r) g l
   ·have:=(ps b).lt _ _ (h.is b hb) k l;omega
  ·rw[if_neg t]at c;by_cases r:b=i
   ·rw[if_pos r]at l;rcases p2 k l with g|g
    ·exact h.apart a i k u q t c g
    ·have:=(ps a).lt _ _ (h.is a u) k c;omega
   ·rw[if_neg r]at l;exact h.apart a b k u hb y c l
 ·by_cases d:j=i
  ·rw[if_pos d]at s;rcases p2 k s with g|g
   ·exact(h.free k c).2 i q g
   ·have:=(h.free k c).1;omega
  ·rw[if_neg d]at s;exact(h.free k c).2 j m s
 ·have c:(if j=i then x else Gs j) k:=c;by_cases d:j=i
  ·rw[if_pos d]at c;rw[d];exact p2 k c
  ·rw[if_neg d]at c;exact .inl c
theorem qbx.step2G (h:qbx w n ps Gs X o NoY) {j:Nat} (A:i<n) (B:j<n) {q:qm0} (K:qin p q w (Gs i) (Gs j) NoY w') (L:ps' i=p) (M:ps' j=q) (N:∀m,m<n->m≠i->m≠j->ps' m=ps m):∃I,qbx w' n ps' I X o NoY/\(∀m k,I m k->Gs m k\/w.heap.size<=k)/\qby X w w'/\qae (λk=>Gs i k\/Gs j k) w w':=by
 obtain⟨D,E,p1,O,p2,F,J,_,u⟩:=K;refine⟨λm=>if m=i then D else if m=j then E else Gs m,⟨λm r=>?_,λa b k G hb H c d=>?_,λk c=>⟨Nat.lt_of_lt_of_le (h.free k c).1 u.size,λm r s=>?_⟩,λk c=>c.elim⟩,λm k c=>?_,⟨u.os,u.tape,u.output,u.size,λk c=>u.block k (h.free k c).1 (λe=>e.elim ((h.free k c).2 i A) ((h.free k c).2 j B))⟩,u⟩
 ·by_cases g:m=i
  ·rw[if_pos g,g,L];exact p1
  ·by_cases l:m=j
   ·rw[if_neg g,if_pos l,l,M];exact O
   ·rw[if_neg g,if_neg l,N m r g l]
    exact(ps m).kept _ _ _ (h.is m r) (λk c=>u.block k ((ps m).lt _ _ (h.is m r) k c) (λe=>by
     rcases e with e|e
     ·exact h.apart m i k r A g c e
     ·exact h.apart m j k r B l c e)) u.size
 ·have C:∀m,m<n->m≠i->m≠j->Gs m k->¬D k/\¬E k:=λm r g l s=>by
   have lt:=(ps m).lt _ _ (h.is m r) k s
   constructor
   ·intro e;rcases p2 k e with t|t
    ·exact h.apart m i k r A g s t
    ·omega
   ·intro e;rcases F k e with t|t
    ·exact h.apart m j k r B l s t
    ·omega
  by_cases y:a=i
  ·rw[if_pos y]at c;have v:b≠i:=λe=>H (y.trans e.symm);rw[if_neg v]at d;by_cases x:b=j
   ·rw[if_pos x]at d;exact J k c d
   ·rw[if_neg x]at d;exact(C b hb v x d).1 c
  ·rw[if_neg y]at c;by_cases z:a=j
   ·rw[if_pos z]at c;have x:b≠j:=λe=>H (z.trans e.symm);by_cases v:b=i
    ·rw[if_pos v]at d;exact J k d c
    ·rw[if_neg v,if_neg x]at d;exact(C b hb v x d).2 c
   ·rw[if_neg z]at c;by_cases v:b=i
    ·rw[if_pos v]at d;exact(C a G y z c).1 d
    ·rw[if_neg v]at d;by_cases x:b=j
     ·rw[if_pos x]at d;exact(C a G y z c).2 d
     ·rw[if_neg x]at d;exact h.apart a b k G hb H c d
 ·have f:=h.free k c;by_cases g:m=i
  ·rw[if_pos g]at s;rcases p2 k s with t|t
   ·exact f.2 i A t
   ·have:=f.1;omega
  ·rw[if_neg g]at s;by_cases l:m=j
   ·rw[if_pos l]at s;rcases F k s with t|t
    ·exact f.2 j B t
    ·have:=f.1;omega
   ·rw[if_neg l]at s;exact f.2 m r s
 ·have c:(if m=i then D else if m=j then E else Gs m) k:=c;by_cases g:m=i
  ·rw[if_pos g]at c;rw[g];exact p2 k c
  ·rw[if_neg g]at c;by_cases l:m=j
   ·rw[if_pos l]at c;rw[l];exact F k c
   ·rw[if_neg l]at c;exact .inl c
theorem qbx.to {X':Nat->Prop} (h:qbx w n ps Gs X o NoY) (d:∀j k,j<n->Gs j k->w'.heap[k]?=w.heap[k]?) (f:w.heap.size<=w'.heap.size) (b:∀k,X' k->(X k\/w.heap.size<=k)/\k<w'.heap.size):qbx w' n ps Gs X' o NoY:=by
 refine⟨λj a=>(ps j).kept _ _ _ (h.is j a) (λk e=>d j k a e) f,h.apart,λk e=>⟨(b k e).2,λj a c=>?_⟩,λk e=>e.elim⟩;rcases(b k e).1 with q|q
 ·exact(h.free k q).2 j a c
 ·have:=(ps j).lt _ _ (h.is j a) k c;omega
end
end
def q45 (site a0 a1 a2 a3:Int):ByteArray:=(⟨#[97]⟩:ByteArray)++qhl 5 site++qhl 5 a0++qhl 5 a1++qhl 5 a2++qhl 5 a3
section
abbrev qea (f:Nat) (n:Int):List UInt8:=toL (qhl f n)
variable {f:Nat} {n:Int}
theorem qpk (h:n<128):qea f n=[UInt8.ofNat n.toNat]:=by
 show toL (qhl f n)=_;rw[qsw h];rfl
theorem qy8 (h:¬n<128):qea (f+1) n=UInt8.ofNat (n%128+128).toNat::qea f (n/128):=by
 show toL (qhl (f+1) n)=_;rw[qse h,qh9];rfl
def qeb:Nat->List UInt8->Option (Int×List UInt8)
 |_,[]=>none
 |0,c::r=>if c.toNat<128 then some (c.toNat,r)else none
 |f+1,c::r=>if c.toNat<128 then some (c.toNat,r)else
  match qeb f r with
  |none=>none
  |some (n,r')=>if n=0 then none else some ((c.toNat:Int)-128+128*n,r')
theorem q3z (c:0<=n) (d:n<256):((UInt8.ofNat n.toNat).toNat:Int)=n:=by
 rw[UInt8.toNat_ofNat',Nat.mod_eq_of_lt (by omega),Int.toNat_of_nonneg c]
theorem quk:∀(f:Nat) (n:Int) (r:List UInt8),0<=n->n<128^(f+1)->qeb f (qea f n++r)=some (n,r)
 |0,n,r,h0,h1=>by
  have c:n<128:=by simpa using h1
  have e:=q3z h0 (by omega);rw[qpk c,List.singleton_append];unfold qeb;rw[if_pos (by omega),e]
 |f+1,n,r,h0,h1=>by
  by_cases h:n<128
  ·have e:=q3z h0 (by omega);rw[qpk h,List.singleton_append];unfold qeb;rw[if_pos (by omega),e]
  ·have d:(128:Int)^(f+1+1)=128^(f+1)*128:=Int.pow_succ 128 (f+1);rw[d]at h1;have e:=q3z (n:=n%128+128) (by omega) (by omega);rw[qy8 h,List.cons_append];unfold qeb;rw[if_neg (by omega),quk f (n/128) r (by omega) (by omega)];simp only;rw[if_neg (by omega),e]
   congr 2
   omega
theorem qlh:∀(f:Nat) (L:List UInt8) (n:Int) (r:List UInt8),qeb f L=some (n,r)->(0<=n/\n<128^(f+1))/\L=qea f n++r
 |0,[],n,r,h=>by simp[qeb]at h
 |f+1,[],n,r,h=>by simp[qeb]at h
 |0,c::l,n,r,h=>by
  unfold qeb at h;split at h
  ·injection h with h;injection h with h1 h2;subst h1 h2;refine⟨⟨by omega,by simp;omega⟩,?_⟩;rw[qpk (by omega)];simp
  ·cases h
 |f+1,c::l,n,r,h=>by
  have d:(128:Int)^(f+1+1)=128^(f+1)*128:=Int.pow_succ 128 (f+1);have k:(1:Int)<=128^(f+1):=Int.pow_pos (by decide);unfold qeb at h;split at h
  ·injection h with h;injection h with h1 h2;subst h1 h2;refine⟨⟨by omega,by rw[d];omega⟩,?_⟩;rw[qpk (by omega)];simp
  ·cases e:qeb f l with
   |none=>rw[e]at h;cases h
   |some y=>
    obtain⟨m,g⟩:=y;rw[e]at h;simp only at h;split at h
    ·cases h
    ·injection h with h;injection h with h1 h2;subst h2;obtain⟨⟨o,p⟩,i⟩:=qlh f l m g e;have s:=c.toNat_lt
     have q:n/128=m:=by omega
     have j:n%128+128=c.toNat:=by omega
     refine⟨⟨by omega,by rw[d];omega⟩,?_⟩;rw[qy8 (by omega),q,j,i];simp
theorem q57:(128:Int)^(5+1)=4398046511104:=by decide
variable {a b:List UInt8}
theorem qbn {m:Int} (h:qea 5 n++a=qea 5 m++b) (d:0<=n/\n<=1099511627776) (e:0<=m/\m<=1099511627776):n=m/\a=b:=by
 have c:=quk 5 n a d.1 (by rw[q57];omega);have g:=quk 5 m b e.1 (by rw[q57];omega);rw[h,g]at c;injection c with c;injection c with e3 e4;exact⟨e3.symm,e4.symm⟩
def wrL (x:Wr):List UInt8:=qea 5 x.key++(qea 5 (if x.gone then 1 else 0)++(qea 5 (x.data.size:Int)++toL x.data))
def qm2 (l:List Wr):List UInt8:=l.flatMap wrL
theorem q0u (g:Bool):toL (qy6 g)=qea 5 (if g then 1 else 0):=by cases g<;>rfl
theorem qzm (s:ByteArray) (x:Wr):toL (stepS s x)=toL s++wrL x:=by
 simp only[stepS,wrL,qh9,q0u,List.append_assoc]
theorem q4z (s:ByteArray) (l:List Wr):toL (wrS s l)=toL s++qm2 l:=by
 induction l generalizing s with
 |nil=>simp[wrS,qm2]
 |cons x l ih=>
  have e:=ih (stepS s x);rw[qzm]at e;show toL (wrS (stepS s x) l)=_;rw[e];simp[qm2]
def qsi (site seq wall count d0 d1 d2 d3 n:Int) (r:List UInt8):List UInt8:=116::(qea 5 site++(qea 5 seq++(qea 5 wall++(qea 5 count++(qea 5 d0++(qea 5 d1++(qea 5 d2++(qea 5 d3++(qea 5 n++r)))))))))
theorem qkp (site seq wall count d0 d1 d2 d3:Int) (l:List Wr):toL (txS site seq wall count d0 d1 d2 d3 l)=qsi site seq wall count d0 d1 d2 d3 l.length (qm2 l):=by
 unfold txS;rw[q4z];have z:toL (⟨#[116]⟩:ByteArray)=[116]:=rfl;simp only[qpv,qsi,qh9,List.append_assoc,z,List.cons_append,List.nil_append]
def q4o (site a0 a1 a2 a3:Int) (r:List UInt8):List UInt8:=97::(qea 5 site++(qea 5 a0++(qea 5 a1++(qea 5 a2++(qea 5 a3++r)))))
theorem qif (site a0 a1 a2 a3:Int):toL (q45 site a0 a1 a2 a3)=q4o site a0 a1 a2 a3 []:=by
 have z:toL (⟨#[97]⟩:ByteArray)=[97]:=rfl;simp only[q45,q4o,qh9,List.append_assoc,z,List.cons_append,List.nil_append,List.append_nil]
structure TxV where
 site:Int
 seq:Int
 wall:Int
 count:Int
 d0:Int
 d1:Int
 d2:Int
 d3:Int
 l:List Wr
def TxV.ok (x:TxV):Bool:=qc7 x.site x.seq x.wall x.count x.d0 x.d1 x.d2 x.d3 x.l
def TxV.bytes (x:TxV):ByteArray:=txS x.site x.seq x.wall x.count x.d0 x.d1 x.d2 x.d3 x.l
def qte (L:List UInt8) (x:TxV):Prop:=x.ok=true/\toL x.bytes=L
theorem q5p {x y:Wr} (h:wrL x++a=wrL y++b) (j:0<=x.key/\x.key<=7/\x.data.size<=12) (l:0<=y.key/\y.key<=7/\y.data.size<=12):x=y/\a=b:=by
 simp only[wrL,List.append_assoc]at h;obtain⟨e,h⟩:=qbn h ⟨j.1,by omega⟩ ⟨l.1,by omega⟩;obtain⟨c,h⟩:=qbn h (by cases x.gone<;>decide) (by cases y.gone<;>decide);obtain⟨p,h⟩:=qbn h ⟨by omega,by omega⟩ ⟨by omega,by omega⟩;obtain⟨i,m⟩:=List.append_inj h (by rw[qbb,qbb];omega);refine⟨?_,m⟩;obtain⟨k,d,g⟩:=x;obtain⟨q,s,g'⟩:=y;simp only at e c i
 have o:g=g':=by
  cases g<;>cases g'
  ·rfl
  ·simp at c
  ·simp at c
  ·rfl
 rw[e,qxk i,o]
theorem qxf:∀(l m:List Wr) (a b:List UInt8),l.length=m.length->qm2 l++a=qm2 m++b->(∀x∈l,0<=x.key/\x.key<=7/\x.data.size<=12)->(∀x∈m,0<=x.key/\x.key<=7/\x.data.size<=12)->l=m/\a=b
 |[],[],a,b,_,h,_,_=>⟨rfl,h⟩
 |[],_::_,_,_,hl,_,_,_=>by simp at hl
 |_::_,[],_,_,hl,_,_,_=>by simp at hl
 |x::l,y::m,a,b,hl,h,hx,hy=>by
  have d:qm2 (x::l)++a=wrL x++(qm2 l++a):=by simp[qm2]
  have e:qm2 (y::m)++b=wrL y++(qm2 m++b):=by simp[qm2]
  rw[d,e]at h;obtain⟨g,i⟩:=q5p h (hx x (by simp)) (hy y (by simp));obtain⟨j,k⟩:=qxf l m a b (by simpa using hl) i (λz c=>hx z (by simp[c])) (λz c=>hy z (by simp[c]));exact⟨by rw[g,j],k⟩
theorem qor {l:List Wr} (h:qd7 l=true):∀x∈l,0<=x.key/\x.key<=7/\x.data.size<=12:=λx j=>by
 obtain⟨i,c,rfl⟩:=List.mem_iff_getElem.1 j
 have e:qff l i=l[i]:=by simp[qff,List.getD,List.getElem?_eq_getElem c]
 have d:=qon (qjr h i c);have g:=qmu (qjr h i c);rw[e]at d g;exact⟨d.1,d.2,g⟩
variable {x:TxV}
theorem qlo (h:x.ok=true):(0<=x.site/\x.site<=3)/\(1<=x.seq/\x.seq<=1099511627776)/\(0<=x.wall/\x.wall<=1099511627776)/\(0<=x.count/\x.count<=1099511627776)/\(0<=x.d0/\x.d0<=1099511627776)/\(0<=x.d1/\x.d1<=1099511627776)/\(0<=x.d2/\x.d2<=1099511627776)/\(0<=x.d3/\x.d3<=1099511627776)/\qd7 x.l=true:=by
 simp only[TxV.ok,qc7,Bool.and_eq_true,qa5,qau,qej]at h;obtain⟨⟨⟨⟨⟨c,d⟩,e,g⟩,⟨⟨i,j⟩,k⟩,m⟩,_⟩,o⟩:=h;exact⟨c,d,e,g,i,j,k,m,o⟩
variable {r:List UInt8}
theorem qzb {y:TxV} (s:x.ok=true) (t:y.ok=true) (h:toL x.bytes=toL y.bytes++r):x=y/\r=[]:=by
 obtain⟨a1,a2,a3,u,v,w,z,A,c⟩:=qlo s;obtain⟨B,C,D,E,F,G,H,I,d⟩:=qlo t;have J:=qjw c;have K:=qjw d;rw[TxV.bytes,TxV.bytes,qkp,qkp]at h;simp only[qsi,List.cons_append,List.append_assoc,List.cons.injEq,true_and]at h;obtain⟨e,h⟩:=qbn h ⟨a1.1,by omega⟩ ⟨B.1,by omega⟩;obtain⟨g,h⟩:=qbn h ⟨by omega,a2.2⟩ ⟨by omega,C.2⟩;obtain⟨i,h⟩:=qbn h a3 D;obtain⟨j,h⟩:=qbn h u E;obtain⟨k,h⟩:=qbn h v F;obtain⟨m,h⟩:=qbn h w G;obtain⟨o,h⟩:=qbn h z H;obtain⟨p,h⟩:=qbn h A I;obtain⟨M,h⟩:=qbn h ⟨by omega,by omega⟩ ⟨by omega,by omega⟩;obtain⟨q,h⟩:=qxf x.l y.l [] r (by omega) (by simpa using h) (qor c) (qor d);refine⟨?_,h.symm⟩;obtain⟨_,_,_,_,_,_,_,_,_⟩:=x;obtain⟨_,_,_,_,_,_,_,_,_⟩:=y;simp only at e g i j k m o p q;subst e g i j k m o p q;rfl
variable {L:List UInt8}
theorem q2b {y:TxV} (c:qte L x) (d:qte L y):x=y:=(qzb c.1 d.1 (r:=[]) (by rw[c.2,d.2,List.append_nil])).1
structure qnu where
 site:Int
 a0:Int
 a1:Int
 a2:Int
 a3:Int
def qnu.ok (x:qnu):Bool:=inB x.site 0 3&&qau x.a0 x.a1 x.a2 x.a3
def qnu.bytes (x:qnu):ByteArray:=q45 x.site x.a0 x.a1 x.a2 x.a3
def qdh (L:List UInt8) (x:qnu):Prop:=x.ok=true/\toL x.bytes=L
theorem qma {x:qnu} (h:x.ok=true):(0<=x.site/\x.site<=3)/\(0<=x.a0/\x.a0<=1099511627776)/\(0<=x.a1/\x.a1<=1099511627776)/\(0<=x.a2/\x.a2<=1099511627776)/\(0<=x.a3/\x.a3<=1099511627776):=by
 simp only[qnu.ok,Bool.and_eq_true,qa5,qau,qej]at h;obtain⟨c,⟨⟨d,e⟩,g⟩,i⟩:=h;exact⟨c,d,e,g,i⟩
variable {y:qnu}
theorem qu6 {x:qnu} (j:x.ok=true) (k:y.ok=true) (h:toL x.bytes=toL y.bytes++r):x=y/\r=[]:=by
 obtain⟨a1,a2,a3,l,m⟩:=qma j;obtain⟨o,p,q,s,t⟩:=qma k;rw[qnu.bytes,qnu.bytes,qif,qif]at h;simp only[q4o,List.cons_append,List.append_assoc,List.cons.injEq,true_and,List.nil_append]at h;obtain⟨c,h⟩:=qbn h ⟨a1.1,by omega⟩ ⟨o.1,by omega⟩;obtain⟨d,h⟩:=qbn h a2 p;obtain⟨e,h⟩:=qbn h a3 q;obtain⟨g,h⟩:=qbn h l s;obtain⟨i,h⟩:=qbn h m t;refine⟨?_,h.symm⟩;obtain⟨_,_,_,_,_⟩:=x;obtain⟨_,_,_,_,_⟩:=y;simp only at c d e g i;subst c d e g i;rfl
theorem qrz {x:qnu} (c:qdh L x) (d:qdh L y):x=y:=(qu6 c.1 d.1 (r:=[]) (by rw[c.2,d.2,List.append_nil])).1
theorem qwe (c:qte L x) (d:qdh L y):False:=by
 have h:=c.2.trans d.2.symm;rw[TxV.bytes,qnu.bytes,qkp,qif]at h;simp[qsi,q4o]at h
end
section
open Go.RowKit
def qc2 (w:World) (rb:Nat) (a:Option Addr) (R:List UInt8):Prop:=
 R=[]\/∃b o,a=some ⟨b,o,none⟩/\b<rb/\∀j u,R[j]?=some u->w.cell? ⟨b,o+j,none⟩=some (.int .u8 u.toNat)
structure Rd (w:World) (rb:Nat) (R:List UInt8) (wrong:Bool):Prop where
 rest:∃a c,w.cell? ⟨rb,0,none⟩=some (.slice a R.length c)/\R.length<=c/\qc2 w rb a R
 c1:w.cell? ⟨rb,1,none⟩=some (.bool wrong)
 f0:w.frozen? ⟨rb,0,none⟩=false
 f1:w.frozen? ⟨rb,1,none⟩=false
def q4m (k:Nat) (n:Int):Option (Int×List UInt8)->Option (Int×List UInt8)
 |none=>none
 |some (m,r)=>if 0<k/\m=0 then none else some (n+128^k*m,r)
def qwr (k:Nat) (n:Int) (R:List UInt8):Option (Int×List UInt8):=if 6<=k then none else q4m k n (qeb (5-k) R)
theorem qyk (R:List UInt8):qwr 0 0 R=qeb 5 R:=by
 show q4m 0 0 (qeb 5 R)=_;cases h:qeb 5 R with
 |none=>rfl
 |some x=>
  obtain⟨m,r⟩:=x;simp[q4m]
theorem q0l (n:Int) (R:List UInt8):qwr 6 n R=none:=rfl
theorem q2h (k:Nat) (n:Int):qwr k n []=none:=by
 unfold qwr;split
 ·rfl
 ·cases h:5-k<;>rfl
variable {k:Nat} {n:Int} {c:UInt8} {R:List UInt8}
theorem qxi (j:k<6) (b:¬c.toNat<128):qwr k n (c::R)=qwr (k+1) (n+((c.toNat:Int)-128)*128^k) R:=by
 unfold qwr;rw[if_neg (by omega)];by_cases d:k=5
 ·subst d;show q4m 5 n (if c.toNat<128 then some ((c.toNat:Int),R)else none)=none;rw[if_neg b];rfl
 ·rw[if_neg (by omega)];obtain⟨f,g⟩:∃f,5-k=f+1:=⟨4-k,by omega⟩
  have i:5-(k+1)=f:=by omega
  rw[g,i]
  show q4m k n (if c.toNat<128 then some ((c.toNat:Int),R)else match qeb f R with
   |none=>none
   |some (n,r')=>if n=0 then none else some ((c.toNat:Int)-128+128*n,r'))=_
  rw[if_neg b];cases h:qeb f R with
  |none=>rfl
  |some x=>
   obtain⟨m,r⟩:=x;have l:=(qlh f R m r h).1.1;by_cases a:m=0
   ·subst a;simp[q4m]
   ·have o:128<=c.toNat:=by omega
    have e:¬((c.toNat:Int)-128+128*m=0):=by omega
    simp only[q4m,if_neg a];rw[if_neg (λx=>e x.2),if_neg (λx=>a x.2)]
    congr 2
    have:(128:Int)^(k+1)=128^k*128:=Int.pow_succ 128 k;rw[this]
    generalize (128:Int)^k=P
    rw[Int.mul_add,Int.mul_comm ((c.toNat:Int)-128) P,Int.add_assoc,Int.mul_assoc]
theorem qyu (b:k<6) (a:c.toNat<128):qwr k n (c::R)=if 0<k/\(c.toNat:Int)=0 then none else some (n+128^k*c.toNat,R):=by
 unfold qwr;rw[if_neg (by omega)]
 have:qeb (5-k) (c::R)=some ((c.toNat:Int),R):=by
  cases h:5-k<;>(unfold qeb;rw[if_pos a])
 rw[this];rfl
theorem qb9 (g o:Nat) (w:World) (v:Value):qdc g w (w.setCell ⟨g,o,none⟩ v):=⟨rfl,rfl,rfl,by simp[World.setCell],λk _ a=>Below.heap_setCell w ⟨g,o,none⟩ v k (λe=>a (by rw[e]))⟩
variable {w:World} {rb:Nat}
theorem Rd.put {d:List UInt8} {g:Bool} (h:Rd w rb R g) (a:Option Addr) (n c:Nat) (l:n=d.length) (m:d.length<=c) (f:qc2 w rb a d):Rd (w.setCell ⟨rb,0,none⟩ (.slice a n c)) rb d g:=by
 subst l;obtain⟨a0,c0,p,_,_⟩:=h.rest;refine⟨⟨a,c,World.cell?_setCell_same w _ _ p,m,?_⟩,?_,?_,?_⟩
 ·rcases f with f|⟨b,o,e,i,q⟩
  ·exact .inl f
  ·refine .inr ⟨b,o,e,i,λj u r=>?_⟩;rw[World.cell?_setCell_other (h:=λe=>Nat.ne_of_lt i (by injection e with e1 _ _;exact e1.symm))];exact q j u r
 ·rw[World.cell?_setCell_other (h:=λe=>by injection e with _ e2 _;cases e2)];exact h.c1
 ·rw[World.frozen?_setCell];exact h.f0
 ·rw[World.frozen?_setCell];exact h.f1
theorem Rd.bad {f:Bool} (h:Rd w rb R f):Rd (w.setCell ⟨rb,1,none⟩ (.bool true)) rb R true:=by
 obtain⟨a0,c0,g,i,a⟩:=h.rest;refine⟨⟨a0,c0,?_,i,?_⟩,World.cell?_setCell_same w _ _ h.c1,?_,?_⟩
 ·rw[World.cell?_setCell_other (h:=λe=>by injection e with _ e2 _;cases e2)];exact g
 ·rcases a with a|⟨b,o,e,d,l⟩
  ·exact .inl a
  ·refine .inr ⟨b,o,e,d,λj u m=>?_⟩;rw[World.cell?_setCell_other (h:=λe=>Nat.ne_of_lt d (by injection e with e1 _ _;exact e1.symm))];exact l j u m
 ·rw[World.frozen?_setCell];exact h.f0
 ·rw[World.frozen?_setCell];exact h.f1
theorem qc2.drop {b o c:Nat} (d:b<rb) (e:∀j u,R[j]?=some u->w.cell? ⟨b,o+j,none⟩=some (.int .u8 u.toNat)) (f:k<=R.length) (g:R.length<=c):
 qc2 w rb (if c=k then some ⟨b,o,none⟩else some ⟨b,o+k,none⟩) (R.drop k):=by
 by_cases h:c=k
 ·exact .inl (List.drop_eq_nil_of_le (by omega))
 ·rw[if_neg h];refine .inr ⟨b,o+k,rfl,d,λj u a=>?_⟩;rw[List.getElem?_drop]at a;rw[Nat.add_assoc];exact e _ _ a
theorem q4a (a:k<6):(128:Int)^k<=34359738368:=by
 have:k=0\/k=1\/k=2\/k=3\/k=4\/k=5:=by omega
 rcases this with rfl|rfl|rfl|rfl|rfl|rfl<;>decide
theorem q2y (k:Nat):(2:Int)^(7*(k:Int)).toNat=128^k:=by
 have e:(7*(k:Int)).toNat=7*k:=by omega
 rw[e,Int.pow_mul];rfl
theorem qy1 {x P:Int} (b:0<=x) (d:x<=127) (a:0<=P):0<=x*P/\x*P<=127*P:=
 ⟨Int.mul_nonneg b a,Int.mul_le_mul_of_nonneg_right d a⟩
theorem qyy {m z:Int} (f:k<6) (g:z=k) (i:0<=n) (n1:n<128^k):wrap64 (n+wrap64 (m%128*2^(7*z).toNat))=n+m%128*128^k/\0<=n+m%128*128^k/\n+m%128*128^k<128^(k+1):=by
 have h:(128:Int)^(k+1)=128^k*128:=Int.pow_succ 128 k;rw[g,q2y,h];have b:=q4a f
 have a:(0:Int)<=128^k:=by omega
 revert b a n1
 generalize (128:Int)^k=P
 intro n1 b a;obtain⟨d,e⟩:=qy1 (x:=m%128) (by omega) (by omega) a
 revert d e
 generalize m%128*P=Q
 intro d e;unfold wrap64;omega
def qb6 (most:Int) (R:List UInt8) (wrong:Bool) (v:Int) (R':List UInt8) (wrong':Bool):Prop:=
 R'.length<=R.length/\((qeb 5 R=some (v,R')/\v<=most/\wrong'=wrong)\/((∀n r,qeb 5 R=some (n,r)->¬n<=most)/\v=0/\wrong'=true))
def q3k (most:Int) (R:List UInt8) (wrong:Bool) (rb:Nat) (w:World) (v:Int) (w':World):Prop:=∃R' wrong',qb6 most R wrong v R' wrong'/\Rd w' rb R' wrong'/\qdc rb w w'
theorem qba (rb:Nat) (R:List UInt8) (q:Bool) (most:Int) (w:World) (hR:Rd w rb R q):
 Calls Tryz.prog 144 #[.pointer (some ⟨rb,0,none⟩),.int .i64 most] w λe w'=>
  ∃v,e=.returned (.int .i64 v)/\q3k most R q rb w v w':=by
 go_enter Tryz.func144,Tryz.ntmps144
 go_wp2_with fail
 go_loopw [5,8] (λnv iv wr=>∃(k:Nat) (z n:Int) (g:List UInt8),k<=6/\z=k/\iv=.int .i64 z/\nv=.int .i64 n/\0<=n/\n<128^k/\g.length<=R.length/\qeb 5 R=qwr k n g/\Rd wr rb g q/\qdc rb w wr) (λ_ i _=>6-(intOf i).toNat)
 case atStart=>exact⟨0,0,0,R,by omega,rfl,rfl,rfl,by omega,by decide,by omega,(qyk R).symm,hR,qdc.refl _ _⟩
 case round=>
  obtain⟨k,z,n,g,hk,Q,rfl,rfl,n0,n1,I,S,d,y⟩:=hrel;have B:Hid (qeb 5 R=qwr k n g):=S;clear S;obtain⟨a,c,T,U,hB⟩:=d.rest;have q1:=d.c1;have g0:=d.f0;have g1:=d.f1;by_cases J:k<6
  ·have h1:z<6:=by omega
   have h3:0<=z:=by omega
   have C:Hid (z=k):=Q;clear Q;have N1:Hid (n<128^k):=n1;clear n1;cases g with
   |nil=>
    simp only[List.length_nil]at T;have K:=d.bad
    go_wp2_with fail
    go_ret;exact⟨0,rfl,[],true,⟨by simp,.inr ⟨λn r h=>(by rw[B.out,q2h]at h;cases h),rfl,rfl⟩⟩,K,y.trans (qb9 _ _ _ _) (.inl rfl)⟩
   |cons ch R''=>
    obtain⟨b,o,rfl,hne,L⟩:∃b o,a=some ⟨b,o,none⟩/\b<rb/\∀j u,(ch::R'')[j]?=some u->wr.cell? ⟨b,o+j,none⟩=some (.int .u8 u.toNat):=by
     rcases hB with h|h
     ·cases h
     ·exact h
    have x0:wr.cell? ⟨b,o,none⟩=some (.int .u8 ch.toNat):=L 0 ch rfl;have M:=qc2.drop (k:=1) hne L (by simp) U;obtain⟨l,ha'⟩:∃l,(if c=1 then some (⟨b,o,none⟩:Addr)else some ⟨b,o+1,none⟩)=l:=⟨_,rfl⟩;rw[ha']at M;have HC:Hid (qc2 wr rb l R''):=M;clear M;clear L;have hch:=ch.toNat_lt;obtain⟨m,N⟩:∃m:Int,m=ch.toNat:=⟨_,rfl⟩;rw[<-N]at x0;have D:Hid (m=ch.toNat):=N
    have m0:0<=m:=by omega
    have m1:m<256:=by omega
    clear N;have hlen3:R''.length+1<=R.length:=I;obtain⟨len,F⟩:∃len:Nat,R''.length=len:=⟨_,rfl⟩;rw[List.length_cons,F]at T U;rw[F]at hlen3;have p:Hid (R''.length=len):=F;clear F I;obtain⟨bm,V,O⟩:=qyy (m:=m) J C.out n0 N1.out;obtain⟨v,G⟩:∃v,v=n+m%128*128^k:=⟨_,rfl⟩;rw[<-G]at bm V O;have W:Hid (v=n+m%128*128^k):=G;have B1:Hid (v<128^(k+1)):=O;clear G O;have X:=d.put l len (c-1) p.out.symm (by rw[p.out];omega) HC.out;have t:Hid (qdc rb w (wr.setCell ⟨rb,0,none⟩ (.slice l len (c-1)))):=y.trans (qb9 _ _ _ _) (.inl rfl);have H:Hid (Rd (wr.setCell ⟨rb,0,none⟩ (.slice l len (c-1))) rb R'' q):=X;clear X d y;by_cases hm2:128<=m
    ·have E:Hid (qeb 5 R=qwr (k+1) v R''):=by
      have e:m%128=(ch.toNat:Int)-128:=by have:=D.out;omega
      show qeb 5 R=_;rw[B.out,qxi J (by have:=D.out;omega),W.out,e]
     go_wp2_with fail
     go_roundw
     case rel=>exact⟨k+1,z+1,v,R'',by omega,by have:=C.out;omega,rfl,by first|rfl|rw[bm],V,B1.out,by rw[p.out];omega,E.out,H.out,t.out⟩
     case measure=>simp[intOf];omega
    ·have E:Hid (qeb 5 R=if 0<k/\m=0 then none else some (v,R'')):=by
      have e:m%128=m:=by omega
      show qeb 5 R=_;rw[B.out,qyu J (by have:=D.out;omega),W.out,e,D.out,Int.mul_comm (128^k)]
     have Y:=H.out.bad;have Z:Hid (Rd ((wr.setCell ⟨rb,0,none⟩ (.slice l len (c-1))).setCell ⟨rb,1,none⟩ (.bool true)) rb R'' true):=Y;clear Y;by_cases G:most<v
     ·go_wp2_with fail
      go_ret;refine⟨0,rfl,R'',true,⟨by rw[p.out];omega,.inr ⟨λn r h=>?_,rfl,rfl⟩⟩,Z.out,t.out.trans (qb9 _ _ _ _) (.inl rfl)⟩;rw[E.out]at h;split at h
      ·cases h
      ·injection h with h;injection h with h1 _;omega
     ·by_cases s:m=0
      ·have e0:(m==0)=true:=by simp[s]
       have P:Hid (m=0):=s;clear s;by_cases hk0:0<z
       ·go_wp2_with fail
        go_ret;refine⟨0,rfl,R'',true,⟨by rw[p.out];omega,.inr ⟨λn r h=>?_,rfl,rfl⟩⟩,Z.out,t.out.trans (qb9 _ _ _ _) (.inl rfl)⟩;rw[E.out,if_pos ⟨by have:=C.out;omega,P.out⟩]at h;cases h
       ·go_wp2_with fail
        go_ret;refine⟨v,rfl,R'',q,⟨by rw[p.out];omega,.inl ⟨?_,by omega,rfl⟩⟩,H.out,t.out⟩;rw[E.out,if_neg (λx=>by have:=C.out;have:=x.1;omega)]
      ·have e0:(m==0)=false:=by simp[s]
       have P:Hid (¬m=0):=s;clear s
       go_wp2_with fail
       go_ret;refine⟨v,rfl,R'',q,⟨by rw[p.out];omega,.inl ⟨?_,by omega,rfl⟩⟩,H.out,t.out⟩;rw[E.out,if_neg (λx=>P.out x.2)]
  ·have e:k=6:=by omega
   have K:=d.bad
   go_wp2_with fail
   go_ret;exact⟨0,rfl,g,true,⟨I,.inr ⟨λn r h=>(by rw[B.out,e,q0l]at h;cases h),rfl,rfl⟩⟩,K,y.trans (qb9 _ _ _ _) (.inl rfl)⟩
end
section
open Tryz Go.RowKit
def qk7 (R:List UInt8) (wrong:Bool) (n:Int) (s:ByteArray) (R':List UInt8) (wrong':Bool):Prop:=
 (n<=R.length/\toL s=R.take n.toNat/\R'=R.drop n.toNat/\wrong'=wrong)\/((R.length:Int)<n/\s=⟨#[]⟩/\R'=R/\wrong'=true)
def q2v (R:List UInt8) (wrong:Bool) (n:Int) (rb:Nat) (w:World) (s:ByteArray) (w':World):Prop:=∃R' wrong',qk7 R wrong n s R' wrong'/\Rd w' rb R' wrong'/\qdc rb w w'
theorem q5y (a:Option Addr) (c:Nat) (w:World):(convert 163 9 (.slice a 0 c)).run prog w=.ok (.string ⟨#[]⟩) w:=by
 rw[run_convert_bytes_string w 163 9 5 a 0 c underlying163 underlying5 underlying9];cases a with
 |none=>simp[Conv.bytesToString];rfl
 |some a=>simp[Conv.bytesToString,loadCells,loadCellsFrom];rfl
variable {R:List UInt8}
theorem q5e {w:World} {b o:Nat} (n c:Nat) (i:n<=R.length) (d:∀j u,R[j]?=some u->w.cell? ⟨b,o+j,none⟩=some (.int .u8 u.toNat)):
 (convert 163 9 (.slice (some ⟨b,o,none⟩) n c)).run prog w=.ok (.string ⟨(R.take n).toArray⟩) w:=by
 have f:((R.take n).map λb=>(b.toNat:Int)).length=n:=by simp;omega
 have:=run_convert_bytes_arg (P:=prog) w 163 5 underlying163 underlying5 b o n c ((R.take n).map λb=>(b.toNat:Int)) f (λj g=>by
  have a:j<R.length:=by omega
  rw[d j R[j] (List.getElem?_eq_getElem a)]
  simp[List.getD,List.getElem?_eq_getElem a,List.getElem?_take_of_lt g]) 9 underlying9
 have e:((λn:Int=>UInt8.ofNat n.toNat)∘λb:UInt8=>(b.toNat:Int))=id:=by
  funext b
  simp
 have h:strOfNums ((R.take n).map λb=>(b.toNat:Int))=⟨(R.take n).toArray⟩:=by
  unfold strOfNums;rw[List.map_map,e,List.map_id]
 rw[this,h]
theorem qpy (j:Nat) (R:List UInt8) (i:Bool) (n:Int) (w:World) (g:Rd w j R i) (I:0<=n) (z:R.length<=1000000):
 Calls prog 167 #[.pointer (some ⟨j,0,none⟩),.int .i64 n] w λe w'=>
  ∃s,e=.returned (.string s)/\q2v R i n j w s w':=by
 obtain⟨a,c,B,x,C⟩:=g.rest;have J:=g.c1;have K:=g.f0;have L:=g.f1;obtain⟨len,l⟩:∃len,R.length=len:=⟨_,rfl⟩;rw[l]at B x z;have d:Hid _:=l;clear l;by_cases h:(len:Int)<n
 ·have D:=g.bad;go_enter func167,ntmps167
  go_wp2_with fail
  go_ret;exact⟨_,rfl,R,true,.inr ⟨by rw[d.out];exact h,rfl,rfl,rfl⟩,D,qb9 _ _ _ _⟩
 ·rcases C with p|⟨b,o,rfl,E,q⟩
  ·obtain rfl:len=0:=by rw[<-d.out,p];rfl
   obtain rfl:n=0:=by omega
   have F:Hid _:=p;clear p;have y:=q5y;have r:Hid _:=g.put a 0 c rfl (by simp) (.inl rfl);go_enter func167,ntmps167
   go_wp2_with fail
   go_ret;exact⟨_,rfl,[],i,.inl ⟨by rw[d.out];decide,rfl,by rw[F.out];rfl,rfl⟩,r.out,qb9 _ _ _ _⟩
  ·obtain⟨m,rfl⟩:∃m:Nat,n=m:=⟨n.toNat,by omega⟩;have y:=q5e (R:=R) m c (by rw[d.out];omega) q;have t:=qc2.drop (k:=m) E q (by rw[d.out];omega) (by rw[d.out];exact x);obtain⟨u,G⟩:∃u,(if c=m then some (⟨b,o,none⟩:Addr)else some ⟨b,o+m,none⟩)=u:=⟨_,rfl⟩;rw[G]at t;obtain⟨s,v⟩:∃s:ByteArray,s=⟨(R.take m).toArray⟩:=⟨_,rfl⟩;rw[<-v]at y;have H:Hid _:=v;clear v q;have r:Hid _:=g.put u (len-m) (c-m) (by rw[List.length_drop,d.out]) (by rw[List.length_drop,d.out];omega) t;clear t;go_enter func167,ntmps167
   go_wp2_with fail
   go_ret;exact⟨_,rfl,R.drop m,i,.inl ⟨by rw[d.out];omega,by rw[H.out];rfl,rfl,rfl⟩,r.out,qb9 _ _ _ _⟩
def q1v (R:List UInt8) (wrong:Bool) (c:UInt8) (rb:Nat) (w w':World):Prop:=∃R' wrong',((wrong'=false↔wrong=false/\R=c::R')/\R'.length<=R.length/\(∀r,R=c::r->R'=r))/\Rd w' rb R' wrong'/\qdc rb w w'
variable {R':List UInt8} {c:UInt8} {s:ByteArray}
theorem qso {d f:Bool} (h:qk7 R d 1 s R' f) (b:toL s=[c]):R=c::R'/\f=d:=by
 rcases h with ⟨g,a,i,j⟩|⟨_,a,_,_⟩
 ·refine⟨?_,j⟩;cases R with
  |nil=>simp at g
  |cons x R=>
   rw[b]at a
   have e:x=c:=by simpa using a.symm
   rw[i,e];rfl
 ·rw[a]at b;cases b
theorem qrq {a b:Bool} (h:qk7 R a 1 s R' b) (d:¬toL s=[c]) (r:List UInt8):¬R=c::r:=by
 intro e;subst e;rcases h with ⟨_,f,_,_⟩|⟨g,_,_,_⟩
 ·exact d (by rw[f];rfl)
 ·simp at g;omega
theorem take_length {b d:Bool} {n:Int} (h:qk7 R b n s R' d):R'.length<=R.length:=by
 rcases h with ⟨_,_,a,_⟩|⟨_,_,a,_⟩
 ·rw[a,List.length_drop];omega
 ·rw[a];exact Nat.le_refl _
theorem qt7 (d:Nat) (R:List UInt8) (j:Bool) (c:UInt8) (w:World) (q:Rd w d R j) (t:R.length<=1000000):
 Calls prog 143 #[.pointer (some ⟨d,0,none⟩),.string ⟨#[c]⟩] w λe w'=>e=.returned (.tuple #[])/\q1v R j c d w w':=by
 go_enter func143,ntmps143
 go_wp2_with fail
 refine(qpy d R j 1 w q (by omega) t).mono ?_;rintro e y ⟨s,rfl,R',u,l,g,m⟩;have z:=g.f1;have B:=g.c1;have i:Hid _:=l;clear l;by_cases a:toL s=[c]
 ·have v:(s.toList==[c])=true:=by rw[qgz,a];simp
  obtain⟨n,o⟩:=qso i.out a;have b:Hid _:=n;have p:Hid _:=o;clear n o a
  go_wp2_with fail
  go_end0;exact⟨rfl,R',u,⟨⟨λh=>⟨by rw[<-p.out];exact h,b.out⟩,λh=>by rw[p.out];exact h.1⟩,take_length i.out,λr k=>by have:=b.out.symm.trans k;injection this⟩,g,m⟩
 ·have v:(s.toList==[c])=false:=by rw[qgz];exact beq_eq_false_iff_ne.2 a
  have b:Hid (∀r,¬R=c::r):=qrq i.out a;have x:=g.bad;clear a
  go_wp2_with fail
  go_end0;exact⟨rfl,R',true,⟨⟨λh=>(by cases h),λh=>absurd h.2 (b.out _)⟩,take_length i.out,λr k=>absurd k (b.out r)⟩,x,m.trans (qb9 _ _ _ _) (.inl rfl)⟩
def qjp (R:List UInt8) (wrong:Bool):Bool:=!wrong&&R.isEmpty
theorem qob (g:Nat) (R:List UInt8) (b:Bool) (w:World) (h:Rd w g R b):
 Calls prog 147 #[.pointer (some ⟨g,0,none⟩)] w λe w'=>e=.returned (.bool (qjp R b))/\Below w.heap.size w w':=by
 obtain⟨a,c,d,j,k⟩:=h.rest;have l:=h.c1;cases b
 ·cases R with
  |nil=>
   simp only[List.length_nil]at d;go_enter func147,ntmps147
   go_wp2_with fail
   go_ret;exact⟨rfl,Below.refl _ _⟩
  |cons x R=>
   simp only[List.length_cons]at d;obtain⟨len,i⟩:∃len,R.length=len:=⟨_,rfl⟩;rw[i]at d;have m:((len:Int)+1==0)=false:=beq_eq_false_iff_ne.2 (by omega);go_enter func147,ntmps147
   go_wp2_with fail
   go_ret;exact⟨rfl,Below.refl _ _⟩
 ·go_enter func147,ntmps147
  go_wp2_with fail
  go_ret;exact⟨rfl,Below.refl _ _⟩
end
section
open Go.Value Go.IntKind Go.RowKit
variable {w w':World} {rb:Nat}
theorem qbe.only {b:Nat} {a0 a1 a2 a3:Int} (h:qbe w b a0 a1 a2 a3) (a:qdc rb w w') (c:b≠rb):qbe w' b a0 a1 a2 a3:=by
 have e:w'.heap[b]?=w.heap[b]?:=a.block b h.lt (λx=>by injection x with x;exact c x)
 constructor
 ·rw[World.cell?_of_block (w:=w) e];exact h.c0
 ·rw[World.cell?_of_block (w:=w) e];exact h.c1
 ·rw[World.cell?_of_block (w:=w) e];exact h.c2
 ·rw[World.cell?_of_block (w:=w) e];exact h.c3
 ·rw[World.frozen?_of_block (w:=w) e];exact h.f0
 ·rw[World.frozen?_of_block (w:=w) e];exact h.f1
 ·rw[World.frozen?_of_block (w:=w) e];exact h.f2
 ·rw[World.frozen?_of_block (w:=w) e];exact h.f3
variable {R:List UInt8}
theorem Rd.lt {a:Bool} (h:Rd w rb R a):rb<w.heap.size:=World.block_lt_of_cell? _ _ h.c1
theorem Rd.kept {f:Bool} (h:Rd w rb R f) (i:∀k,k<w.heap.size->w'.heap[k]?=w.heap[k]?):Rd w' rb R f:=by
 obtain⟨a,c,m,n,d⟩:=h.rest;have e:=i rb h.lt;refine⟨⟨a,c,by rw[World.cell?_of_block (w:=w) e];exact m,n,?_⟩,by rw[World.cell?_of_block (w:=w) e];exact h.c1,by rw[World.frozen?_of_block (w:=w) e];exact h.f0,by rw[World.frozen?_of_block (w:=w) e];exact h.f1⟩;rcases d with d|⟨b,o,p,q,r⟩
 ·exact .inl d
 ·refine .inr ⟨b,o,p,q,λj u s=>?_⟩;have l:=r j u s;rw[World.cell?_of_block (w:=w) (i b (World.block_lt_of_cell? _ _ l))];exact l
theorem Rd.alloc {a:Bool} (h:Rd w rb R a) (o:Obj):Rd (w.alloc o) rb R a:=h.kept λk b=>Below.heap_alloc w o k b
theorem Rd.far {f:Bool} (h:Rd w rb R f) (p:Addr) (v:Value) (r:rb<p.block):Rd (w.setCell p v) rb R f:=by
 obtain⟨a,c,i,k,d⟩:=h.rest;have e:(w.setCell p v).heap[rb]?=w.heap[rb]?:=Below.heap_setCell w p v rb (by omega);refine⟨⟨a,c,by rw[World.cell?_of_block (w:=w) e];exact i,k,?_⟩,by rw[World.cell?_of_block (w:=w) e];exact h.c1,by rw[World.frozen?_of_block (w:=w) e];exact h.f0,by rw[World.frozen?_of_block (w:=w) e];exact h.f1⟩;rcases d with d|⟨b,o,l,m,n⟩
 ·exact .inl d
 ·refine .inr ⟨b,o,l,m,λj u q=>?_⟩;rw[World.cell?_of_block (w:=w) (Below.heap_setCell w p v b (by omega))];exact n j u q
variable {g:Nat} {w1:World}
theorem qc5 {p:Addr} {v:Value} (h:qdc g w w1) (c:w.heap.size<=p.block):qdc g w (w1.setCell p v):=
 ⟨h.os,h.tape,h.output,by simpa[World.setCell]using h.size,λk a b=>(Below.heap_setCell w1 p v k (by omega)).trans (h.block k a b)⟩
theorem qlm {o:Obj} (h:qdc g w w1):qdc g w (w1.alloc o):=h.trans (g':=g) (qdc.ofBelow (boxed (Below.refl _ _) o)) (.inl rfl)
def q41 (R:List UInt8) (wrong:Bool) (rb:Nat) (w:World) (v0 v1 v2 v3:Int) (w':World):Prop:=
 ∃R0 x0 R1 x1 R2 x2 R3 x3,qb6 1099511627776 R wrong v0 R0 x0/\qb6 1099511627776 R0 x0 v1 R1 x1/\qb6 1099511627776 R1 x1 v2 R2 x2/\qb6 1099511627776 R2 x2 v3 R3 x3/\Rd w' rb R3 x3/\qdc rb w w'
theorem qyb (rb:Nat) (R:List UInt8) (d:Bool) (w:World) (z:Rd w rb R d):
 Calls Tryz.prog 145 #[.pointer (some ⟨rb,0,none⟩)] w λe w'=>
  ∃v0 v1 v2 v3,e=.returned (.agg #[int i64 v0,int i64 v1,int i64 v2,int i64 v3])/\q41 R d rb w v0 v1 v2 v3 w':=by
 have O:=z.lt
 have h:w.heap.size+1≠rb:=by omega
 have i:w.heap.size≠rb:=by omega
 have a:=(qbe.new w 47 0 0 0 0).boxed (.cells #[int i64 0,int i64 0,int i64 0,int i64 0] 47);have RW:qbe ((w.alloc (.cells #[int i64 0,int i64 0,int i64 0,int i64 0] 47)).alloc (.cells #[int i64 0,int i64 0,int i64 0,int i64 0] 47)) (w.heap.size+1) 0 0 0 0:=qbe.newest (by simp);have b:qdc rb w ((w.alloc (.cells #[int i64 0,int i64 0,int i64 0,int i64 0] 47)).alloc (.cells #[int i64 0,int i64 0,int i64 0,int i64 0] 47)):=qlm (qlm (qdc.refl _ _));go_enter Tryz.func145,Tryz.ntmps145
 go_wp2_with fail
 refine wp_loop_rounds 5 ?_;rw[rounds_succ]
 go_wp2_with fail
 refine(qba rb R d 1099511627776 _ ((z.alloc _).alloc _)).mono ?_;rintro e w1 ⟨v0,rfl,j,x0,B,s,k⟩;have F:Hid (qb6 1099511627776 R d v0 j x0):=B;replace RW:=RW.only k h;replace a:=a.only k i;replace b:=b.trans k (.inl rfl);clear B k;replace s:=s.far ⟨w.heap.size+1,0,none⟩ (int i64 v0) (by show rb<w.heap.size+1;omega);replace b:=qc5 (p:=⟨w.heap.size+1,0,none⟩) (v:=int i64 v0) b (by show w.heap.size<=w.heap.size+1;omega);have c:=RW.set0 v0;replace a:=a.far ⟨w.heap.size+1,0,none⟩ (int i64 v0) (by show w.heap.size+1≠w.heap.size;omega);have c0:=RW.c0;have c1:=RW.c1;have c2:=RW.c2;have c3:=RW.c3;have f0:=RW.f0;have f1:=RW.f1;have f2:=RW.f2;have f3:=RW.f3
 go_wp2_with fail
 clear c0 c1 c2 c3 f0 f1 f2 f3 RW;have RW:=c;clear c;rw[rounds_succ]
 go_wp2_with fail
 refine(qba rb j x0 1099511627776 _ s).mono ?_;rintro e w2 ⟨v1,rfl,l,x1,n1,u,m⟩;have G:Hid (qb6 1099511627776 j x0 v1 l x1):=n1;replace RW:=RW.only m h;replace a:=a.only m i;replace b:=b.trans m (.inl rfl);clear n1 m;replace u:=u.far ⟨w.heap.size+1,1,none⟩ (int i64 v1) (by show rb<w.heap.size+1;omega);replace b:=qc5 (p:=⟨w.heap.size+1,1,none⟩) (v:=int i64 v1) b (by show w.heap.size<=w.heap.size+1;omega);have c:=RW.set1 v1;replace a:=a.far ⟨w.heap.size+1,1,none⟩ (int i64 v1) (by show w.heap.size+1≠w.heap.size;omega);have c0:=RW.c0;have c1:=RW.c1;have c2:=RW.c2;have c3:=RW.c3;have f0:=RW.f0;have f1:=RW.f1;have f2:=RW.f2;have f3:=RW.f3
 go_wp2_with fail
 clear c0 c1 c2 c3 f0 f1 f2 f3 RW;have RW:=c;clear c;rw[rounds_succ]
 go_wp2_with fail
 refine(qba rb l x1 1099511627776 _ u).mono ?_;rintro e P ⟨v2,rfl,n,x2,C,x,o⟩;have H:Hid (qb6 1099511627776 l x1 v2 n x2):=C;replace RW:=RW.only o h;replace a:=a.only o i;replace b:=b.trans o (.inl rfl);clear C o;replace x:=x.far ⟨w.heap.size+1,2,none⟩ (int i64 v2) (by show rb<w.heap.size+1;omega);replace b:=qc5 (p:=⟨w.heap.size+1,2,none⟩) (v:=int i64 v2) b (by show w.heap.size<=w.heap.size+1;omega);have c:=RW.set2 v2;replace a:=a.far ⟨w.heap.size+1,2,none⟩ (int i64 v2) (by show w.heap.size+1≠w.heap.size;omega);have c0:=RW.c0;have c1:=RW.c1;have c2:=RW.c2;have c3:=RW.c3;have f0:=RW.f0;have f1:=RW.f1;have f2:=RW.f2;have f3:=RW.f3
 go_wp2_with fail
 clear c0 c1 c2 c3 f0 f1 f2 f3 RW;have RW:=c;clear c;rw[rounds_succ]
 go_wp2_with fail
 refine(qba rb n x2 1099511627776 _ x).mono ?_;rintro e Q ⟨v3,rfl,D,x3,E,y,q⟩;have I:Hid (qb6 1099511627776 n x2 v3 D x3):=E;replace RW:=RW.only q h;replace a:=a.only q i;replace b:=b.trans q (.inl rfl);clear E q;replace y:=y.far ⟨w.heap.size+1,3,none⟩ (int i64 v3) (by show rb<w.heap.size+1;omega);replace b:=qc5 (p:=⟨w.heap.size+1,3,none⟩) (v:=int i64 v3) b (by show w.heap.size<=w.heap.size+1;omega);have c:=RW.set3 v3;replace a:=a.far ⟨w.heap.size+1,3,none⟩ (int i64 v3) (by show w.heap.size+1≠w.heap.size;omega);have c0:=RW.c0;have c1:=RW.c1;have c2:=RW.c2;have c3:=RW.c3;have f0:=RW.f0;have f1:=RW.f1;have f2:=RW.f2;have f3:=RW.f3
 go_wp2_with fail
 clear c0 c1 c2 c3 f0 f1 f2 f3 RW;have RW:=c;clear c;rw[rounds_succ];have J:=(((y.far ⟨w.heap.size,0,none⟩ (int i64 v0) (by show rb<w.heap.size;omega)).far ⟨w.heap.size,1,none⟩ (int i64 v1) (by show rb<w.heap.size;omega)).far ⟨w.heap.size,2,none⟩ (int i64 v2) (by show rb<w.heap.size;omega)).far ⟨w.heap.size,3,none⟩ (int i64 v3) (by show rb<w.heap.size;omega);replace b:=qc5 (p:=⟨w.heap.size,3,none⟩) (v:=int i64 v3) (qc5 (p:=⟨w.heap.size,2,none⟩) (v:=int i64 v2) (qc5 (p:=⟨w.heap.size,1,none⟩) (v:=int i64 v1) (qc5 (p:=⟨w.heap.size,0,none⟩) (v:=int i64 v0) b (Nat.le_refl _)) (Nat.le_refl _)) (Nat.le_refl _)) (Nat.le_refl _);have r:=a.set (x0:=v0) (x1:=v1) (x2:=v2) (x3:=v3);have c0:=RW.c0;have c1:=RW.c1;have c2:=RW.c2;have c3:=RW.c3;have S:=a.c0;have T:=a.c1;have U:=a.c2;have V:=a.c3;have f0:=a.f0;have f1:=a.f1;have f2:=a.f2;have f3:=a.f3
 go_wp2_with fail
 have K:=r.c0;have L:=r.c1;have M:=r.c2;have N:=r.c3;exact bodyPost_ret (v:=.agg #[int i64 v0,int i64 v1,int i64 v2,int i64 v3]) (by simp[results,Tryz.results145,go_sem,K,L,M,N]) rfl ⟨v0,v1,v2,v3,rfl,j,x0,l,x1,n,x2,D,x3,F.out,G.out,H.out,I.out,J,b⟩
end
section
open Go.RowKit
theorem qb6.nonneg {most:Int} {R a:List UInt8} {c d:Bool} {v:Int} (h:qb6 most R c v a d):0<=v:=by
 rcases h.2 with ⟨h,_,_⟩|⟨_,h,_⟩
 ·exact(qlh 5 R v a h).1.1
 ·omega
structure qkg (w:World) (b:Nat) (key:Int) (data:ByteArray) (gone:Bool):Prop where
 c0:w.cell? ⟨b,0,none⟩=some (.int .i64 key)
 c1:w.cell? ⟨b,1,none⟩=some (.string data)
 c2:w.cell? ⟨b,2,none⟩=some (.bool gone)
 f0:w.frozen? ⟨b,0,none⟩=false
 f1:w.frozen? ⟨b,1,none⟩=false
 f2:w.frozen? ⟨b,2,none⟩=false
variable {w:World} {b:Nat}
theorem qkg.lt {key:Int} {data:ByteArray} {gone:Bool} (h:qkg w b key data gone):b<w.heap.size:=World.block_lt_of_cell? _ _ h.c0
variable {w':World}
theorem qkg.kept {key:Int} {data:ByteArray} {gone:Bool} (h:qkg w b key data gone) (e:w'.heap[b]?=w.heap[b]?):qkg w' b key data gone:=by
 constructor
 ·rw[World.cell?_of_block (w:=w) e];exact h.c0
 ·rw[World.cell?_of_block (w:=w) e];exact h.c1
 ·rw[World.cell?_of_block (w:=w) e];exact h.c2
 ·rw[World.frozen?_of_block (w:=w) e];exact h.f0
 ·rw[World.frozen?_of_block (w:=w) e];exact h.f1
 ·rw[World.frozen?_of_block (w:=w) e];exact h.f2
theorem qkg.only {a:Nat} {key:Int} {data:ByteArray} {gone:Bool} (h:qkg w b key data gone) (c:qdc a w w') (d:b≠a):qkg w' b key data gone:=
 h.kept (c.block b h.lt (λx=>by injection x with x;exact d x))
theorem qkg.far {key:Int} {data:ByteArray} {gone:Bool} (h:qkg w b key data gone) (p:Addr) (u:Value) (a:p.block≠b):qkg (w.setCell p u) b key data gone:=
 h.kept (Below.heap_setCell _ _ _ _ (Ne.symm a))
theorem qkg.boxed {key:Int} {data:ByteArray} {gone:Bool} (h:qkg w b key data gone) (o:Obj):qkg (w.alloc o) b key data gone:=
 h.kept (Below.heap_alloc _ _ _ h.lt)
theorem qkg.new {T:TypeId} {n:Nat} {key:Int} {data:ByteArray} {gone:Bool} (a:w.heap.size=n):qkg (w.alloc (.cells #[.int .i64 key,.string data,.bool gone] T)) n key data gone:=by
 subst a
 constructor<;>go_simp
theorem qkg.set0 {key:Int} {data:ByteArray} {gone:Bool} (h:qkg w b key data gone) (x:Int):qkg (w.setCell ⟨b,0,none⟩ (.int .i64 x)) b x data gone:=
 ⟨World.cell?_setCell_same _ _ _ h.c0,(World.cell?_setCell_other _ _ _ _ (by simp)).trans h.c1,(World.cell?_setCell_other _ _ _ _ (by simp)).trans h.c2,(World.frozen?_setCell _ _ _ _).trans h.f0,(World.frozen?_setCell _ _ _ _).trans h.f1,(World.frozen?_setCell _ _ _ _).trans h.f2⟩
theorem qkg.set1 {key:Int} {data:ByteArray} {gone:Bool} (h:qkg w b key data gone) (x:ByteArray):qkg (w.setCell ⟨b,1,none⟩ (.string x)) b key x gone:=
 ⟨(World.cell?_setCell_other _ _ _ _ (by simp)).trans h.c0,World.cell?_setCell_same _ _ _ h.c1,(World.cell?_setCell_other _ _ _ _ (by simp)).trans h.c2,(World.frozen?_setCell _ _ _ _).trans h.f0,(World.frozen?_setCell _ _ _ _).trans h.f1,(World.frozen?_setCell _ _ _ _).trans h.f2⟩
theorem qkg.set2 {key:Int} {data:ByteArray} {gone:Bool} (h:qkg w b key data gone) (x:Bool):qkg (w.setCell ⟨b,2,none⟩ (.bool x)) b key data x:=
 ⟨(World.cell?_setCell_other _ _ _ _ (by simp)).trans h.c0,(World.cell?_setCell_other _ _ _ _ (by simp)).trans h.c1,World.cell?_setCell_same _ _ _ h.c2,(World.frozen?_setCell _ _ _ _).trans h.f0,(World.frozen?_setCell _ _ _ _).trans h.f1,(World.frozen?_setCell _ _ _ _).trans h.f2⟩
def qkj (R:List UInt8) (wrong:Bool) (key:Int) (data:ByteArray) (gone:Bool) (R':List UInt8) (wrong':Bool):Prop:=
 ∃R0 x0 R1 x1 R2 x2 g n,qb6 7 R wrong key R0 x0/\qb6 1 R0 x0 g R1 x1/\gone=(g==1)/\qb6 12 R1 x1 n R2 x2/\qk7 R2 x2 n data R' wrong'
def qzw (R:List UInt8) (wrong:Bool) (rb:Nat) (w:World) (key:Int) (data:ByteArray) (gone:Bool) (w':World):Prop:=
 ∃R' wrong',qkj R wrong key data gone R' wrong'/\Rd w' rb R' wrong'/\qdc rb w w'
theorem qx9 (d:Nat) (R:List UInt8) (i:Bool) (w:World) (D:Rd w d R i) (U:R.length<=1000000):
 Calls Tryz.prog 146 #[.pointer (some ⟨d,0,none⟩)] w λe w'=>
  ∃key data gone,e=.returned (.agg #[.int .i64 key,.string data,.bool gone])/\qzw R i d w key data gone w':=by
 have V:=D.lt
 have j:w.heap.size+1≠d:=by omega
 have k:w.heap.size≠d:=by omega
 have a:=(qkg.new (T:=34) (key:=0) (data:=⟨#[]⟩) (gone:=false) (Eq.refl w.heap.size)).boxed (.cells #[.int .i64 0,.string ⟨#[]⟩,.bool false] 34);have RW:qkg ((w.alloc (.cells #[.int .i64 0,.string ⟨#[]⟩,.bool false] 34)).alloc (.cells #[.int .i64 0,.string ⟨#[]⟩,.bool false] 34)) (w.heap.size+1) 0 ⟨#[]⟩ false:=qkg.new (by simp);have c:qdc d w ((w.alloc (.cells #[.int .i64 0,.string ⟨#[]⟩,.bool false] 34)).alloc (.cells #[.int .i64 0,.string ⟨#[]⟩,.bool false] 34)):=qlm (qlm (qdc.refl _ _));go_enter Tryz.func146,Tryz.ntmps146
 go_wp2_with fail
 refine(qba d R i 7 _ ((D.alloc _).alloc _)).mono ?_;rintro e W ⟨key,rfl,l,x0,E,x,m⟩;have F:Hid (qb6 7 R i key l x0):=E;replace RW:=RW.only m j;replace a:=a.only m k;replace c:=c.trans m (.inl rfl);clear E m;replace x:=x.far ⟨w.heap.size+1,0,none⟩ (.int .i64 key) (by show d<w.heap.size+1;omega);replace c:=qc5 (p:=⟨w.heap.size+1,0,none⟩) (v:=.int .i64 key) c (by show w.heap.size<=w.heap.size+1;omega);have h:=RW.set0 key;replace a:=a.far ⟨w.heap.size+1,0,none⟩ (.int .i64 key) (by show w.heap.size+1≠w.heap.size;omega);have c0:=RW.c0;have f0:=RW.f0
 go_wp2_with fail
 clear c0 f0 RW;have RW:=h;clear h;refine(qba d l x0 1 _ x).mono ?_;rintro e w2 ⟨g,rfl,o,x1,n1,y,q⟩;have G:Hid (qb6 1 l x0 g o x1):=n1;replace RW:=RW.only q j;replace a:=a.only q k;replace c:=c.trans q (.inl rfl);clear n1 q;obtain⟨gone,H⟩:∃gone:Bool,(g==1)=gone:=⟨_,rfl⟩;replace y:=y.far ⟨w.heap.size+1,2,none⟩ (.bool gone) (by show d<w.heap.size+1;omega);replace c:=qc5 (p:=⟨w.heap.size+1,2,none⟩) (v:=.bool gone) c (by show w.heap.size<=w.heap.size+1;omega);have h:=RW.set2 gone;replace a:=a.far ⟨w.heap.size+1,2,none⟩ (.bool gone) (by show w.heap.size+1≠w.heap.size;omega);have c2:=RW.c2;have f2:=RW.f2
 go_wp2_with fail
 clear c2 f2 RW;have RW:=h;clear h;have L:Hid ((g==1)=gone):=H;clear H;refine(qba d o x1 12 _ y).mono ?_;rintro e X ⟨n,rfl,r,x2,I,M,s⟩;have z:Hid (qb6 12 o x1 n r x2):=I;replace RW:=RW.only s j;replace a:=a.only s k;replace c:=c.trans s (.inl rfl);clear I s
 go_wp2_with fail
 refine(qpy d r x2 n _ M z.out.nonneg (by have:=F.out.1;have:=G.out.1;have:=z.out.1;omega)).mono ?_;rintro e Y ⟨data,rfl,J,x3,K,B,u⟩;have N:Hid (qk7 r x2 n data J x3):=K;replace RW:=RW.only u j;replace a:=a.only u k;replace c:=c.trans u (.inl rfl);clear K u;replace B:=B.far ⟨w.heap.size+1,1,none⟩ (.string data) (by show d<w.heap.size+1;omega);replace c:=qc5 (p:=⟨w.heap.size+1,1,none⟩) (v:=.string data) c (by show w.heap.size<=w.heap.size+1;omega);have h:=RW.set1 data;replace a:=a.far ⟨w.heap.size+1,1,none⟩ (.string data) (by show w.heap.size+1≠w.heap.size;omega);have O:=((B.far ⟨w.heap.size,0,none⟩ (.int .i64 key) (by show d<w.heap.size;omega)).far ⟨w.heap.size,1,none⟩ (.string data) (by show d<w.heap.size;omega)).far ⟨w.heap.size,2,none⟩ (.bool gone) (by show d<w.heap.size;omega);replace c:=qc5 (p:=⟨w.heap.size,2,none⟩) (v:=.bool gone) (qc5 (p:=⟨w.heap.size,1,none⟩) (v:=.string data) (qc5 (p:=⟨w.heap.size,0,none⟩) (v:=.int .i64 key) c (Nat.le_refl _)) (Nat.le_refl _)) (Nat.le_refl _);have C:=((a.set0 key).set1 data).set2 gone;have c1:=RW.c1;have f1:=RW.f1;have Z:=h.c0;have e1:=h.c1;have e2:=h.c2;have k0:=a.c0;have k1:=a.c1;have k2:=a.c2;have g0:=a.f0;have g1:=a.f1;have g2:=a.f2
 go_wp2_with fail
 have P:=C.c0;have Q:=C.c1;have S:=C.c2;exact bodyPost_ret (v:=.agg #[.int .i64 key,.string data,.bool gone]) (by simp[results,Tryz.results146,go_sem,P,Q,S]) rfl ⟨key,data,gone,rfl,J,x3,⟨l,x0,o,x1,r,x2,g,n,F.out,G.out,L.out.symm,z.out,N.out⟩,O,c⟩
end
section
open Go.Value Go.IntKind Go.RowKit
variable {R R':List UInt8} {v:Int}
theorem qb6.sound {most:Int} {c d:Bool} (h:qb6 most R c v R' d) (e:d=false):c=false/\(0<=v/\v<=most)/\R=qea 5 v++R':=by
 rcases h.2 with ⟨f,g,b⟩|⟨_,_,b⟩
 ·obtain⟨⟨s0,_⟩,s1⟩:=qlh 5 R v R' f;exact⟨by rw[<-b];exact e,⟨s0,g⟩,s1⟩
 ·rw[e]at b;cases b
theorem qb6.full {most:Int} {c d:Bool} {n:Int} {r:List UInt8} (h:qb6 most R c v R' d) (f:c=false) (g:R=qea 5 n++r) (i:0<=n) (j:n<=most) (l:most<=1099511627776):v=n/\R'=r/\d=false:=by
 have e:=quk 5 n r i (by rw[q57];omega);rw[<-g]at e;rcases h.2 with ⟨b,_,k⟩|⟨b,_,_⟩
 ·rw[e]at b;injection b with b;injection b with h4 h5;exact⟨h4.symm,h5.symm,by rw[k,f]⟩
 ·exact absurd j (b n r e)
def qts (R:List UInt8) (wrong:Bool) (c:UInt8) (R':List UInt8) (wrong':Bool):Prop:=(wrong'=false↔wrong=false/\R=c::R')/\R'.length<=R.length/\(∀r,R=c::r->R'=r)
theorem qj3 {b:Bool}:qjp R b=true↔b=false/\R=[]:=by cases b<;>simp[qjp]
variable {L:List UInt8}
theorem qzn {k l m o p g:List UInt8} {x0 x1 x2 x3 q i:Bool} {site v0 v1 v2 v3:Int} (j:qts L false 97 k x0) (r:qb6 3 k x0 site l x1) (t:qb6 1099511627776 l x1 v0 m x2) (u:qb6 1099511627776 m x2 v1 o x3) (x:qb6 1099511627776 o x3 v2 p q) (z:qb6 1099511627776 p q v3 g i):
 (qjp g i=true->qdh L ⟨site,v0,v1,v2,v3⟩)/\(∀y,qdh L y->qjp g i=true):=by
 constructor
 ·intro h;obtain⟨C,D⟩:=qj3.1 h;obtain⟨E,b,F⟩:=z.sound C;obtain⟨G,c,H⟩:=x.sound E;obtain⟨I,d,J⟩:=u.sound G;obtain⟨K,f,M⟩:=t.sound I;obtain⟨N,bs,O⟩:=r.sound K;obtain⟨_,P⟩:=j.1.1 N;refine⟨?_,?_⟩
  ·simp only[qnu.ok,Bool.and_eq_true,qa5,qau,qej];exact⟨⟨bs.1,bs.2⟩,⟨⟨f,d⟩,c⟩,b⟩
  ·show toL (q45 site v0 v1 v2 v3)=L;rw[qif,P,O,M,J,H,F,D];rfl
 ·rintro ⟨s,a0,a1,a2,a3⟩ A;obtain⟨bs,f,d,c,b⟩:=qma A.1;have e:L=q4o s a0 a1 a2 a3 []:=A.2.symm.trans (qif s a0 a1 a2 a3);unfold q4o at e;have B:=j.2.2 _ e;have Q:=j.1.2 ⟨rfl,by rw[B];exact e⟩;obtain⟨_,S,T⟩:=r.full Q B bs.1 bs.2 (by decide);obtain⟨_,U,V⟩:=t.full T S f.1 f.2 (by decide);obtain⟨_,W,X⟩:=u.full V U d.1 d.2 (by decide);obtain⟨_,Y,Z⟩:=x.full X W c.1 c.2 (by decide);obtain⟨_,r5,y5⟩:=z.full Z Y b.1 b.2 (by decide);exact qj3.2 ⟨y5,r5⟩
variable {w:World} {a:Option Addr} {n:Nat}
theorem Rd.new {c T:Nat} (e:w.heap.size=n) (f:L.length<=c) (d:qc2 w n a L):Rd (w.alloc (.cells #[.slice a L.length c,.bool false] T)) n L false:=by
 subst e;refine⟨⟨a,c,by go_simp,f,?_⟩,by go_simp,by go_simp,by go_simp⟩;rcases d with d|⟨b,o,g,h,i⟩
 ·exact .inl d
 ·refine .inr ⟨b,o,g,h,λj u k=>?_⟩;exact cell_later (boxed (Below.refl _ _) _) (i j u k)
variable {w':World}
theorem qc2.later {c:Nat} (h:qc2 w n a L) (hb:Below w.heap.size w w') (g:n<=c):qc2 w' c a L:=by
 rcases h with h|⟨b,o,d,i,e⟩
 ·exact .inl h
 ·exact .inr ⟨b,o,d,by omega,λj u f=>cell_later hb (e j u f)⟩
theorem qcl {g:Nat} {W:World} (h:Below W.heap.size W w) (b:qdc g w w') (c:W.heap.size<=g):Below W.heap.size W w':=h.trans (b.below c h.size)
def q5k (L:List UInt8) (w:World) (e:Ending) (w':World):Prop:=
 ((∃x:qnu,qdh L x/\e=.returned (.tuple #[int i64 x.site,.agg #[int i64 x.a0,int i64 x.a1,int i64 x.a2,int i64 x.a3],.nilIface]))\/
  ((∀x,¬qdh L x)/\e=.returned (.tuple #[int i64 0,.agg #[int i64 0,int i64 0,int i64 0,int i64 0],.iface 29 (int i64 3)])))/\Below w.heap.size w w'
theorem qvk (a:Option Addr) (L:List UInt8) (c:Nat) (w:World) (M:qc2 w w.heap.size a L) (N:L.length<=c) (O:L.length<=1000000):
 Calls Tryz.prog 119 #[.slice a L.length c] w λe w'=>q5k L w e w':=by
 have b:=(qbe.new w 47 0 0 0 0).boxed (.cells #[.slice a L.length c,.bool false] 231);have D:=Rd.new (w:=w.alloc (.cells #[int i64 0,int i64 0,int i64 0,int i64 0] 47)) (n:=w.heap.size+1) (T:=231) (by simp) N (M.later (boxed (Below.refl _ _) _) (by omega));have hb:=boxed (boxed (Below.refl _ w) (.cells #[int i64 0,int i64 0,int i64 0,int i64 0] 47)) (.cells #[.slice a L.length c,.bool false] 231)
 have l:w.heap.size≠w.heap.size+1:=by omega
 go_enter Tryz.func119,Tryz.ntmps119
 go_wp2_with fail
 refine(qt7 (w.heap.size+1) L false 97 _ D O).mono ?_;rintro e X ⟨rfl,m,x0,o,C,p⟩;have P:Hid (qts L false 97 m x0):=o;replace b:=b.only p l;replace hb:=qcl hb p (by omega);clear o p D
 go_wp2_with fail
 refine(qba (w.heap.size+1) m x0 3 _ C).mono ?_;rintro e w2 ⟨site,rfl,E,x1,n1,F,q⟩;have Q:Hid (qb6 3 m x0 site E x1):=n1;replace b:=b.only q l;replace hb:=qcl hb q (by omega);clear n1 q C
 go_wp2_with fail
 refine(qyb (w.heap.size+1) E x1 _ F).mono ?_;rintro e S ⟨v0,v1,v2,v3,rfl,Y,x2,Z,x3,R4,x4,h,i,G,H,I,J,j,r⟩;have K:Hid ((qjp h i=true->qdh L ⟨site,v0,v1,v2,v3⟩)/\(∀y,qdh L y->qjp h i=true)):=qzn P.out Q.out G H I J;replace b:=b.only r l;replace hb:=qcl hb r (by omega);clear G H I J r F;have g:=qbe.new S 47 v0 v1 v2 v3;replace b:=b.boxed (.cells #[int i64 v0,int i64 v1,int i64 v2,int i64 v3] 47);replace j:=j.alloc (.cells #[int i64 v0,int i64 v1,int i64 v2,int i64 v3] 47);replace hb:=boxed hb (.cells #[int i64 v0,int i64 v1,int i64 v2,int i64 v3] 47)
 go_wp2_with fail
 refine(qob (w.heap.size+1) h i _ j).mono ?_;rintro e w4 ⟨rfl,k⟩;replace b:=b.later k;replace g:=g.later k;replace hb:=qac hb k;clear k j;have o:=b.c0;have k1:=b.c1;have k2:=b.c2;have k3:=b.c3;have f0:=b.f0;have f1:=b.f1;have f2:=b.f2;have f3:=b.f3;cases hd:qjp h i
 ·have U:Hid (∀x,¬qdh L x):=λx V=>by rw[K.out.2 x V]at hd;cases hd
  clear hd;have d:=b.set (x0:=0) (x1:=0) (x2:=0) (x3:=0)
  go_wp2_with fail
  have s:=d.c0;have u:=d.c1;have z:=d.c2;have B:=d.c3;exact bodyPost_ret (v:=.tuple #[int i64 0,.agg #[int i64 0,int i64 0,int i64 0,int i64 0],.iface 29 (int i64 3)]) (by simp[results,Tryz.results119,go_sem,s,u,z,B]) rfl ⟨.inr ⟨U.out,rfl⟩,(((hb.setCell (Nat.le_refl _) _).setCell (Nat.le_refl _) _).setCell (Nat.le_refl _) _).setCell (Nat.le_refl _) _⟩
 ·have W:Hid (qdh L ⟨site,v0,v1,v2,v3⟩):=K.out.1 hd;clear hd;have c0:=g.c0;have c1:=g.c1;have c2:=g.c2;have c3:=g.c3;have d:=b.set (x0:=v0) (x1:=v1) (x2:=v2) (x3:=v3)
  go_wp2_with fail
  go_region
  all_goals (try go_wp2)
  have s:=d.drew.c0;have u:=d.drew.c1;have z:=d.drew.c2;have B:=d.drew.c3;exact bodyPost_ret (v:=.tuple #[int i64 site,.agg #[int i64 v0,int i64 v1,int i64 v2,int i64 v3],.nilIface]) (by simp[results,Tryz.results119,go_sem,s,u,z,B]) rfl ⟨.inl ⟨⟨site,v0,v1,v2,v3⟩,W.out,rfl⟩,((((hb.setCell (Nat.le_refl _) _).setCell (Nat.le_refl _) _).setCell (Nat.le_refl _) _).setCell (Nat.le_refl _) _).drew⟩
end
section
open Go.RowKit
variable {R R':List UInt8} {n:Int} {s:ByteArray}
theorem qve {b c:Bool} (h:qk7 R b n s R' c) (d:c=false) (g:0<=n):b=false/\(s.size:Int)=n/\R=toL s++R':=by
 rcases h with ⟨i,e,f,a⟩|⟨_,_,_,a⟩
 ·refine⟨by rw[<-a];exact d,?_,by rw[e,f,List.take_append_drop]⟩
  have:(toL s).length=n.toNat:=by rw[e,List.length_take];omega
  rw[qbb]at this;omega
 ·rw[d]at a;cases a
variable {r:List UInt8}
theorem qzi {b c:Bool} {d:ByteArray} (h:qk7 R b n s R' c) (g:b=false) (m:n=(d.size:Int)) (a:R=toL d++r):s=d/\R'=r/\c=false:=by
 have e:(toL d).length=n.toNat:=by rw[qbb];omega
 rcases h with ⟨f,i,j,k⟩|⟨f,_,_,_⟩
 ·refine⟨qxk ?_,?_,by rw[k,g]⟩
  ·rw[i,a,<-e,List.take_left]
  ·rw[j,a,<-e,List.drop_left]
 ·rw[a,List.length_append]at f;omega
theorem qtj {a b:Bool} {key:Int} {data:ByteArray} {gone:Bool} (h:qkj R a key data gone R' b) (d:b=false):a=false/\R=wrL ⟨key,data,gone⟩++R':=by
 obtain⟨w,x0,y,x1,z,x2,g,n,f,n1,i,c,t⟩:=h;obtain⟨j,s2,k⟩:=qve t d c.nonneg;obtain⟨m,_,o⟩:=c.sound j;obtain⟨p,A,q⟩:=n1.sound m;obtain⟨e,_,u⟩:=f.sound p;refine⟨e,?_⟩
 have v:g=if gone then 1 else 0:=by
  rw[i]
  have:g=0\/g=1:=by omega
  rcases this with rfl|rfl<;>rfl
 simp only[wrL,List.append_assoc];rw[u,q,o,k,<-v,s2]
theorem qu3 {a b:Bool} {key:Int} {data:ByteArray} {gone:Bool} {y:Wr} (h:qkj R a key data gone R' b) (f:a=false) (c:R=wrL y++r) (d:0<=y.key/\y.key<=7/\y.data.size<=12):
 (⟨key,data,gone⟩:Wr)=y/\R'=r/\b=false:=by
 obtain⟨A,x0,B,x1,C,x2,g,n,i,n1,j,k,t⟩:=h;simp only[wrL,List.append_assoc]at c;obtain⟨a0,m,o⟩:=i.full f c d.1 d.2.1 (by decide);obtain⟨a1,p,q⟩:=n1.full o m (by cases y.gone<;>decide) (by cases y.gone<;>decide) (by decide);obtain⟨a2,u,v⟩:=k.full q p (by omega) (by omega) (by decide);obtain⟨a3,w,z⟩:=qzi t v a2 u;refine⟨?_,w,z⟩;obtain⟨D,E,e⟩:=y;simp only at a0 a1 a3
 have:gone=e:=by
  rw[j,a1]
  cases e<;>rfl
 rw[a0,a3,this]
theorem qql {a b:Bool} {key:Int} {data:ByteArray} {gone:Bool} (h:qkj R a key data gone R' b):R'.length<=R.length:=by
 obtain⟨e,x0,f,x1,i,x2,g,n,c,n1,j,d,t⟩:=h;have a0:=c.1;have a1:=n1.1;have a2:=d.1;have a3:=take_length t;omega
inductive q0w (R:List UInt8) (x:Bool):List Wr->List UInt8->Bool->Prop
 |nil:q0w R x [] R x
 |snoc {l:List Wr} {R1 R2:List UInt8} {x1 x2:Bool} {key:Int} {data:ByteArray} {gone:Bool}:q0w R x l R1 x1->qkj R1 x1 key data gone R2 x2->q0w R x (l++[⟨key,data,gone⟩]) R2 x2
theorem q0b (l:List Wr) (x:Wr):qm2 (l++[x])=qm2 l++wrL x:=by simp[qm2]
variable {x x':Bool} {l:List Wr}
theorem q1j (h:q0w R x l R' x'):x'=false->x=false/\R=qm2 l++R':=by
 induction h with
 |nil=>exact λe=>⟨e,rfl⟩
 |snoc _ hw ih=>
  intro e;obtain⟨a,b⟩:=qtj hw e;obtain⟨c,d⟩:=ih a;exact⟨c,by rw[d,b,q0b,List.append_assoc]⟩
theorem q4k {m:List Wr} (h:q0w R x l R' x') (g:x=false) (i:R=qm2 m++r) (j:∀y∈m,0<=y.key/\y.key<=7/\y.data.size<=12):
 l.length<=m.length->l=m.take l.length/\R'=qm2 (m.drop l.length)++r/\x'=false:=by
 induction h with
 |nil=>exact λ_=>⟨by simp,by simpa using i,g⟩
 |@snoc l R1 R2 x1 x2 key data gone _ hw ih=>
  intro k;rw[List.length_append,List.length_singleton]at k ⊢;obtain⟨o,f,p⟩:=ih (by omega)
  have d:l.length<m.length:=by omega
  have e:qm2 (m.drop l.length)=wrL m[l.length]++qm2 (m.drop (l.length+1)):=by
   unfold qm2;rw[List.drop_eq_getElem_cons d,List.flatMap_cons]
  rw[e,List.append_assoc]at f;obtain⟨a,b,c⟩:=qu3 hw p f (j _ (List.getElem_mem d));refine⟨?_,b,c⟩;rw[a,List.take_succ_eq_append_getElem d,<-o]
theorem qys (h:q0w R x l R' x'):R'.length<=R.length:=by
 induction h with
 |nil=>exact Nat.le_refl _
 |snoc _ hw ih=>exact Nat.le_trans (qql hw) ih
theorem q1w {L o p t u v w z A B C a:List UInt8} {x0 x1 x2 x3 D E F G H I b:Bool} {site seq wall count v0 v1 v2 v3 nw:Int}
 (c:qts L false 116 o x0) (J:qb6 3 o x0 site p x1) (K:qb6 1099511627776 p x1 seq t x2) (M:qb6 1099511627776 t x2 wall u x3) (N:qb6 1099511627776 u x3 count v D)
 (O:qb6 1099511627776 v D v0 w E) (P:qb6 1099511627776 w E v1 z F) (Q:qb6 1099511627776 z F v2 A G) (S:qb6 1099511627776 A G v3 B H) (T:qb6 5 B H nw C I) (U:q0w C I l a b) (hl:(l.length:Int)=nw):
 (qjp a b=true->toL (txS site seq wall count v0 v1 v2 v3 l)=L)/\(∀y,qte L y->qjp a b=true/\y=⟨site,seq,wall,count,v0,v1,v2,v3,l⟩):=by
 constructor
 ·intro h;obtain⟨hx,hR⟩:=qj3.1 h;obtain⟨e9,q10⟩:=q1j U hx;obtain⟨e8,_,q9⟩:=T.sound e9;obtain⟨e7,_,q8⟩:=S.sound e8;obtain⟨e6,_,q7⟩:=Q.sound e7;obtain⟨e5,_,q6⟩:=P.sound e6;obtain⟨e4,_,q5⟩:=O.sound e5;obtain⟨e3,_,q4⟩:=N.sound e4;obtain⟨e2,_,q3⟩:=M.sound e3;obtain⟨e1,_,q2⟩:=K.sound e2;obtain⟨e0,_,q1⟩:=J.sound e1;obtain⟨_,qk⟩:=c.1.1 e0;rw[qkp,qk,q1,q2,q3,q4,q5,q6,q7,q8,q9,q10,hR,hl,List.append_nil];rfl
 ·rintro ⟨s,q,wl,V,a0,a1,a2,a3,m⟩ W;obtain⟨bs,X,d,f,g,i,j,k,bm⟩:=qlo W.1;simp only at bs X d f g i j k bm;have hlen:=qjw bm;have e:L=qsi s q wl V a0 a1 a2 a3 m.length (qm2 m):=W.2.symm.trans (qkp s q wl V a0 a1 a2 a3 m);unfold qsi at e;have Y:=c.2.2 _ e;have y0:=c.1.2 ⟨rfl,by rw[Y];exact e⟩;obtain⟨z1,r1,y1⟩:=J.full y0 Y bs.1 bs.2 (by decide);obtain⟨z2,r2,y2⟩:=K.full y1 r1 (by omega) X.2 (by decide);obtain⟨z3,r3,y3⟩:=M.full y2 r2 d.1 d.2 (by decide);obtain⟨z4,r4,y4⟩:=N.full y3 r3 f.1 f.2 (by decide);obtain⟨z5,r5,y5⟩:=O.full y4 r4 g.1 g.2 (by decide);obtain⟨z6,r6,y6⟩:=P.full y5 r5 i.1 i.2 (by decide);obtain⟨z7,r7,y7⟩:=Q.full y6 r6 j.1 j.2 (by decide);obtain⟨z8,r8,y8⟩:=S.full y7 r7 k.1 k.2 (by decide);obtain⟨z9,r9,y9⟩:=T.full y8 r8 (by omega) (by omega) (by decide)
  have Z:l.length=m.length:=by omega
  obtain⟨w1,w2,w3⟩:=q4k (m:=m) (r:=[]) U y9 (by simpa using r9) (qor bm) (by omega)
  have hlm2:l=m:=by rw[Z,List.take_length]at w1;exact w1
  refine⟨qj3.2 ⟨w3,?_⟩,?_⟩
  ·rw[w2,Z,List.drop_length];rfl
  ·rw[z1,z2,z3,z4,z5,z6,z7,z8,hlm2]
end
section
open Go.Value Go.IntKind Go.RowKit
variable {w:World} {rb:Nat} {R:List UInt8}
theorem Rd.drew {a:Bool} (h:Rd w rb R a):Rd w.drew rb R a:=h.kept λ_ _=>rfl
variable {w':World}
theorem Rd.grown {f:Bool} {r:Option Nat} (h:Rd w rb R f) (g:w.grownBy w' r) (i:∀k,r=some k->rb<k):Rd w' rb R f:=by
 obtain⟨a,c,m,p,d⟩:=h.rest;have e:=g.block rb h.lt (λx=>by have:=i rb x.symm;omega);refine⟨⟨a,c,by rw[World.cell?_of_block (w:=w) e];exact m,p,?_⟩,by rw[World.cell?_of_block (w:=w) e];exact h.c1,by rw[World.frozen?_of_block (w:=w) e];exact h.f0,by rw[World.frozen?_of_block (w:=w) e];exact h.f1⟩;rcases d with d|⟨b,o,q,s,t⟩
 ·exact .inl d
 ·refine .inr ⟨b,o,q,s,λj u y=>?_⟩;have l:=t j u y;rw[World.cell?_of_block (w:=w) (g.block b (World.block_lt_of_cell? _ _ l) (λx=>by have:=i b x.symm;omega))];exact l
variable {B n:Nat} {T:TypeId} {v:Value} {xs:List Value}
theorem q0q (h:w.ownsRow B T 3 v n xs) (a:qdc rb w w') (b:rb<B):w'.ownsRow B T 3 v n xs:=by
 refine h.kept a ?_;cases hv:v.ownBlock with
 |none=>exact .inl rfl
 |some k=>
  refine .inr (λe=>?_);injection e with e;have:=(h.lt k hv).1;omega
theorem qqs (h:w.ownsRow B T 3 v n xs) (hb:Below w.heap.size w w'):w'.ownsRow B T 3 v n xs:=
 h.kept (row:=none) ⟨hb.os,hb.tape,hb.output,hb.size,λk a _=>hb.block k a⟩ (by cases v.ownBlock<;>simp)
theorem qlg (h:w.ownsRow B T 3 v n xs):∀k,v.ownBlock=some k->B<=k:=λk a=>(h.lt k a).1
theorem qwv:(Tryz.prog.info? 34).map (λi=>(i.zero,i.size,i.bytes))=some (some (.agg #[int i64 0,.string ⟨#[]⟩,.bool false]),3,32):=by kernel_rfl
def txA (site seq wall count d0 d1 d2 d3:Int) (v:Value):List Value:=[int i64 site,int i64 seq,int i64 wall,int i64 count,int i64 d0,int i64 d1,int i64 d2,int i64 d3,v]
def q53 (L:List UInt8) (w:World) (e:Ending) (w':World):Prop:=
 ((∃(x:TxV) (a:Option Addr) (cap:Nat),qte L x/\qat w' a cap x.l/\e=.returned (.tuple #[.agg #[int i64 x.site,int i64 x.seq,int i64 x.wall,int i64 x.count,int i64 x.d0,int i64 x.d1,int i64 x.d2,int i64 x.d3,.slice a x.l.length cap],.nilIface]))\/
  ((∀x,¬qte L x)/\e=.returned (.tuple #[.agg #[int i64 0,int i64 0,int i64 0,int i64 0,int i64 0,int i64 0,int i64 0,int i64 0,.slice none 0 0],.iface 29 (int i64 3)])))/\Below w.heap.size w w'
theorem qji {tmps:Array Value} {b:Nat} {d e g i j k l m o ev:Value} (h:qag w b [d,e,g,i,j,k,l,m,o]) (p:tmps[2]?=some (.pointer (some ⟨b,0,none⟩))) (q:tmps[3]?=some ev)
 (p0:∃n,d=int i64 n) (p1:∃n,e=int i64 n) (p2:∃n,g=int i64 n) (p3:∃n,i=int i64 n) (r:∃n,j=int i64 n) (s:∃n,k=int i64 n) (t:∃n,l=int i64 n) (u:∃n,m=int i64 n) (x:∃a n c,o=.slice a n c):
 (results Tryz.f117 tmps).run Tryz.prog w=.ok (.tuple #[.agg #[d,e,g,i,j,k,l,m,o],ev]) w:=by
 obtain⟨J,rfl⟩:=p0;obtain⟨n1,rfl⟩:=p1;obtain⟨K,rfl⟩:=p2;obtain⟨L,rfl⟩:=p3;obtain⟨n4,rfl⟩:=r;obtain⟨M,rfl⟩:=s;obtain⟨N,rfl⟩:=t;obtain⟨O,rfl⟩:=u;obtain⟨a,n,c,rfl⟩:=x;obtain⟨y,z,C,D,E,F,G,H,I⟩:=h.c9;simp[results,Tryz.results117,go_sem,p,q,y,z,C,D,E,F,G,H,I]
theorem qqe (a:Option Addr) (L:List UInt8) (c:Nat) (w:World) (hB:qc2 w w.heap.size a L) (hc:L.length<=c) (hl:L.length<=1000000):
 Calls Tryz.prog 117 #[.slice a L.length c] w λe w'=>q53 L w e w':=by
 have q:=(qag.new (w:=w) (T:=80) [int i64 0,int i64 0,int i64 0,int i64 0,int i64 0,int i64 0,int i64 0,int i64 0,.slice none 0 0] rfl).boxed (.cells #[.slice a L.length c,.bool false] 231);have D:=Rd.new (w:=w.alloc (.cells #[int i64 0,int i64 0,int i64 0,int i64 0,int i64 0,int i64 0,int i64 0,int i64 0,.slice none 0 0] 80)) (n:=w.heap.size+1) (T:=231) (by simp) hc (hB.later (boxed (Below.refl _ _) _) (by omega));have hb:=boxed (boxed (Below.refl _ w) (.cells #[int i64 0,int i64 0,int i64 0,int i64 0,int i64 0,int i64 0,int i64 0,int i64 0,.slice none 0 0] 80)) (.cells #[.slice a L.length c,.bool false] 231)
 have H:w.heap.size≠w.heap.size+1:=by omega
 go_enter Tryz.func117,Tryz.ntmps117
 go_wp2_with fail
 refine(qt7 (w.heap.size+1) L false 116 _ D hl).mono ?_;rintro e b ⟨rfl,R0,x0,O,X,Y⟩;have K0:Hid (qts L false 116 R0 x0):=O;replace q:=(q.only Y H).boxed (.cells #[int i64 0,int i64 0,int i64 0,int i64 0,int i64 0,int i64 0,int i64 0,int i64 0,.slice none 0 0] 80);replace hb:=boxed (qcl hb Y (by omega)) (.cells #[int i64 0,int i64 0,int i64 0,int i64 0,int i64 0,int i64 0,int i64 0,int i64 0,.slice none 0 0] 80);replace X:=X.alloc (.cells #[int i64 0,int i64 0,int i64 0,int i64 0,int i64 0,int i64 0,int i64 0,int i64 0,.slice none 0 0] 80);have o:=qag.new (w:=b) (T:=80) [int i64 0,int i64 0,int i64 0,int i64 0,int i64 0,int i64 0,int i64 0,int i64 0,.slice none 0 0] rfl
 have hlt:w.heap.size+1<b.heap.size:=by have:=Y.size;simp at this;omega
 have K:b.heap.size≠w.heap.size+1:=by omega
 clear O Y D
 go_wp2_with fail
 refine(qba (w.heap.size+1) R0 x0 3 _ X).mono ?_;rintro e w2 ⟨site,rfl,R1,x1,n1,Z,y1⟩;have N1:Hid (qb6 3 R0 x0 site R1 x1):=n1;replace q:=q.only y1 H;replace o:=o.only y1 K;replace hb:=qcl hb y1 (by omega);clear n1 y1 X;have c0:=o.cell 0 _ rfl;have f0:=o.free 0 (by simp);replace q:=q.far ⟨b.heap.size,0,none⟩ (int i64 site) (by show b.heap.size≠w.heap.size;omega);replace o:=o.set 0 (int i64 site) (by simp);replace hb:=hb.setCell (p:=⟨b.heap.size,0,none⟩) (by show w.heap.size<=b.heap.size;omega) (int i64 site);replace Z:=Z.far ⟨b.heap.size,0,none⟩ (int i64 site) (by show w.heap.size+1<b.heap.size;omega)
 go_wp2_with fail
 clear c0 f0;refine(qba (w.heap.size+1) R1 x1 1099511627776 _ Z).mono ?_;rintro e w3 ⟨seq,rfl,R2,x2,n2,D2,y2⟩;have N2:Hid (qb6 1099511627776 R1 x1 seq R2 x2):=n2;replace q:=q.only y2 H;replace o:=o.only y2 K;replace hb:=qcl hb y2 (by omega);clear n2 y2 Z;have c1:=o.cell 1 _ rfl;have f1:=o.free 1 (by simp);replace q:=q.far ⟨b.heap.size,1,none⟩ (int i64 seq) (by show b.heap.size≠w.heap.size;omega);replace o:=o.set 1 (int i64 seq) (by simp);replace hb:=hb.setCell (p:=⟨b.heap.size,1,none⟩) (by show w.heap.size<=b.heap.size;omega) (int i64 seq);replace D2:=D2.far ⟨b.heap.size,1,none⟩ (int i64 seq) (by show w.heap.size+1<b.heap.size;omega)
 go_wp2_with fail
 clear c1 f1;refine(qba (w.heap.size+1) R2 x2 1099511627776 _ D2).mono ?_;rintro e w4 ⟨wall,rfl,R3,x3,n3,D3,y3⟩;have N3:Hid (qb6 1099511627776 R2 x2 wall R3 x3):=n3;replace q:=q.only y3 H;replace o:=o.only y3 K;replace hb:=qcl hb y3 (by omega);clear n3 y3 D2;have c2:=o.cell 2 _ rfl;have f2:=o.free 2 (by simp);replace q:=q.far ⟨b.heap.size,2,none⟩ (int i64 wall) (by show b.heap.size≠w.heap.size;omega);replace o:=o.set 2 (int i64 wall) (by simp);replace hb:=hb.setCell (p:=⟨b.heap.size,2,none⟩) (by show w.heap.size<=b.heap.size;omega) (int i64 wall);replace D3:=D3.far ⟨b.heap.size,2,none⟩ (int i64 wall) (by show w.heap.size+1<b.heap.size;omega)
 go_wp2_with fail
 clear c2 f2;refine(qba (w.heap.size+1) R3 x3 1099511627776 _ D3).mono ?_;rintro e w5 ⟨count,rfl,R4,x4,n4,D4,y4⟩;have N4:Hid (qb6 1099511627776 R3 x3 count R4 x4):=n4;replace q:=q.only y4 H;replace o:=o.only y4 K;replace hb:=qcl hb y4 (by omega);clear n4 y4 D3;have c3:=o.cell 3 _ rfl;have f3:=o.free 3 (by simp);replace q:=q.far ⟨b.heap.size,3,none⟩ (int i64 count) (by show b.heap.size≠w.heap.size;omega);replace o:=o.set 3 (int i64 count) (by simp);replace hb:=hb.setCell (p:=⟨b.heap.size,3,none⟩) (by show w.heap.size<=b.heap.size;omega) (int i64 count);replace D4:=D4.far ⟨b.heap.size,3,none⟩ (int i64 count) (by show w.heap.size+1<b.heap.size;omega)
 go_wp2_with fail
 clear c3 f3;refine(qyb (w.heap.size+1) R4 x4 _ D4).mono ?_;rintro e w6 ⟨v0,v1,v2,v3,rfl,R5,x5,R6,x6,R7,x7,R8,x8,m5,m6,m7,m8,E,F⟩;have N5:Hid (qb6 1099511627776 R4 x4 v0 R5 x5):=m5;have N6:Hid (qb6 1099511627776 R5 x5 v1 R6 x6):=m6;have N7:Hid (qb6 1099511627776 R6 x6 v2 R7 x7):=m7;have N8:Hid (qb6 1099511627776 R7 x7 v3 R8 x8):=m8;replace q:=q.only F H;replace o:=o.only F K;replace hb:=qcl hb F (by omega);clear m5 m6 m7 m8 F D4;have c4:=o.cell 4 _ rfl;have f4:=o.free 4 (by simp);have c5:=o.cell 5 _ rfl;have f5:=o.free 5 (by simp);have c6:=o.cell 6 _ rfl;have f6:=o.free 6 (by simp);have c7:=o.cell 7 _ rfl;have f7:=o.free 7 (by simp);replace q:=q.far ⟨b.heap.size,4,none⟩ (int i64 v0) (by show b.heap.size≠w.heap.size;omega);replace o:=o.set 4 (int i64 v0) (by simp);replace hb:=hb.setCell (p:=⟨b.heap.size,4,none⟩) (by show w.heap.size<=b.heap.size;omega) (int i64 v0);replace E:=E.far ⟨b.heap.size,4,none⟩ (int i64 v0) (by show w.heap.size+1<b.heap.size;omega);replace q:=q.far ⟨b.heap.size,5,none⟩ (int i64 v1) (by show b.heap.size≠w.heap.size;omega);replace o:=o.set 5 (int i64 v1) (by simp);replace hb:=hb.setCell (p:=⟨b.heap.size,5,none⟩) (by show w.heap.size<=b.heap.size;omega) (int i64 v1);replace E:=E.far ⟨b.heap.size,5,none⟩ (int i64 v1) (by show w.heap.size+1<b.heap.size;omega);replace q:=q.far ⟨b.heap.size,6,none⟩ (int i64 v2) (by show b.heap.size≠w.heap.size;omega);replace o:=o.set 6 (int i64 v2) (by simp);replace hb:=hb.setCell (p:=⟨b.heap.size,6,none⟩) (by show w.heap.size<=b.heap.size;omega) (int i64 v2);replace E:=E.far ⟨b.heap.size,6,none⟩ (int i64 v2) (by show w.heap.size+1<b.heap.size;omega);replace q:=q.far ⟨b.heap.size,7,none⟩ (int i64 v3) (by show b.heap.size≠w.heap.size;omega);replace o:=o.set 7 (int i64 v3) (by simp);replace hb:=hb.setCell (p:=⟨b.heap.size,7,none⟩) (by show w.heap.size<=b.heap.size;omega) (int i64 v3);replace E:=E.far ⟨b.heap.size,7,none⟩ (int i64 v3) (by show w.heap.size+1<b.heap.size;omega)
 go_wp2_with fail
 clear c4 f4 c5 f5 c6 f6 c7 f7;refine(qba (w.heap.size+1) R8 x8 5 _ E).mono ?_;rintro e w7 ⟨nw,rfl,P,x9,n9,D9,y9⟩;have N9:Hid (qb6 5 R8 x8 nw P x9):=n9;replace q:=q.only y9 H;replace o:=o.only y9 K;replace hb:=qcl hb y9 (by omega);clear n9 y9 E;have RTX:qag w7 b.heap.size (txA site seq wall count v0 v1 v2 v3 (.slice none 0 0)):=o;have hsz:b.heap.size+1<=w7.heap.size:=o.lt;clear o;have nw0:=N9.out.nonneg
 have hlen9:P.length<=1000000:=by
  have a0:=K0.out.2.1;have a1:=N1.out.1;have a2:=N2.out.1;have a3:=N3.out.1;have a4:=N4.out.1;have a5:=N5.out.1;have a6:=N6.out.1;have a7:=N7.out.1;have a8:=N8.out.1;have a9:=N9.out.1;omega
 obtain⟨m,rfl⟩:∃m:Nat,nw=m:=⟨nw.toNat,by omega⟩
 have hm5:m<=5:=by
  rcases N9.out.2 with ⟨_,h,_⟩|⟨_,h,_⟩<;>omega
 clear nw0
 go_wp2_with fail
 go_loopw [30] (λiv wr=>∃(k:Nat) (z:Int) (l:List Wr) (R:List UInt8) (x:Bool) (v:Value),k<=m/\z=k/\iv=int i64 z/\l.length=k/\q0w P x9 l R x/\qag wr b.heap.size (txA site seq wall count v0 v1 v2 v3 v)/\wr.ownsRow (b.heap.size+1) 34 3 v l.length (qf4 l)/\Rd wr (w.heap.size+1) R x/\qag wr w.heap.size [int i64 0,int i64 0,int i64 0,int i64 0,int i64 0,int i64 0,int i64 0,int i64 0,.slice none 0 0]/\Below w.heap.size w wr/\b.heap.size+1<=wr.heap.size) (λi _=>m-(intOf i).toNat)
 case atStart=>exact⟨0,0,[],P,x9,.slice none 0 0,by omega,rfl,rfl,rfl,.nil,RTX,World.ownsRow_nil _ _ _ _,D9,q,hb,hsz⟩
 case round=>
  clear RTX D9 q hb hsz;obtain⟨k,z,l,R,x,v,hk,hz,rfl,hlk,hws,o,own,D,q,hb,hsz⟩:=hrel;have HWS:Hid (q0w P x9 l R x):=hws;have HLK:Hid (l.length=k):=hlk
  have hl5:l.length<=5:=by omega
  clear hws hlk;by_cases hlt2:k<m
  ·have h1:z<(m:Int):=by omega
   have h3:0<=z:=by omega
   have HZ:Hid (z=k):=hz;clear hz;have hlenR:R.length<=1000000:=Nat.le_trans (qys HWS.out) hlen9;have c8:wr.cell? ⟨b.heap.size,8,none⟩=some v:=o.cell 8 _ rfl;obtain⟨i0,hi,hz0,hz1,hz2⟩:=info_parts qwv
   go_wp2_with fail
   go_region_law (first
        |(refine qas rfl 146 #[.pointer (some ⟨w.heap.size+1,0,none⟩)] (by go_simp) (qx9 (w.heap.size+1) R x _ D.drew hlenR) ?_
          rintro e Q ⟨key,data,gone,rfl,R',x',wi,D',F⟩;refine⟨_,rfl,?_⟩;have WI:Hid (qkj R x key data gone R' x'):=wi;have s:=o.drew.only F K;have d:=q.drew.only F H;have G:=qcl hb.drew F (by omega);have S:=q0q (w:=wr.drew) own F (by omega);have c8b:Q.cell? ⟨b.heap.size,8,none⟩=some v:=s.cell 8 _ rfl;have hlt8:=s.lt
          clear wi F)
        |(refine step_append_lies _ rfl (.tmp 33) (.tmp 36) 65 rfl (b.heap.size+1) 34 i0 (.agg #[int i64 0,.string ⟨#[]⟩,.bool false]) 3 32 Tryz.underlying65 hi hz0 hz1 hz2 rfl (by decide) v l.length (qf4 l) (by simp[Act.eval]) (S.alloc _) ⟨Q.heap.size,0,none⟩ 1 1 (wrC ⟨key,data,gone⟩) (by simp[Act.eval]) rfl (World.news_of_block (heap_alloc_new Q (.cells #[int i64 key,.string data,.bool gone] 34))) (by intro u hu;simp[wrC]at hu;rcases hu with rfl|rfl|rfl<;>rfl) (by decide) (by simp only[maxLen];omega) (by omega) (by simp;omega) _ rfl ?_
          intro g cap U own9 gr9 eg9 lt9;have RT9:=(s.boxed (.cells #[int i64 key,.string data,.bool gone] 34)).grown gr9 (λe=>by have:=qlg S _ e.symm;omega);have RV9:=(d.boxed (.cells #[int i64 key,.string data,.bool gone] 34)).grown gr9 (λe=>by have:=qlg S _ e.symm;omega);have D9:=(D'.alloc (.cells #[int i64 key,.string data,.bool gone] 34)).grown gr9 (λj hj=>by have:=qlg S _ hj;omega);have C:=(boxed G (.cells #[int i64 key,.string data,.bool gone] 34)).grown gr9 (by have:=G.size;simp;omega) (λj hj=>by have:=qlg S _ hj;omega);have c8c:U.cell? ⟨b.heap.size,8,none⟩=some v:=RT9.cell 8 _ rfl
          have f8c:U.frozen? ⟨b.heap.size,8,none⟩=false:=RT9.free 8 (by simp[txA])))
   all_goals
        have RT10:qag (U.setCell ⟨b.heap.size,8,none⟩ (.slice (some ⟨g,0,none⟩) (l.length+1) cap)) b.heap.size (txA site seq wall count v0 v1 v2 v3 (.slice (some ⟨g,0,none⟩) (l.length+1) cap)):=RT9.set 8 (.slice (some ⟨g,0,none⟩) (l.length+1) cap) (by simp[txA]);have RV10:=RV9.far ⟨b.heap.size,8,none⟩ (.slice (some ⟨g,0,none⟩) (l.length+1) cap) (by show b.heap.size≠w.heap.size;omega);have D10:=D9.far ⟨b.heap.size,8,none⟩ (.slice (some ⟨g,0,none⟩) (l.length+1) cap) (by show w.heap.size+1<b.heap.size;omega);have hb10:=C.setCell (p:=⟨b.heap.size,8,none⟩) (by show w.heap.size<=b.heap.size;omega) (.slice (some ⟨g,0,none⟩) (l.length+1) cap);have own10:=ownsRow_setCell_below own9 (a:=⟨b.heap.size,8,none⟩) (by show b.heap.size<b.heap.size+1;omega) (.slice (some ⟨g,0,none⟩) (l.length+1) cap)
        go_wp2_with fail
        go_roundw
        case rel=>exact⟨k+1,z+1,l++[⟨key,data,gone⟩],R',x',_,by omega,by have:=HZ.out;omega,by go_num,by have:=HLK.out;simp;omega,.snoc HWS.out WI.out,RT10,by rw[qkf,List.length_append];exact own10,D10,RV10,hb10,by have:=RT10.lt;omega⟩
        case measure=>simp[intOf];omega
  ·obtain rfl:k=m:=by omega
   have CH:Hid ((qjp R x=true->toL (txS site seq wall count v0 v1 v2 v3 l)=L)/\(∀y,qte L y->qjp R x=true/\y=⟨site,seq,wall,count,v0,v1,v2,v3,l⟩)):=q1w K0.out N1.out N2.out N3.out N4.out N5.out N6.out N7.out N8.out N9.out HWS.out (by have:=HLK.out;omega);obtain⟨I,J,rfl,N⟩:=qcw own;have OWN:Hid (wr.ownsRow (b.heap.size+1) 34 3 (.slice I l.length J) l.length (qf4 l)):=own;clear own
   go_wp2_with fail
   refine(qob (w.heap.size+1) R x _ D).mono ?_;rintro e Q ⟨rfl,G⟩;have d:=q.later G;have s:=o.later G;replace N:=N.later G;replace OWN:Hid (Q.ownsRow (b.heap.size+1) 34 3 (.slice I l.length J) l.length (qf4 l)):=qqs OWN.out G;have M:=qac hb G;clear G D q o;cases hd:qjp R x
   ·have NO:Hid (∀y,¬qte L y):=λy hy=>by rw[(CH.out.2 y hy).1]at hd;cases hd
    clear hd;have V:=(((((((((d.set 0 (int i64 0) (by simp)).set 1 (int i64 0) (by simp)).set 2 (int i64 0) (by simp)).set 3 (int i64 0) (by simp)).set 4 (int i64 0) (by simp)).set 5 (int i64 0) (by simp)).set 6 (int i64 0) (by simp)).set 7 (int i64 0) (by simp)).set 8 (.slice none 0 0) (by simp));have W:=(((((((((M.setCell (p:=⟨w.heap.size,0,none⟩) (Nat.le_refl _) (int i64 0)).setCell (p:=⟨w.heap.size,1,none⟩) (Nat.le_refl _) (int i64 0)).setCell (p:=⟨w.heap.size,2,none⟩) (Nat.le_refl _) (int i64 0)).setCell (p:=⟨w.heap.size,3,none⟩) (Nat.le_refl _) (int i64 0)).setCell (p:=⟨w.heap.size,4,none⟩) (Nat.le_refl _) (int i64 0)).setCell (p:=⟨w.heap.size,5,none⟩) (Nat.le_refl _) (int i64 0)).setCell (p:=⟨w.heap.size,6,none⟩) (Nat.le_refl _) (int i64 0)).setCell (p:=⟨w.heap.size,7,none⟩) (Nat.le_refl _) (int i64 0)).setCell (p:=⟨w.heap.size,8,none⟩) (Nat.le_refl _) (.slice none 0 0));have O:=d.cell 0 _ rfl;have g0:=d.free 0 (by simp);have k1:=d.cell 1 _ rfl;have g1:=d.free 1 (by simp);have k2:=d.cell 2 _ rfl;have g2:=d.free 2 (by simp);have k3:=d.cell 3 _ rfl;have g3:=d.free 3 (by simp);have k4:=d.cell 4 _ rfl;have g4:=d.free 4 (by simp);have k5:=d.cell 5 _ rfl;have g5:=d.free 5 (by simp);have k6:=d.cell 6 _ rfl;have g6:=d.free 6 (by simp);have k7:=d.cell 7 _ rfl;have g7:=d.free 7 (by simp);have k8:=d.cell 8 _ rfl;have g8:=d.free 8 (by simp)
    go_wp2_with fail
    refine bodyPost_ret (v:=.tuple #[.agg #[int i64 0,int i64 0,int i64 0,int i64 0,int i64 0,int i64 0,int i64 0,int i64 0,.slice none 0 0],.iface 29 (int i64 3)]) (qji V rfl rfl ⟨_,rfl⟩ ⟨_,rfl⟩ ⟨_,rfl⟩ ⟨_,rfl⟩ ⟨_,rfl⟩ ⟨_,rfl⟩ ⟨_,rfl⟩ ⟨_,rfl⟩ ⟨_,_,_,rfl⟩) rfl ⟨.inr ⟨NO.out,rfl⟩,W⟩
   ·have HD:Hid (qjp R x=true):=hd;clear hd;obtain⟨c0,c1,c2,c3,c4,c5,c6,c7,c8⟩:=s.c9;cases ho:qc7 site seq wall count v0 v1 v2 v3 l
    ·have NO:Hid (∀y,¬qte L y):=λy hy=>by
      have h1:=(CH.out.2 y hy).2;have h2:=hy.1;rw[h1]at h2;rw[show TxV.ok ⟨site,seq,wall,count,v0,v1,v2,v3,l⟩=qc7 site seq wall count v0 v1 v2 v3 l from rfl,ho]at h2;cases h2
     have HO:Hid (qc7 site seq wall count v0 v1 v2 v3 l=false):=ho;clear ho
     go_wp2_with fail
     refine(qe2 N HO.out).mono ?_;rintro e U ⟨rfl,C⟩;replace d:=d.later C;replace M:=qac M C;clear C s N c0 c1 c2 c3 c4 c5 c6 c7 c8;have V:=(((((((((d.set 0 (int i64 0) (by simp)).set 1 (int i64 0) (by simp)).set 2 (int i64 0) (by simp)).set 3 (int i64 0) (by simp)).set 4 (int i64 0) (by simp)).set 5 (int i64 0) (by simp)).set 6 (int i64 0) (by simp)).set 7 (int i64 0) (by simp)).set 8 (.slice none 0 0) (by simp));have W:=(((((((((M.setCell (p:=⟨w.heap.size,0,none⟩) (Nat.le_refl _) (int i64 0)).setCell (p:=⟨w.heap.size,1,none⟩) (Nat.le_refl _) (int i64 0)).setCell (p:=⟨w.heap.size,2,none⟩) (Nat.le_refl _) (int i64 0)).setCell (p:=⟨w.heap.size,3,none⟩) (Nat.le_refl _) (int i64 0)).setCell (p:=⟨w.heap.size,4,none⟩) (Nat.le_refl _) (int i64 0)).setCell (p:=⟨w.heap.size,5,none⟩) (Nat.le_refl _) (int i64 0)).setCell (p:=⟨w.heap.size,6,none⟩) (Nat.le_refl _) (int i64 0)).setCell (p:=⟨w.heap.size,7,none⟩) (Nat.le_refl _) (int i64 0)).setCell (p:=⟨w.heap.size,8,none⟩) (Nat.le_refl _) (.slice none 0 0));have O:=d.cell 0 _ rfl;have g0:=d.free 0 (by simp);have k1:=d.cell 1 _ rfl;have g1:=d.free 1 (by simp);have k2:=d.cell 2 _ rfl;have g2:=d.free 2 (by simp);have k3:=d.cell 3 _ rfl;have g3:=d.free 3 (by simp);have k4:=d.cell 4 _ rfl;have g4:=d.free 4 (by simp);have k5:=d.cell 5 _ rfl;have g5:=d.free 5 (by simp);have k6:=d.cell 6 _ rfl;have g6:=d.free 6 (by simp);have k7:=d.cell 7 _ rfl;have g7:=d.free 7 (by simp);have k8:=d.cell 8 _ rfl;have g8:=d.free 8 (by simp)
     go_wp2_with fail
     refine bodyPost_ret (v:=.tuple #[.agg #[int i64 0,int i64 0,int i64 0,int i64 0,int i64 0,int i64 0,int i64 0,int i64 0,.slice none 0 0],.iface 29 (int i64 3)]) (qji V rfl rfl ⟨_,rfl⟩ ⟨_,rfl⟩ ⟨_,rfl⟩ ⟨_,rfl⟩ ⟨_,rfl⟩ ⟨_,rfl⟩ ⟨_,rfl⟩ ⟨_,rfl⟩ ⟨_,_,_,rfl⟩) rfl ⟨.inr ⟨NO.out,rfl⟩,W⟩
    ·have YES:Hid (qte L ⟨site,seq,wall,count,v0,v1,v2,v3,l⟩):=⟨ho,CH.out.1 HD.out⟩;have HO:Hid (qc7 site seq wall count v0 v1 v2 v3 l=true):=ho;clear ho
     go_wp2_with fail
     refine(qe2 N HO.out).mono ?_;rintro e U ⟨rfl,C⟩;replace d:=d.later C;replace s:=s.later C;have r:=qqs OWN.out C;replace M:=qac M C;clear C;replace c0:=s.cell 0 _ rfl;replace c1:=s.cell 1 _ rfl;replace c2:=s.cell 2 _ rfl;replace c3:=s.cell 3 _ rfl;replace c4:=s.cell 4 _ rfl;replace c5:=s.cell 5 _ rfl;replace c6:=s.cell 6 _ rfl;replace c7:=s.cell 7 _ rfl;replace c8:=s.cell 8 _ rfl;have V:=(((((((((d.set 0 (int i64 site) (by simp)).set 1 (int i64 seq) (by simp)).set 2 (int i64 wall) (by simp)).set 3 (int i64 count) (by simp)).set 4 (int i64 v0) (by simp)).set 5 (int i64 v1) (by simp)).set 6 (int i64 v2) (by simp)).set 7 (int i64 v3) (by simp)).set 8 (.slice I l.length J) (by simp));replace r:=ownsRow_setCell_below r (a:=⟨w.heap.size,0,none⟩) (by show w.heap.size<b.heap.size+1;omega) (int i64 site);replace r:=ownsRow_setCell_below r (a:=⟨w.heap.size,1,none⟩) (by show w.heap.size<b.heap.size+1;omega) (int i64 seq);replace r:=ownsRow_setCell_below r (a:=⟨w.heap.size,2,none⟩) (by show w.heap.size<b.heap.size+1;omega) (int i64 wall);replace r:=ownsRow_setCell_below r (a:=⟨w.heap.size,3,none⟩) (by show w.heap.size<b.heap.size+1;omega) (int i64 count);replace r:=ownsRow_setCell_below r (a:=⟨w.heap.size,4,none⟩) (by show w.heap.size<b.heap.size+1;omega) (int i64 v0);replace r:=ownsRow_setCell_below r (a:=⟨w.heap.size,5,none⟩) (by show w.heap.size<b.heap.size+1;omega) (int i64 v1);replace r:=ownsRow_setCell_below r (a:=⟨w.heap.size,6,none⟩) (by show w.heap.size<b.heap.size+1;omega) (int i64 v2);replace r:=ownsRow_setCell_below r (a:=⟨w.heap.size,7,none⟩) (by show w.heap.size<b.heap.size+1;omega) (int i64 v3);replace r:=ownsRow_setCell_below r (a:=⟨w.heap.size,8,none⟩) (by show w.heap.size<b.heap.size+1;omega) (.slice I l.length J);obtain⟨a2,cap2,ea,hW2⟩:=qcw r;injection ea with e1 _ e3;subst e1 e3;have HW2:Hid (qat _ I J l):=hW2;clear hW2 r N OWN;have W:=(((((((((M.setCell (p:=⟨w.heap.size,0,none⟩) (Nat.le_refl _) (int i64 site)).setCell (p:=⟨w.heap.size,1,none⟩) (Nat.le_refl _) (int i64 seq)).setCell (p:=⟨w.heap.size,2,none⟩) (Nat.le_refl _) (int i64 wall)).setCell (p:=⟨w.heap.size,3,none⟩) (Nat.le_refl _) (int i64 count)).setCell (p:=⟨w.heap.size,4,none⟩) (Nat.le_refl _) (int i64 v0)).setCell (p:=⟨w.heap.size,5,none⟩) (Nat.le_refl _) (int i64 v1)).setCell (p:=⟨w.heap.size,6,none⟩) (Nat.le_refl _) (int i64 v2)).setCell (p:=⟨w.heap.size,7,none⟩) (Nat.le_refl _) (int i64 v3)).setCell (p:=⟨w.heap.size,8,none⟩) (Nat.le_refl _) (.slice I l.length J))
     have O:=d.cell 0 _ rfl;have g0:=d.free 0 (by simp);have k1:=d.cell 1 _ rfl;have g1:=d.free 1 (by simp);have k2:=d.cell 2 _ rfl;have g2:=d.free 2 (by simp);have k3:=d.cell 3 _ rfl;have g3:=d.free 3 (by simp);have k4:=d.cell 4 _ rfl;have g4:=d.free 4 (by simp);have k5:=d.cell 5 _ rfl;have g5:=d.free 5 (by simp);have k6:=d.cell 6 _ rfl;have g6:=d.free 6 (by simp);have k7:=d.cell 7 _ rfl;have g7:=d.free 7 (by simp);have k8:=d.cell 8 _ rfl;have g8:=d.free 8 (by simp)
     go_wp2_with fail
     refine bodyPost_ret (v:=.tuple #[.agg #[int i64 site,int i64 seq,int i64 wall,int i64 count,int i64 v0,int i64 v1,int i64 v2,int i64 v3,.slice I l.length J],.nilIface]) (qji V rfl rfl ⟨_,rfl⟩ ⟨_,rfl⟩ ⟨_,rfl⟩ ⟨_,rfl⟩ ⟨_,rfl⟩ ⟨_,rfl⟩ ⟨_,rfl⟩ ⟨_,rfl⟩ ⟨_,_,_,rfl⟩) rfl ⟨.inl ⟨⟨site,seq,wall,count,v0,v1,v2,v3,l⟩,I,J,YES.out,HW2.out,rfl⟩,W⟩
end
section
open Go.RowKit
def qni (S:ByteArray) (ns:List Int):ByteArray:=ns.foldl (λs n=>s++qhl 5 n) S
theorem qns {S:ByteArray} {ns:List Int} {k:Nat} (hk:k<ns.length):qni S (ns.take (k+1))=qni S (ns.take k)++qhl 5 (ns.getD k 0):=by
 unfold qni;rw[List.take_succ_eq_append_getElem hk,List.foldl_append];simp[List.getD,List.getElem?_eq_getElem hk]
theorem qh3 (S:ByteArray) (ns:List Int):∀k,k<=ns.length->(qni S (ns.take k)).size<=S.size+6*k
 |0,_=>by simp[qni]
 |k+1,hk=>by
  rw[qns (by omega),ByteArray.size_append];have a:=qh3 S ns k (by omega);have b:=qbj 5 (ns.getD k 0);omega
variable {m:Int}
theorem q6f (h0:0<=m):IntKind.i64.wrap (m.tmod 128)=m%128:=by
 rw[Int.tmod_eq_emod_of_nonneg h0];unfold IntKind.wrap;simp[IntKind.signed,IntKind.bits];omega
theorem q6g (h0:0<=m) (hm:m<=1099511627776):IntKind.i64.wrap (m.tdiv 128)=m/128:=by
 rw[Int.tdiv_eq_ediv_of_nonneg h0];unfold IntKind.wrap;simp[IntKind.signed,IntKind.bits];omega
theorem qt1:(Tryz.prog.info? 5).map (λi=>(i.zero,i.size,i.bytes))=some (some (.int .u8 0),1,1):=by kernel_rfl
theorem qdt (B g cap:Nat) (S:ByteArray) (lb lo lc:Nat) (ns:List Int) (w:World) (hO:Own w B g cap S) (hB:B<=w.heap.size) (hne:lb≠g)
 (hC:∀i,i<ns.length->w.cell? ⟨lb,lo+i,none⟩=some (.int .i64 (ns.getD i 0))) (hr:∀i,i<ns.length->0<=ns.getD i 0/\ns.getD i 0<=1099511627776) (hs:S.size+6*ns.length<=900000):
 Calls Tryz.prog 114 #[.slice (some ⟨g,0,none⟩) S.size cap,.slice (some ⟨lb,lo,none⟩) ns.length lc] w λe w'=>
  ∃S' g' cap',e=.returned (.slice (some ⟨g',0,none⟩) S'.size cap')/\S'=qni S ns/\Own w' B g' cap' S'/\(g'=g\/w.heap.size<=g')/\qdc g w w':=by
 have HC:Hid _:=hC;have HR:Hid _:=hr;clear hC hr;go_enter Tryz.func114,Tryz.ntmps114
 go_wp2_with fail
 go_loopw [0,9] (λbv i wr=>∃(k:Nat) (z:Int) (S':ByteArray) (g' cap':Nat),k<=ns.length/\z=k/\i=.int .i64 z/\bv=.slice (some ⟨g',0,none⟩) S'.size cap'/\S'=qni S (ns.take k)/\Own wr B g' cap' S'/\(g'=g\/w.heap.size<=g')/\qdc g w wr) (λ_ i _=>ns.length-(intOf i).toNat)
 case atStart=>exact⟨0,0,S,g,cap,by omega,rfl,rfl,rfl,rfl,hO,.inl rfl,qdc.refl _ _⟩
 case round=>
  obtain⟨k,z,S1,g1,c1,hk,hz,rfl,rfl,hS1,O1,e1,y1⟩:=hrel;have HS1:Hid _:=hS1;clear hS1
  have hsz1:S1.size<=S.size+6*k:=by rw[HS1.out];exact qh3 S ns k hk
  by_cases hlt:k<ns.length
  ·have x0:=y1.cell (HC.out k hlt) hne;obtain⟨r0,r1⟩:=HR.out k hlt
   have h1:z<(ns.length:Int):=by omega
   have h2:z.toNat=k:=by omega
   have h3:0<=z:=by omega
   have HZ:Hid _:=hz;clear hz;have HN:=qns (S:=S) hlt;obtain⟨n,hn⟩:∃n,ns.getD k 0=n:=⟨_,rfl⟩;rw[hn]at x0 r0 r1 HN;rw[<-HS1.out]at HN;obtain⟨T,hT⟩:∃T,T=S1++qhl 5 n:=⟨_,rfl⟩;rw[<-hT]at HN;have HN2:Hid _:=HN;have HT:Hid _:=hT;clear HN hT hn
   have hszT:T.size<=S.size+6*k+6:=by rw[HT.out,ByteArray.size_append];have:=qbj 5 n;omega
   go_wp2_with fail
   go_loopw [0,6] (λbv nv wi=>∃(m:Int) (f:Nat) (S2:ByteArray) (g2 c2:Nat),nv=.int .i64 m/\bv=.slice (some ⟨g2,0,none⟩) S2.size c2/\0<=m/\m<=1099511627776/\m<128^(f+1)/\S2++qhl f m=T/\Own wi B g2 c2 S2/\(g2=g\/w.heap.size<=g2)/\qdc g w wi) (λ_ nv _=>(intOf nv).toNat)
   case atStart=>exact⟨n,5,S1,g1,c1,rfl,rfl,r0,r1,by have e:(128:Int)^(5+1)=4398046511104:=by decide
                                                     rw[e];omega,HT.out.symm,O1,e1,y1⟩
   case round=>
        obtain⟨m,f,S2,g2,c2,rfl,rfl,m0,m1,mf,hT2,O2,e2,y2⟩:=hrel;have HT2:Hid _:=hT2;clear hT2
        have hszS:S2.size<=T.size:=by rw[<-HT2.out,ByteArray.size_append];omega
        have q:=q6g m0 m1;have r:=q6f m0;by_cases hm:127<m
        ·obtain⟨f,rfl⟩:∃f',f=f'+1:=by
          cases f with
          |zero=>simp at mf;omega
          |succ f=>exact⟨f,rfl⟩
         have MF:Hid _:=mf;clear mf
         have hc:(wr.alloc (.cells #[.int .u8 (m%128+128)] 5)).cell? ⟨wr.heap.size,0,none⟩=some (.int .u8 (m%128+128)):=by go_simp
         go_wp2_with (at_builtin;refine qcv rfl (.tmp 15) (.tmp 20) 163 163 5 rfl Tryz.underlying163 qt1 rfl (O2.alloc _) (qir (m%128+128)) _ rfl (qym Tryz.underlying163 (by omega) (by omega) 1 hc) (by rw[qdy];omega) (by have:=y2.size;simp;omega) ?_;intro S3 g3 c3 w3 hS3 O3 e3 y3)
         go_roundw
         case rel=>
          have h128:(128:Int)^(f+1+1)=128^(f+1)*128:=Int.pow_succ 128 (f+1);have hmf:=MF.out;rw[h128]at hmf;have y4:qdc g2 wr w3:=(qdc.ofBelow (boxed (Below.refl _ _) _)).trans y3 (.inl rfl);refine⟨m/128,f,S3,g3,c3,rfl,rfl,by omega,by omega,by omega,?_,O3,?_,y2.trans y4 e2⟩
          ·rw[hS3.out,<-HT2.out,qse (by omega),ByteArray.append_assoc]
          ·rcases e3 with rfl|rfl
           ·exact e2
           ·exact .inr (by have:=y2.size;simp;omega)
         case measure=>simp[intOf];omega
        ·have hc:(wr.alloc (.cells #[.int .u8 m] 5)).cell? ⟨wr.heap.size,0,none⟩=some (.int .u8 m):=by go_simp
         have MF:Hid _:=mf;clear mf
         go_wp2_with (at_builtin;refine qcv rfl (.tmp 24) (.tmp 27) 163 163 5 rfl Tryz.underlying163 qt1 rfl (O2.alloc _) (qir m) _ rfl (qym Tryz.underlying163 (by omega) (by omega) 1 hc) (by rw[qdy];omega) (by have:=y2.size;simp;omega) ?_;intro S3 g3 c3 w3 hS3 O3 e3 y3)
         go_roundw
         case rel=>
          have y4:qdc g2 wr w3:=(qdc.ofBelow (boxed (Below.refl _ _) _)).trans y3 (.inl rfl);refine⟨k+1,z+1,S3,g3,c3,by omega,by have:=HZ.out;omega,by go_num,rfl,?_,O3,?_,y2.trans y4 e2⟩
          ·rw[hS3.out,HN2.out,<-HT2.out,qsw (by omega)]
          ·rcases e3 with rfl|rfl
           ·exact e2
           ·exact .inr (by have:=y2.size;simp;omega)
         case measure=>simp[intOf];omega
  ·have e:k=ns.length:=by omega
   go_wp2_with fail
   go_ret;exact⟨S1,g1,c1,rfl,by rw[HS1.out,e,List.take_length],O1,e1,y1⟩
end
section
open Go.Value Go.IntKind Go.RowKit
theorem qjm (S:ByteArray) (ns:List Int):(qni S ns).size<=S.size+6*ns.length:=by
 have:=qh3 S ns ns.length (Nat.le_refl _)
 rwa [List.take_length]at this
theorem q0n (g:Bool):qhl 5 (if g then 1 else 0)=qy6 g:=by cases g<;>rfl
theorem q4s (S:ByteArray) (key:Int) (data:ByteArray) (gone:Bool):qni S [key,if gone then 1 else 0,(data.size:Int)]++data=stepS S ⟨key,data,gone⟩:=by
 show S++qhl 5 key++qhl 5 (if gone then 1 else 0)++qhl 5 (data.size:Int)++data=S++qhl 5 key++qy6 gone++(qhl 5 (data.size:Int)++data);rw[q0n,ByteArray.append_assoc (b:=qhl 5 (data.size:Int))]
theorem q1o (site seq wall count d0 d1 d2 d3:Int) (a:Option Addr) (cap:Nat) (l:List Wr) (w:World) (G:qat w a cap l) (h:qc7 site seq wall count d0 d1 d2 d3 l=true):
 Calls Tryz.prog 139 #[.agg #[int i64 site,int i64 seq,int i64 wall,int i64 count,int i64 d0,int i64 d1,int i64 d2,int i64 d3,.slice a l.length cap]] w λe w'=>
  ∃S g cp,e=.returned (.tuple #[.slice (some ⟨g,0,none⟩) S.size cp,.nilIface])/\S=txS site seq wall count d0 d1 d2 d3 l/\Own w' w.heap.size g cp S/\Below w.heap.size w w':=by
 have kc:=λ(w:World) (C:Array Value) (n c:Nat)=>Lib.run_convert_bytes_const (P:=Tryz.prog) w 163 5 C n c Tryz.underlying163 Tryz.underlying5;have H:Hid _:=h;have ht:=h;simp only[qc7,Bool.and_eq_true,qa5,qau,qej]at ht;obtain⟨⟨⟨⟨⟨ts,tq⟩,tw,tc⟩,⟨⟨t0,t1⟩,t2⟩,t3⟩,_⟩,hok⟩:=ht;have TS:Hid ((0<=site/\site<=3)/\(1<=seq/\seq<=1099511627776)/\(0<=wall/\wall<=1099511627776)/\(0<=count/\count<=1099511627776)):=⟨ts,tq,tw,tc⟩;have TD:Hid ((0<=d0/\d0<=1099511627776)/\(0<=d1/\d1<=1099511627776)/\(0<=d2/\d2<=1099511627776)/\(0<=d3/\d3<=1099511627776)):=⟨t0,t1,t2,t3⟩;have HLEN:Hid (1<=l.length/\l.length<=5):=qjw hok;have hall:Hid (∀j,j<l.length->qhk l j=true):=qjr hok;clear hok ts tq tw tc t0 t1 t2 t3 h
 have c0:(w.alloc (.cells #[int i64 site,int i64 seq,int i64 wall,int i64 count,int i64 d0,int i64 d1,int i64 d2,int i64 d3,.slice a l.length cap] 80)).cell? ⟨w.heap.size,0,none⟩=some (int i64 site):=by go_simp
 have c1:(w.alloc (.cells #[int i64 site,int i64 seq,int i64 wall,int i64 count,int i64 d0,int i64 d1,int i64 d2,int i64 d3,.slice a l.length cap] 80)).cell? ⟨w.heap.size,1,none⟩=some (int i64 seq):=by go_simp
 have c2:(w.alloc (.cells #[int i64 site,int i64 seq,int i64 wall,int i64 count,int i64 d0,int i64 d1,int i64 d2,int i64 d3,.slice a l.length cap] 80)).cell? ⟨w.heap.size,2,none⟩=some (int i64 wall):=by go_simp
 have c3:(w.alloc (.cells #[int i64 site,int i64 seq,int i64 wall,int i64 count,int i64 d0,int i64 d1,int i64 d2,int i64 d3,.slice a l.length cap] 80)).cell? ⟨w.heap.size,3,none⟩=some (int i64 count):=by go_simp
 have K:(w.alloc (.cells #[int i64 site,int i64 seq,int i64 wall,int i64 count,int i64 d0,int i64 d1,int i64 d2,int i64 d3,.slice a l.length cap] 80)).cell? ⟨w.heap.size,4,none⟩=some (int i64 d0):=by go_simp
 have L:(w.alloc (.cells #[int i64 site,int i64 seq,int i64 wall,int i64 count,int i64 d0,int i64 d1,int i64 d2,int i64 d3,.slice a l.length cap] 80)).cell? ⟨w.heap.size,5,none⟩=some (int i64 d1):=by go_simp
 have c6:(w.alloc (.cells #[int i64 site,int i64 seq,int i64 wall,int i64 count,int i64 d0,int i64 d1,int i64 d2,int i64 d3,.slice a l.length cap] 80)).cell? ⟨w.heap.size,6,none⟩=some (int i64 d2):=by go_simp
 have M:(w.alloc (.cells #[int i64 site,int i64 seq,int i64 wall,int i64 count,int i64 d0,int i64 d1,int i64 d2,int i64 d3,.slice a l.length cap] 80)).cell? ⟨w.heap.size,7,none⟩=some (int i64 d3):=by go_simp
 have u:(w.alloc (.cells #[int i64 site,int i64 seq,int i64 wall,int i64 count,int i64 d0,int i64 d1,int i64 d2,int i64 d3,.slice a l.length cap] 80)).cell? ⟨w.heap.size,8,none⟩=some (.slice a l.length cap):=by go_simp
 go_enter Tryz.func139,Tryz.ntmps139
 go_wp2_with fail
 refine(qe2 (G.later (boxed (Below.refl _ _) _)) H.out).mono ?_;rintro e d ⟨rfl,r⟩;replace c0:=cell_later r c0;replace c1:=cell_later r c1;replace c2:=cell_later r c2;replace c3:=cell_later r c3;replace K:=cell_later r K;replace L:=cell_later r L;replace c6:=cell_later r c6;replace M:=cell_later r M;replace u:=cell_later r u;have hbw:=qac (boxed (Below.refl _ _) _) r;replace G:=G.later hbw;clear r;have hlt:w.heap.size<d.heap.size:=World.block_lt_of_cell? _ _ c0;have N:Hid _:=hlt
 go_wp2_with fail
 refine(qdt d.heap.size d.heap.size 1 (qir 116) (d.heap.size+1) 0 4 [site,seq,wall,count] _ ((Own.one d d.heap.size _ (by omega) (by omega) (Nat.le_refl _)).alloc _) (by simp;omega) (by omega) ?_ ?_ (by rw[qdy];simp)).mono ?_
 ·intro i m
  have o:i=0\/i=1\/i=2\/i=3:=by simp at m;omega
  rcases o with rfl|rfl|rfl|rfl<;>go_simp
 ·intro i m
  have o:i=0\/i=1\/i=2\/i=3:=by simp at m;omega
  obtain⟨O,Q,q2,q3⟩:=TS.out;rcases o with rfl|rfl|rfl|rfl
  ·exact⟨O.1,Int.le_trans O.2 (by decide)⟩
  ·exact⟨Int.le_trans (by decide) Q.1,Q.2⟩
  ·exact q2
  ·exact q3
 rintro e w2 ⟨S1,g1,cap1,rfl,hS1,O1,e1,R⟩;have HS1:Hid _:=hS1;have s:Below d.heap.size d w2:=(boxed (boxed (Below.refl _ _) _) _).trans (R.below (Nat.le_refl _) (by simp;omega));have Z:Hid _:=O1.base
 have hz1:S1.size<=25:=by rw[HS1.out];exact qjm (qir 116) [site,seq,wall,count]
 clear hS1 R e1;replace K:=cell_later s K;replace L:=cell_later s L;replace c6:=cell_later s c6;replace M:=cell_later s M;replace u:=cell_later s u;clear c0 c1 c2 c3
 go_wp2_with fail
 refine(qdt d.heap.size g1 cap1 S1 w.heap.size 4 4 [d0,d1,d2,d3] w2 O1 s.size (by have:=Z.out;have:=N.out;omega) ?_ ?_ ?_).mono ?_
 ·intro i m
  have o:i=0\/i=1\/i=2\/i=3:=by simp at m;omega
  rcases o with rfl|rfl|rfl|rfl
  ·exact K
  ·exact L
  ·exact c6
  ·exact M
 ·intro i m
  have o:i=0\/i=1\/i=2\/i=3:=by simp at m;omega
  obtain⟨O,Q,q2,q3⟩:=TD.out;rcases o with rfl|rfl|rfl|rfl
  ·exact O
  ·exact Q
  ·exact q2
  ·exact q3
 ·exact Nat.le_trans (Nat.add_le_add_right hz1 _) (by simp)
 rintro e w3 ⟨S2,g2,cap2,rfl,hS2,O2,e2,T⟩;have HS2:Hid _:=hS2;have U:Below d.heap.size d w3:=s.trans (T.below Z.out s.size)
 have hz2:S2.size<=49:=by rw[HS2.out];exact Nat.le_trans (qjm S1 [d0,d1,d2,d3]) (Nat.add_le_add_right hz1 24)
 have HG2:Hid _:=O2.base;replace u:w3.cell? ⟨w.heap.size,8,none⟩=some (.slice a l.length cap):=(T.below (B:=d.heap.size) Z.out s.size).cell (p:=⟨w.heap.size,8,none⟩) N.out▸u;clear hS2 T e2 s K L c6 M
 go_wp2_with fail
 refine(qdt d.heap.size g2 cap2 S2 w3.heap.size 0 1 [(l.length:Int)] _ (O2.alloc _) (by have:=U.size;simp;omega) (by have:=O2.lt;omega) ?_ ?_ ?_).mono ?_
 ·intro i m
  obtain rfl:i=0:=by simpa using m
  go_simp
 ·intro i m
  obtain rfl:i=0:=by simpa using m
  have:=HLEN.out;show 0<=(l.length:Int)/\(l.length:Int)<=1099511627776;omega
 ·exact Nat.le_trans (Nat.add_le_add_right hz2 _) (by simp)
 rintro e w4 ⟨S3,g3,cap3,rfl,hS3,O3,e3,y3⟩
 have HS3:Hid (S3=qpv site seq wall count d0 d1 d2 d3 l.length):=by show S3=_;rw[hS3,HS2.out,HS1.out];rfl
 have hb34:Below d.heap.size w3 w4:=((Below.refl _ _).alloc U.size _).trans (y3.below HG2.out (by have:=U.size;simp;omega));have hb4:Below d.heap.size d w4:=U.trans hb34;replace u:w4.cell? ⟨w.heap.size,8,none⟩=some (.slice a l.length cap):=hb34.cell (p:=⟨w.heap.size,8,none⟩) N.out▸u
 obtain⟨b,off,rfl,C⟩:∃b off,a=some ⟨b,off,none⟩/\qcy d b off l:=by
  rcases G.held with h0|h0
  ·have:=HLEN.out;rw[h0]at this;simp at this
  ·exact h0
 have hcap:=G.cap;have hlc:=G.len;clear G hS3 y3 e3 hb34 O2 hz2 HG2 Z O1 hz1 U
 go_wp2_with fail
 clear u
 go_loopw [4,39] (λbv i wr=>∃(k:Nat) (z:Int) (S':ByteArray) (g' cap':Nat),k<=l.length/\z=k/\i=int i64 z/\bv=.slice (some ⟨g',0,none⟩) S'.size cap'/\S'=wrS (qpv site seq wall count d0 d1 d2 d3 l.length) (l.take k)/\Own wr d.heap.size g' cap' S'/\Below d.heap.size d wr) (λ_ i _=>l.length-(intOf i).toNat)
 case atStart=>exact⟨0,0,S3,g3,cap3,by omega,rfl,rfl,rfl,HS3.out,O3,hb4⟩
 case round=>
  clear O3 hb4;obtain⟨k,z,v,V,cap5,hk,hz,rfl,rfl,hS5,y,q⟩:=hrel;have HS5:Hid _:=hS5;clear hS5
  have hsz:v.size<=55+25*k:=by
   rw[HS5.out];exact Nat.le_trans (qo4 hall.out k hk) (Nat.add_le_add_right (qno _ _ _ _ _ _ _ _ _) _)
  have hlen:=HLEN.out;by_cases hlt2:k<l.length
  ·obtain⟨x0,x1,x2⟩:=(C.later q) k hlt2
   have h1:z<(l.length:Int):=by omega
   have h2:z.toNat=k:=by omega
   have h3:0<=z:=by omega
   have HZ:Hid _:=hz;clear hz;have hkey:=qon (hall.out k hlt2);have hsize:=qmu (hall.out k hlt2);obtain⟨⟨key,data,gone⟩,hx⟩:∃x,qff l k=x:=⟨_,rfl⟩;rw[hx]at x0 x1 x2 hkey hsize;have HX:Hid _:=hx;clear hx;simp only at x0 x1 x2 hkey hsize;obtain⟨O,Q⟩:=hkey
   have E:Hid (∀D,D=qni v [key,if gone then 1 else 0,(data.size:Int)]->D++data=wrS (qpv site seq wall count d0 d1 d2 d3 l.length) (l.take (k+1))):=λD h6=>by
        rw[h6,q4s,qtn hlt2,HX.out,HS5.out]
   obtain⟨F,hgi⟩:∃F:Int,F=if gone then 1 else 0:=⟨_,rfl⟩
   rw[<-hgi]at E
   have Hgi:Hid (0<=F/\F<=1):=by
        show 0<=F/\F<=1;rw[hgi]
        cases gone<;>decide
   have R:(wr.alloc (.cells #[int i64 key,.string data,.bool gone] 34)).cell? ⟨wr.heap.size,1,none⟩=some (.string data):=by go_simp
   have y1':((wr.alloc (.cells #[int i64 key,.string data,.bool gone] 34)).alloc (.cells #[int i64 key,int i64 F,int i64 (data.size:Int)] 3)).cell? ⟨wr.heap.size,1,none⟩=some (.string data):=by go_simp
   cases gone
   ·obtain rfl:F=0:=hgi
    go_wp2_with fail
    refine(qdt d.heap.size V cap5 v (wr.heap.size+1) 0 3 [key,0,(data.size:Int)] _ ((y.alloc _).alloc _) (by have:=q.size;simp;omega) (by have:=y.lt;omega) ?_ ?_ ?_).mono ?_
    ·intro i m
     have o:i=0\/i=1\/i=2:=by simp at m;omega
     rcases o with rfl|rfl|rfl<;>go_simp
    ·intro i m
     have o:i=0\/i=1\/i=2:=by simp at m;omega
     rcases o with rfl|rfl|rfl
     ·show 0<=key/\key<=1099511627776;omega
     ·show (0:Int)<=0/\(0:Int)<=1099511627776
      decide
     ·show 0<=(data.size:Int)/\(data.size:Int)<=1099511627776;omega
    ·simp;omega
    rintro e w6 ⟨D,g6,cap6,rfl,W,X,e6,I⟩;have Y:Hid _:=W
    have hz6:D.size<=v.size+18:=by rw[Y.out];exact qjm v [key,0,(data.size:Int)]
    have J:Below d.heap.size d w6:=(q.trans (((Below.refl _ _).alloc q.size _).alloc (by have:=q.size;simp;omega) _)).trans (I.below y.base (by have:=q.size;simp;omega));have T:=I.cell y1' (by have:=y.lt;show wr.heap.size≠V;omega);clear W I e6 R y1'
    go_wp2_with (at_builtin;refine qcv rfl (.tmp 54) (.tmp 56) 163 9 5 rfl Tryz.underlying163 qt1 rfl X data _ rfl (Src.ofString _ Tryz.underlying9 data) (by omega) J.size ?_;intro S7 g7 cap7 w7 hS7 O7 e7 y7)
    go_roundw
    case rel=>exact⟨k+1,z+1,S7,g7,cap7,by omega,by have:=HZ.out;omega,by go_num,rfl,by rw[hS7.out];exact E.out D Y.out,O7,J.trans (y7.below X.base J.size)⟩
    case measure=>simp[intOf];omega
   ·obtain rfl:F=1:=hgi
    go_wp2_with fail
    refine(qdt d.heap.size V cap5 v (wr.heap.size+1) 0 3 [key,1,(data.size:Int)] _ ((y.alloc _).alloc _) (by have:=q.size;simp;omega) (by have:=y.lt;omega) ?_ ?_ ?_).mono ?_
    ·intro i m
     have o:i=0\/i=1\/i=2:=by simp at m;omega
     rcases o with rfl|rfl|rfl<;>go_simp
    ·intro i m
     have o:i=0\/i=1\/i=2:=by simp at m;omega
     rcases o with rfl|rfl|rfl
     ·show 0<=key/\key<=1099511627776;omega
     ·show (0:Int)<=1/\(1:Int)<=1099511627776
      decide
     ·show 0<=(data.size:Int)/\(data.size:Int)<=1099511627776;omega
    ·simp;omega
    rintro e w6 ⟨D,g6,cap6,rfl,W,X,e6,I⟩;have Y:Hid _:=W
    have hz6:D.size<=v.size+18:=by rw[Y.out];exact qjm v [key,1,(data.size:Int)]
    have J:Below d.heap.size d w6:=(q.trans (((Below.refl _ _).alloc q.size _).alloc (by have:=q.size;simp;omega) _)).trans (I.below y.base (by have:=q.size;simp;omega));have T:=I.cell y1' (by have:=y.lt;show wr.heap.size≠V;omega);clear W I e6 R y1'
    go_wp2_with (at_builtin;refine qcv rfl (.tmp 54) (.tmp 56) 163 9 5 rfl Tryz.underlying163 qt1 rfl X data _ rfl (Src.ofString _ Tryz.underlying9 data) (by omega) J.size ?_;intro S7 g7 cap7 w7 hS7 O7 e7 y7)
    go_roundw
    case rel=>exact⟨k+1,z+1,S7,g7,cap7,by omega,by have:=HZ.out;omega,by go_num,rfl,by rw[hS7.out];exact E.out D Y.out,O7,J.trans (y7.below X.base J.size)⟩
    case measure=>simp[intOf];omega
  ·have e:k=l.length:=by omega
   go_wp2_with fail
   go_ret2;exact⟨v,V,cap5,rfl,by rw[HS5.out,e,List.take_length];rfl,y.mono (by have:=N.out;omega),hbw.trans (q.mono (by have:=N.out;omega))⟩
end
section
open Go.RowKit
theorem qz9 (site a0 a1 a2 a3:Int) (w:World) (h:inB site 0 3=true) (l:qau a0 a1 a2 a3=true):
 Calls Tryz.prog 82 #[.int .i64 site,.agg #[.int .i64 a0,.int .i64 a1,.int .i64 a2,.int .i64 a3]] w λe w'=>
  ∃S g cap,e=.returned (.tuple #[.slice (some ⟨g,0,none⟩) S.size cap,.nilIface])/\S=q45 site a0 a1 a2 a3/\Own w' w.heap.size g cap S/\Below w.heap.size w w':=by
 have H:Hid _:=h;have F:Hid _:=l;have q:=qa5.1 h;have m:=l;simp only[qau,Bool.and_eq_true,qej]at m;have G:Hid _:=m;have I:Hid _:=q;clear h l m q;have U:=λ(w:World) (C:Array Value) (n c:Nat)=>Lib.run_convert_bytes_const (P:=Tryz.prog) w 163 5 C n c Tryz.underlying163 Tryz.underlying5;obtain⟨c0,c1,c2,c3,_,_,_,_⟩:=qbe.new w 47 a0 a1 a2 a3;go_enter Tryz.func82,Tryz.ntmps82
 go_wp2_with fail
 refine(qhr H.out _).mono ?_;rintro e V ⟨rfl,b⟩;replace c0:=cell_later b c0;replace c1:=cell_later b c1;replace c2:=cell_later b c2;replace c3:=cell_later b c3
 go_wp2_with fail
 refine(qca F.out _).mono ?_;rintro e w2 ⟨rfl,d⟩;replace c0:=cell_later d c0;replace c1:=cell_later d c1;replace c2:=cell_later d c2;replace c3:=cell_later d c3;have r:w.heap.size<w2.heap.size:=World.block_lt_of_cell? _ _ c0;have k:Below w.heap.size w w2:=qac (qac (boxed (Below.refl _ _) _) b) d;clear b d;have o:Hid _:=r;clear r
 go_wp2_with fail
 have s:((w2.alloc (.cells #[.int .u8 97] 5 (1,2))).alloc (.cells #[.int .i64 site] 3)).cell? ⟨w2.heap.size+1,0,none⟩=some (.int .i64 site):=by go_simp
 refine(qdt w2.heap.size w2.heap.size 1 (qir 97) (w2.heap.size+1) 0 1 [site] _ ((Own.one w2 w2.heap.size _ (by omega) (by omega) (Nat.le_refl _)).alloc _) (by simp;omega) (by omega) ?_ ?_ (by rw[qdy];simp)).mono ?_
 ·intro i a
  obtain rfl:i=0:=by simpa using a
  exact s
 ·intro i a
  obtain rfl:i=0:=by simpa using a
  show 0<=site/\site<=1099511627776;have:=I.out;omega
 rintro e u ⟨v,J,K,rfl,x,y,L,z⟩;have B:Hid _:=x;have j:Below w2.heap.size w2 u:=(boxed (boxed (Below.refl _ _) _) _).trans (z.below (Nat.le_refl _) (by simp;omega));have D:Hid _:=y.base;clear x s z L;replace c0:=cell_later j c0;replace c1:=cell_later j c1;replace c2:=cell_later j c2;replace c3:=cell_later j c3;replace k:=qac k j
 go_wp2_with fail
 refine(qdt w2.heap.size J K v w.heap.size 0 4 [a0,a1,a2,a3] u y j.size (by have:=D.out;have:=o.out;omega) ?_ ?_ ?_).mono ?_
 ·intro i a
  have p:i=0\/i=1\/i=2\/i=3:=by simp at a;omega
  rcases p with rfl|rfl|rfl|rfl
  ·exact c0
  ·exact c1
  ·exact c2
  ·exact c3
 ·intro i a
  have p:i=0\/i=1\/i=2\/i=3:=by simp at a;omega
  have:=G.out;rcases p with rfl|rfl|rfl|rfl
  ·exact this.1.1.1
  ·exact this.1.1.2
  ·exact this.1.2
  ·exact this.2
 ·have:v.size<=7:=by
   rw[B.out];have:=qh3 (qir 97) [site] 1 (Nat.le_refl _);simpa[qdy]using this
  simp;omega
 rintro e W ⟨M,N,O,rfl,E,Q,X,R⟩;have T:Hid _:=E;clear E
 go_wp2_with fail
 go_ret2;refine⟨M,N,O,rfl,?_,Q.mono (by have:=o.out;omega),k.trans (R.below (by have:=D.out;have:=o.out;omega) k.size)⟩;rw[T.out,B.out];rfl
end
section
open Go.Value Go.IntKind Go.RowKit
theorem qp4 (S:ByteArray) (j:Nat) (u:UInt8) (h:(toL S)[j]?=some u):(byteCells S)[j]?=some (.int .u8 u.toNat):=by
 unfold byteCells;rw[List.getElem?_map];show ((toL S)[j]?).map _=_;rw[h];rfl
variable {w:World} {B g:Nat} {S:ByteArray}
theorem Own.bytes {cap:Nat} (h:Own w B g cap S) (r:Nat):qc2 w w.heap.size (some ⟨g,0,none⟩) ((toL S).take r):=by
 refine .inr ⟨g,0,rfl,h.lt,λj u a=>?_⟩;rw[Nat.zero_add];refine h.have_ j _ (qp4 S j u ?_);rw[List.getElem?_take]at a;split at a
 ·exact a
 ·cases a
theorem Own.all {cap:Nat} (h:Own w B g cap S):qc2 w w.heap.size (some ⟨g,0,none⟩) (toL S):=by
 have:=h.bytes (toL S).length
 rwa [List.take_length]at this
variable {L:List UInt8}
theorem qvc {x:TxV} (b:qte L x) (a:Option Addr) (len c:Nat) (h:L.length=len) (w:World) (i:qc2 w w.heap.size a L) (j:len<=c) (k:len<=1000000):
 Calls Tryz.prog 117 #[.slice a len c] w λe w'=>∃a2 d,e=.returned (.tuple #[.agg #[int i64 x.site,int i64 x.seq,int i64 x.wall,int i64 x.count,int i64 x.d0,int i64 x.d1,int i64 x.d2,int i64 x.d3,.slice a2 x.l.length d],.nilIface])/\qat w' a2 d x.l/\Below w.heap.size w w':=by
 subst h;refine(qqe a L c w i j k).mono λe w' m=>?_;rcases m with ⟨⟨y,n,o,p,q,r⟩|⟨s,_⟩,hb⟩
 ·obtain rfl:=q2b b p;exact⟨n,o,r,q,hb⟩
 ·exact absurd b (s x)
theorem qxc (d:∀x,¬qte L x) (a:Option Addr) (len c:Nat) (h:L.length=len) (w:World) (i:qc2 w w.heap.size a L) (j:len<=c) (k:len<=1000000):
 Calls Tryz.prog 117 #[.slice a len c] w λe w'=>e=.returned (.tuple #[.agg #[int i64 0,int i64 0,int i64 0,int i64 0,int i64 0,int i64 0,int i64 0,int i64 0,.slice none 0 0],.iface 29 (int i64 3)])/\Below w.heap.size w w':=by
 subst h;refine(qqe a L c w i j k).mono λe w' l=>?_;rcases l with ⟨⟨y,n,o,m,p,b⟩|⟨q,b⟩,hb⟩
 ·exact absurd m (d y)
 ·exact⟨b,hb⟩
theorem qtl {x:qnu} (b:qdh L x) (a:Option Addr) (len c:Nat) (d:L.length=len) (w:World) (h:qc2 w w.heap.size a L) (i:len<=c) (j:len<=1000000):
 Calls Tryz.prog 119 #[.slice a len c] w λe w'=>e=.returned (.tuple #[int i64 x.site,.agg #[int i64 x.a0,int i64 x.a1,int i64 x.a2,int i64 x.a3],.nilIface])/\Below w.heap.size w w':=by
 subst d;refine(qvk a L c w h i j).mono λe w' k=>?_;rcases k with ⟨⟨y,l,m⟩|⟨n,_⟩,hb⟩
 ·obtain rfl:=qrz b l;exact⟨m,hb⟩
 ·exact absurd b (n x)
theorem qsc {site a0 a1 a2 a3:Int} (h:qnu.ok ⟨site,a0,a1,a2,a3⟩=true) (w:World):
 Calls Tryz.prog 82 #[int i64 site,.agg #[int i64 a0,int i64 a1,int i64 a2,int i64 a3]] w λe w'=>∃S g a,e=.returned (.tuple #[.slice (some ⟨g,0,none⟩) S.size a,.nilIface])/\(qdh (toL S) ⟨site,a0,a1,a2,a3⟩/\0<S.size)/\S.size<=1000000/\Own w' w.heap.size g a S/\Below w.heap.size w w':=by
 have c:inB site 0 3=true/\qau a0 a1 a2 a3=true:=by simpa[qnu.ok]using h
 refine(qz9 site a0 a1 a2 a3 w c.1 c.2).mono λe w' ⟨S,g,a,d,b,O,hb⟩=>⟨S,g,a,d,⟨⟨h,by rw[b];rfl⟩,?_⟩,?_,O,hb⟩
 ·rw[b,<-qbb,qif];simp[q4o]
 ·rw[b];have i:=qbj 5 site;have j:=qbj 5 a0;have k:=qbj 5 a1;have l:=qbj 5 a2;have m:=qbj 5 a3;have z:(⟨#[97]⟩:ByteArray).size=1:=rfl;simp only[q45,ByteArray.size_append];omega
theorem qvn {site seq wall count d0 d1 d2 d3:Int} {a:Option Addr} {cap:Nat} {l:List Wr} (i:qat w a cap l) (h:qc7 site seq wall count d0 d1 d2 d3 l=true):
 Calls Tryz.prog 139 #[.agg #[int i64 site,int i64 seq,int i64 wall,int i64 count,int i64 d0,int i64 d1,int i64 d2,int i64 d3,.slice a l.length cap]] w λe w'=>∃S g b,e=.returned (.tuple #[.slice (some ⟨g,0,none⟩) S.size b,.nilIface])/\(qte (toL S) ⟨site,seq,wall,count,d0,d1,d2,d3,l⟩/\0<S.size)/\S.size<=1000000/\Own w' w.heap.size g b S/\Below w.heap.size w w':=by
 refine(q1o site seq wall count d0 d1 d2 d3 a cap l w i h).mono λe w' ⟨S,g,b,j,c,O,hb⟩=>⟨S,g,b,j,⟨⟨h,by rw[c];rfl⟩,?_⟩,?_,O,hb⟩
 ·rw[c,<-qbb,qkp];simp[qsi]
 ·have d:=(qlo (x:=⟨site,seq,wall,count,d0,d1,d2,d3,l⟩) h).2.2.2.2.2.2.2.2;have k:=qjw d;simp only at k;have m:=qo4 (s:=qpv site seq wall count d0 d1 d2 d3 l.length) (qjr d) l.length (Nat.le_refl _);have n:=qno site seq wall count d0 d1 d2 d3 l.length;rw[List.take_length]at m;rw[c];unfold txS;omega
end
section
open Go.RowKit
theorem qn8 {x:Int} (a:0<=x) (c:x<=1099511627776):wrap64 (x+1)=x+1:=by
 unfold wrap64;omega
variable {W:World} {b:Nat}
theorem qhd {k:Nat} (h:k≠b) (x0 x1 x2 x3 a c d e:Int) (v:Value):(qbg W b x0 x1 x2 x3 a c d e v).heap[k]?=W.heap[k]?:=
 (Below.heap_setCell _ _ _ _ h).trans ((Below.heap_setCell _ _ _ _ h).trans ((Below.heap_setCell _ _ _ _ h).trans ((Below.heap_setCell _ _ _ _ h).trans ((Below.heap_setCell _ _ _ _ h).trans ((Below.heap_setCell _ _ _ _ h).trans ((Below.heap_setCell _ _ _ _ h).trans ((Below.heap_setCell _ _ _ _ h).trans (Below.heap_setCell _ _ _ _ h))))))))
variable {w:World}
theorem qje {g c:Nat} {ws:List Wr} (h:w.ownsRow 0 34 3 (.slice (some ⟨g,0,none⟩) (0+ws.length) c) (0+ws.length) ([]++qf4 ws)):qat w (some ⟨g,0,none⟩) c ws:=by
 rw[Nat.zero_add,List.nil_append]at h;obtain⟨a,f,e,d⟩:=qcw h;injection e with e1 e2 e3;subst e1 e3;exact d
variable {F:Nat->Prop}
theorem qcu {p:Addr} (h:qae F w W) (d:w.heap.size<=p.block) (v:Value):qae F w (W.setCell p v):=
 ⟨h.os,h.tape,h.output,by simpa[World.setCell]using h.size,λk a c=>(Below.heap_setCell _ _ _ _ (by omega)).trans (h.block k a c)⟩
theorem qzo (h:qae F w W) (a:w.heap.size<=b) (x0 x1 x2 x3 c d e f:Int) (v:Value):qae F w (qbg W b x0 x1 x2 x3 c d e f v):=
 qcu (qcu (qcu (qcu (qcu (qcu (qcu (qcu (qcu h a _) a _) a _) a _) a _) a _) a _) a _) a _
end
section
open Go.RowKit
theorem qs7 (l:List TxM):(qef l).length=l.length*9:=by
 induction l with
 |nil=>rfl
 |cons x l ih=>
  show (txC x++qef l).length=_;rw[List.length_append,ih];simp[txC];omega
theorem q2e (l:List TxM):∀u∈qef l,u.oneCell'=true:=by
 intro u a;obtain⟨x,_,b⟩:=List.mem_flatMap.1 a;exact qi4 x u b
theorem qt9:∀(l:List TxM) (j:Nat) (u:Value),(qef l)[j]?=some u->∃m,l[j/9]?=some m/\(txC m)[j%9]?=some u
 |[],j,u,h=>by simp[qef]at h
 |x::l,j,u,h=>by
  have e:qef (x::l)=txC x++qef l:=rfl;rw[e]at h;have a:(txC x).length=9:=rfl;by_cases b:j<9
  ·rw[List.getElem?_append_left (by rw[a];exact b)]at h;exact⟨x,by rw[Nat.div_eq_of_lt b];rfl,by rw[Nat.mod_eq_of_lt b];exact h⟩
  ·rw[List.getElem?_append_right (by rw[a];omega),a]at h;obtain⟨m,d,f⟩:=qt9 l (j-9) u h;refine⟨m,?_,?_⟩
   ·rw[show j/9=(j-9)/9+1 by omega];simpa using d
   ·rw[show j%9=(j-9)%9 by omega];exact f
variable {l:List TxM}
theorem q0x {w:World} {a b:Nat} (h:∀i m r u,l[i]?=some m->(txC m)[r]?=some u->w.cell? ⟨a,b+(i*9+r),none⟩=some u):∀j u,(qef l)[j]?=some u->w.cell? ((⟨a,b,none⟩:Addr).add j)=some u:=λj u d=>by
 obtain⟨m,e,f⟩:=qt9 l j u d
 have k:(⟨a,b,none⟩:Addr).add j=⟨a,b+j,none⟩:=by unfold Addr.add;split<;>simp_all
 rw[k];have:=h (j/9) m (j%9) u e f;rw[show j/9*9+j%9=j by omega]at this;exact this
theorem ql7 (w:World) (a:TypeId) (g n cap c:Nat) (b:n<=cap):(Builtin.append_ #[53,53] a #[.slice (some ⟨g,0,none⟩) n cap,.slice none 0 c]).run Tryz.prog w=.ok (.slice (some ⟨g,0,none⟩) n cap) w:=by
 simp[Builtin.append_,go_sem,Builtin.lenOf,Builtin.firstCells,b]
variable {g n c:Nat} {xs:List Value}
theorem qm3 (w:World) (f:TypeId) {cap:Nat} (b:w.ownsRow 0 80 9 (.slice (some ⟨g,0,none⟩) n cap) n xs) {a:Option Addr} (m:qec w a c l) (G:n+l.length<=2000):
 ∃g' d w',(Builtin.append_ #[53,53] f #[.slice (some ⟨g,0,none⟩) n cap,.slice a l.length c]).run Tryz.prog w=.ok (.slice (some ⟨g',0,none⟩) (n+l.length) d) w'/\
  w'.ownsRow 0 80 9 (.slice (some ⟨g',0,none⟩) (n+l.length) d) (n+l.length) (xs++qef l)/\w.grownBy w' (some g)/\(g'=g\/g'=w.heap.size)/\g'<w'.heap.size:=by
 obtain⟨o,p,q,r,s⟩:=info_parts qqr;have v:g<w.heap.size:=(b.lt g (by simp[Value.ownBlock])).2
 have x:n<=cap:=by
  rcases b.2 with ⟨h,_⟩|⟨H,I,cur,e,_,_,i,_⟩
  ·cases h
  ·injection e with _ _ e3;rw[e3];exact i
 cases a with
 |none=>
  have y:l=[]:=by
   rcases m.held with h|⟨_,_,h,_⟩
   ·exact h
   ·cases h
  subst y;refine⟨g,cap,w,ql7 w f g n cap c x,?_,⟨rfl,rfl,rfl,Nat.le_refl _,λ_ _ _=>rfl⟩,.inl rfl,v⟩;show w.ownsRow 0 _ 9 _ n (xs++[]);rw[List.append_nil];exact b
 |some ad=>
  have z:∀j u,(qef l)[j]?=some u->w.cell? (ad.add j)=some u:=by
   rcases m.held with h|⟨J,K,h,B⟩
   ·subst h;intro j u C;simp[qef]at C
   ·injection h with h;subst h;exact q0x B
  obtain⟨v',w',D,k,i,E,F⟩:=run_append_own_at (P:=Tryz.prog) w 0 53 f 80 o (.agg #[.int .i64 0,.int .i64 0,.int .i64 0,.int .i64 0,.int .i64 0,.int .i64 0,.int .i64 0,.int .i64 0,.slice none 0 0]) 9 88 Tryz.underlying53 p q r s rfl (by decide) (.slice (some ⟨g,0,none⟩) n cap) n xs b ad l.length c (qef l) (qs7 l) z (q2e l) (by simp only[maxLen];omega) (by omega) (Nat.zero_le _);rcases k.2 with ⟨e,_⟩|⟨g',d,cur,rfl,_,_⟩
  ·have:=(E.1 e).1;cases this
  ·refine⟨g',d,w',D,k,i,?_,(k.lt g' (by simp[Value.ownBlock])).2⟩;rcases F with h|h
   ·exact .inl (by simpa[Value.ownBlock]using h)
   ·exact .inr (by simpa[Value.ownBlock]using h)
theorem qbh {d:Array Oper} {o:Oper} {a:Act} {K:Act->World->Prop} {Q:Exit->Act->World->Prop} {E:Prop} (w:World) (e:o.guard=none) (s x:Operand) (f:o.op=.call {callee:=.builtin .append,args:=#[s,x],argTypes:=#[53,53]})
 {cap:Nat} (i:a.eval s=.slice (some ⟨g,0,none⟩) n cap) (j:w.ownsRow 0 80 9 (.slice (some ⟨g,0,none⟩) n cap) n xs) {sa:Option Addr} (k:a.eval x=.slice sa l.length c) (m:qec w sa c l) (p:n+l.length<=2000)
 (h:∀g' b w',w'.ownsRow 0 80 9 (.slice (some ⟨g',0,none⟩) (n+l.length) b) (n+l.length) (xs++qef l)->w.grownBy w' (some g)->(g'=g\/g'=w.heap.size)->g'<w'.heap.size->K (a.put o.dst (.slice (some ⟨g',0,none⟩) (n+l.length) b)) w'):
 if Region.wanted o (yielded d a.tmps)=true then Oper.wp Tryz.prog o a w K Q else E:=by
 have q:Region.wanted o (yielded d a.tmps)=true:=by simp[Region.wanted,e]
 rw[if_pos q];obtain⟨g',b,w',r,u,v,y,z⟩:=qm3 w o.type j m p;unfold Oper.wp execOp;simp only[f,resolve,invoke,builtin,Sem.run_bind,Sem.run_pure,Result.andThen_ok,List.map_toArray,List.map_cons,List.map_nil,i,k,r];exact h g' b w' u v y z
end
section
open Go.RowKit
theorem qhn (w:World) {n:Nat} (T:TypeId) (a:w.heap.size=n):(w.alloc (.cells #[] T)).ownsRow 0 T 9 (.slice (some ⟨n,0,none⟩) 0 0) 0 []:=by
 subst a;exact⟨rfl,.inr ⟨w.heap.size,0,#[],rfl,Nat.zero_le _,heap_alloc_new w (.cells #[] T),Nat.le_refl _,by decide,rfl,rfl⟩⟩
variable {w:World}
theorem qec.one {M:Nat} {m:TxM} (h:qag w M (txC m)):qec w (some ⟨M,0,none⟩) 1 [m]:=by
 refine⟨Nat.le_refl _,by omega,.inr ⟨M,0,rfl,λi x r u a b=>?_⟩⟩
 have d:i=0:=by
  have:=(List.getElem?_eq_some_iff.1 a).1;simp at this;exact this
 subst d;simp at a;subst a;simpa using h.cell r u b
variable {wb c:Nat} {l:List TxM}
theorem qec.take {b:Nat} (h:qec w (some ⟨wb,b,none⟩) c l) (k:Nat) (o:k<=l.length):qec w (some ⟨wb,b,none⟩) c (l.take k):=by
 refine⟨by rw[List.length_take];have:=h.len;omega,h.cap,?_⟩;rcases h.held with d|⟨f,g,e,j⟩
 ·exact .inl (by rw[d];simp)
 ·refine .inr ⟨f,g,e,λi m r u a n=>j i m r u ?_ n⟩;rw[List.getElem?_take]at a;split at a
  ·exact a
  ·cases a
theorem qec.drop {a:Nat} (h:qec w (some ⟨wb,a,none⟩) c l) (k:Nat) (j:k<=l.length):qec w (some ⟨wb,a+k*9,none⟩) (c-k) (l.drop k):=by
 refine⟨by rw[List.length_drop];have:=h.len;omega,by have:=h.cap;omega,?_⟩;rcases h.held with d|⟨n,o,e,f⟩
 ·exact .inl (by rw[d];simp)
 ·injection e with e;injection e with e1 e2;subst e1 e2;refine .inr ⟨_,_,rfl,λi m r u b g=>?_⟩;rw[List.getElem?_drop]at b;have:=f (k+i) m r u b g;rw[show a+k*9+(i*9+r)=a+((k+i)*9+r) by omega];exact this
theorem qgv (l a:List TxM):qef (l++a)=qef l++qef a:=by simp[qef]
end
section
open Go.RowKit
structure V4 where
 v0:Int
 v1:Int
 v2:Int
 v3:Int
def qak (S:qaf):Nat->V4
 |0=>⟨S.a0,S.a1,S.a2,S.a3⟩
 |k+1=>if (k:Int)=S.id then qak S k else ⟨qaz (qak S k).v0 (S.oth (k*4)),qaz (qak S k).v1 (S.oth (k*4+1)),qaz (qak S k).v2 (S.oth (k*4+2)),qaz (qak S k).v3 (S.oth (k*4+3))⟩
theorem qz0 {S:qaf} {lv wv sv:Value} {k:Nat} (a:k<4):(qcf S lv wv sv)[10+k*4]?=some (.int .i64 (S.oth (k*4)))/\(qcf S lv wv sv)[10+k*4+1]?=some (.int .i64 (S.oth (k*4+1)))/\(qcf S lv wv sv)[10+k*4+2]?=some (.int .i64 (S.oth (k*4+2)))/\(qcf S lv wv sv)[10+k*4+3]?=some (.int .i64 (S.oth (k*4+3))):=by
 match k,a with
 |0,_=>exact⟨rfl,rfl,rfl,rfl⟩
 |1,_=>exact⟨rfl,rfl,rfl,rfl⟩
 |2,_=>exact⟨rfl,rfl,rfl,rfl⟩
 |3,_=>exact⟨rfl,rfl,rfl,rfl⟩
theorem qkn {w W:World} {b:Nat} (h:Below w.heap.size w W) (a:w.heap.size<=b) (x0 x1 x2 x3:Int):Below w.heap.size w ((((W.setCell ⟨b,0,none⟩ (.int .i64 x0)).setCell ⟨b,1,none⟩ (.int .i64 x1)).setCell ⟨b,2,none⟩ (.int .i64 x2)).setCell ⟨b,3,none⟩ (.int .i64 x3)):=
 (((h.setCell a _).setCell a _).setCell a _).setCell a _
structure StM (w:World) (S:qaf) (k:Nat) (wr:World):Prop where
 r:qbe wr w.heap.size 0 0 0 0
 v:qbe wr (w.heap.size+1) (qak S k).v0 (qak S k).v1 (qak S k).v2 (qak S k).v3
 b:Below w.heap.size w wr
end
section
open Go.RowKit
def qcz (n:Int):Nat:=min 4 n.toNat
end
section
open Go.RowKit
def qrt (a0 a1 a2 a3:Int) (l:List Hd) (k:Nat):List Value:=qfj a0 a1 a2 a3 l k++List.replicate (8-k) (.string ⟨#[]⟩)
theorem qhm (a0 a1 a2 a3:Int) (l:List Hd) (k:Nat):(qfj a0 a1 a2 a3 l k).length=k:=by simp[qfj]
variable {a0 a1 a2 a3:Int} {l:List Hd} {k:Nat}
theorem q1s (a:k<8):(qrt a0 a1 a2 a3 l k).set k (.string (qhj a0 a1 a2 a3 l k))=qrt a0 a1 a2 a3 l (k+1):=by
 unfold qrt;rw[List.set_append_right _ _ (by rw[qhm];omega),qhm,Nat.sub_self,qii,show 8-k=8-(k+1)+1 by omega,List.replicate_succ,List.set_cons_zero,List.append_assoc];rfl
theorem qxt (a:k<8) (h:qhj a0 a1 a2 a3 l k=⟨#[]⟩):qrt a0 a1 a2 a3 l k=qrt a0 a1 a2 a3 l (k+1):=by
 unfold qrt;rw[qii,h,show 8-k=8-(k+1)+1 by omega,List.replicate_succ,List.append_assoc];rfl
end
section
open Go.RowKit
def qoy (Ls:Nat->List Ver):Nat->Nat
 |0=>0
 |k+1=>qoy Ls k+(Ls k).length
theorem qt5 (a:Nat->List Ver):∀{k m:Nat},k<=m->qoy a k<=qoy a m
 |k,0,h=>by obtain rfl:k=0:=by omega
            exact Nat.le_refl _
 |k,m+1,h=>by
  rcases Nat.lt_or_ge k (m+1)with b|b
  ·exact Nat.le_trans (qt5 a (by omega)) (Nat.le_add_right _ _)
  ·obtain rfl:k=m+1:=by omega
   exact Nat.le_refl _
theorem q24 (x:Nat->Value) {k:Nat} (a:k<8) {z:Int} (b:z=k) (w:World):(Instr.index 143 (.agg #[x 0,x 1,x 2,x 3,x 4,x 5,x 6,x 7]) (.int .i64 z)).run Tryz.prog w=.ok (x k) w:=by
 subst b
 rcases q4t a with rfl|rfl|rfl|rfl|rfl|rfl|rfl|rfl<;>kernel_rfl
end
section
open Go.RowKit
theorem qyl {b h:Nat} {F:Nat->Prop} {l:List Hd} (w:World) (t:qnf w b h F l) (M:l.length<=1000):
 Calls Tryz.prog 97 #[.pointer (some ⟨b,h,none⟩)] w λe w'=>e=.returned (.int .i64 l.length)/\Below w.heap.size w w':=by
 obtain⟨m,d,R,u,N⟩:=id t;have v:(w).cell? ⟨b,h,none⟩=some (m 0):=R.cell (k:=0) (by omega);have x:=R.cell (k:=1) (by omega);have B:=R.cell (k:=2) (by omega);have C:=R.cell (k:=3) (by omega);have D:=R.cell (k:=4) (by omega);have E:=R.cell (k:=5) (by omega);have G:=R.cell (k:=6) (by omega);have H:=R.cell (k:=7) (by omega)
 have n:qoy d 8=l.length:=by
  have:=u.count;simp only[qoy];omega
 have o:Hid _:=n;clear n;go_enter Tryz.func97,Tryz.ntmps97
 go_wp2_with fail
 clear v x B C D E G H
 go_loopw [3,10] (λI iv wr=>∃(k:Nat) (z y:Int),k<=8/\z=k/\y=qoy d k/\iv=.int .i64 z/\I=.int .i64 y/\wr=w) (λ_ i _=>8-(intOf i).toNat)
 case atStart=>exact⟨0,0,0,by omega,rfl,rfl,rfl,rfl,rfl⟩
 case round=>
  obtain⟨k,z,y,O,g,j,rfl,rfl,rfl⟩:=hrel;have p:Hid _:=j;have q:Hid _:=g;by_cases r:k<8
  ·have s:=qt5 d (show k+1<=8 by omega);rw[o.out]at s;have J:qoy d (k+1)=qoy d k+(d k).length:=rfl
   have K:z<8:=by omega
   have P:0<=z:=by omega
   obtain⟨a,c,e,_⟩:=qfw (R.own k r);have L:=q24 m r g;rw[e]at L
   have Q: -9223372036854775808<=y+((d k).length:Int):=by omega
   have S:y+((d k).length:Int)<=9223372036854775807:=by omega
   clear g j J s
   go_wp2_with fail
   go_roundw
   case rel=>exact⟨k+1,z+1,y+((d k).length:Int),by omega,by have:=q.out;omega,by have:=p.out;simp only[qoy];omega,by go_num,by go_num,by first|rfl|trivial⟩
   case measure=>simp[intOf];have:=q.out;omega
  ·obtain rfl:k=8:=by omega
   have K:¬z<8:=by omega
   clear g j
   go_wp2_with fail
   go_ret;exact⟨by rw[p.out,o.out];rfl,Below.refl _ _⟩
end
section
open Go.RowKit
def qlz (a0 a1 a2 a3:Int) (L:List Ver):List Ver:=L.filter λv=>!qnk a0 a1 a2 a3 ((qfn a0 a1 a2 a3 L).getD qcj) v
end
section
open Go.Value Go.IntKind Go.RowKit
structure qiw (w0:World) (b so:Nat) (vs:Nat->Value) (Ls:Nat->List Ver) (a0 a1 a2 a3:Int) (k:Nat) (vs':Nat->Value) (Ls':Nat->List Ver) (wr:World):Prop where
 raw:qpm wr b so vs' Ls'
 done:∀i,i<k->Ls' i=qlz a0 a1 a2 a3 (Ls i)
 rest:∀i,k<=i->Ls' i=Ls i/\vs' i=vs i
 foot:∀j,qiq b vs' j->qiq b vs j
 touch:qae (qiq b vs) w0 wr
 cells:qik b so w0 wr
variable {w0 wr:World} {b so k:Nat} {vs:Nat->Value} {Ls:Nat->List Ver} {a0 a1 a2 a3:Int}
theorem qiw.later {w':World} {a:Nat->Value} {c:Nat->List Ver} (h:qiw w0 b so vs Ls a0 a1 a2 a3 k a c wr) (hb:Below wr.heap.size wr w'):qiw w0 b so vs Ls a0 a1 a2 a3 k a c w':=
 ⟨h.raw.later hb,h.done,h.rest,h.foot,h.touch.trans (qae.ofBelow hb),h.cells.trans (qik.ofBlock (hb.block b h.raw.box.lt))⟩
theorem qiw.next {o:World} {c:Nat->Value} {p:Nat->List Ver} (h:qiw w0 b so vs Ls a0 a1 a2 a3 k c p wr) (q:k<8) {v':Value}
 (f:qlq wr (c k) (qlz a0 a1 a2 a3 (Ls k)) v' o):qiw w0 b so vs Ls a0 a1 a2 a3 (k+1) (upd c k v') (upd p k (qlz a0 a1 a2 a3 (Ls k))) (o.setCell ⟨b,so+k,none⟩ v'):=by
 have r:qdl (qlz a0 a1 a2 a3 (Ls k)):=by
  have:=h.raw.sorted k q;rw[(h.rest k (Nat.le_refl _)).1]at this;exact qo7 this _
 have n:=h.raw.change q (v':=v') (L':=qlz a0 a1 a2 a3 (Ls k)) (qae.grown f.2.1 (λj a=>a)) f.1 (λg e=>.inl (by rw[f.2.2]at e;exact e)) r
 have s:∀j,qiq b (upd c k v') j->qiq b c j:=λj a=>by
  rcases a with rfl|⟨i,m,e⟩
  ·exact .inl rfl
  ·by_cases d:i=k
   ·subst d;rw[qeg,f.2.2]at e;exact .inr ⟨i,m,e⟩
   ·rw[qck _ _ d]at e;exact .inr ⟨i,m,e⟩
 refine⟨n.1,λi m=>?_,λi m=>?_,λj a=>h.foot j (s j a),?_,h.cells.trans n.2.2.2⟩
 ·by_cases d:i=k
  ·subst d;rw[qeg]
  ·rw[qck _ _ d];exact h.done i (by omega)
 ·rw[qck _ _ (by omega),qck _ _ (by omega)];exact h.rest i (by omega)
 ·have t:=n.2.1;exact h.touch.trans ⟨t.os,t.tape,t.output,t.size,λj a u=>t.block j a (λe=>u (h.foot j e))⟩
variable {F:Nat->Prop} {l:List Hd}
theorem qiw.post {a:Nat->Value} {g:Nat->List Ver} (h:qiw w0 b so vs Ls a0 a1 a2 a3 8 a g wr) (R:qpm w0 b so vs Ls) (c:qdj Ls l) (i:∀k,F k↔qiq b vs k) (m:qg7 l):qjg w0 b so F (qel a0 a1 a2 a3 l) wr:=by
 refine⟨qiq b a,⟨a,g,h.raw,⟨λk d=>?_,λx n=>c.keys x (List.mem_filter.1 n).1⟩,λ_=>Iff.rfl⟩,λj f=>.inl ((i j).2 (h.foot j f)),⟨h.touch.os,h.touch.tape,h.touch.output,h.touch.size,λj f o=>h.touch.block j f (λe=>o ((i j).2 e))⟩,h.cells⟩;rw[h.done k d];exact qxr (c.perm k d) (c.qlast R m d a0 a1 a2 a3)
theorem qv8 (a0 a1 a2 a3:Int) (w:World) (hS:qnf w b so F l) (hl:l.length<=1000) (V:qg7 l) (H:∀h∈l,qdm h.v=true):
 Calls Tryz.prog 123 #[.pointer (some ⟨b,so,none⟩),.agg #[int i64 a0,int i64 a1,int i64 a2,int i64 a3]] w λe w'=>e=.returned (.tuple #[])/\qjg w b so F (qel a0 a1 a2 a3 l) w':=by
 obtain⟨vs,Ls,R,I,hF⟩:=id hS;have d:=qag.new (w:=w) (T:=47) [int i64 a0,int i64 a1,int i64 a2,int i64 a3] rfl;have hb:=boxed (Below.refl _ w) (.cells #[int i64 a0,int i64 a1,int i64 a2,int i64 a3] 47);have o:=R.later hb;have J:qiw w b so vs Ls a0 a1 a2 a3 0 vs Ls (w.alloc (.cells #[int i64 a0,int i64 a1,int i64 a2,int i64 a3] 47)):=⟨o,λi hi=>by omega,λi _=>⟨rfl,rfl⟩,λj hj=>hj,qae.ofBelow hb,qik.ofBlock (hb.block b R.box.lt)⟩;have k0:(w.alloc (.cells #[int i64 a0,int i64 a1,int i64 a2,int i64 a3] 47)).cell? ⟨b,so,none⟩=some (vs 0):=o.cell (k:=0) (by omega);have k1:=o.cell (k:=1) (by omega);have k2:=o.cell (k:=2) (by omega);have k3:=o.cell (k:=3) (by omega);have k4:=o.cell (k:=4) (by omega);have k5:=o.cell (k:=5) (by omega);have k6:=o.cell (k:=6) (by omega);have k7:=o.cell (k:=7) (by omega);have HA:Hid _:=V;have HO:Hid _:=H;have X:∀k,k<8->(Ls k).length<=1000:=λk x=>Nat.le_trans (I.len x) hl;have Y:Hid _:=X;have Z:Hid (∀k,k<8->∀v∈Ls k,0<=v.site/\v.site<=3):=λk x=>I.sites H x;clear V H X o;go_enter Tryz.func123,Tryz.ntmps123
 go_wp2_with fail
 clear k0 k1 k2 k3 k4 k5 k6 k7;obtain⟨W,aa⟩:∃W,w.alloc (.cells #[int i64 a0,int i64 a1,int i64 a2,int i64 a3] 47)=W:=⟨_,rfl⟩;rw[aa]at d J ⊢;clear aa hb
 go_loopw [12] (λiv wr=>∃(k:Nat) (z:Int) (K:Nat->Value) (ab:Nat->List Ver),k<=8/\z=k/\iv=int i64 z/\Hid (qiw w b so vs Ls a0 a1 a2 a3 k K ab wr)/\qag wr w.heap.size [int i64 a0,int i64 a1,int i64 a2,int i64 a3]) (λi _=>8-(intOf i).toNat)
 case atStart=>exact⟨0,0,vs,Ls,by omega,rfl,rfl,J,d⟩
 case round=>
  clear J d;obtain⟨k,z,K,ab,x,y,rfl,s,d⟩:=hrel;have HZ:Hid _:=y;by_cases m:k<8
  ·have h1:z<8:=by omega
   have h3:0<=z:=by omega
   have h2:z.toNat=k:=by omega
   obtain⟨a,c,e,hV⟩:=qfw (R.own k m);have ix:=q24 vs m y;rw[e]at ix;obtain⟨c0,c1,c2,c3⟩:=d.c4
   have r:wr.ownsRow 0 130 6 (.slice a (Ls k).length c) (Ls k).length (qax (Ls k)):=by
        have:=s.out.raw.own k m;rw[(s.out.rest k (Nat.le_refl _)).1,(s.out.rest k (Nat.le_refl _)).2,e]at this;exact this
   have hVr:q01 wr a c (Ls k):=by
        obtain⟨a',c',e',h'⟩:=qfw r;injection e' with L e2 e3;subst L e3;exact h'
   obtain⟨st,M⟩:∃st,(qfn a0 a1 a2 a3 (Ls k)).getD qcj=st:=⟨_,rfl⟩;obtain⟨sb,hsb⟩:∃sb,qit (qfn a0 a1 a2 a3 (Ls k))=sb:=⟨_,rfl⟩;have N:=que a0 a1 a2 a3 wr hVr (Z.out k m) (Y.out k m);rw[qjn,M,hsb]at N;have ST:Hid _:=M;have B:Hid _:=e;clear y M hsb hV hVr e
   go_wp2_with fail
   refine N.mono ?_;rintro e q ⟨rfl,C⟩;replace d:=d.later C;replace r:=qgp r C;have n:Hid _:=s.out.later C;clear N s c0 c1 c2 c3 C;rw[show (qah st).toArray=#[int i64 st.wall,int i64 st.count,int i64 st.site,int i64 st.seq,.string st.data,.bool st.gone]from rfl];have D:=boxed (Below.refl _ q) (.cells #[int i64 st.wall,int i64 st.count,int i64 st.site,int i64 st.seq,.string st.data,.bool st.gone] 130);have E:=qag.new (w:=q) (T:=130) (qah st) rfl;change qag (q.alloc (.cells #[int i64 st.wall,int i64 st.count,int i64 st.site,int i64 st.seq,.string st.data,.bool st.gone] 130)) q.heap.size (qah st)at E;replace d:=d.later D;replace r:=qgp r D;replace n:=n.out.later D;have O:∀g,(Value.slice a (Ls k).length c).ownBlock=some g->g<w.heap.size:=λg hg=>((R.own k m).lt g (by rw[B.out];exact hg)).2;have hsz:=n.touch.size;obtain⟨p,P⟩:∃p,q.alloc (.cells #[int i64 st.wall,int i64 st.count,int i64 st.site,int i64 st.seq,.string st.data,.bool st.gone] 130)=p:=⟨_,rfl⟩;rw[P]at E d r n
   have L:p.heap.size=q.heap.size+1:=by rw[<-P];simp
   have hw1:w.heap.size<=q.heap.size:=by rw[P]at hsz;have:=d.lt;omega
   have S2:Hid _:=n.later (Below.refl _ p).drew
   have DE:Hid (Calls Tryz.prog 156 #[.slice a (Ls k).length c,.func (.func 157) #[] #[.pointer (some ⟨w.heap.size,0,none⟩),.pointer (some ⟨q.heap.size,0,none⟩)]] p.drew λe w'=>
    ∃v',e=.returned v'/\qlq p.drew (.slice a (Ls k).length c) ((Ls k).filter λv=>!qnk a0 a1 a2 a3 st v) v' w'):=
        qu1 p.drew r (Z.out k m) (Y.out k m) d.drew E.drew (λh=>by have:=O _ h;omega) (λh=>by have:=O _ h;omega)
   have qi6:=n.raw.cell m;rw[(n.rest k (Nat.le_refl _)).2,B.out]at qi6;have bfree:=n.raw.free m;have hap:=n.raw.apart k m;rw[(n.rest k (Nat.le_refl _)).2,B.out]at hap;have hbl:=n.raw.box.lt;clear r E D n hsz L
   go_wp2_with fail
   go_region_law (
        refine qas rfl 156 #[.slice a (Ls k).length c,.func (.func 157) #[] #[.pointer (some ⟨w.heap.size,0,none⟩),.pointer (some ⟨q.heap.size,0,none⟩)]] (by go_simp) DE.out ?_;rintro e u ⟨v',rfl,G⟩;refine⟨_,rfl,?_⟩;have HD:Hid _:=G;have Q:=G.2.1.block b hbl (λe=>hap e.symm)
        have c8:u.cell? ⟨b,so+k,none⟩=some (.slice a (Ls k).length c):=by rw[World.cell?_of_block (w:=p.drew) Q];exact qi6
        have f8:u.frozen? ⟨b,so+k,none⟩=false:=by rw[World.frozen?_of_block (w:=p.drew) Q];exact bfree
        obtain⟨S,U,hv9,_⟩:=qfw G.1;subst hv9
        clear G Q)
   all_goals
        have HD2:qlq p.drew (K k) (qlz a0 a1 a2 a3 (Ls k)) (.slice S ((Ls k).filter λv=>!qnk a0 a1 a2 a3 st v).length U) u:=by
         rw[(S2.out.rest k (Nat.le_refl _)).2,B.out];unfold qlz;rw[ST.out];exact HD.out
        have SN:Hid _:=S2.out.next m HD2
        have hwb:w.heap.size≠b:=by have:=R.box.lt;omega
        have RA8:qag u w.heap.size [int i64 a0,int i64 a1,int i64 a2,int i64 a3]:=d.drew.grown HD.out.2.1 (λe=>by have:=O _ e.symm;omega);have RA9:=RA8.far ⟨b,so+k,none⟩ (.slice S ((Ls k).filter λv=>!qnk a0 a1 a2 a3 st v).length U) (Ne.symm hwb);obtain⟨W9,hW9⟩:∃W9,u.setCell ⟨b,so+k,none⟩ (.slice S ((Ls k).filter λv=>!qnk a0 a1 a2 a3 st v).length U)=W9:=⟨_,rfl⟩;rw[hW9]at SN RA9 ⊢;clear hW9 HD2 RA8 c8 f8
        go_wp2_with fail
        go_roundw
        case rel=>exact⟨k+1,z+1,_,_,by omega,by have:=HZ.out;omega,by go_num,SN,RA9⟩
        case measure=>simp[intOf];have:=HZ.out;omega
  ·obtain rfl:k=8:=by omega
   have h1:¬z<8:=by omega
   clear y
   go_wp2_with fail
   go_end0;exact⟨rfl,s.out.post R I hF HA.out⟩
end
section
open Go.RowKit
def q2l (o:Oper):Option Nat:=match o.op with
 |.call c=>match c.callee with
  |.value (.func n)=>some n
  |_=>none
 |_=>none
theorem qb7 {P:Program} {b:Array Oper} {o:Oper} {a:Act} {w:World} {K:Act->World->Prop} {Q:Exit->Act->World->Prop} {E:Prop} (c:o.guard=none) (f:FuncId) (_hf:q2l o=some f) (args:Array Value)
 (d:(execOp a.eval o).run P w=.ok (.enter f args) w) {R:Ending->World->Prop} (h:Calls P f args w R) (g:∀e w',R e w'->∃v,e=.returned v/\K (a.put o.dst v) w'):
 if Region.wanted o (yielded b a.tmps)=true then Oper.wp P o a w K Q else E:=qas c f args d h g
end
open Go.RowKit
def qcn (n:Nat):Code->Option Code
 |.region id ops d=>if id=n then some (.region id ops d)else none
 |.seq x y=>match qcn n x with
  |some c=>some c
  |none=>qcn n y
 |.block _ c=>qcn n c
 |.loop c=>qcn n c
 |.cond _ x y=>match qcn n x with
  |some c=>some c
  |none=>qcn n y
 |_=>none
def qhi (n:Nat):Code->Bool
 |.region id _ _=>Nat.beq id n
 |.seq x _=>qhi n x
 |.block _ c=>qhi n c
 |.loop c=>qhi n c
 |_=>false
def qeh (n:Nat):Code->Option Code
 |.loop c=>match qhi n c with
  |true=>some (.loop c)
  |false=>qeh n c
 |.seq x y=>match qeh n x with
  |some c=>some c
  |none=>qeh n y
 |.block _ c=>qeh n c
 |.cond _ x y=>match qeh n x with
  |some c=>some c
  |none=>qeh n y
 |_=>none
def qig (n:Nat):Code->Option Code
 |.seq x y=>match qhi n x with
  |true=>some (.seq x y)
  |false=>match qig n x with
   |some c=>some c
   |none=>qig n y
 |.block _ c=>qig n c
 |.cond _ x y=>match qig n x with
  |some c=>some c
  |none=>qig n y
 |_=>none
variable {P:Program} {c:Code} {Q:Exit->Act->World->Prop} {a:Act} {w:World}
theorem qka {x:Exit} (h:c.wp P (λe a w=>e=x/\Q x a w) a w):c.wp P Q a w:=
 wp_mono h (λe a w h=>by obtain⟨b,d⟩:=h;rw[b];exact d)
theorem qkl {K:Act->World->Prop} (h:c.wp P (Exit.then K (λ_ _ _=>False)) a w):c.wp P (Exit.then K Q) a w:=
 wp_mono h (λe a w h=>by cases e<;>first|exact h|exact False.elim h)
end Go.Proofs.YtemiamjnhoeniaaGreatDoor
