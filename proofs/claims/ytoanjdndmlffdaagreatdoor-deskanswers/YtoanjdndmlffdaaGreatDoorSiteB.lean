import Derived.Test.YtoanjdndmlffdaaGreatDoorPgRead
import Derived.Shelf.Strings.OnBuilder
import Derived.Shelf.Strconv.Itoa4
import Derived.Shelf.Strconv.ParseIntPublic10
import Derived.Shelf.Strings.Cut
import Derived.Shelf.Strings.Prefix
import Derived.Shelf.Strings.FieldsFuncAny
set_option maxHeartbeats 8000000
set_option maxRecDepth 100000
namespace Go.Proofs.YtoanjdndmlffdaaGreatDoor
section
open Go.Value Go.IntKind Go.RowKit
variable {S:qaf}
theorem q4c {waits:List TxM} {s:Int} {m:TxM} {v:Bool} (c:qtb waits s (qaq s S.a0 S.a1 S.a2 S.a3+1) m v) (d:waits.map (·.t)=S.waits) (f:qpq S.waits):
 (v=false->qe6 S s=none)/\(v=true->(qau S m.t=false->qe6 S s=none)/\(qau S m.t=true->qe6 S s=some m.t)):=by
 refine⟨λe=>qk0 (λx g hs=>?_),λe=>?_⟩
 ·obtain⟨_,h⟩:=c.no e;rw[<-d]at g;obtain⟨y,l,rfl⟩:=List.mem_map.1 g;have n:=h y l;cases a:qau S y.t with
  |false=>rfl
  |true=>
   have:=(qh3 a).1;rw[hs]at this;exact absurd ⟨hs,this⟩ n
 ·obtain⟨o,i,p⟩:=c.yes e
  have j:m.t∈S.waits:=by rw[<-d];exact List.mem_map.2 ⟨m,o,rfl⟩
  refine⟨λa=>?_,λa=>by rw[<-i];exact qzm f j a⟩;cases hp:qe6 S s with
  |none=>rfl
  |some y=>
   obtain⟨p1,p2,p3⟩:=qdx hp;have k:=(qh3 p3).1;rw[p2]at k;rw[f.uniq p1 j (by rw[p2,i]) (by rw[k,p]),a]at p3;cases p3
structure NxB (A b bm:Nat) (s D:Int) (w:World):Prop where
 c:w.cell? ⟨A,0,none⟩=some (.pointer (some ⟨b,0,none⟩))
 m:w.cell? ⟨b,8,none⟩=some (.map (some bm))
 d:w.cell? ⟨b,1+s.toNat,none⟩=some (int i64 D)
variable {A b bm:Nat} {lv:Value} {F:Nat->Prop}
theorem q1n {log waits:List TxM} (s:Int) (w:World) (E:w.cell? ⟨A,0,none⟩=some (.pointer (some ⟨b,0,none⟩))) (h:qd0 w b lv bm F S log waits) (L:waits.map (·.t)=S.waits) (x:qcx S) (M:0<=s) (N:s<=3):
 Calls Tryz.prog 277 #[int i64 s,.pointer (some ⟨A,0,none⟩)] w λe w'=>e=.returned (.bool (qe6 S s).isSome)/\Below w.heap.size w w':=by
 have y:=x.dep s;have O:=x.nums;have P:wfI (qaq s S.a0 S.a1 S.a2 S.a3+1):=⟨by have:=y.1;omega,by have:=y.2;omega⟩;have Q:wfI s:=⟨by omega,by omega⟩;obtain⟨m,v,z⟩:=q4s waits s (qaq s S.a0 S.a1 S.a2 S.a3+1);have R:=q4c z L O
 have G:v=true->0<=m.t.site/\m.t.site<=3:=λe=>by rw[(z.yes e).2.1];exact⟨M,N⟩
 have B:NxB A b bm s (qaq s S.a0 S.a1 S.a2 S.a3) w.drew:=⟨E,h.box.cell 8 _ rfl,h.box.cell _ _ (qqr M N)⟩;have C:Hid (∀W,Below w.heap.size w W->Calls Tryz.prog 276 #[.map (some bm),int i64 s,int i64 (qaq s S.a0 S.a1 S.a2 S.a3+1)] W λe w'=>e=.returned (.tuple #[txV m,.bool v])/\Below W.heap.size W w'):=λW hb=>qx7 z Q P W (h.later hb).map;have n:Hid (∀W,Below w.heap.size w W->v=true->∀r,qau S m.t=r->Calls Tryz.prog 254 #[.pointer (some ⟨b,0,none⟩),txV m] W λe w'=>e=.returned (.bool r)/\Below W.heap.size W w'):=λW hb U r l=>qoc m W (h.later hb) (G U).1 (G U).2 (x.dep _) l;have i:Hid _:=R;have V:=qfq y;obtain⟨⟨site,seq,wall,count,d0,d1,d2,d3,ws⟩,a,cap⟩:=m;obtain⟨D,X⟩:∃D,qaq s S.a0 S.a1 S.a2 S.a3=D:=⟨_,rfl⟩;rw[X]at V B C
 have Y:IntKind.i64.wrap (D+1)=D+1:=by rw[<-V];unfold wrap64 IntKind.wrap;simp[IntKind.signed,IntKind.bits];omega
 rw[<-Y]at C
 have h4:s<4:=by omega
 have hbl:=h.box.lt;have hal:A<w.heap.size:=World.block_lt_of_cell? _ _ E;have p:NxB A b bm s D w:=⟨B.c,B.m,B.d⟩;have Z:=λ(w':World) (h:Below w.heap.size w w')=>cell_later h p.c;have Y1:=λ(w':World) (h:Below w.heap.size w w')=>cell_later h p.m;have Y2:=λ(w':World) (h:Below w.heap.size w w')=>cell_later h p.d;have hbD:=(Below.refl w.heap.size w).drew;clear Y R z y O P Q G X x L h E;go_enter Tryz.func277,Tryz.ntmps277
 go_wp2_with fail
 go_region_held3 (λw'=>Below w.heap.size w w') (repeat (first|(with_reducible assumption)|(with_reducible exact Below.refl _ _)|(with_reducible refine boxed ?_ _)|(with_reducible refine Below.drew ?_)|(refine Below.setCell ?_ (by first|(with_reducible exact Nat.le_refl _)|(have:=Below.size (by with_reducible assumption);simpa using this)) _)))
  (first
    |(go_at_call 276;with_reducible refine(C.out (w.alloc (.cells #[int i64 0,int i64 0,int i64 0,int i64 0,int i64 0,int i64 0,int i64 0,int i64 0,.slice none 0 0] 102)).drew ((boxed (Below.refl w.heap.size w) (.cells #[int i64 0,int i64 0,int i64 0,int i64 0,int i64 0,int i64 0,int i64 0,int i64 0,.slice none 0 0] 102)).drew)).mono ?_;rintro e w2 ⟨rfl,o⟩;have q:Below w.heap.size w w2:=qab ((boxed (Below.refl w.heap.size w) (.cells #[int i64 0,int i64 0,int i64 0,int i64 0,int i64 0,int i64 0,int i64 0,int i64 0,.slice none 0 0] 102)).drew) o;have g:=((qag.new (w:=w) (T:=102) [int i64 0,int i64 0,int i64 0,int i64 0,int i64 0,int i64 0,int i64 0,int i64 0,.slice none 0 0] rfl).drew).later o;have y0:=g.cell 0 _ rfl;have z0:=g.free 0 (by simp);have y1:=g.cell 1 _ rfl;have z1:=g.free 1 (by simp);have y2:=g.cell 2 _ rfl;have z2:=g.free 2 (by simp);have y3:=g.cell 3 _ rfl;have z3:=g.free 3 (by simp);have y4:=g.cell 4 _ rfl;have z4:=g.free 4 (by simp);have y5:=g.cell 5 _ rfl;have z5:=g.free 5 (by simp);have y6:=g.cell 6 _ rfl;have z6:=g.free 6 (by simp);have y7:=g.cell 7 _ rfl;have z7:=g.free 7 (by simp);have y8:=g.cell 8 _ rfl;have z8:=g.free 8 (by simp);simp only[txV])
    |(go_at_call 276;with_reducible refine(C.out _ (by with_reducible assumption)).mono ?_;rintro e w2 ⟨rfl,o⟩;have q:Below w.heap.size w w2:=qab (by with_reducible assumption) o;simp only[txV]))
 ·have j:=boxed q (.cells #[int i64 site,int i64 seq,int i64 wall,int i64 count,int i64 d0,int i64 d1,int i64 d2,int i64 d3,.slice a ws.length cap] 102);have H:=qag.new (w:=w2) (T:=102) [int i64 site,int i64 seq,int i64 wall,int i64 count,int i64 d0,int i64 d1,int i64 d2,int i64 d3,.slice a ws.length cap] rfl;have b0:=cell_later j p.c;obtain⟨c0,c1,c2,c3,c4,c5,c6,c7,c8⟩:=H.c9;clear Z Y1 Y2 q o;cases v
  ·have I:Hid _:=i.out.1 rfl;clear i n
   go_wp2_with fail
   go_ret;exact⟨by rw[I.out];rfl,j⟩
  ·obtain⟨r,l⟩:∃r,qau S ⟨site,seq,wall,count,d0,d1,d2,d3,ws⟩=r:=⟨_,rfl⟩;have k:Hid _:=l;clear l;have u:=n.out _ j rfl r k.out
   have J:Hid ((qe6 S s).isSome=r):=by
        show _=_;cases r
        ·rw[((i.out.2 rfl).1 k.out)];rfl
        ·rw[((i.out.2 rfl).2 k.out)];rfl
   clear i n k;simp only[txV]at u
   go_wp2_with fail
   refine u.mono ?_;rintro e w3 ⟨rfl,K⟩
   go_wp2_with fail
   go_ret;exact⟨by rw[J.out];rfl,qab j K⟩
 ·have j:=qg3 q (Nat.le_refl _) site seq wall count d0 d1 d2 d3 (.slice a ws.length cap);have H:=qb3 g rfl site seq wall count d0 d1 d2 d3 (.slice a ws.length cap);clear g y0 y1 y2 y3 y4 y5 y6 y7 y8 z0 z1 z2 z3 z4 z5 z6 z7 z8;have b0:=cell_later j p.c;obtain⟨c0,c1,c2,c3,c4,c5,c6,c7,c8⟩:=H.c9;clear Z Y1 Y2 q o;cases v
  ·have I:Hid _:=i.out.1 rfl;clear i n
   go_wp2_with fail
   go_ret;exact⟨by rw[I.out];rfl,j⟩
  ·obtain⟨r,l⟩:∃r,qau S ⟨site,seq,wall,count,d0,d1,d2,d3,ws⟩=r:=⟨_,rfl⟩;have k:Hid _:=l;clear l;have u:=n.out _ j rfl r k.out
   have J:Hid ((qe6 S s).isSome=r):=by
        show _=_;cases r
        ·rw[((i.out.2 rfl).1 k.out)];rfl
        ·rw[((i.out.2 rfl).2 k.out)];rfl
   clear i n k;simp only[txV]at u
   go_wp2_with fail
   refine u.mono ?_;rintro e w3 ⟨rfl,K⟩
   go_wp2_with fail
   go_ret;exact⟨by rw[J.out];rfl,qab j K⟩
def qpt (S:qaf):Nat->Option TxP
 |0=>none
 |n+1=>match qpt S n with
  |some x=>some x
  |none=>qe6 S n
theorem qqw (S:qaf):qpt S 4=qht S:=by
 cases h0:qe6 S 0<;>cases h1:qe6 S 1<;>cases h2:qe6 S 2<;>simp[qpt,qht,h0,h1,h2]
def jbz (S:qaf) (e:Ending):Prop:=(∃x,qht S=some x/\e=.returned (.tuple #[int i64 x.site,.bool true]))\/(qht S=none/\e=.returned (.tuple #[int i64 0,.bool false]))
theorem q2t {log waits:List TxM} (w:World) (n:w.cell? ⟨A,0,none⟩=some (.pointer (some ⟨b,0,none⟩))) (h:qd0 w b lv bm F S log waits) (o:waits.map (·.t)=S.waits) (p:qcx S):
 Calls Tryz.prog 278 #[.func (.func 277) #[] #[.pointer (some ⟨A,0,none⟩)]] w λe w'=>
  jbz S e/\Below w.heap.size w w':=by
 have r:Hid (∀W,Below w.heap.size w W->∀s,0<=s->s<=3->Calls Tryz.prog 277 #[int i64 s,.pointer (some ⟨A,0,none⟩)] W λe w'=>e=.returned (.bool (qe6 S s).isSome)/\Below W.heap.size W w'):=λW hb s u q=>q1n s W (cell_later hb n) (h.later hb) o p u q;clear n h o p;go_enter Tryz.func278,Tryz.ntmps278
 go_wp2_with fail
 go_loopw [5] (λiv wr=>∃(k:Nat) (z:Int),k<=4/\z=k/\iv=int i64 z/\Hid (qpt S k=none)/\Below w.heap.size w wr) (λi _=>4-(intOf i).toNat)
 case atStart=>exact⟨0,0,by omega,rfl,rfl,rfl,Below.refl _ _⟩
 case round=>
  obtain⟨k,z,D,a,rfl,l,hb⟩:=hrel;have c:Hid _:=a;by_cases E:k<4
  ·have y:z<4:=by omega
   have q:0<=z:=by omega
   have d:=r.out wr hb z (by omega) (by omega);cases hp:qe6 S z with
   |none=>
    have g:Hid _:=hp;rw[hp]at d;clear a hp
    go_wp2_with fail
    refine d.mono ?_;rintro e w2 ⟨rfl,m⟩
    go_wp2_with fail
    go_roundw
    case rel=>
     refine⟨k+1,z+1,by omega,by have:=c.out;omega,by go_num,?_,qab hb m⟩;show qpt S (k+1)=none;simp only[qpt];rw[l.out,<-c.out];exact g.out
    case measure=>simp[intOf];have:=c.out;omega
   |some x=>
    have g:Hid _:=hp;rw[hp]at d;clear a hp
    go_wp2_with fail
    refine d.mono ?_;rintro e w2 ⟨rfl,m⟩
    go_wp2_with fail
    refine bodyPost_ret (v:=.tuple #[int i64 z,.bool true]) (by simp[results,Tryz.results278,go_sem]) rfl ⟨.inl ⟨x,?_,by rw[(qdx g.out).2.1]⟩,qab hb m⟩
    have B:qpt S (k+1)=some x:=by
     simp only[qpt];rw[l.out,<-c.out];exact g.out
    have C:∀j,qpt S (k+1+j)=some x:=λj=>by
     induction j with
     |zero=>exact B
     |succ j ih=>rw[<-Nat.add_assoc];simp only[qpt];rw[ih]
    have:=C (3-k);rw[show k+1+(3-k)=4 by omega,qqw]at this;exact this
  ·have y:¬z<4:=by omega
   obtain rfl:k=4:=by omega
   clear a
   go_wp2_with fail
   exact bodyPost_ret (v:=.tuple #[int i64 0,.bool false]) (by simp[results,Tryz.results278,go_sem]) rfl ⟨.inr ⟨by rw[<-qqw];exact l.out,rfl⟩,hb⟩
end
section
open Go.Value Go.IntKind Go.RowKit
theorem qt5 (a c d i:Int):qkj a c d i<0↔0<qkj d i a c:=by
 rcases qet a c d i with ⟨h,e⟩|⟨h,e⟩|⟨h,e⟩<;>rcases qet d i a c with ⟨g,f⟩|⟨g,f⟩|⟨g,f⟩<;>rw[e,f]<;>constructor<;>intro k<;>omega
theorem q84 {lw lc a c x y:Int} (d:(if 0<qkj a c lw lc then a else lw)=x) (g:(if 0<qkj a c lw lc then c else lc)=y) (w:World):
 Calls Tryz.prog 273 #[.agg #[int i64 lw,int i64 lc],.agg #[int i64 a,int i64 c]] w λe w'=>e=.returned (.agg #[int i64 x,int i64 y])/\Below w.heap.size w w':=by
 subst d g;by_cases h:0<qkj a c lw lc
 ·rw[if_pos h,if_pos h];exact jb8 lw lc a c w ((qt5 lw lc a c).2 h)
 ·rw[if_neg h,if_neg h];exact ja6 lw lc a c w (λe=>h ((qt5 lw lc a c).1 e))
structure qpc (w0:World) (b:Nat) (lv:Value) (bm:Nat) (F:Nat->Prop) (S:qaf) (log waits:List TxM) (m:TxM) (k:Nat) (F':Nat->Prop) (wr:World):Prop where
 mem:qd0 wr b lv bm F' {S with l:=qgw m.t (m.t.ws.take k) S.l} log waits
 box:qag wr w0.heap.size (txC m)
 far:¬qbb b lv bm F' w0.heap.size
 foot:∀j,qbb b lv bm F' j->qbb b lv bm F j\/w0.heap.size<=j
 touch:qae (qbb b lv bm F) w0 wr
variable {w0 wr w':World} {b bm k:Nat} {lv:Value} {F F':Nat->Prop} {S:qaf} {m:TxM}
theorem qpc.later {log waits:List TxM} (h:qpc w0 b lv bm F S log waits m k F' wr) (hb:Below wr.heap.size wr w'):qpc w0 b lv bm F S log waits m k F' w':=
 ⟨h.mem.later hb,h.box.later hb,h.far,h.foot,h.touch.trans (qae.ofBelow hb)⟩
theorem qpc.put {log waits:List TxM} (h:qpc w0 b lv bm F S log waits m k F' wr) (f:k<m.t.ws.length)
 (g:qld wr b 25 F' (qgp (qgw m.t (m.t.ws.take k) S.l) (qgi m.t.ws k).key (qul m.t (qgi m.t.ws k))) w'):∃c,qpc w0 b lv bm F S log waits m (k+1) c w':=by
 obtain⟨c,i,e,d⟩:=h.mem.store g;refine⟨c,by rw[qqk f];exact i,h.box.kept (d.block _ h.box.lt h.far) d.size,λn=>?_,λj o=>?_,h.touch.more d h.foot⟩
 ·rcases e _ n with a|a
  ·exact h.far a
  ·have:=h.box.lt;omega
 ·rcases e j o with a|a
  ·exact h.foot j a
  ·exact .inr (by have:=h.touch.size;omega)
theorem qpc.outside {log waits:List TxM} {c:Nat} {xs:List Value} {e:List Hd} (h:qpc w0 b lv bm F S log waits m k F' wr)
 (f:qld wr b 25 F' e w') (d:qag wr c xs) (g:¬qbb b lv bm F' c):ApB w0.heap.size c (txC m) xs w':=by
 obtain⟨i,j,l,a⟩:=h.mem.store f;exact⟨h.box.kept (a.block _ h.box.lt h.far) a.size,d.kept (a.block _ d.lt g) a.size⟩
structure PaE (w0:World) (b:Nat) (lv:Value) (bm:Nat) (F:Nat->Prop) (S:qaf) (log waits:List TxM) (m:TxM) (F':Nat->Prop) (wr:World):Prop where
 mem:qd0 wr b lv bm F' S log waits
 box:qag wr w0.heap.size (txC m)
 far:¬qbb b lv bm F' w0.heap.size
 foot:∀j,qbb b lv bm F' j->qbb b lv bm F j\/w0.heap.size<=j
 touch:qae (qbb b lv bm F) w0 wr
theorem PaE.later {log waits:List TxM} (h:PaE w0 b lv bm F S log waits m F' wr) (hb:Below wr.heap.size wr w'):PaE w0 b lv bm F S log waits m F' w':=
 ⟨h.mem.later hb,h.box.later hb,h.far,h.foot,h.touch.trans (qae.ofBelow hb)⟩
theorem PaE.seq {log waits:List TxM} (h:PaE w0 b lv bm F S log waits m F' wr) {s:Int} (x:Int) (a:0<=s) (c:s<=3):
 PaE w0 b lv bm F {S with a0:=qh4 s x S.a0,a1:=qhq s x S.a1,a2:=qhs s x S.a2,a3:=qh6 s x S.a3} log waits m F' (wr.setCell ⟨b,1+s.toNat,none⟩ (int i64 x)):=
 ⟨h.mem.seq x a c,h.box.far _ _ (λe=>h.far (.inl e.symm)),h.far,h.foot,h.touch.trans (qae.setCell wr ⟨b,1+s.toNat,none⟩ _ (.inl rfl))⟩
theorem PaE.last {log waits:List TxM} (h:PaE w0 b lv bm F S log waits m F' wr) (x y:Int):
 PaE w0 b lv bm F {S with lw:=x,lc:=y} log waits m F' ((wr.setCell ⟨b,5,none⟩ (int i64 x)).setCell ⟨b,6,none⟩ (int i64 y)):=
 ⟨h.mem.last x y,(h.box.far _ _ (λe=>h.far (.inl e.symm))).far _ _ (λe=>h.far (.inl e.symm)),h.far,h.foot,(h.touch.trans (qae.setCell wr ⟨b,5,none⟩ _ (.inl rfl))).trans (qae.setCell _ ⟨b,6,none⟩ _ (.inl rfl))⟩
theorem PaE.append {log waits:List TxM} {c:World} (h:PaE w0 b lv bm F S log waits m F' wr) (a:qaz w0 m.wa m.wc m.t.ws/\∀k,m.blk k->¬qbb b lv bm F k) {g f:Nat} (gr:wr.grownBy c lv.ownBlock)
 (n:c.ownsRow 0 102 9 (.slice (some ⟨g,0,none⟩) (log.length+1) f) (log.length+1) (qfi log++txC m)) (o:lv.ownBlock=some g\/wr.heap.size<=g):
 ∃i j,qd0 (c.setCell ⟨b,7,none⟩ (.slice (some ⟨g,0,none⟩) (log.length+1) f)) b i bm j S (log++[m]) waits/\(∀k,qbb b i bm j k->qbb b lv bm F k\/w0.heap.size<=k)/\qae (qbb b lv bm F) w0 (c.setCell ⟨b,7,none⟩ (.slice (some ⟨g,0,none⟩) (log.length+1) f)):=by
 obtain⟨d,p,q⟩:=h.mem.append m ⟨a.1.kept (λk e=>h.touch.block k (a.1.blk_lt k e) (a.2 k e)),λk e r=>by
  rcases h.foot k r with d|d
  ·exact a.2 k e d
  ·have:=a.1.blk_lt k e
   omega⟩ gr n o
 refine⟨_,_,d,λk s=>?_,h.touch.more q h.foot⟩;rcases p k s with l|l
 ·exact h.foot k l
 ·exact .inr (by have:=h.touch.size;omega)
theorem qtw {log waits:List TxM} (m:TxM) (w:World) (h:qd0 w b lv bm F S log waits) (L:qaz w m.wa m.wc m.t.ws/\∀k,m.blk k->¬qbb b lv bm F k) (hs0:0<=m.t.site) (hs1:m.t.site<=3) (hl:S.l.length+m.t.ws.length<=1000) (hlog:log.length<=1000):
 Calls Tryz.prog 244 #[.pointer (some ⟨b,0,none⟩),.agg #[int i64 m.t.site,int i64 m.t.seq,int i64 m.t.wall,int i64 m.t.count,int i64 m.t.d0,int i64 m.t.d1,int i64 m.t.d2,int i64 m.t.d3,.slice m.wa m.t.ws.length m.wc]] w λe w'=>
  e=.returned (.tuple #[])/\∃s F',qd0 w' b s bm F' (qcb S m.t) (log++[m]) waits/\(∀k,qbb b s bm F' k->qbb b lv bm F k\/w.heap.size<=k)/\qae (qbb b lv bm F) w w':=by
 have hb:=boxed (Below.refl _ w) (.cells #[int i64 m.t.site,int i64 m.t.seq,int i64 m.t.wall,int i64 m.t.count,int i64 m.t.d0,int i64 m.t.d1,int i64 m.t.d2,int i64 m.t.d3,.slice m.wa m.t.ws.length m.wc] 102);have U:=qag.new (w:=w) (T:=102) (txC m) rfl;change qag (w.alloc (.cells #[int i64 m.t.site,int i64 m.t.seq,int i64 m.t.wall,int i64 m.t.count,int i64 m.t.d0,int i64 m.t.d1,int i64 m.t.d2,int i64 m.t.d3,.slice m.wa m.t.ws.length m.wc] 102)) w.heap.size (txC m)at U
 have V:qpc w b lv bm F S log waits m 0 F (w.alloc (.cells #[int i64 m.t.site,int i64 m.t.seq,int i64 m.t.wall,int i64 m.t.count,int i64 m.t.d0,int i64 m.t.d1,int i64 m.t.d2,int i64 m.t.d3,.slice m.wa m.t.ws.length m.wc] 102)):=
  ⟨by simpa[qgw]using h.later hb,U,λe=>Nat.lt_irrefl _ (h.lt _ e),λj hj=>.inl hj,qae.ofBelow hb⟩
 have M:Hid _:=L;have hc1:=L.1.len;have hc2:=L.1.cap;clear L hb U;go_enter Tryz.func244,Tryz.ntmps244
 go_wp2_with fail
 obtain⟨W,hWW⟩:∃W,w.alloc (.cells #[int i64 m.t.site,int i64 m.t.seq,int i64 m.t.wall,int i64 m.t.count,int i64 m.t.d0,int i64 m.t.d1,int i64 m.t.d2,int i64 m.t.d3,.slice m.wa m.t.ws.length m.wc] 102)=W:=⟨_,rfl⟩;rw[hWW]at V ⊢;clear hWW
 go_loopw [9] (λiv wr=>∃(k:Nat) (z:Int) (F':Nat->Prop),k<=m.t.ws.length/\z=k/\iv=int i64 z/\Hid (qpc w b lv bm F S log waits m k F' wr)) (λi _=>m.t.ws.length-(intOf i).toNat)
 case atStart=>exact⟨0,0,F,by omega,rfl,rfl,V⟩
 case round=>
  clear V;obtain⟨k,z,F',hk,X,rfl,C⟩:=hrel;have HZ:Hid _:=X;by_cases D:k<m.t.ws.length
  ·have o:z<(m.t.ws.length:Int):=by omega
   have h2:z.toNat=k:=by omega
   have h3:0<=z:=by omega
   clear X
   obtain⟨p,u,N,hcc⟩:∃p u,m.wa=some ⟨p,u,none⟩/\qd4 w p u m.t.ws:=by
        rcases M.out.1.held with Y|Y
        ·rw[Y]at D;simp at D
        ·exact Y
   have Z:m.blk p:=⟨λe=>by rw[e]at D;simp at D,u,N⟩;have hwl:=M.out.1.blk_lt p Z;have O:=C.out.touch.block p hwl (M.out.2 p Z);obtain⟨⟨a,c,d⟩,hx⟩:∃x,qgi m.t.ws k=x:=⟨_,rfl⟩;have H:=hcc k D;rw[hx]at H
   have x0:wr.cell? ⟨p,u+k*3,none⟩=some (int i64 a):=by rw[World.cell?_of_block (w:=w) O];exact H.1
   have x1:wr.cell? ⟨p,u+k*3+1,none⟩=some (.string c):=by rw[World.cell?_of_block (w:=w) O];exact H.2.1
   have x2:wr.cell? ⟨p,u+k*3+2,none⟩=some (.bool d):=by rw[World.cell?_of_block (w:=w) O];exact H.2.2
   have HX:Hid _:=hx;have HWA:Hid _:=N;rw[N];clear hcc Z O H hx N hwl;have hbx:=boxed (Below.refl _ wr) (.cells #[int i64 a,.string c,.bool d] 100);have I:=(C.out.later hbx).later (Below.refl _ (wr.alloc (.cells #[int i64 a,.string c,.bool d] 100))).drew;have P:=(qag.new (w:=wr) (T:=100) [int i64 a,.string c,.bool d] rfl).drew;change qag (wr.alloc (.cells #[int i64 a,.string c,.bool d] 100)).drew wr.heap.size [int i64 a,.string c,.bool d]at P;have SB:ApB w.heap.size wr.heap.size (txC m) [int i64 a,.string c,.bool d] (wr.alloc (.cells #[int i64 a,.string c,.bool d] 100)).drew:=⟨I.box,P⟩
   have hll:(qgw m.t (m.t.ws.take k) S.l).length<=1000:=by
        have:=qg5 m.t (m.t.ws.take k) S.l;rw[List.length_take]at this;omega
   have PU:Hid (Calls Tryz.prog 272 #[.pointer (some ⟨b,25,none⟩),int i64 a,.agg #[int i64 m.t.wall,int i64 m.t.count,int i64 m.t.site,int i64 m.t.seq,.string c,.bool d]] (wr.alloc (.cells #[int i64 a,.string c,.bool d] 100)).drew λe w'=>e=.returned (qbq (qig (qgw m.t (m.t.ws.take k) S.l) a ⟨m.t.wall,m.t.count,m.t.site,m.t.seq,c,d⟩))/\ApB w.heap.size wr.heap.size (txC m) [int i64 a,.string c,.bool d] w'/\∃r,Hid (qpc w b lv bm F S log waits m (k+1) r w')):=
        (q9e a ⟨m.t.wall,m.t.count,m.t.site,m.t.seq,c,d⟩ _ I.mem.st hll).mono λe w' ⟨he,hp⟩=>⟨he,I.outside hp P (λhf=>Nat.lt_irrefl _ (C.out.mem.lt _ hf)),I.put D (by rw[HX.out];exact hp)⟩
   have T0:=λ(w':World) (h:ApB w.heap.size wr.heap.size (txC m) [int i64 a,.string c,.bool d] w')=>h.t.cell 0 _ rfl;have T1:=λ(w':World) (h:ApB w.heap.size wr.heap.size (txC m) [int i64 a,.string c,.bool d] w')=>h.t.cell 1 _ rfl;have T2:=λ(w':World) (h:ApB w.heap.size wr.heap.size (txC m) [int i64 a,.string c,.bool d] w')=>h.t.cell 2 _ rfl;have T3:=λ(w':World) (h:ApB w.heap.size wr.heap.size (txC m) [int i64 a,.string c,.bool d] w')=>h.t.cell 3 _ rfl;have X0:=λ(w':World) (h:ApB w.heap.size wr.heap.size (txC m) [int i64 a,.string c,.bool d] w')=>h.x.cell 0 _ rfl;have X1:=λ(w':World) (h:ApB w.heap.size wr.heap.size (txC m) [int i64 a,.string c,.bool d] w')=>h.x.cell 1 _ rfl;have X2:=λ(w':World) (h:ApB w.heap.size wr.heap.size (txC m) [int i64 a,.string c,.bool d] w')=>h.x.cell 2 _ rfl;clear I P hbx hll C
   go_wp2_with fail
   go_region_held3 (λw'=>ApB w.heap.size wr.heap.size (txC m) [int i64 a,.string c,.bool d] w') (with_reducible assumption)
        (first|(go_at_call 272;with_reducible refine PU.out.mono ?_;rintro e w5 ⟨rfl,SB5,r,AM3⟩))
   all_goals
        go_wp2_with fail
        go_roundw
        case rel=>exact⟨k+1,z+1,r,by omega,by have:=HZ.out;omega,by go_num,AM3⟩
        case measure=>simp[intOf];have:=HZ.out;omega
  ·have h4:¬z<(m.t.ws.length:Int):=by omega
   obtain rfl:k=m.t.ws.length:=by omega
   clear X
   have J:Hid (PaE w b lv bm F {S with l:=qgw m.t m.t.ws S.l} log waits m F' wr):=by
        have K:=C.out;refine⟨?_,K.box,K.far,K.foot,K.touch⟩;have:=K.mem;rw[List.take_length]at this;exact this
   have BX:=J.out.box;have t0:=BX.cell 0 _ rfl;have t1:=BX.cell 1 _ rfl;have s1:=J.out.mem.box.free (1+m.t.site.toNat) (by simp[qck];omega);obtain⟨ov,s0⟩:∃v,wr.cell? ⟨b,1+m.t.site.toNat,none⟩=some v:=⟨_,J.out.mem.box.cell (1+m.t.site.toNat) _ (List.getElem?_eq_getElem (by simp[qck];omega))⟩
   go_wp2_with fail
   go_region
   have y:Hid _:=(J.out.seq m.t.seq hs0 hs1).later (Below.refl _ _).drew;obtain⟨W1,hW1⟩:∃W1,(wr.setCell ⟨b,1+m.t.site.toNat,none⟩ (int i64 m.t.seq)).drew=W1:=⟨_,rfl⟩;rw[hW1]at y ⊢;clear hW1 J C BX t0 t1 s0 s1;have t2:=y.out.box.cell 2 _ rfl;have t3:=y.out.box.cell 3 _ rfl;have l5:=y.out.mem.box.cell 5 _ rfl;have l6:=y.out.mem.box.cell 6 _ rfl;obtain⟨Q,hlw⟩:∃x,(if 0<qkj m.t.wall m.t.count S.lw S.lc then m.t.wall else S.lw)=x:=⟨_,rfl⟩;obtain⟨R,hlc⟩:∃x,(if 0<qkj m.t.wall m.t.count S.lw S.lc then m.t.count else S.lc)=x:=⟨_,rfl⟩;have HLW:Hid ((if 0<qkj m.t.wall m.t.count S.lw S.lc then m.t.wall else S.lw)=Q/\(if 0<qkj m.t.wall m.t.count S.lw S.lc then m.t.count else S.lc)=R):=⟨hlw,hlc⟩
   have PU:Hid (Calls Tryz.prog 273 #[.agg #[int i64 S.lw,int i64 S.lc],.agg #[int i64 m.t.wall,int i64 m.t.count]] W1.drew λe w'=>e=.returned (.agg #[int i64 Q,int i64 R])/\Hid (PaE w b lv bm F {S with l:=qgw m.t m.t.ws S.l,a0:=qh4 m.t.site m.t.seq S.a0,a1:=qhq m.t.site m.t.seq S.a1,a2:=qhs m.t.site m.t.seq S.a2,a3:=qh6 m.t.site m.t.seq S.a3} log waits m F' w')):=
        (q84 hlw hlc W1.drew).mono λe w' ⟨he,hb'⟩=>⟨he,y.out.later (qab (Below.refl _ W1).drew hb')⟩
   clear hlw hlc y
   go_wp2_with fail
   go_region_with
        (first|(go_at_call 273;with_reducible refine PU.out.mono ?_;rintro e w5 ⟨rfl,E⟩;have k5:=E.out.mem.box.cell 5 _ rfl;have k6:=E.out.mem.box.cell 6 _ rfl;have q5:=E.out.mem.box.free 5 (by simp[qck]);have q6:=E.out.mem.box.free 6 (by simp[qck])))
   all_goals
        have q:Hid _:=E.out.last Q R;obtain⟨n,hw6⟩:∃n,(w5.setCell ⟨b,5,none⟩ (int i64 Q)).setCell ⟨b,6,none⟩ (int i64 R)=n:=⟨_,rfl⟩;rw[hw6]at q ⊢;clear hw6 E k5 k6 q5 q6 t2 t3 l5 l6
        have FIN9:∀(S9:qaf) (n:World),Hid (PaE w b lv bm F S9 log waits m F' n)->{S9 with log:=S.log++[m.t]}=qcb S m.t->∀(g G:Nat) (B:World),(n.drew.alloc (.cells #[int i64 m.t.site,int i64 m.t.seq,int i64 m.t.wall,int i64 m.t.count,int i64 m.t.d0,int i64 m.t.d1,int i64 m.t.d2,int i64 m.t.d3,.slice m.wa m.t.ws.length m.wc] 102)).grownBy B lv.ownBlock->
         B.ownsRow 0 102 9 (.slice (some ⟨g,0,none⟩) (log.length+1) G) (log.length+1) (qfi log++txC m)->(lv.ownBlock=some g\/g=(n.drew.alloc (.cells #[int i64 m.t.site,int i64 m.t.seq,int i64 m.t.wall,int i64 m.t.count,int i64 m.t.d0,int i64 m.t.d1,int i64 m.t.d2,int i64 m.t.d3,.slice m.wa m.t.ws.length m.wc] 102)).heap.size)->
         Hid (∃s r,qd0 (B.setCell ⟨b,7,none⟩ (.slice (some ⟨g,0,none⟩) (log.length+1) G)) b s bm r (qcb S m.t) (log++[m]) waits/\(∀k,qbb b s bm r k->qbb b lv bm F k\/w.heap.size<=k)/\qae (qbb b lv bm F) w (B.setCell ⟨b,7,none⟩ (.slice (some ⟨g,0,none⟩) (log.length+1) G))):=λS9 n A e g G B gr ow eg=>by
         have A':=A.out.later (boxed ((Below.refl _ n).drew) (.cells #[int i64 m.t.site,int i64 m.t.seq,int i64 m.t.wall,int i64 m.t.count,int i64 m.t.d0,int i64 m.t.d1,int i64 m.t.d2,int i64 m.t.d3,.slice m.wa m.t.ws.length m.wc] 102));obtain⟨s,r,o,h2,h3⟩:=A'.append M.out gr ow (eg.imp id (λe=>Nat.le_of_eq e.symm));rw[<-e];exact⟨s,r,⟨o.box,o.st,o.rlog,o.map,o.nl,o.nm,o.lm,o.lf,o.mf,o.hold⟩,h2,h3⟩
        obtain⟨i0,hi,hz0,hz1,hz2⟩:=info_parts qsz;have AP:=FIN9 _ n q (by simp only[qcb];obtain⟨e1,e2⟩:=HLW.out;rw[e1,e2]);obtain⟨t0,t1,t2,t3,t4,t5,t6,t7,t8⟩:=q.out.box.c9;have s7:=q.out.mem.box.cell 7 _ rfl;have f7:=q.out.mem.box.free 7 (by simp[qck]);have own6:n.drew.ownsRow 0 102 9 lv log.length (qfi log):=q.out.mem.rlog;have hsb:=q.out.mem.box.lt;have nb:some b≠lv.ownBlock:=λe=>q.out.mem.nl e.symm;have bx:qag n b (qck _ lv bm):=q.out.mem.box;clear FIN9
        go_wp2_with fail
        go_region_law (refine step_append_lies _ rfl (.tmp 53) (.tmp 55) 80 rfl 0 102 i0 (.agg #[int i64 0,int i64 0,int i64 0,int i64 0,int i64 0,int i64 0,int i64 0,int i64 0,.slice none 0 0]) 9 88 Tryz.underlying80 hi hz0 hz1 hz2 rfl (by decide) lv log.length (qfi log) (by simp[Act.eval]) (own6.alloc _) ⟨n.heap.size,0,none⟩ 1 1 (txC m) (by simp[Act.eval]) rfl (World.news_of_block (heap_alloc_new n.drew (.cells #[int i64 m.t.site,int i64 m.t.seq,int i64 m.t.wall,int i64 m.t.count,int i64 m.t.d0,int i64 m.t.d1,int i64 m.t.d2,int i64 m.t.d3,.slice m.wa m.t.ws.length m.wc] 102))) (qk5 m) (by decide) (by simp only[maxLen];omega) (by omega) (by simp) _ rfl ?_
                       intro g G B ownE grE egE ltE;have FIN:=AP g G B grE ownE egE;have BE:=((bx.drew).boxed (.cells #[int i64 m.t.site,int i64 m.t.seq,int i64 m.t.wall,int i64 m.t.count,int i64 m.t.d0,int i64 m.t.d1,int i64 m.t.d2,int i64 m.t.d3,.slice m.wa m.t.ws.length m.wc] 102)).grown grE nb;have s0E:=BE.cell 7 _ rfl
                       have s1E:=BE.free 7 (by simp[qck]))
        all_goals
         go_wp2_with fail
         go_end0;exact⟨rfl,FIN.out⟩
end
section
open Tryz Go.RowKit
variable {v:Bool}
theorem qi9 {n:Int} (h:inB n 0 3=v) (w:World):
 Calls prog 202 #[.int .i64 n] w λe w'=>e=.returned (.bool v)/\Below w.heap.size w w':=by
 subst h;by_cases a:0<=n
 ·by_cases b:n<4
  ·have e:Hid (inB n 0 3=true):=by show inB n 0 3=true;rw[qa5];omega
   go_enter func202,ntmps202
   go_wp2
   go_ret;exact⟨by rw[e.out];rfl,Below.refl _ _⟩
  ·have e:Hid (inB n 0 3=false):=by show inB n 0 3=false;simp[inB];omega
   go_enter func202,ntmps202
   go_wp2
   go_ret;exact⟨by rw[e.out];rfl,Below.refl _ _⟩
 ·have e:Hid (inB n 0 3=false):=by show inB n 0 3=false;simp[inB,a]
  go_enter func202,ntmps202
  go_wp2
  go_ret;exact⟨by rw[e.out];rfl,Below.refl _ _⟩
def qqa (data:ByteArray) (gone:Bool):Bool:=if gone then data.toList.isEmpty else decide ((data.size:Int)<=12)
theorem qs2 {key:Int} {data:ByteArray} {gone:Bool} (h:qqa data gone=v) (w:World):
 Calls prog 269 #[.agg #[.int .i64 key,.string data,.bool gone]] w λe w'=>e=.returned (.bool v)/\Below w.heap.size w w':=by
 subst h;cases gone
 ·by_cases a:(data.size:Int)<=12
  ·have e:Hid (qqa data false=true):=decide_eq_true a;go_enter func269,ntmps269
   go_wp2
   go_ret;exact⟨by rw[e.out];rfl,boxed (Below.refl _ _) _⟩
  ·have e:Hid (qqa data false=false):=decide_eq_false a;go_enter func269,ntmps269
   go_wp2
   go_ret;exact⟨by rw[e.out];rfl,boxed (Below.refl _ _) _⟩
 ·cases he:data.toList.isEmpty
  ·have e:Hid (qqa data true=false):=he;go_enter func269,ntmps269
   go_wp2
   go_ret;exact⟨by rw[e.out];rfl,boxed (Below.refl _ _) _⟩
  ·have e:Hid (qqa data true=true):=he;go_enter func269,ntmps269
   go_wp2
   go_ret;exact⟨by rw[e.out];rfl,boxed (Below.refl _ _) _⟩
def qv4 (l:List Wr) (k:Nat):Int:=if k=0 then-1 else (qgi l (k-1)).key
theorem quy {data:ByteArray} (h:data.toList.isEmpty=true):data.size=0:=by
 have a:∀(n i:Nat) (r:List UInt8),data.size-i=n->(ByteArray.toList.loop data i r).length=r.length+n:=by
  intro n
  induction n with
  |zero=>
   intro i r b;unfold ByteArray.toList.loop;rw[if_neg (by omega)];simp
  |succ n ih=>
   intro i r b;unfold ByteArray.toList.loop;rw[if_pos (by omega),ih _ _ (by omega)];simp;omega
 have:=a data.size 0 [] (by omega);have e:data.toList=[]:=List.isEmpty_iff.1 h;rw[show ByteArray.toList.loop data 0 []=data.toList from rfl,e]at this;simpa using this.symm
variable {l:List Wr} {k:Nat}
theorem q7e {key:Int} {data:ByteArray} {gone:Bool} (a:qgi l k=⟨key,data,gone⟩) (h:key<=qv4 l k):qjr l k=false:=by
 rw[qoi a];unfold qv4 at h;split at h
 ·exact qw5 (by simp[inB];omega)
 ·exact qx0 (by omega) h
theorem q5y {key:Int} {data:ByteArray} {gone:Bool} (a:qgi l k=⟨key,data,gone⟩) (h:8<=key):qjr l k=false:=by
 rw[qoi a];exact qw5 (by simp[inB];omega)
theorem q7z {key:Int} {data:ByteArray} {gone:Bool} (a:qgi l k=⟨key,data,gone⟩) (h:qqa data gone=false):qjr l k=false:=by
 rw[qoi a];cases gone
 ·exact qv7 (by have:=of_decide_eq_false (show decide ((data.size:Int)<=12)=false from h);omega)
 ·exact qrs rfl h
theorem q6n {key:Int} {data:ByteArray} {gone:Bool} (c:qgi l k=⟨key,data,gone⟩) (d:∀j,j<k->qjr l j=true) (b:¬key<=qv4 l k) (e:¬8<=key) (h:qqa data gone=true):qjr l k=true:=by
 rw[qoi c]
 have a:¬12<(data.size:Int)/\(gone=false\/data.toList.isEmpty=true):=by
  cases gone
  ·exact⟨by have:=of_decide_eq_true (show decide ((data.size:Int)<=12)=true from h);omega,.inl rfl⟩
  ·have:=quy h;exact⟨by omega,.inr h⟩
 unfold qv4 at b;split at b
 ·exact qj2 (by rw[qa5];omega) (.inl (by assumption)) a.1 a.2
 ·have:=qsv (d (k-1) (by omega));exact qj2 (by rw[qa5];omega) (.inr b) a.1 a.2
theorem qs8 (b m cap:Nat) (l:List Wr) (w:World) (F:qd4 w b m l) (G:¬(l.length:Int)<1) (M:¬5<(l.length:Int)):
 Calls prog 241 #[.slice (some ⟨b,m,none⟩) l.length cap] w λe w'=>e=.returned (.bool (qe8 l))/\Below w.heap.size w w':=by
 go_enter func241,ntmps241
 go_wp2_with fail
 go_loopw [3,16] (λp i wr=>∃(k:Nat) (z:Int),k<=l.length/\z=k/\i=.int .i64 z/\p=.int .i64 (qv4 l k)/\(∀j,j<k->qjr l j=true)/\Below w.heap.size w wr/\qd4 wr b m l) (λ_ i _=>l.length-(intOf i).toNat)
 case atStart=>exact⟨0,0,by omega,rfl,rfl,rfl,λj H=>by omega,Below.refl _ _,F⟩
 case round=>
  obtain⟨k,z,N,s,rfl,rfl,u,hb,C⟩:=hrel;have n:Hid (∀j,j<k->qjr l j=true):=u;clear u;obtain⟨p,o⟩:∃p,qv4 l k=p:=⟨_,rfl⟩;rw[o];have y:Hid (qv4 l k=p):=o;clear o;by_cases g:k<l.length
  ·obtain⟨x0,x1,x2⟩:=C k g
   have G:z<(l.length:Int):=by omega
   have O:z.toNat=k:=by omega
   have P:0<=z:=by omega
   have I:Hid (z=k):=s;clear s;obtain⟨⟨key,data,gone⟩,q⟩:∃x,qgi l k=x:=⟨_,rfl⟩;rw[q]at x0 x1 x2;have a:Hid (qgi l k=⟨key,data,gone⟩):=q;clear q;simp only at x0 x1 x2;have h:=boxed hb (.cells #[.int .i64 key,.string data,.bool gone] 100);have J:=C.later (boxed (Below.refl _ wr) (.cells #[.int .i64 key,.string data,.bool gone] 100));by_cases B:key<=p
   ·have c:Hid (qe8 l=false):=qf6 g (q7e a.out (by rw[y.out];exact B))
    go_wp2_with fail
    go_ret;exact⟨by rw[c.out];rfl,h⟩
   ·by_cases D:8<=key
    ·have c:Hid (qe8 l=false):=qf6 g (q5y a.out D)
     go_wp2_with fail
     go_ret;exact⟨by rw[c.out];rfl,h⟩
    ·cases h8:qqa data gone
     ·have c:Hid (qe8 l=false):=qf6 g (q7z a.out h8);have r:Hid (qqa data gone=false):=h8;clear h8
      go_wp2_with (go_at_call 269;refine(qs2 r.out _).mono ?_;rintro e K ⟨rfl,d⟩)
      go_ret;exact⟨by rw[c.out];rfl,qab h d⟩
     ·have L:Hid (qjr l k=true):=q6n a.out n.out (by rw[y.out];exact B) D h8;have r:Hid (qqa data gone=true):=h8;clear h8
      have E:(wr.alloc (.cells #[.int .i64 key,.string data,.bool gone] 100)).cell? ⟨wr.heap.size,0,none⟩=some (.int .i64 key):=by go_simp
      go_wp2_with (go_at_call 269;refine(qs2 r.out _).mono ?_;rintro e K ⟨rfl,d⟩;replace E:=cell_later d E)
      go_roundw
      case rel=>exact⟨k+1,z+1,by omega,by have:=I.out;omega,by go_num,by show _=Value.int .i64 (qgi l (k+1-1)).key;rw[Nat.add_sub_cancel,a.out],qos n.out L.out,qab h d,J.later d⟩
      case measure=>simp[intOf];omega
  ·have e:Hid (qe8 l=true):=by
        show qe8 l=true;rw[qyk (λj H=>n.out j (by omega)),qa5];omega
   go_wp2
   go_ret;exact⟨by rw[e.out];rfl,hb⟩
theorem qdb {a:Option Addr} {cap:Nat} {w:World} (h:qaz w a cap l):
 Calls prog 241 #[.slice a l.length cap] w λe w'=>e=.returned (.bool (qe8 l))/\Below w.heap.size w w':=by
 by_cases c:(l.length:Int)<1
 ·have e:Hid (qe8 l=false):=by
   show qe8 l=false
   have:inB l.length 1 5=false:=by simp[inB];omega
   simp[qe8,this]
  go_enter func241,ntmps241
  go_wp2
  go_ret;exact⟨by rw[e.out];rfl,Below.refl _ _⟩
 ·by_cases d:5<(l.length:Int)
  ·have e:Hid (qe8 l=false):=by
        show qe8 l=false
        have:inB l.length 1 5=false:=by simp[inB];omega
        simp[qe8,this]
   go_enter func241,ntmps241
   go_wp2
   go_ret;exact⟨by rw[e.out];rfl,Below.refl _ _⟩
  ·rcases h.held with rfl|⟨b,g,rfl,i⟩
   ·simp at c
   ·exact qs8 b g cap l w i c d
end
section
open Tryz Go.Value Go.IntKind Go.RowKit
theorem q0i (a0 a1 a2 a3:Int) (w:World):
 Calls prog 203 #[.agg #[int i64 a0,int i64 a1,int i64 a2,int i64 a3]] w λe w'=>e=.returned (.bool (qay a0 a1 a2 a3))/\Below w.heap.size w w':=by
 have i0:∀w,(Instr.index 77 (.agg #[int i64 a0,int i64 a1,int i64 a2,int i64 a3]) (int i64 0)).run prog w=.ok (int i64 a0) w:=λ_=>by kernel_rfl
 have a:∀w,(Instr.index 77 (.agg #[int i64 a0,int i64 a1,int i64 a2,int i64 a3]) (int i64 1)).run prog w=.ok (int i64 a1) w:=λ_=>by kernel_rfl
 have i2:∀w,(Instr.index 77 (.agg #[int i64 a0,int i64 a1,int i64 a2,int i64 a3]) (int i64 2)).run prog w=.ok (int i64 a2) w:=λ_=>by kernel_rfl
 have i3:∀w,(Instr.index 77 (.agg #[int i64 a0,int i64 a1,int i64 a2,int i64 a3]) (int i64 3)).run prog w=.ok (int i64 a3) w:=λ_=>by kernel_rfl
 by_cases l0:a0<0
 ·have e:qay a0 a1 a2 a3=false:=by simp[qay,qal];omega
  rw[e];clear e;go_enter func203,ntmps203
  go_wp2
  refine wp_loop_rounds 5 ?_;rw[rounds_succ]
  go_wp2
  go_ret;exact⟨rfl,by repeat (first|exact Below.refl _ _|apply qar|apply boxed)⟩
 by_cases b:1099511627776<a0
 ·have e:qay a0 a1 a2 a3=false:=by simp[qay,qal];omega
  rw[e];clear e;go_enter func203,ntmps203
  go_wp2
  refine wp_loop_rounds 5 ?_;rw[rounds_succ]
  go_wp2
  go_ret;exact⟨rfl,by repeat (first|exact Below.refl _ _|apply qar|apply boxed)⟩
 by_cases l1:a1<0
 ·have e:qay a0 a1 a2 a3=false:=by simp[qay,qal];omega
  rw[e];clear e;go_enter func203,ntmps203
  go_wp2
  refine wp_loop_rounds 5 ?_;rw[rounds_succ]
  go_wp2
  rw[rounds_succ]
  go_wp2
  go_ret;exact⟨rfl,by repeat (first|exact Below.refl _ _|apply qar|apply boxed)⟩
 by_cases g1:1099511627776<a1
 ·have e:qay a0 a1 a2 a3=false:=by simp[qay,qal];omega
  rw[e];clear e;go_enter func203,ntmps203
  go_wp2
  refine wp_loop_rounds 5 ?_;rw[rounds_succ]
  go_wp2
  rw[rounds_succ]
  go_wp2
  go_ret;exact⟨rfl,by repeat (first|exact Below.refl _ _|apply qar|apply boxed)⟩
 by_cases l2:a2<0
 ·have e:qay a0 a1 a2 a3=false:=by simp[qay,qal];omega
  rw[e];clear e;go_enter func203,ntmps203
  go_wp2
  refine wp_loop_rounds 5 ?_;rw[rounds_succ]
  go_wp2
  rw[rounds_succ]
  go_wp2
  rw[rounds_succ]
  go_wp2
  go_ret;exact⟨rfl,by repeat (first|exact Below.refl _ _|apply qar|apply boxed)⟩
 by_cases c:1099511627776<a2
 ·have e:qay a0 a1 a2 a3=false:=by simp[qay,qal];omega
  rw[e];clear e;go_enter func203,ntmps203
  go_wp2
  refine wp_loop_rounds 5 ?_;rw[rounds_succ]
  go_wp2
  rw[rounds_succ]
  go_wp2
  rw[rounds_succ]
  go_wp2
  go_ret;exact⟨rfl,by repeat (first|exact Below.refl _ _|apply qar|apply boxed)⟩
 by_cases l3:a3<0
 ·have e:qay a0 a1 a2 a3=false:=by simp[qay,qal];omega
  rw[e];clear e;go_enter func203,ntmps203
  go_wp2
  refine wp_loop_rounds 5 ?_;rw[rounds_succ]
  go_wp2
  rw[rounds_succ]
  go_wp2
  rw[rounds_succ]
  go_wp2
  rw[rounds_succ]
  go_wp2
  go_ret;exact⟨rfl,by repeat (first|exact Below.refl _ _|apply qar|apply boxed)⟩
 by_cases g3:1099511627776<a3
 ·have e:qay a0 a1 a2 a3=false:=by simp[qay,qal];omega
  rw[e];clear e;go_enter func203,ntmps203
  go_wp2
  refine wp_loop_rounds 5 ?_;rw[rounds_succ]
  go_wp2
  rw[rounds_succ]
  go_wp2
  rw[rounds_succ]
  go_wp2
  rw[rounds_succ]
  go_wp2
  go_ret;exact⟨rfl,by repeat (first|exact Below.refl _ _|apply qar|apply boxed)⟩
 have e:qay a0 a1 a2 a3=true:=by simp[qay,qal];omega
 rw[e];clear e;go_enter func203,ntmps203
 go_wp2
 refine wp_loop_rounds 5 ?_;rw[rounds_succ]
 go_wp2
 rw[rounds_succ]
 go_wp2
 rw[rounds_succ]
 go_wp2
 rw[rounds_succ]
 go_wp2
 rw[rounds_succ]
 go_wp2
 go_ret;exact⟨rfl,by repeat (first|exact Below.refl _ _|apply qar|apply boxed)⟩
end
section
open Tryz Go.Value Go.IntKind Go.RowKit
variable {v:Bool}
theorem qfk {x c:Int} (h:(qal x&&qal c)=v) (w:World):
 Calls prog 270 #[.agg #[int i64 x,int i64 c]] w λe w'=>e=.returned (.bool v)/\Below w.heap.size w w':=by
 subst h;exact qgr x c w
theorem qcr {a0 a1 a2 a3:Int} (h:qay a0 a1 a2 a3=v) (w:World):
 Calls prog 203 #[.agg #[int i64 a0,int i64 a1,int i64 a2,int i64 a3]] w λe w'=>e=.returned (.bool v)/\Below w.heap.size w w':=by
 subst h;exact q0i a0 a1 a2 a3 w
theorem qwn (site seq wall count d0 d1 d2 d3:Int) (a:Option Addr) (cap:Nat) (l:List Wr) (w:World) (p:qaz w a cap l):
 Calls prog 252 #[.agg #[int i64 site,int i64 seq,int i64 wall,int i64 count,int i64 d0,int i64 d1,int i64 d2,int i64 d3,.slice a l.length cap]] w λe w'=>e=.returned (.bool (qdf site seq wall count d0 d1 d2 d3 l))/\Below w.heap.size w w':=by
 have r:=Later.one;have g:=p.later (boxed (Below.refl _ w) (.cells #[int i64 site,int i64 seq,int i64 wall,int i64 count,int i64 d0,int i64 d1,int i64 d2,int i64 d3,.slice a l.length cap] 102));clear p
 have c0:(w.alloc (.cells #[int i64 site,int i64 seq,int i64 wall,int i64 count,int i64 d0,int i64 d1,int i64 d2,int i64 d3,.slice a l.length cap] 102)).cell? ⟨w.heap.size,0,none⟩=some (int i64 site):=by go_simp
 have c1:(w.alloc (.cells #[int i64 site,int i64 seq,int i64 wall,int i64 count,int i64 d0,int i64 d1,int i64 d2,int i64 d3,.slice a l.length cap] 102)).cell? ⟨w.heap.size,1,none⟩=some (int i64 seq):=by go_simp
 have c2:(w.alloc (.cells #[int i64 site,int i64 seq,int i64 wall,int i64 count,int i64 d0,int i64 d1,int i64 d2,int i64 d3,.slice a l.length cap] 102)).cell? ⟨w.heap.size,2,none⟩=some (int i64 wall):=by go_simp
 have c3:(w.alloc (.cells #[int i64 site,int i64 seq,int i64 wall,int i64 count,int i64 d0,int i64 d1,int i64 d2,int i64 d3,.slice a l.length cap] 102)).cell? ⟨w.heap.size,3,none⟩=some (int i64 count):=by go_simp
 have c4:(w.alloc (.cells #[int i64 site,int i64 seq,int i64 wall,int i64 count,int i64 d0,int i64 d1,int i64 d2,int i64 d3,.slice a l.length cap] 102)).cell? ⟨w.heap.size,4,none⟩=some (int i64 d0):=by go_simp
 have c5:(w.alloc (.cells #[int i64 site,int i64 seq,int i64 wall,int i64 count,int i64 d0,int i64 d1,int i64 d2,int i64 d3,.slice a l.length cap] 102)).cell? ⟨w.heap.size,5,none⟩=some (int i64 d1):=by go_simp
 have c6:(w.alloc (.cells #[int i64 site,int i64 seq,int i64 wall,int i64 count,int i64 d0,int i64 d1,int i64 d2,int i64 d3,.slice a l.length cap] 102)).cell? ⟨w.heap.size,6,none⟩=some (int i64 d2):=by go_simp
 have i:(w.alloc (.cells #[int i64 site,int i64 seq,int i64 wall,int i64 count,int i64 d0,int i64 d1,int i64 d2,int i64 d3,.slice a l.length cap] 102)).cell? ⟨w.heap.size,7,none⟩=some (int i64 d3):=by go_simp
 have j:(w.alloc (.cells #[int i64 site,int i64 seq,int i64 wall,int i64 count,int i64 d0,int i64 d1,int i64 d2,int i64 d3,.slice a l.length cap] 102)).cell? ⟨w.heap.size,8,none⟩=some (.slice a l.length cap):=by go_simp
 cases p1:inB site 0 3
 ·have e:Hid (qdf site seq wall count d0 d1 d2 d3 l=false):=by show qdf site seq wall count d0 d1 d2 d3 l=false;simp only[qdf,p1,Bool.false_and]
  have h:Hid _:=p1;clear p1;go_enter func252,ntmps252
  go_wp2_with (go_at_call 202;refine(qi9 h.out _).mono ?_;rintro e o ⟨rfl,b⟩;replace c0:=cell_later b c0;replace c1:=cell_later b c1;replace c2:=cell_later b c2;replace c3:=cell_later b c3;replace c4:=cell_later b c4;replace c5:=cell_later b c5;replace c6:=cell_later b c6;replace i:=cell_later b i;replace j:=cell_later b j;replace g:=g.later b)
  go_ret;exact⟨by rw[e.out];rfl,qab (boxed (Below.refl _ _) _) b⟩
 ·have h:Hid _:=p1;by_cases s1:seq<1
  ·have e:Hid (qdf site seq wall count d0 d1 d2 d3 l=false):=by
        have p2:inB seq 1 1099511627776=false:=by simp[inB];omega
        show qdf site seq wall count d0 d1 d2 d3 l=false;simp only[qdf,p2,Bool.and_false,Bool.false_and]
   clear p1;go_enter func252,ntmps252
   go_wp2_with (go_at_call 202;refine(qi9 h.out _).mono ?_;rintro e o ⟨rfl,b⟩;replace c0:=cell_later b c0;replace c1:=cell_later b c1;replace c2:=cell_later b c2;replace c3:=cell_later b c3;replace c4:=cell_later b c4;replace c5:=cell_later b c5;replace c6:=cell_later b c6;replace i:=cell_later b i;replace j:=cell_later b j;replace g:=g.later b)
   go_ret;exact⟨by rw[e.out];rfl,qab (boxed (Below.refl _ _) _) b⟩
  ·by_cases s2:1099511627776<seq
   ·have e:Hid (qdf site seq wall count d0 d1 d2 d3 l=false):=by
     have p2:inB seq 1 1099511627776=false:=by simp[inB];omega
     show qdf site seq wall count d0 d1 d2 d3 l=false;simp only[qdf,p2,Bool.and_false,Bool.false_and]
    clear p1;go_enter func252,ntmps252
    go_wp2_with (go_at_call 202;refine(qi9 h.out _).mono ?_;rintro e o ⟨rfl,b⟩;replace c0:=cell_later b c0;replace c1:=cell_later b c1;replace c2:=cell_later b c2;replace c3:=cell_later b c3;replace c4:=cell_later b c4;replace c5:=cell_later b c5;replace c6:=cell_later b c6;replace i:=cell_later b i;replace j:=cell_later b j;replace g:=g.later b)
    go_ret;exact⟨by rw[e.out];rfl,qab (boxed (Below.refl _ _) _) b⟩
   ·have p2:inB seq 1 1099511627776=true:=by rw[qa5];omega
    have m:Hid _:=p2;clear p2;clear p1;go_enter func252,ntmps252
    go_wp2_with (go_at_call 202;refine(qi9 h.out _).mono ?_;rintro e o ⟨rfl,b⟩;replace c0:=cell_later b c0;replace c1:=cell_later b c1;replace c2:=cell_later b c2;replace c3:=cell_later b c3;replace c4:=cell_later b c4;replace c5:=cell_later b c5;replace c6:=cell_later b c6;replace i:=cell_later b i;replace j:=cell_later b j;replace g:=g.later b)
    have hb:=qab (boxed (Below.refl _ _) _) b;clear b;replace c0:=Later.cell c0;replace c1:=Later.cell c1;replace c2:=Later.cell c2;replace c3:=Later.cell c3;replace c4:=Later.cell c4;replace c5:=Later.cell c5;replace c6:=Later.cell c6;replace i:=Later.cell i;replace j:=Later.cell j;cases p3:(qal wall&&qal count)
    ·have e:Hid (qdf site seq wall count d0 d1 d2 d3 l=false):=by show qdf site seq wall count d0 d1 d2 d3 l=false;simp only[qdf,p3,Bool.and_false,Bool.false_and]
     refine qaa (by kernel_rfl) (by kernel_rfl) ?_
     repeat (go_big_quiet_step (first|(go_at_call 270;with_reducible exact qac (qfk p3 _))|(go_at_call 203;with_reducible exact qac (qcr p4 _))|(go_at_call 241;exact qac (qdb (qaz.later (Later.below _) g)))))
     refine wpQuiet_nil ?_;rintro k ⟨⟨_,d⟩,rfl⟩
     go_wp2
     go_ret;exact⟨by rw[e.out];rfl,qab hb d⟩
    ·cases p4:qay d0 d1 d2 d3
     ·have e:Hid (qdf site seq wall count d0 d1 d2 d3 l=false):=by show qdf site seq wall count d0 d1 d2 d3 l=false;simp only[qdf,p4,Bool.and_false,Bool.false_and]
      refine qaa (by kernel_rfl) (by kernel_rfl) ?_
      repeat (go_big_quiet_step (first|(go_at_call 270;with_reducible exact qac (qfk p3 _))|(go_at_call 203;with_reducible exact qac (qcr p4 _))|(go_at_call 241;exact qac (qdb (qaz.later (Later.below _) g)))))
      refine wpQuiet_nil ?_;rintro k ⟨⟨_,d⟩,rfl⟩
      go_wp2
      go_ret;exact⟨by rw[e.out];rfl,qab hb d⟩
     ·have hs:=qa5.1 h.out
      have q:site=0\/site=1\/site=2\/site=3:=by omega
      clear hs;rcases q with rfl|rfl|rfl|rfl
      ·by_cases c:d0=seq-1
       ·have n:(d0==seq-1)=true:=by simp[c]
        have e:Hid (qdf 0 seq wall count d0 d1 d2 d3 l=qe8 l):=by show qdf 0 seq wall count d0 d1 d2 d3 l=qe8 l;simp only[qdf,h.out,m.out,p3,p4,Bool.and_true,Bool.true_and,qaq];simp[c]
        clear c;refine qaa (by kernel_rfl) (by kernel_rfl) ?_
        repeat (go_big_quiet_step (first|(go_at_call 270;with_reducible exact qac (qfk p3 _))|(go_at_call 203;with_reducible exact qac (qcr p4 _))|(go_at_call 241;exact qac (qdb (qaz.later (Later.below _) g)))))
        refine wpQuiet_nil ?_;rintro k ⟨⟨_,d⟩,rfl⟩
        go_wp2
        go_ret;exact⟨by rw[e.out];rfl,qab hb d⟩
       ·have n:(d0==seq-1)=false:=by simp[c]
        have e:Hid (qdf 0 seq wall count d0 d1 d2 d3 l=false):=by show qdf 0 seq wall count d0 d1 d2 d3 l=false;simp only[qdf,h.out,m.out,p3,p4,Bool.and_true,Bool.true_and,qaq];simp[c]
        clear c;refine qaa (by kernel_rfl) (by kernel_rfl) ?_
        repeat (go_big_quiet_step (first|(go_at_call 270;with_reducible exact qac (qfk p3 _))|(go_at_call 203;with_reducible exact qac (qcr p4 _))|(go_at_call 241;exact qac (qdb (qaz.later (Later.below _) g)))))
        refine wpQuiet_nil ?_;rintro k ⟨⟨_,d⟩,rfl⟩
        go_wp2
        go_ret;exact⟨by rw[e.out];rfl,qab hb d⟩
      ·by_cases c:d1=seq-1
       ·have n:(d1==seq-1)=true:=by simp[c]
        have e:Hid (qdf 1 seq wall count d0 d1 d2 d3 l=qe8 l):=by show qdf 1 seq wall count d0 d1 d2 d3 l=qe8 l;simp only[qdf,h.out,m.out,p3,p4,Bool.and_true,Bool.true_and,qaq];simp[c]
        clear c;refine qaa (by kernel_rfl) (by kernel_rfl) ?_
        repeat (go_big_quiet_step (first|(go_at_call 270;with_reducible exact qac (qfk p3 _))|(go_at_call 203;with_reducible exact qac (qcr p4 _))|(go_at_call 241;exact qac (qdb (qaz.later (Later.below _) g)))))
        refine wpQuiet_nil ?_;rintro k ⟨⟨_,d⟩,rfl⟩
        go_wp2
        go_ret;exact⟨by rw[e.out];rfl,qab hb d⟩
       ·have n:(d1==seq-1)=false:=by simp[c]
        have e:Hid (qdf 1 seq wall count d0 d1 d2 d3 l=false):=by show qdf 1 seq wall count d0 d1 d2 d3 l=false;simp only[qdf,h.out,m.out,p3,p4,Bool.and_true,Bool.true_and,qaq];simp[c]
        clear c;refine qaa (by kernel_rfl) (by kernel_rfl) ?_
        repeat (go_big_quiet_step (first|(go_at_call 270;with_reducible exact qac (qfk p3 _))|(go_at_call 203;with_reducible exact qac (qcr p4 _))|(go_at_call 241;exact qac (qdb (qaz.later (Later.below _) g)))))
        refine wpQuiet_nil ?_;rintro k ⟨⟨_,d⟩,rfl⟩
        go_wp2
        go_ret;exact⟨by rw[e.out];rfl,qab hb d⟩
      ·by_cases c:d2=seq-1
       ·have n:(d2==seq-1)=true:=by simp[c]
        have e:Hid (qdf 2 seq wall count d0 d1 d2 d3 l=qe8 l):=by show qdf 2 seq wall count d0 d1 d2 d3 l=qe8 l;simp only[qdf,h.out,m.out,p3,p4,Bool.and_true,Bool.true_and,qaq];simp[c]
        clear c;refine qaa (by kernel_rfl) (by kernel_rfl) ?_
        repeat (go_big_quiet_step (first|(go_at_call 270;with_reducible exact qac (qfk p3 _))|(go_at_call 203;with_reducible exact qac (qcr p4 _))|(go_at_call 241;exact qac (qdb (qaz.later (Later.below _) g)))))
        refine wpQuiet_nil ?_;rintro k ⟨⟨_,d⟩,rfl⟩
        go_wp2
        go_ret;exact⟨by rw[e.out];rfl,qab hb d⟩
       ·have n:(d2==seq-1)=false:=by simp[c]
        have e:Hid (qdf 2 seq wall count d0 d1 d2 d3 l=false):=by show qdf 2 seq wall count d0 d1 d2 d3 l=false;simp only[qdf,h.out,m.out,p3,p4,Bool.and_true,Bool.true_and,qaq];simp[c]
        clear c;refine qaa (by kernel_rfl) (by kernel_rfl) ?_
        repeat (go_big_quiet_step (first|(go_at_call 270;with_reducible exact qac (qfk p3 _))|(go_at_call 203;with_reducible exact qac (qcr p4 _))|(go_at_call 241;exact qac (qdb (qaz.later (Later.below _) g)))))
        refine wpQuiet_nil ?_;rintro k ⟨⟨_,d⟩,rfl⟩
        go_wp2
        go_ret;exact⟨by rw[e.out];rfl,qab hb d⟩
      ·by_cases c:d3=seq-1
       ·have n:(d3==seq-1)=true:=by simp[c]
        have e:Hid (qdf 3 seq wall count d0 d1 d2 d3 l=qe8 l):=by show qdf 3 seq wall count d0 d1 d2 d3 l=qe8 l;simp only[qdf,h.out,m.out,p3,p4,Bool.and_true,Bool.true_and,qaq];simp[c]
        clear c;refine qaa (by kernel_rfl) (by kernel_rfl) ?_
        repeat (go_big_quiet_step (first|(go_at_call 270;with_reducible exact qac (qfk p3 _))|(go_at_call 203;with_reducible exact qac (qcr p4 _))|(go_at_call 241;exact qac (qdb (qaz.later (Later.below _) g)))))
        refine wpQuiet_nil ?_;rintro k ⟨⟨_,d⟩,rfl⟩
        go_wp2
        go_ret;exact⟨by rw[e.out];rfl,qab hb d⟩
       ·have n:(d3==seq-1)=false:=by simp[c]
        have e:Hid (qdf 3 seq wall count d0 d1 d2 d3 l=false):=by show qdf 3 seq wall count d0 d1 d2 d3 l=false;simp only[qdf,h.out,m.out,p3,p4,Bool.and_true,Bool.true_and,qaq];simp[c]
        clear c;refine qaa (by kernel_rfl) (by kernel_rfl) ?_
        repeat (go_big_quiet_step (first|(go_at_call 270;with_reducible exact qac (qfk p3 _))|(go_at_call 203;with_reducible exact qac (qcr p4 _))|(go_at_call 241;exact qac (qdb (qaz.later (Later.below _) g)))))
        refine wpQuiet_nil ?_;rintro k ⟨⟨_,d⟩,rfl⟩
        go_wp2
        go_ret;exact⟨by rw[e.out];rfl,qab hb d⟩
theorem qgf {site seq wall count d0 d1 d2 d3:Int} {a:Option Addr} {cap:Nat} {l:List Wr} {w:World} (b:qaz w a cap l) (h:qdf site seq wall count d0 d1 d2 d3 l=v):
 Calls prog 252 #[.agg #[int i64 site,int i64 seq,int i64 wall,int i64 count,int i64 d0,int i64 d1,int i64 d2,int i64 d3,.slice a l.length cap]] w λe w'=>e=.returned (.bool v)/\Below w.heap.size w w':=by
 subst h;exact qwn site seq wall count d0 d1 d2 d3 a cap l w b
end
section
open Go.Value Go.IntKind Go.RowKit
def ja2 (w:World) (L:List TxM) (v:Value) (w':World):Prop:=∃kept:List TxM,L.map (·.t)=kept.map (·.t)/\(∃B,w.heap.size<=B/\w'.ownsRow B 102 9 v kept.length (qfi kept))/\(∀m∈kept,qaz w' m.wa m.wc m.t.ws/\∀j,m.blk j->w.heap.size<=j)/\Below w.heap.size w w'
theorem qvt {b:Nat} {lv:Value} {bm:Nat} {F:Nat->Prop} {S:qaf} {log waits:List TxM} (d a l n:Int) (w:World) (h:qd0 w b lv bm F S log waits) (hs:∀m∈log,(0<=m.t.site/\m.t.site<=3)/\1<=m.t.ws.length/\m.t.ws.length<=5) (hl:log.length<=1000):
 Calls Tryz.prog 258 #[.pointer (some ⟨b,0,none⟩),.agg #[int i64 d,int i64 a,int i64 l,int i64 n]] w λe w'=>
  ∃v,e=.returned v/\ja2 w (log.filter (qgl d a l n)) v w':=by
 obtain⟨la,lc,rfl,P⟩:=qbl h.rlog;have hc1:=P.len;have hc2:=P.cap;have o:=qa9.new w 77 d a l n;have hb:=boxed (Below.refl _ w) (.cells #[int i64 d,int i64 a,int i64 l,int i64 n] 77);have s7:=cell_later hb (h.box.cell 7 _ rfl);have HH:Hid _:=h;have HS:Hid _:=hs;clear h hs;go_enter Tryz.func258,Tryz.ntmps258
 go_wp2_with fail
 obtain⟨W,hWW⟩:∃W,w.alloc (.cells #[int i64 d,int i64 a,int i64 l,int i64 n] 77)=W:=⟨_,rfl⟩;rw[hWW]at o hb s7 ⊢;clear hWW s7
 go_loopw [5,13] (λsl iv wr=>∃(k:Nat) (z:Int) (kept:List TxM) (s:Value),s=sl/\k<=log.length/\z=k/\iv=int i64 z/\((log.take k).filter (qgl d a l n)).map (·.t)=kept.map (·.t)/\wr.ownsRow (w.heap.size+1) 102 9 s kept.length (qfi kept)/\Hid (∀m∈kept,qaz wr m.wa m.wc m.t.ws/\∀j,m.blk j->s.ownBlock≠some j/\w.heap.size<=j)/\qa9 wr w.heap.size d a l n/\Below w.heap.size w wr) (λ_ i _=>log.length-(intOf i).toNat)
 case atStart=>exact⟨0,0,[],_,rfl,by omega,rfl,rfl,by simp,World.ownsRow_nil _ _ _ _,(λm x=>(by cases x)),o,hb⟩
 case round=>
  clear o hb;obtain⟨k,z,kept,s,hsl,hk,Q,rfl,E,p,D,o,hb⟩:=hrel;subst hsl;have HZ:Hid _:=Q;by_cases R:k<log.length
  ·have g1:z<(log.length:Int):=by omega
   have g2:z.toNat=k:=by omega
   have g3:0<=z:=by omega
   have hk6:kept.length<=1000:=by
        have a0:=congrArg List.length E;simp only[List.length_map]at a0;have a1:=List.length_filter_le (qgl d a l n) (log.take k);have a2:=List.length_take_le k log;omega
   obtain⟨M,N,hwa,hcc⟩:∃M N,la=some ⟨M,N,none⟩/\∀i m r u,log[i]?=some m->(txC m)[r]?=some u->w.cell? ⟨M,N+(i*9+r),none⟩=some u:=by
        rcases P.held with e|e
        ·rw[e]at R;simp at R
        ·exact e
   obtain⟨⟨⟨site,seq,wall,count,d0,d1,d2,d3,ws⟩,B,C⟩,H⟩:∃m,log[k]?=some m:=⟨log[k],List.getElem?_eq_getElem R⟩;obtain⟨⟨hs0,hs1⟩,U,V⟩:=HS.out _ (List.mem_of_getElem? H);simp only at hs0 hs1 U V;have HL5:Hid (1<=ws.length/\ws.length<=5):=⟨U,V⟩;have HWX:Hid _:=(HH.out.hold _ (List.mem_append.2 (.inl (List.mem_of_getElem? H)))).1;clear U V;have HX:Hid _:=H;have HKP:Hid _:=E;have y:=λr u (hu:(txC ⟨⟨site,seq,wall,count,d0,d1,d2,d3,ws⟩,B,C⟩)[r]?=some u)=>(show wr.cell? ⟨M,N+k*9+r,none⟩=some u by rw[Nat.add_assoc];exact cell_later hb (hcc k _ r u H hu));have x0:=y 0 _ rfl;have x1:=y 1 _ rfl;have x2:=y 2 _ rfl;have x3:=y 3 _ rfl;have x4:=y 4 _ rfl;have x5:=y 5 _ rfl;have x6:=y 6 _ rfl;have x7:=y 7 _ rfl;have x8:=y 8 _ rfl;rw[Nat.add_zero]at x0;rw[hwa];clear y hcc H E Q;replace o:=o.boxed (.cells #[int i64 site,int i64 seq,int i64 wall,int i64 count,int i64 d0,int i64 d1,int i64 d2,int i64 d3,.slice B ws.length C] 102);replace p:=p.alloc (.cells #[int i64 site,int i64 seq,int i64 wall,int i64 count,int i64 d0,int i64 d1,int i64 d2,int i64 d3,.slice B ws.length C] 102);replace hb:=boxed hb (.cells #[int i64 site,int i64 seq,int i64 wall,int i64 count,int i64 d0,int i64 d1,int i64 d2,int i64 d3,.slice B ws.length C] 102);have I:=qag.new (w:=wr) (T:=102) [int i64 site,int i64 seq,int i64 wall,int i64 count,int i64 d0,int i64 d1,int i64 d2,int i64 d3,.slice B ws.length C] rfl;have X:=Later.cell (I.cell 0 _ rfl);have Y:=Later.cell (I.cell 1 _ rfl);have va:=Later.cell (qoz o hs0 hs1);have KE:Hid (qgl d a l n ⟨⟨site,seq,wall,count,d0,d1,d2,d3,ws⟩,B,C⟩=decide (qaq site d a l n<seq)):=rfl
   go_wp2_with fail
   clear x0 x1 x2 x3 x4 x5 x6 x7 x8;refine qaa (by kernel_rfl) (by kernel_rfl) ?_
   repeat (go_big_quiet_step (first|rfl|fail))
   refine wpQuiet_nil ?_;rintro J ⟨⟨_,G⟩,rfl⟩;replace o:=o.later G;replace I:=I.later G;replace p:=qad p (λj c=>G.block j (p.lt j c).2);replace hb:=qab hb G;replace D:Hid (∀m∈kept,qaz J m.wa m.wc m.t.ws/\∀j,m.blk j->s.ownBlock≠some j/\w.heap.size<=j):=λm x=>⟨((D.out m x).1.later (boxed (Below.refl _ wr) _)).later G,(D.out m x).2⟩;clear G X Y va;cases hd:decide (qaq site d a l n<seq)
   ·have Z:Hid (((log.take (k+1)).filter (qgl d a l n)).map (·.t)=kept.map (·.t)):=by
     have e:qgl d a l n ⟨⟨site,seq,wall,count,d0,d1,d2,d3,ws⟩,B,C⟩=false:=by rw[KE.out];exact hd
     show ((log.take (k+1)).filter (qgl d a l n)).map (·.t)=kept.map (·.t);rw[List.take_add_one,HX.out,List.filter_append,List.map_append,HKP.out];simp[e]
    clear hd
    go_wp2_with fail
    go_roundw
    case rel=>exact⟨k+1,z+1,kept,_,rfl,by omega,by have:=HZ.out;omega,by go_num,Z.out,p,D,o,hb⟩
    case measure=>simp[intOf];omega
   ·have Z:Hid (((log.take (k+1)).filter (qgl d a l n)).map (·.t)=kept.map (·.t)++[⟨site,seq,wall,count,d0,d1,d2,d3,ws⟩]):=by
     have e:qgl d a l n ⟨⟨site,seq,wall,count,d0,d1,d2,d3,ws⟩,B,C⟩=true:=by rw[KE.out];exact hd
     show ((log.take (k+1)).filter (qgl d a l n)).map (·.t)=_;rw[List.take_add_one,HX.out,List.filter_append,List.map_append,HKP.out];simp[e]
    obtain⟨X,Y,y2,y3,y4,y5,y6,y7,y8⟩:=I.c9;obtain⟨i0,hi,hz0,hz1,hz2⟩:=info_parts qsz
    have hsz5:w.heap.size+1<=J.heap.size:=by have:=o.lt;omega
    have HOLD:Hid (∀j,s.ownBlock=some j->j<J.heap.size):=λj c=>(p.lt j c).2;have CP:=qib ⟨⟨site,seq,wall,count,d0,d1,d2,d3,ws⟩,B,C⟩ J (HWX.out.later hb) HL5.out.1 (by have:=HL5.out;simp only;omega);simp only[txV]at CP;clear hd
    go_wp2_with fail
    refine CP.mono ?_;rintro e K ⟨m2,hm2,rfl,aa,ab,L⟩;obtain⟨t2,a2,c2⟩:=m2;simp only at hm2 aa;subst hm2;simp only[txV];replace o:=o.later L;replace p:=qad p (λj c=>L.block j (p.lt j c).2)
    have HO5:Hid (∀j,s.ownBlock=some j->j<J.heap.size):=λj c=>by
     have:=(p.lt j c).1;exact HOLD.out j c
    replace hb:=qab hb L
    have HW6:Hid (∀m∈kept++[⟨⟨site,seq,wall,count,d0,d1,d2,d3,ws⟩,a2,c2⟩],qaz K m.wa m.wc m.t.ws/\∀j,m.blk j->s.ownBlock≠some j/\w.heap.size<=j):=λm x=>by
     rcases List.mem_append.1 x with a|a
     ·exact⟨(D.out m a).1.later L,(D.out m a).2⟩
     ·rw[List.mem_singleton.1 a];refine⟨aa,λj c=>⟨λe=>?_,?_⟩⟩
      ·have O:=ab j c;have q2:=HO5.out j e;omega
      ·have O:=ab j c;omega
    have hsz6:w.heap.size+1<=K.heap.size:=by have:=o.lt;omega
    have HS6:Hid _:=hsz6;clear L ab aa X Y y2 y3 y4 y5 y6 y7 y8 hsz5
    go_wp2_with (at_builtin;refine wpList_append_lies _ rfl (.tmp 24) (.tmp 27) 80 rfl (w.heap.size+1) 102 i0 (.agg #[int i64 0,int i64 0,int i64 0,int i64 0,int i64 0,int i64 0,int i64 0,int i64 0,.slice none 0 0]) 9 88 Tryz.underlying80 hi hz0 hz1 hz2 rfl (by decide) s kept.length (qfi kept) rfl (p.alloc _) ⟨K.heap.size,0,none⟩ 1 1 (txC ⟨⟨site,seq,wall,count,d0,d1,d2,d3,ws⟩,a2,c2⟩) rfl rfl (World.news_of_block (heap_alloc_new K (.cells #[int i64 site,int i64 seq,int i64 wall,int i64 count,int i64 d0,int i64 d1,int i64 d2,int i64 d3,.slice a2 ws.length c2] 102))) (qk5 _) (by decide) (by simp only[maxLen];omega) (by omega) (by simp;omega) _ rfl ?_;intro g cap9 wE ownE ac egE ltE)
    have rowsg:∀j,s.ownBlock=some j->w.heap.size+1<=j:=λj c=>(p.lt j c).1;have RAE:=(o.boxed (.cells #[int i64 site,int i64 seq,int i64 wall,int i64 count,int i64 d0,int i64 d1,int i64 d2,int i64 d3,.slice a2 ws.length c2] 102)).grown4 ac (λe=>by have:=rowsg _ e.symm;omega);have hbE:=(boxed hb (.cells #[int i64 site,int i64 seq,int i64 wall,int i64 count,int i64 d0,int i64 d1,int i64 d2,int i64 d3,.slice a2 ws.length c2] 102)).grown ac (by have:=hb.size;simp;omega) (λj c=>by have:=rowsg j c;omega)
    have HWE:Hid (∀m∈kept++[⟨⟨site,seq,wall,count,d0,d1,d2,d3,ws⟩,a2,c2⟩],qaz wE m.wa m.wc m.t.ws/\∀j,m.blk j->(Value.slice (some ⟨g,0,none⟩) (kept.length+1) cap9).ownBlock≠some j/\w.heap.size<=j):=λm x=>by
     have q:=HW6.out m x;have O:=q.1.later (boxed (Below.refl _ K) (.cells #[int i64 site,int i64 seq,int i64 wall,int i64 count,int i64 d0,int i64 d1,int i64 d2,int i64 d3,.slice a2 ws.length c2] 102));refine⟨O.kept (λj c=>ac.block j (O.blk_lt j c) (λe=>(q.2 j c).1 e.symm)),λj c=>⟨λe=>?_,(q.2 j c).2⟩⟩
     have eg:g=j:=by simpa[Value.ownBlock]using e
     rcases egE with a|a
     ·exact(q.2 j c).1 (by rw[a,eg])
     ·have:=q.1.blk_lt j c;simp at a;omega
    go_roundw
    case rel=>exact⟨k+1,z+1,kept++[⟨⟨site,seq,wall,count,d0,d1,d2,d3,ws⟩,a2,c2⟩],_,rfl,by omega,by have:=HZ.out;omega,by go_num,by rw[List.map_append];exact Z.out,by rw[qlp,List.length_append];exact ownE,HWE,RAE,hbE⟩
    case measure=>simp[intOf];omega
  ·have g1:¬z<(log.length:Int):=by omega
   obtain rfl:k=log.length:=by omega
   rw[List.take_length]at E;have HKF:Hid _:=E;clear Q E
   go_wp2_with fail
   go_ret;exact⟨s,rfl,kept,HKF.out,⟨_,Nat.le_succ _,p⟩,λm x=>⟨(D.out m x).1,λj c=>((D.out m x).2 j c).2⟩,hb⟩
end
section
open Go.RowKit
variable {i:Nat} {p:qnm}
section
variable {w w':World} {n o:Nat} {ps ps':Nat->qnm} {Gs:Nat->Nat->Prop} {X:Nat->Prop}
theorem qci.stepG (h:qci w n ps Gs X o NoY) (hi:i<n) (y:qg0 p w (Gs i) w') (z:ps' i=p) (A:∀j,j<n->j≠i->ps' j=ps j):∃u,qci w' n ps' u X o NoY/\(∀j k,u j k->Gs j k\/w.heap.size<=k)/\qba X w w'/\qae (Gs i) w w':=by
 obtain⟨v,p1,p2,f⟩:=y;refine⟨λj=>if j=i then v else Gs j,⟨λj m=>?_,λa b k t hb x c l=>?_,λk c=>⟨Nat.lt_of_lt_of_le (h.free k c).1 f.size,λj m r=>?_⟩,λk c=>c.elim⟩,λj k c=>?_,⟨f.os,f.tape,f.output,f.size,λk c=>f.block k (h.free k c).1 (λe=>(h.free k c).2 i hi e)⟩,f⟩
 ·by_cases d:j=i
  ·rw[if_pos d,d,z];exact p1
  ·rw[if_neg d,A j m d];exact(ps j).kept _ _ _ (h.is j m) (λk c=>f.block k ((ps j).lt _ _ (h.is j m) k c) (λe=>h.apart j i k m hi d c e)) f.size
 ·by_cases s:a=i
  ·rw[if_pos s]at c;have q:b≠i:=λe=>x (s.trans e.symm);rw[if_neg q]at l;rcases p2 k c with g|g
   ·exact h.apart i b k hi hb (Ne.symm q) g l
   ·have:=(ps b).lt _ _ (h.is b hb) k l;omega
  ·rw[if_neg s]at c;by_cases q:b=i
   ·rw[if_pos q]at l;rcases p2 k l with g|g
    ·exact h.apart a i k t hi s c g
    ·have:=(ps a).lt _ _ (h.is a t) k c;omega
   ·rw[if_neg q]at l;exact h.apart a b k t hb x c l
 ·by_cases d:j=i
  ·rw[if_pos d]at r;rcases p2 k r with g|g
   ·exact(h.free k c).2 i hi g
   ·have:=(h.free k c).1;omega
  ·rw[if_neg d]at r;exact(h.free k c).2 j m r
 ·have c:(if j=i then v else Gs j) k:=c;by_cases d:j=i
  ·rw[if_pos d]at c;rw[d];exact p2 k c
  ·rw[if_neg d]at c;exact .inl c
theorem qci.step2G (h:qci w n ps Gs X o NoY) {j:Nat} (hi:i<n) (z:j<n) {q:qnm} (I:qki p q w (Gs i) (Gs j) NoY w') (J:ps' i=p) (K:ps' j=q) (L:∀m,m<n->m≠i->m≠j->ps' m=ps m):∃G,qci w' n ps' G X o NoY/\(∀m k,G m k->Gs m k\/w.heap.size<=k)/\qba X w w'/\qae (λk=>Gs i k\/Gs j k) w w':=by
 obtain⟨B,C,p1,M,p2,D,H,_,t⟩:=I;refine⟨λm=>if m=i then B else if m=j then C else Gs m,⟨λm l=>?_,λa b k E hb F c d=>?_,λk c=>⟨Nat.lt_of_lt_of_le (h.free k c).1 t.size,λm l r=>?_⟩,λk c=>c.elim⟩,λm k c=>?_,⟨t.os,t.tape,t.output,t.size,λk c=>t.block k (h.free k c).1 (λe=>e.elim ((h.free k c).2 i hi) ((h.free k c).2 j z))⟩,t⟩
 ·by_cases g1:m=i
  ·rw[if_pos g1,g1,J];exact p1
  ·by_cases g:m=j
   ·rw[if_neg g1,if_pos g,g,K];exact M
   ·rw[if_neg g1,if_neg g,L m l g1 g]
    exact(ps m).kept _ _ _ (h.is m l) (λk c=>t.block k ((ps m).lt _ _ (h.is m l) k c) (λe=>by
     rcases e with e|e
     ·exact h.apart m i k l hi g1 c e
     ·exact h.apart m j k l z g c e)) t.size
 ·have A:∀m,m<n->m≠i->m≠j->Gs m k->¬B k/\¬C k:=λm l g1 g r=>by
   have lt:=(ps m).lt _ _ (h.is m l) k r
   constructor
   ·intro e;rcases p2 k e with s|s
    ·exact h.apart m i k l hi g1 r s
    ·omega
   ·intro e;rcases D k e with s|s
    ·exact h.apart m j k l z g r s
    ·omega
  by_cases x:a=i
  ·rw[if_pos x]at c;have u:b≠i:=λe=>F (x.trans e.symm);rw[if_neg u]at d;by_cases v:b=j
   ·rw[if_pos v]at d;exact H k c d
   ·rw[if_neg v]at d;exact(A b hb u v d).1 c
  ·rw[if_neg x]at c;by_cases y:a=j
   ·rw[if_pos y]at c;have v:b≠j:=λe=>F (y.trans e.symm);by_cases u:b=i
    ·rw[if_pos u]at d;exact H k d c
    ·rw[if_neg u,if_neg v]at d;exact(A b hb u v d).2 c
   ·rw[if_neg y]at c;by_cases u:b=i
    ·rw[if_pos u]at d;exact(A a E x y c).1 d
    ·rw[if_neg u]at d;by_cases v:b=j
     ·rw[if_pos v]at d;exact(A a E x y c).2 d
     ·rw[if_neg v]at d;exact h.apart a b k E hb F c d
 ·have f:=h.free k c;by_cases g1:m=i
  ·rw[if_pos g1]at r;rcases p2 k r with s|s
   ·exact f.2 i hi s
   ·have:=f.1;omega
  ·rw[if_neg g1]at r;by_cases g:m=j
   ·rw[if_pos g]at r;rcases D k r with s|s
    ·exact f.2 j z s
    ·have:=f.1;omega
   ·rw[if_neg g]at r;exact f.2 m l r
 ·have c:(if m=i then B else if m=j then C else Gs m) k:=c;by_cases g1:m=i
  ·rw[if_pos g1]at c;rw[g1];exact p2 k c
  ·rw[if_neg g1]at c;by_cases g:m=j
   ·rw[if_pos g]at c;rw[g];exact D k c
   ·rw[if_neg g]at c;exact .inl c
theorem qci.to {X':Nat->Prop} (h:qci w n ps Gs X o NoY) (d:∀j k,j<n->Gs j k->w'.heap[k]?=w.heap[k]?) (hs:w.heap.size<=w'.heap.size) (b:∀k,X' k->(X k\/w.heap.size<=k)/\k<w'.heap.size):qci w' n ps Gs X' o NoY:=by
 refine⟨λj a=>(ps j).kept _ _ _ (h.is j a) (λk e=>d j k a e) hs,h.apart,λk e=>⟨(b k e).2,λj a c=>?_⟩,λk e=>e.elim⟩;rcases(b k e).1 with q|q
 ·exact(h.free k q).2 j a c
 ·have:=(ps j).lt _ _ (h.is j a) k c;omega
end
end
section
abbrev qff (f:Nat) (n:Int):List UInt8:=toL (qi7 f n)
variable {f:Nat} {n:Int}
theorem qsj (h:n<128):qff f n=[UInt8.ofNat n.toNat]:=by
 show toL (qi7 f n)=_;rw[qwp h];rfl
theorem q3g (h:¬n<128):qff (f+1) n=UInt8.ofNat (n%128+128).toNat::qff f (n/128):=by
 show toL (qi7 (f+1) n)=_;rw[qvg h,qj3];rfl
def qfj:Nat->List UInt8->Option (Int×List UInt8)
 |_,[]=>none
 |0,c::r=>if c.toNat<128 then some (c.toNat,r)else none
 |f+1,c::r=>if c.toNat<128 then some (c.toNat,r)else
  match qfj f r with
  |none=>none
  |some (n,r')=>if n=0 then none else some ((c.toNat:Int)-128+128*n,r')
theorem q97 (c:0<=n) (d:n<256):((UInt8.ofNat n.toNat).toNat:Int)=n:=by
 rw[UInt8.toNat_ofNat',Nat.mod_eq_of_lt (by omega),Int.toNat_of_nonneg c]
theorem qyl:∀(f:Nat) (n:Int) (r:List UInt8),0<=n->n<128^(f+1)->qfj f (qff f n++r)=some (n,r)
 |0,n,r,h0,h1=>by
  have c:n<128:=by simpa using h1
  have e:=q97 h0 (by omega);rw[qsj c,List.singleton_append];unfold qfj;rw[if_pos (by omega),e]
 |f+1,n,r,h0,h1=>by
  by_cases h:n<128
  ·have e:=q97 h0 (by omega);rw[qsj h,List.singleton_append];unfold qfj;rw[if_pos (by omega),e]
  ·have d:(128:Int)^(f+1+1)=128^(f+1)*128:=Int.pow_succ 128 (f+1);rw[d]at h1;have e:=q97 (n:=n%128+128) (by omega) (by omega);rw[q3g h,List.cons_append];unfold qfj;rw[if_neg (by omega),qyl f (n/128) r (by omega) (by omega)];simp only;rw[if_neg (by omega),e]
   congr 2
   omega
theorem qn3:∀(f:Nat) (L:List UInt8) (n:Int) (r:List UInt8),qfj f L=some (n,r)->(0<=n/\n<128^(f+1))/\L=qff f n++r
 |0,[],n,r,h=>by simp[qfj]at h
 |f+1,[],n,r,h=>by simp[qfj]at h
 |0,c::l,n,r,h=>by
  unfold qfj at h;split at h
  ·injection h with h;injection h with h1 h2;subst h1 h2;refine⟨⟨by omega,by simp;omega⟩,?_⟩;rw[qsj (by omega)];simp
  ·cases h
 |f+1,c::l,n,r,h=>by
  have d:(128:Int)^(f+1+1)=128^(f+1)*128:=Int.pow_succ 128 (f+1);have k:(1:Int)<=128^(f+1):=Int.pow_pos (by decide);unfold qfj at h;split at h
  ·injection h with h;injection h with h1 h2;subst h1 h2;refine⟨⟨by omega,by rw[d];omega⟩,?_⟩;rw[qsj (by omega)];simp
  ·cases e:qfj f l with
   |none=>rw[e]at h;cases h
   |some y=>
    obtain⟨m,g⟩:=y;rw[e]at h;simp only at h;split at h
    ·cases h
    ·injection h with h;injection h with h1 h2;subst h2;obtain⟨⟨o,p⟩,i⟩:=qn3 f l m g e;have s:=c.toNat_lt
     have q:n/128=m:=by omega
     have j:n%128+128=c.toNat:=by omega
     refine⟨⟨by omega,by rw[d];omega⟩,?_⟩;rw[q3g (by omega),q,j,i];simp
theorem jd0:(128:Int)^(5+1)=4398046511104:=by decide
variable {a b:List UInt8}
theorem qb0 {m:Int} (h:qff 5 n++a=qff 5 m++b) (d:0<=n/\n<=1099511627776) (e:0<=m/\m<=1099511627776):n=m/\a=b:=by
 have c:=qyl 5 n a d.1 (by rw[jd0];omega);have g:=qyl 5 m b e.1 (by rw[jd0];omega);rw[h,g]at c;injection c with c;injection c with e3 e4;exact⟨e3.symm,e4.symm⟩
def wrL (x:Wr):List UInt8:=qff 5 x.key++(qff 5 (if x.gone then 1 else 0)++(qff 5 (x.data.size:Int)++toL x.data))
def qpp (l:List Wr):List UInt8:=l.flatMap wrL
theorem q8s (g:Bool):toL (q4n g)=qff 5 (if g then 1 else 0):=by cases g<;>rfl
theorem q3q (s:ByteArray) (x:Wr):toL (stepS s x)=toL s++wrL x:=by
 simp only[stepS,wrL,qj3,q8s,List.append_assoc]
theorem jcd (s:ByteArray) (l:List Wr):toL (wrS s l)=toL s++qpp l:=by
 induction l generalizing s with
 |nil=>simp[wrS,qpp]
 |cons x l ih=>
  have e:=ih (stepS s x);rw[q3q]at e;show toL (wrS (stepS s x) l)=_;rw[e];simp[qpp]
def qve (site seq wall count d0 d1 d2 d3 n:Int) (r:List UInt8):List UInt8:=116::(qff 5 site++(qff 5 seq++(qff 5 wall++(qff 5 count++(qff 5 d0++(qff 5 d1++(qff 5 d2++(qff 5 d3++(qff 5 n++r)))))))))
theorem qm4 (site seq wall count d0 d1 d2 d3:Int) (l:List Wr):toL (txS site seq wall count d0 d1 d2 d3 l)=qve site seq wall count d0 d1 d2 d3 l.length (qpp l):=by
 unfold txS;rw[jcd];have z:toL (⟨#[116]⟩:ByteArray)=[116]:=rfl;simp only[quj,qve,qj3,List.append_assoc,z,List.cons_append,List.nil_append]
def ja7 (site a0 a1 a2 a3:Int) (r:List UInt8):List UInt8:=97::(qff 5 site++(qff 5 a0++(qff 5 a1++(qff 5 a2++(qff 5 a3++r)))))
theorem qjw (site a0 a1 a2 a3:Int):toL (jcq site a0 a1 a2 a3)=ja7 site a0 a1 a2 a3 []:=by
 have z:toL (⟨#[97]⟩:ByteArray)=[97]:=rfl;simp only[jcq,ja7,qj3,List.append_assoc,z,List.cons_append,List.nil_append,List.append_nil]
structure TxV where
 site:Int
 seq:Int
 wall:Int
 count:Int
 d0:Int
 d1:Int
 d2:Int
 d3:Int
 l:List Wr
def TxV.ok (x:TxV):Bool:=qdf x.site x.seq x.wall x.count x.d0 x.d1 x.d2 x.d3 x.l
def TxV.bytes (x:TxV):ByteArray:=txS x.site x.seq x.wall x.count x.d0 x.d1 x.d2 x.d3 x.l
def qv3 (L:List UInt8) (x:TxV):Prop:=x.ok=true/\toL x.bytes=L
theorem jcu {x y:Wr} (h:wrL x++a=wrL y++b) (j:0<=x.key/\x.key<=7/\x.data.size<=12) (l:0<=y.key/\y.key<=7/\y.data.size<=12):x=y/\a=b:=by
 simp only[wrL,List.append_assoc]at h;obtain⟨e,h⟩:=qb0 h ⟨j.1,by omega⟩ ⟨l.1,by omega⟩;obtain⟨c,h⟩:=qb0 h (by cases x.gone<;>decide) (by cases y.gone<;>decide);obtain⟨p,h⟩:=qb0 h ⟨by omega,by omega⟩ ⟨by omega,by omega⟩;obtain⟨i,m⟩:=List.append_inj h (by rw[qbg,qbg];omega);refine⟨?_,m⟩;obtain⟨k,d,g⟩:=x;obtain⟨q,d',g'⟩:=y;simp only at e c i
 have o:g=g':=by
  cases g<;>cases g'
  ·rfl
  ·simp at c
  ·simp at c
  ·rfl
 rw[e,qww i,o]
theorem q5l:∀(l m:List Wr) (a b:List UInt8),l.length=m.length->qpp l++a=qpp m++b->(∀x∈l,0<=x.key/\x.key<=7/\x.data.size<=12)->(∀x∈m,0<=x.key/\x.key<=7/\x.data.size<=12)->l=m/\a=b
 |[],[],a,b,_,h,_,_=>⟨rfl,h⟩
 |[],_::_,_,_,hl,_,_,_=>by simp at hl
 |_::_,[],_,_,hl,_,_,_=>by simp at hl
 |x::l,y::m,a,b,hl,h,hx,hy=>by
  have d:qpp (x::l)++a=wrL x++(qpp l++a):=by simp[qpp]
  have e:qpp (y::m)++b=wrL y++(qpp m++b):=by simp[qpp]
  rw[d,e]at h;obtain⟨g,i⟩:=jcu h (hx x (by simp)) (hy y (by simp));obtain⟨j,k⟩:=q5l l m a b (by simpa using hl) i (λz c=>hx z (by simp[c])) (λz c=>hy z (by simp[c]));exact⟨by rw[g,j],k⟩
theorem qrq {l:List Wr} (h:qe8 l=true):∀x∈l,0<=x.key/\x.key<=7/\x.data.size<=12:=λx g=>by
 obtain⟨i,hi,rfl⟩:=List.mem_iff_getElem.1 g
 have e:qgi l i=l[i]:=by simp[qgi,List.getD,List.getElem?_eq_getElem hi]
 have c:=qsv (ql4 h i hi);have d:=qov (ql4 h i hi);rw[e]at c d;exact⟨c.1,c.2,d⟩
variable {x:TxV}
theorem qnw (h:x.ok=true):(0<=x.site/\x.site<=3)/\(1<=x.seq/\x.seq<=1099511627776)/\(0<=x.wall/\x.wall<=1099511627776)/\(0<=x.count/\x.count<=1099511627776)/\(0<=x.d0/\x.d0<=1099511627776)/\(0<=x.d1/\x.d1<=1099511627776)/\(0<=x.d2/\x.d2<=1099511627776)/\(0<=x.d3/\x.d3<=1099511627776)/\qe8 x.l=true:=by
 simp only[TxV.ok,qdf,Bool.and_eq_true,qa5,qay,qfs]at h;obtain⟨⟨⟨⟨⟨ts,c⟩,d,e⟩,⟨⟨t0,g⟩,t2⟩,t3⟩,_⟩,i⟩:=h;exact⟨ts,c,d,e,t0,g,t2,t3,i⟩
variable {r:List UInt8}
theorem q4f {y:TxV} (q:x.ok=true) (s:y.ok=true) (h:toL x.bytes=toL y.bytes++r):x=y/\r=[]:=by
 obtain⟨a1,a2,a3,a4,a5,t,u,v,a9⟩:=qnw q;obtain⟨w,z,A,B,C,D,E,F,c⟩:=qnw s;have l1:=qln a9;have l2:=qln c;rw[TxV.bytes,TxV.bytes,qm4,qm4]at h;simp only[qve,List.cons_append,List.append_assoc,List.cons.injEq,true_and]at h;obtain⟨d,h⟩:=qb0 h ⟨a1.1,by omega⟩ ⟨w.1,by omega⟩;obtain⟨e,h⟩:=qb0 h ⟨by omega,a2.2⟩ ⟨by omega,z.2⟩;obtain⟨g,h⟩:=qb0 h a3 A;obtain⟨i,h⟩:=qb0 h a4 B;obtain⟨j,h⟩:=qb0 h a5 C;obtain⟨k,h⟩:=qb0 h t D;obtain⟨m,h⟩:=qb0 h u E;obtain⟨o,h⟩:=qb0 h v F;obtain⟨G,h⟩:=qb0 h ⟨by omega,by omega⟩ ⟨by omega,by omega⟩;obtain⟨p,h⟩:=q5l x.l y.l [] r (by omega) (by simpa using h) (qrq a9) (qrq c);refine⟨?_,h.symm⟩;obtain⟨_,_,_,_,_,_,_,_,_⟩:=x;obtain⟨_,_,_,_,_,_,_,_,_⟩:=y;simp only at d e g i j k m o p;subst d e g i j k m o p;rfl
variable {L:List UInt8}
theorem q7k {y:TxV} (c:qv3 L x) (d:qv3 L y):x=y:=(q4f c.1 d.1 (r:=[]) (by rw[c.2,d.2,List.append_nil])).1
structure qqh where
 site:Int
 a0:Int
 a1:Int
 a2:Int
 a3:Int
def qqh.ok (x:qqh):Bool:=inB x.site 0 3&&qay x.a0 x.a1 x.a2 x.a3
def qqh.bytes (x:qqh):ByteArray:=jcq x.site x.a0 x.a1 x.a2 x.a3
def qeb (L:List UInt8) (x:qqh):Prop:=x.ok=true/\toL x.bytes=L
theorem qph {x:qqh} (h:x.ok=true):(0<=x.site/\x.site<=3)/\(0<=x.a0/\x.a0<=1099511627776)/\(0<=x.a1/\x.a1<=1099511627776)/\(0<=x.a2/\x.a2<=1099511627776)/\(0<=x.a3/\x.a3<=1099511627776):=by
 simp only[qqh.ok,Bool.and_eq_true,qa5,qay,qfs]at h;obtain⟨ts,⟨⟨t0,c⟩,t2⟩,t3⟩:=h;exact⟨ts,t0,c,t2,t3⟩
variable {y:qqh}
theorem qy7 {x:qqh} (j:x.ok=true) (k:y.ok=true) (h:toL x.bytes=toL y.bytes++r):x=y/\r=[]:=by
 obtain⟨a1,a2,a3,a4,a5⟩:=qph j;obtain⟨l,m,o,p,q⟩:=qph k;rw[qqh.bytes,qqh.bytes,qjw,qjw]at h;simp only[ja7,List.cons_append,List.append_assoc,List.cons.injEq,true_and,List.nil_append]at h;obtain⟨c,h⟩:=qb0 h ⟨a1.1,by omega⟩ ⟨l.1,by omega⟩;obtain⟨d,h⟩:=qb0 h a2 m;obtain⟨e,h⟩:=qb0 h a3 o;obtain⟨g,h⟩:=qb0 h a4 p;obtain⟨i,h⟩:=qb0 h a5 q;refine⟨?_,h.symm⟩;obtain⟨_,_,_,_,_⟩:=x;obtain⟨_,_,_,_,_⟩:=y;simp only at c d e g i;subst c d e g i;rfl
theorem qwq {x:qqh} (c:qeb L x) (d:qeb L y):x=y:=(qy7 c.1 d.1 (r:=[]) (by rw[c.2,d.2,List.append_nil])).1
theorem q0j (c:qv3 L x) (d:qeb L y):False:=by
 have h:=c.2.trans d.2.symm;rw[TxV.bytes,qqh.bytes,qm4,qjw]at h;simp[qve,ja7]at h
end
section
open Go.RowKit
def qdr (w:World) (rb:Nat) (a:Option Addr) (R:List UInt8):Prop:=
 R=[]\/∃b o,a=some ⟨b,o,none⟩/\b<rb/\∀j u,R[j]?=some u->w.cell? ⟨b,o+j,none⟩=some (.int .u8 u.toNat)
structure Rd (w:World) (rb:Nat) (R:List UInt8) (wrong:Bool):Prop where
 rest:∃a c,w.cell? ⟨rb,0,none⟩=some (.slice a R.length c)/\R.length<=c/\qdr w rb a R
 c1:w.cell? ⟨rb,1,none⟩=some (.bool wrong)
 f0:w.frozen? ⟨rb,0,none⟩=false
 f1:w.frozen? ⟨rb,1,none⟩=false
def jbh (k:Nat) (n:Int):Option (Int×List UInt8)->Option (Int×List UInt8)
 |none=>none
 |some (m,r)=>if 0<k/\m=0 then none else some (n+128^k*m,r)
def q1o (k:Nat) (n:Int) (R:List UInt8):Option (Int×List UInt8):=if 6<=k then none else jbh k n (qfj (5-k) R)
theorem q3c (R:List UInt8):q1o 0 0 R=qfj 5 R:=by
 show jbh 0 0 (qfj 5 R)=_;cases h:qfj 5 R with
 |none=>rfl
 |some x=>
  obtain⟨m,r⟩:=x;simp[jbh]
theorem q8o (n:Int) (R:List UInt8):q1o 6 n R=none:=rfl
theorem q64 (k:Nat) (n:Int):q1o k n []=none:=by
 unfold q1o;split
 ·rfl
 ·cases h:5-k<;>rfl
variable {k:Nat} {n:Int} {c:UInt8} {R:List UInt8}
theorem q5j (j:k<6) (b:¬c.toNat<128):q1o k n (c::R)=q1o (k+1) (n+((c.toNat:Int)-128)*128^k) R:=by
 unfold q1o;rw[if_neg (by omega)];by_cases d:k=5
 ·subst d;show jbh 5 n (if c.toNat<128 then some ((c.toNat:Int),R)else none)=none;rw[if_neg b];rfl
 ·rw[if_neg (by omega)];obtain⟨f,g⟩:∃f,5-k=f+1:=⟨4-k,by omega⟩
  have i:5-(k+1)=f:=by omega
  rw[g,i]
  show jbh k n (if c.toNat<128 then some ((c.toNat:Int),R)else match qfj f R with
   |none=>none
   |some (n,r')=>if n=0 then none else some ((c.toNat:Int)-128+128*n,r'))=_
  rw[if_neg b];cases h:qfj f R with
  |none=>rfl
  |some x=>
   obtain⟨m,r⟩:=x;have l:=(qn3 f R m r h).1.1;by_cases a:m=0
   ·subst a;simp[jbh]
   ·have o:128<=c.toNat:=by omega
    have e:¬((c.toNat:Int)-128+128*m=0):=by omega
    simp only[jbh,if_neg a];rw[if_neg (λx=>e x.2),if_neg (λx=>a x.2)]
    congr 2
    have:(128:Int)^(k+1)=128^k*128:=Int.pow_succ 128 k;rw[this]
    generalize (128:Int)^k=P
    rw[Int.mul_add,Int.mul_comm ((c.toNat:Int)-128) P,Int.add_assoc,Int.mul_assoc]
theorem q5o (b:k<6) (a:c.toNat<128):q1o k n (c::R)=if 0<k/\(c.toNat:Int)=0 then none else some (n+128^k*c.toNat,R):=by
 unfold q1o;rw[if_neg (by omega)]
 have:qfj (5-k) (c::R)=some ((c.toNat:Int),R):=by
  cases h:5-k<;>(unfold qfj;rw[if_pos a])
 rw[this];rfl
theorem qcs (g o:Nat) (w:World) (v:Value):qdw g w (w.setCell ⟨g,o,none⟩ v):=⟨rfl,rfl,rfl,by simp[World.setCell],λk _ a=>Below.heap_setCell w ⟨g,o,none⟩ v k (λe=>a (by rw[e]))⟩
variable {w:World} {rb:Nat}
theorem Rd.put {d:List UInt8} {g:Bool} (h:Rd w rb R g) (a:Option Addr) (n c:Nat) (l:n=d.length) (m:d.length<=c) (f:qdr w rb a d):Rd (w.setCell ⟨rb,0,none⟩ (.slice a n c)) rb d g:=by
 subst l;obtain⟨a0,c0,p,_,_⟩:=h.rest;refine⟨⟨a,c,World.cell?_setCell_same w _ _ p,m,?_⟩,?_,?_,?_⟩
 ·rcases f with f|⟨b,o,e,i,q⟩
  ·exact .inl f
  ·refine .inr ⟨b,o,e,i,λj u r=>?_⟩;rw[World.cell?_setCell_other (h:=λe=>Nat.ne_of_lt i (by injection e with e1 _ _;exact e1.symm))];exact q j u r
 ·rw[World.cell?_setCell_other (h:=λe=>by injection e with _ e2 _;cases e2)];exact h.c1
 ·rw[World.frozen?_setCell];exact h.f0
 ·rw[World.frozen?_setCell];exact h.f1
theorem Rd.bad {f:Bool} (h:Rd w rb R f):Rd (w.setCell ⟨rb,1,none⟩ (.bool true)) rb R true:=by
 obtain⟨a0,c0,g,i,a⟩:=h.rest;refine⟨⟨a0,c0,?_,i,?_⟩,World.cell?_setCell_same w _ _ h.c1,?_,?_⟩
 ·rw[World.cell?_setCell_other (h:=λe=>by injection e with _ e2 _;cases e2)];exact g
 ·rcases a with a|⟨b,o,e,d,l⟩
  ·exact .inl a
  ·refine .inr ⟨b,o,e,d,λj u m=>?_⟩;rw[World.cell?_setCell_other (h:=λe=>Nat.ne_of_lt d (by injection e with e1 _ _;exact e1.symm))];exact l j u m
 ·rw[World.frozen?_setCell];exact h.f0
 ·rw[World.frozen?_setCell];exact h.f1
theorem qdr.drop {b o c:Nat} (d:b<rb) (e:∀j u,R[j]?=some u->w.cell? ⟨b,o+j,none⟩=some (.int .u8 u.toNat)) (f:k<=R.length) (g:R.length<=c):
 qdr w rb (if c=k then some ⟨b,o,none⟩else some ⟨b,o+k,none⟩) (R.drop k):=by
 by_cases h:c=k
 ·exact .inl (List.drop_eq_nil_of_le (by omega))
 ·rw[if_neg h];refine .inr ⟨b,o+k,rfl,d,λj u a=>?_⟩;rw[List.getElem?_drop]at a;rw[Nat.add_assoc];exact e _ _ a
theorem jak (a:k<6):(128:Int)^k<=34359738368:=by
 have:k=0\/k=1\/k=2\/k=3\/k=4\/k=5:=by omega
 rcases this with rfl|rfl|rfl|rfl|rfl|rfl<;>decide
theorem q85 (k:Nat):(2:Int)^(7*(k:Int)).toNat=128^k:=by
 have e:(7*(k:Int)).toNat=7*k:=by omega
 rw[e,Int.pow_mul];rfl
theorem q2p {x P:Int} (b:0<=x) (d:x<=127) (a:0<=P):0<=x*P/\x*P<=127*P:=
 ⟨Int.mul_nonneg b a,Int.mul_le_mul_of_nonneg_right d a⟩
theorem q17 {m z:Int} (f:k<6) (g:z=k) (i:0<=n) (n1:n<128^k):wrap64 (n+wrap64 (m%128*2^(7*z).toNat))=n+m%128*128^k/\0<=n+m%128*128^k/\n+m%128*128^k<128^(k+1):=by
 have h:(128:Int)^(k+1)=128^k*128:=Int.pow_succ 128 k;rw[g,q85,h];have b:=jak f
 have a:(0:Int)<=128^k:=by omega
 revert b a n1
 generalize (128:Int)^k=P
 intro n1 b a;obtain⟨d,e⟩:=q2p (x:=m%128) (by omega) (by omega) a
 revert d e
 generalize m%128*P=Q
 intro d e;unfold wrap64;omega
def qcm (most:Int) (R:List UInt8) (wrong:Bool) (v:Int) (R':List UInt8) (wrong':Bool):Prop:=
 R'.length<=R.length/\((qfj 5 R=some (v,R')/\v<=most/\wrong'=wrong)\/((∀n r,qfj 5 R=some (n,r)->¬n<=most)/\v=0/\wrong'=true))
def ja4 (most:Int) (R:List UInt8) (wrong:Bool) (rb:Nat) (w:World) (v:Int) (w':World):Prop:=∃R' wrong',qcm most R wrong v R' wrong'/\Rd w' rb R' wrong'/\qdw rb w w'
theorem qbi (rb:Nat) (R:List UInt8) (q:Bool) (most:Int) (w:World) (hR:Rd w rb R q):
 Calls Tryz.prog 248 #[.pointer (some ⟨rb,0,none⟩),.int .i64 most] w λe w'=>
  ∃v,e=.returned (.int .i64 v)/\ja4 most R q rb w v w':=by
 go_enter Tryz.func248,Tryz.ntmps248
 go_wp2_with fail
 go_loopw [5,8] (λnv iv wr=>∃(k:Nat) (z n:Int) (g:List UInt8),k<=6/\z=k/\iv=.int .i64 z/\nv=.int .i64 n/\0<=n/\n<128^k/\g.length<=R.length/\qfj 5 R=q1o k n g/\Rd wr rb g q/\qdw rb w wr) (λ_ i _=>6-(intOf i).toNat)
 case atStart=>exact⟨0,0,0,R,by omega,rfl,rfl,rfl,by omega,by decide,by omega,(q3c R).symm,hR,qdw.refl _ _⟩
 case round=>
  obtain⟨k,z,n,g,hk,Q,rfl,rfl,n0,n1,I,S,d,y⟩:=hrel;have B:Hid (qfj 5 R=q1o k n g):=S;clear S;obtain⟨a,c,T,U,hB⟩:=d.rest;have q1:=d.c1;have g0:=d.f0;have g1:=d.f1;by_cases J:k<6
  ·have h1:z<6:=by omega
   have h3:0<=z:=by omega
   have C:Hid (z=k):=Q;clear Q;have N1:Hid (n<128^k):=n1;clear n1;cases g with
   |nil=>
    simp only[List.length_nil]at T;have K:=d.bad
    go_wp2_with fail
    go_ret;exact⟨0,rfl,[],true,⟨by simp,.inr ⟨λn r h=>(by rw[B.out,q64]at h;cases h),rfl,rfl⟩⟩,K,y.trans (qcs _ _ _ _) (.inl rfl)⟩
   |cons ch R''=>
    obtain⟨b,o,rfl,hne,L⟩:∃b o,a=some ⟨b,o,none⟩/\b<rb/\∀j u,(ch::R'')[j]?=some u->wr.cell? ⟨b,o+j,none⟩=some (.int .u8 u.toNat):=by
     rcases hB with h|h
     ·cases h
     ·exact h
    have x0:wr.cell? ⟨b,o,none⟩=some (.int .u8 ch.toNat):=L 0 ch rfl;have M:=qdr.drop (k:=1) hne L (by simp) U;obtain⟨l,ha'⟩:∃l,(if c=1 then some (⟨b,o,none⟩:Addr)else some ⟨b,o+1,none⟩)=l:=⟨_,rfl⟩;rw[ha']at M;have HC:Hid (qdr wr rb l R''):=M;clear M;clear L;have hch:=ch.toNat_lt;obtain⟨m,N⟩:∃m:Int,m=ch.toNat:=⟨_,rfl⟩;rw[<-N]at x0;have D:Hid (m=ch.toNat):=N
    have m0:0<=m:=by omega
    have m1:m<256:=by omega
    clear N;have hlen3:R''.length+1<=R.length:=I;obtain⟨len,F⟩:∃len:Nat,R''.length=len:=⟨_,rfl⟩;rw[List.length_cons,F]at T U;rw[F]at hlen3;have p:Hid (R''.length=len):=F;clear F I;obtain⟨bm,V,O⟩:=q17 (m:=m) J C.out n0 N1.out;obtain⟨v,G⟩:∃v,v=n+m%128*128^k:=⟨_,rfl⟩;rw[<-G]at bm V O;have W:Hid (v=n+m%128*128^k):=G;have B1:Hid (v<128^(k+1)):=O;clear G O;have X:=d.put l len (c-1) p.out.symm (by rw[p.out];omega) HC.out;have t:Hid (qdw rb w (wr.setCell ⟨rb,0,none⟩ (.slice l len (c-1)))):=y.trans (qcs _ _ _ _) (.inl rfl);have H:Hid (Rd (wr.setCell ⟨rb,0,none⟩ (.slice l len (c-1))) rb R'' q):=X;clear X d y;by_cases hm2:128<=m
    ·have E:Hid (qfj 5 R=q1o (k+1) v R''):=by
      have e:m%128=(ch.toNat:Int)-128:=by have:=D.out;omega
      show qfj 5 R=_;rw[B.out,q5j J (by have:=D.out;omega),W.out,e]
     go_wp2_with fail
     go_roundw
     case rel=>exact⟨k+1,z+1,v,R'',by omega,by have:=C.out;omega,rfl,by first|rfl|rw[bm],V,B1.out,by rw[p.out];omega,E.out,H.out,t.out⟩
     case measure=>simp[intOf];omega
    ·have E:Hid (qfj 5 R=if 0<k/\m=0 then none else some (v,R'')):=by
      have e:m%128=m:=by omega
      show qfj 5 R=_;rw[B.out,q5o J (by have:=D.out;omega),W.out,e,D.out,Int.mul_comm (128^k)]
     have Y:=H.out.bad;have Z:Hid (Rd ((wr.setCell ⟨rb,0,none⟩ (.slice l len (c-1))).setCell ⟨rb,1,none⟩ (.bool true)) rb R'' true):=Y;clear Y;by_cases G:most<v
     ·go_wp2_with fail
      go_ret;refine⟨0,rfl,R'',true,⟨by rw[p.out];omega,.inr ⟨λn r h=>?_,rfl,rfl⟩⟩,Z.out,t.out.trans (qcs _ _ _ _) (.inl rfl)⟩;rw[E.out]at h;split at h
      ·cases h
      ·injection h with h;injection h with h1 _;omega
     ·by_cases s:m=0
      ·have e0:(m==0)=true:=by simp[s]
       have P:Hid (m=0):=s;clear s;by_cases hk0:0<z
       ·go_wp2_with fail
        go_ret;refine⟨0,rfl,R'',true,⟨by rw[p.out];omega,.inr ⟨λn r h=>?_,rfl,rfl⟩⟩,Z.out,t.out.trans (qcs _ _ _ _) (.inl rfl)⟩;rw[E.out,if_pos ⟨by have:=C.out;omega,P.out⟩]at h;cases h
       ·go_wp2_with fail
        go_ret;refine⟨v,rfl,R'',q,⟨by rw[p.out];omega,.inl ⟨?_,by omega,rfl⟩⟩,H.out,t.out⟩;rw[E.out,if_neg (λx=>by have:=C.out;have:=x.1;omega)]
      ·have e0:(m==0)=false:=by simp[s]
       have P:Hid (¬m=0):=s;clear s
       go_wp2_with fail
       go_ret;refine⟨v,rfl,R'',q,⟨by rw[p.out];omega,.inl ⟨?_,by omega,rfl⟩⟩,H.out,t.out⟩;rw[E.out,if_neg (λx=>P.out x.2)]
  ·have e:k=6:=by omega
   have K:=d.bad
   go_wp2_with fail
   go_ret;exact⟨0,rfl,g,true,⟨I,.inr ⟨λn r h=>(by rw[B.out,e,q8o]at h;cases h),rfl,rfl⟩⟩,K,y.trans (qcs _ _ _ _) (.inl rfl)⟩
end
section
open Tryz Go.RowKit
def qne (R:List UInt8) (wrong:Bool) (n:Int) (s:ByteArray) (R':List UInt8) (wrong':Bool):Prop:=
 (n<=R.length/\toL s=R.take n.toNat/\R'=R.drop n.toNat/\wrong'=wrong)\/((R.length:Int)<n/\s=⟨#[]⟩/\R'=R/\wrong'=true)
def q6m (R:List UInt8) (wrong:Bool) (n:Int) (rb:Nat) (w:World) (s:ByteArray) (w':World):Prop:=∃R' wrong',qne R wrong n s R' wrong'/\Rd w' rb R' wrong'/\qdw rb w w'
theorem jd1 (a:Option Addr) (c:Nat) (w:World):(convert 30 9 (.slice a 0 c)).run prog w=.ok (.string ⟨#[]⟩) w:=by
 rw[run_convert_bytes_string w 30 9 5 a 0 c underlying30 underlying5 underlying9];cases a with
 |none=>simp[Conv.bytesToString];rfl
 |some a=>simp[Conv.bytesToString,loadCells,loadCellsFrom];rfl
variable {R:List UInt8}
theorem jc6 {w:World} {b o:Nat} (n c:Nat) (i:n<=R.length) (d:∀j u,R[j]?=some u->w.cell? ⟨b,o+j,none⟩=some (.int .u8 u.toNat)):
 (convert 30 9 (.slice (some ⟨b,o,none⟩) n c)).run prog w=.ok (.string ⟨(R.take n).toArray⟩) w:=by
 have f:((R.take n).map λb=>(b.toNat:Int)).length=n:=by simp;omega
 have:=run_convert_bytes_arg (P:=prog) w 30 5 underlying30 underlying5 b o n c ((R.take n).map λb=>(b.toNat:Int)) f (λj g=>by
  have a:j<R.length:=by omega
  rw[d j R[j] (List.getElem?_eq_getElem a)]
  simp[List.getD,List.getElem?_eq_getElem a,List.getElem?_take_of_lt g]) 9 underlying9
 have e:((λn:Int=>UInt8.ofNat n.toNat)∘λb:UInt8=>(b.toNat:Int))=id:=by
  funext b
  simp
 have h:strOfNums ((R.take n).map λb=>(b.toNat:Int))=⟨(R.take n).toArray⟩:=by
  unfold strOfNums;rw[List.map_map,e,List.map_id]
 rw[this,h]
theorem qs5 (j:Nat) (R:List UInt8) (i:Bool) (n:Int) (w:World) (g:Rd w j R i) (H:0<=n) (y:R.length<=1000000):
 Calls prog 275 #[.pointer (some ⟨j,0,none⟩),.int .i64 n] w λe w'=>
  ∃s,e=.returned (.string s)/\q6m R i n j w s w':=by
 obtain⟨a,c,z,v,B⟩:=g.rest;have I:=g.c1;have J:=g.f0;have g1:=g.f1;obtain⟨len,l⟩:∃len,R.length=len:=⟨_,rfl⟩;rw[l]at z v y;have d:Hid _:=l;clear l;by_cases h:(len:Int)<n
 ·have C:=g.bad;go_enter func275,ntmps275
  go_wp2_with fail
  go_ret;exact⟨_,rfl,R,true,.inr ⟨by rw[d.out];exact h,rfl,rfl,rfl⟩,C,qcs _ _ _ _⟩
 ·rcases B with p|⟨b,o,rfl,D,q⟩
  ·obtain rfl:len=0:=by rw[<-d.out,p];rfl
   obtain rfl:n=0:=by omega
   have E:Hid _:=p;clear p;have x:=jd1;have r:Hid _:=g.put a 0 c rfl (by simp) (.inl rfl);go_enter func275,ntmps275
   go_wp2_with fail
   go_ret;exact⟨_,rfl,[],i,.inl ⟨by rw[d.out];decide,rfl,by rw[E.out];rfl,rfl⟩,r.out,qcs _ _ _ _⟩
  ·obtain⟨m,rfl⟩:∃m:Nat,n=m:=⟨n.toNat,by omega⟩;have x:=jc6 (R:=R) m c (by rw[d.out];omega) q;have t:=qdr.drop (k:=m) D q (by rw[d.out];omega) (by rw[d.out];exact v);obtain⟨u,F⟩:∃u,(if c=m then some (⟨b,o,none⟩:Addr)else some ⟨b,o+m,none⟩)=u:=⟨_,rfl⟩;rw[F]at t;obtain⟨s,hs⟩:∃s:ByteArray,s=⟨(R.take m).toArray⟩:=⟨_,rfl⟩;rw[<-hs]at x;have G:Hid _:=hs;clear hs q;have r:Hid _:=g.put u (len-m) (c-m) (by rw[List.length_drop,d.out]) (by rw[List.length_drop,d.out];omega) t;clear t;go_enter func275,ntmps275
   go_wp2_with fail
   go_ret;exact⟨_,rfl,R.drop m,i,.inl ⟨by rw[d.out];omega,by rw[G.out];rfl,rfl,rfl⟩,r.out,qcs _ _ _ _⟩
def q8n (R:List UInt8) (wrong:Bool) (c:UInt8) (rb:Nat) (w w':World):Prop:=∃R' wrong',((wrong'=false↔wrong=false/\R=c::R')/\R'.length<=R.length/\(∀r,R=c::r->R'=r))/\Rd w' rb R' wrong'/\qdw rb w w'
variable {R':List UInt8} {c:UInt8} {s:ByteArray}
theorem qvp {b d:Bool} (h:qne R b 1 s R' d) (hs:toL s=[c]):R=c::R'/\d=b:=by
 rcases h with ⟨f,a,g,i⟩|⟨_,a,_,_⟩
 ·refine⟨?_,i⟩;cases R with
  |nil=>simp at f
  |cons x R=>
   rw[hs]at a
   have e:x=c:=by simpa using a.symm
   rw[g,e];rfl
 ·rw[a]at hs;cases hs
theorem qs7 {a b:Bool} (h:qne R a 1 s R' b) (hs:¬toL s=[c]) (r:List UInt8):¬R=c::r:=by
 intro e;subst e;rcases h with ⟨_,d,_,_⟩|⟨f,_,_,_⟩
 ·exact hs (by rw[d];rfl)
 ·simp at f;omega
theorem take_length {b d:Bool} {n:Int} (h:qne R b n s R' d):R'.length<=R.length:=by
 rcases h with ⟨_,_,a,_⟩|⟨_,_,a,_⟩
 ·rw[a,List.length_drop];omega
 ·rw[a];exact Nat.le_refl _
theorem qyv (b:Nat) (R:List UInt8) (i:Bool) (c:UInt8) (w:World) (p:Rd w b R i) (q:R.length<=1000000):
 Calls prog 247 #[.pointer (some ⟨b,0,none⟩),.string ⟨#[c]⟩] w λe w'=>e=.returned (.tuple #[])/\q8n R i c b w w':=by
 go_enter func247,ntmps247
 go_wp2_with fail
 refine(qs5 b R i 1 w p (by omega) q).mono ?_;rintro e v ⟨s,rfl,R',t,k,d,l⟩;have g1:=d.f1;have x:=d.c1;have g:Hid _:=k;clear k;by_cases hs:toL s=[c]
 ·have es:(s.toList==[c])=true:=by rw[qek,hs];simp
  obtain⟨m,n⟩:=qvp g.out hs;have a:Hid _:=m;have o:Hid _:=n;clear m n hs
  go_wp2_with fail
  go_end0;exact⟨rfl,R',t,⟨⟨λh=>⟨by rw[<-o.out];exact h,a.out⟩,λh=>by rw[o.out];exact h.1⟩,take_length g.out,λr j=>by have:=a.out.symm.trans j;injection this⟩,d,l⟩
 ·have es:(s.toList==[c])=false:=by rw[qek];exact beq_eq_false_iff_ne.2 hs
  have a:Hid (∀r,¬R=c::r):=qs7 g.out hs;have u:=d.bad;clear hs
  go_wp2_with fail
  go_end0;exact⟨rfl,R',true,⟨⟨λh=>(by cases h),λh=>absurd h.2 (a.out _)⟩,take_length g.out,λr j=>absurd j (a.out r)⟩,u,l.trans (qcs _ _ _ _) (.inl rfl)⟩
def qma (R:List UInt8) (wrong:Bool):Bool:=!wrong&&R.isEmpty
theorem qqg (g:Nat) (R:List UInt8) (b:Bool) (w:World) (h:Rd w g R b):
 Calls prog 251 #[.pointer (some ⟨g,0,none⟩)] w λe w'=>e=.returned (.bool (qma R b))/\Below w.heap.size w w':=by
 obtain⟨a,c,d,j,k⟩:=h.rest;have l:=h.c1;cases b
 ·cases R with
  |nil=>
   simp only[List.length_nil]at d;go_enter func251,ntmps251
   go_wp2_with fail
   go_ret;exact⟨rfl,Below.refl _ _⟩
  |cons x R=>
   simp only[List.length_cons]at d;obtain⟨len,i⟩:∃len,R.length=len:=⟨_,rfl⟩;rw[i]at d;have m:((len:Int)+1==0)=false:=beq_eq_false_iff_ne.2 (by omega);go_enter func251,ntmps251
   go_wp2_with fail
   go_ret;exact⟨rfl,Below.refl _ _⟩
 ·go_enter func251,ntmps251
  go_wp2_with fail
  go_ret;exact⟨rfl,Below.refl _ _⟩
end
section
open Go.Value Go.IntKind Go.RowKit
variable {w w':World} {rb:Nat}
theorem qa9.only {b:Nat} {a0 a1 a2 a3:Int} (h:qa9 w b a0 a1 a2 a3) (a:qdw rb w w') (c:b≠rb):qa9 w' b a0 a1 a2 a3:=by
 have e:w'.heap[b]?=w.heap[b]?:=a.block b h.lt (λx=>by injection x with x;exact c x)
 constructor
 ·rw[World.cell?_of_block (w:=w) e];exact h.c0
 ·rw[World.cell?_of_block (w:=w) e];exact h.c1
 ·rw[World.cell?_of_block (w:=w) e];exact h.c2
 ·rw[World.cell?_of_block (w:=w) e];exact h.c3
 ·rw[World.frozen?_of_block (w:=w) e];exact h.f0
 ·rw[World.frozen?_of_block (w:=w) e];exact h.f1
 ·rw[World.frozen?_of_block (w:=w) e];exact h.f2
 ·rw[World.frozen?_of_block (w:=w) e];exact h.f3
variable {R:List UInt8}
theorem Rd.lt {a:Bool} (h:Rd w rb R a):rb<w.heap.size:=World.block_lt_of_cell? _ _ h.c1
theorem Rd.kept {f:Bool} (h:Rd w rb R f) (i:∀k,k<w.heap.size->w'.heap[k]?=w.heap[k]?):Rd w' rb R f:=by
 obtain⟨a,c,m,n,d⟩:=h.rest;have e:=i rb h.lt;refine⟨⟨a,c,by rw[World.cell?_of_block (w:=w) e];exact m,n,?_⟩,by rw[World.cell?_of_block (w:=w) e];exact h.c1,by rw[World.frozen?_of_block (w:=w) e];exact h.f0,by rw[World.frozen?_of_block (w:=w) e];exact h.f1⟩;rcases d with d|⟨b,o,p,q,r⟩
 ·exact .inl d
 ·refine .inr ⟨b,o,p,q,λj u s=>?_⟩;have l:=r j u s;rw[World.cell?_of_block (w:=w) (i b (World.block_lt_of_cell? _ _ l))];exact l
theorem Rd.alloc {a:Bool} (h:Rd w rb R a) (o:Obj):Rd (w.alloc o) rb R a:=h.kept λk b=>Below.heap_alloc w o k b
theorem Rd.far {f:Bool} (h:Rd w rb R f) (p:Addr) (v:Value) (r:rb<p.block):Rd (w.setCell p v) rb R f:=by
 obtain⟨a,c,i,k,d⟩:=h.rest;have e:(w.setCell p v).heap[rb]?=w.heap[rb]?:=Below.heap_setCell w p v rb (by omega);refine⟨⟨a,c,by rw[World.cell?_of_block (w:=w) e];exact i,k,?_⟩,by rw[World.cell?_of_block (w:=w) e];exact h.c1,by rw[World.frozen?_of_block (w:=w) e];exact h.f0,by rw[World.frozen?_of_block (w:=w) e];exact h.f1⟩;rcases d with d|⟨b,o,l,m,n⟩
 ·exact .inl d
 ·refine .inr ⟨b,o,l,m,λj u q=>?_⟩;rw[World.cell?_of_block (w:=w) (Below.heap_setCell w p v b (by omega))];exact n j u q
variable {g:Nat} {w1:World}
theorem qdt {p:Addr} {v:Value} (h:qdw g w w1) (c:w.heap.size<=p.block):qdw g w (w1.setCell p v):=
 ⟨h.os,h.tape,h.output,by simpa[World.setCell]using h.size,λk a b=>(Below.heap_setCell w1 p v k (by omega)).trans (h.block k a b)⟩
theorem qn5 {o:Obj} (h:qdw g w w1):qdw g w (w1.alloc o):=h.trans (g':=g) (qdw.ofBelow (boxed (Below.refl _ _) o)) (.inl rfl)
def jbc (R:List UInt8) (wrong:Bool) (rb:Nat) (w:World) (v0 v1 v2 v3:Int) (w':World):Prop:=
 ∃R0 x0 R1 x1 R2 x2 R3 x3,qcm 1099511627776 R wrong v0 R0 x0/\qcm 1099511627776 R0 x0 v1 R1 x1/\qcm 1099511627776 R1 x1 v2 R2 x2/\qcm 1099511627776 R2 x2 v3 R3 x3/\Rd w' rb R3 x3/\qdw rb w w'
theorem q4v (rb:Nat) (R:List UInt8) (d:Bool) (w:World) (z:Rd w rb R d):
 Calls Tryz.prog 249 #[.pointer (some ⟨rb,0,none⟩)] w λe w'=>
  ∃v0 v1 v2 v3,e=.returned (.agg #[int i64 v0,int i64 v1,int i64 v2,int i64 v3])/\jbc R d rb w v0 v1 v2 v3 w':=by
 have J:=z.lt
 have h:w.heap.size+1≠rb:=by omega
 have i:w.heap.size≠rb:=by omega
 have a:=(qa9.new w 77 0 0 0 0).boxed (.cells #[int i64 0,int i64 0,int i64 0,int i64 0] 77);have RW:qa9 ((w.alloc (.cells #[int i64 0,int i64 0,int i64 0,int i64 0] 77)).alloc (.cells #[int i64 0,int i64 0,int i64 0,int i64 0] 77)) (w.heap.size+1) 0 0 0 0:=qa9.newest (by simp);have b:qdw rb w ((w.alloc (.cells #[int i64 0,int i64 0,int i64 0,int i64 0] 77)).alloc (.cells #[int i64 0,int i64 0,int i64 0,int i64 0] 77)):=qn5 (qn5 (qdw.refl _ _));go_enter Tryz.func249,Tryz.ntmps249
 go_wp2_with fail
 refine wp_loop_rounds 5 ?_;rw[rounds_succ]
 go_wp2_with fail
 refine(qbi rb R d 1099511627776 _ ((z.alloc _).alloc _)).mono ?_;rintro e w1 ⟨v0,rfl,j,x0,B,s,k⟩;have D:Hid (qcm 1099511627776 R d v0 j x0):=B;replace RW:=RW.only k h;replace a:=a.only k i;replace b:=b.trans k (.inl rfl);clear B k;replace s:=s.far ⟨w.heap.size+1,0,none⟩ (int i64 v0) (by show rb<w.heap.size+1;omega);replace b:=qdt (p:=⟨w.heap.size+1,0,none⟩) (v:=int i64 v0) b (by show w.heap.size<=w.heap.size+1;omega);have c:=RW.set0 v0;replace a:=a.far ⟨w.heap.size+1,0,none⟩ (int i64 v0) (by show w.heap.size+1≠w.heap.size;omega);have c0:=RW.c0;have c1:=RW.c1;have c2:=RW.c2;have c3:=RW.c3;have f0:=RW.f0;have f1:=RW.f1;have f2:=RW.f2;have f3:=RW.f3
 go_wp2_with fail
 clear c0 c1 c2 c3 f0 f1 f2 f3 RW;have RW:=c;clear c;rw[rounds_succ]
 go_wp2_with fail
 refine(qbi rb j x0 1099511627776 _ s).mono ?_;rintro e w2 ⟨v1,rfl,l,x1,n1,u,m⟩;have E:Hid (qcm 1099511627776 j x0 v1 l x1):=n1;replace RW:=RW.only m h;replace a:=a.only m i;replace b:=b.trans m (.inl rfl);clear n1 m;replace u:=u.far ⟨w.heap.size+1,1,none⟩ (int i64 v1) (by show rb<w.heap.size+1;omega);replace b:=qdt (p:=⟨w.heap.size+1,1,none⟩) (v:=int i64 v1) b (by show w.heap.size<=w.heap.size+1;omega);have c:=RW.set1 v1;replace a:=a.far ⟨w.heap.size+1,1,none⟩ (int i64 v1) (by show w.heap.size+1≠w.heap.size;omega);have c0:=RW.c0;have c1:=RW.c1;have c2:=RW.c2;have c3:=RW.c3;have f0:=RW.f0;have f1:=RW.f1;have f2:=RW.f2;have f3:=RW.f3
 go_wp2_with fail
 clear c0 c1 c2 c3 f0 f1 f2 f3 RW;have RW:=c;clear c;rw[rounds_succ]
 go_wp2_with fail
 refine(qbi rb l x1 1099511627776 _ u).mono ?_;rintro e K ⟨v2,rfl,n,x2,n2,x,o⟩;have F:Hid (qcm 1099511627776 l x1 v2 n x2):=n2;replace RW:=RW.only o h;replace a:=a.only o i;replace b:=b.trans o (.inl rfl);clear n2 o;replace x:=x.far ⟨w.heap.size+1,2,none⟩ (int i64 v2) (by show rb<w.heap.size+1;omega);replace b:=qdt (p:=⟨w.heap.size+1,2,none⟩) (v:=int i64 v2) b (by show w.heap.size<=w.heap.size+1;omega);have c:=RW.set2 v2;replace a:=a.far ⟨w.heap.size+1,2,none⟩ (int i64 v2) (by show w.heap.size+1≠w.heap.size;omega);have c0:=RW.c0;have c1:=RW.c1;have c2:=RW.c2;have c3:=RW.c3;have f0:=RW.f0;have f1:=RW.f1;have f2:=RW.f2;have f3:=RW.f3
 go_wp2_with fail
 clear c0 c1 c2 c3 f0 f1 f2 f3 RW;have RW:=c;clear c;rw[rounds_succ]
 go_wp2_with fail
 refine(qbi rb n x2 1099511627776 _ x).mono ?_;rintro e L ⟨v3,rfl,C,x3,n3,y,q⟩;have G:Hid (qcm 1099511627776 n x2 v3 C x3):=n3;replace RW:=RW.only q h;replace a:=a.only q i;replace b:=b.trans q (.inl rfl);clear n3 q;replace y:=y.far ⟨w.heap.size+1,3,none⟩ (int i64 v3) (by show rb<w.heap.size+1;omega);replace b:=qdt (p:=⟨w.heap.size+1,3,none⟩) (v:=int i64 v3) b (by show w.heap.size<=w.heap.size+1;omega);have c:=RW.set3 v3;replace a:=a.far ⟨w.heap.size+1,3,none⟩ (int i64 v3) (by show w.heap.size+1≠w.heap.size;omega);have c0:=RW.c0;have c1:=RW.c1;have c2:=RW.c2;have c3:=RW.c3;have f0:=RW.f0;have f1:=RW.f1;have f2:=RW.f2;have f3:=RW.f3
 go_wp2_with fail
 clear c0 c1 c2 c3 f0 f1 f2 f3 RW;have RW:=c;clear c;rw[rounds_succ];have H:=(((y.far ⟨w.heap.size,0,none⟩ (int i64 v0) (by show rb<w.heap.size;omega)).far ⟨w.heap.size,1,none⟩ (int i64 v1) (by show rb<w.heap.size;omega)).far ⟨w.heap.size,2,none⟩ (int i64 v2) (by show rb<w.heap.size;omega)).far ⟨w.heap.size,3,none⟩ (int i64 v3) (by show rb<w.heap.size;omega);replace b:=qdt (p:=⟨w.heap.size,3,none⟩) (v:=int i64 v3) (qdt (p:=⟨w.heap.size,2,none⟩) (v:=int i64 v2) (qdt (p:=⟨w.heap.size,1,none⟩) (v:=int i64 v1) (qdt (p:=⟨w.heap.size,0,none⟩) (v:=int i64 v0) b (Nat.le_refl _)) (Nat.le_refl _)) (Nat.le_refl _)) (Nat.le_refl _);have r:=a.set (x0:=v0) (x1:=v1) (x2:=v2) (x3:=v3);have c0:=RW.c0;have c1:=RW.c1;have c2:=RW.c2;have c3:=RW.c3;have M:=a.c0;have N:=a.c1;have O:=a.c2;have P:=a.c3;have f0:=a.f0;have f1:=a.f1;have f2:=a.f2;have f3:=a.f3
 go_wp2_with fail
 have z0:=r.c0;have I:=r.c1;have z2:=r.c2;have z3:=r.c3;exact bodyPost_ret (v:=.agg #[int i64 v0,int i64 v1,int i64 v2,int i64 v3]) (by simp[results,Tryz.results249,go_sem,z0,I,z2,z3]) rfl ⟨v0,v1,v2,v3,rfl,j,x0,l,x1,n,x2,C,x3,D.out,E.out,F.out,G.out,H,b⟩
end
section
open Go.RowKit
theorem qcm.nonneg {most:Int} {R a:List UInt8} {c d:Bool} {v:Int} (h:qcm most R c v a d):0<=v:=by
 rcases h.2 with ⟨h,_,_⟩|⟨_,h,_⟩
 ·exact(qn3 5 R v a h).1.1
 ·omega
structure qmk (w:World) (b:Nat) (key:Int) (data:ByteArray) (gone:Bool):Prop where
 c0:w.cell? ⟨b,0,none⟩=some (.int .i64 key)
 c1:w.cell? ⟨b,1,none⟩=some (.string data)
 c2:w.cell? ⟨b,2,none⟩=some (.bool gone)
 f0:w.frozen? ⟨b,0,none⟩=false
 f1:w.frozen? ⟨b,1,none⟩=false
 f2:w.frozen? ⟨b,2,none⟩=false
variable {w:World} {b:Nat}
theorem qmk.lt {key:Int} {data:ByteArray} {gone:Bool} (h:qmk w b key data gone):b<w.heap.size:=World.block_lt_of_cell? _ _ h.c0
variable {w':World}
theorem qmk.kept {key:Int} {data:ByteArray} {gone:Bool} (h:qmk w b key data gone) (e:w'.heap[b]?=w.heap[b]?):qmk w' b key data gone:=by
 constructor
 ·rw[World.cell?_of_block (w:=w) e];exact h.c0
 ·rw[World.cell?_of_block (w:=w) e];exact h.c1
 ·rw[World.cell?_of_block (w:=w) e];exact h.c2
 ·rw[World.frozen?_of_block (w:=w) e];exact h.f0
 ·rw[World.frozen?_of_block (w:=w) e];exact h.f1
 ·rw[World.frozen?_of_block (w:=w) e];exact h.f2
theorem qmk.only {a:Nat} {key:Int} {data:ByteArray} {gone:Bool} (h:qmk w b key data gone) (c:qdw a w w') (d:b≠a):qmk w' b key data gone:=
 h.kept (c.block b h.lt (λx=>by injection x with x;exact d x))
theorem qmk.far {key:Int} {data:ByteArray} {gone:Bool} (h:qmk w b key data gone) (p:Addr) (u:Value) (a:p.block≠b):qmk (w.setCell p u) b key data gone:=
 h.kept (Below.heap_setCell _ _ _ _ (Ne.symm a))
theorem qmk.boxed {key:Int} {data:ByteArray} {gone:Bool} (h:qmk w b key data gone) (o:Obj):qmk (w.alloc o) b key data gone:=
 h.kept (Below.heap_alloc _ _ _ h.lt)
theorem qmk.new {T:TypeId} {n:Nat} {key:Int} {data:ByteArray} {gone:Bool} (a:w.heap.size=n):qmk (w.alloc (.cells #[.int .i64 key,.string data,.bool gone] T)) n key data gone:=by
 subst a
 constructor<;>go_simp
theorem qmk.set0 {key:Int} {data:ByteArray} {gone:Bool} (h:qmk w b key data gone) (x:Int):qmk (w.setCell ⟨b,0,none⟩ (.int .i64 x)) b x data gone:=
 ⟨World.cell?_setCell_same _ _ _ h.c0,(World.cell?_setCell_other _ _ _ _ (by simp)).trans h.c1,(World.cell?_setCell_other _ _ _ _ (by simp)).trans h.c2,(World.frozen?_setCell _ _ _ _).trans h.f0,(World.frozen?_setCell _ _ _ _).trans h.f1,(World.frozen?_setCell _ _ _ _).trans h.f2⟩
theorem qmk.set1 {key:Int} {data:ByteArray} {gone:Bool} (h:qmk w b key data gone) (x:ByteArray):qmk (w.setCell ⟨b,1,none⟩ (.string x)) b key x gone:=
 ⟨(World.cell?_setCell_other _ _ _ _ (by simp)).trans h.c0,World.cell?_setCell_same _ _ _ h.c1,(World.cell?_setCell_other _ _ _ _ (by simp)).trans h.c2,(World.frozen?_setCell _ _ _ _).trans h.f0,(World.frozen?_setCell _ _ _ _).trans h.f1,(World.frozen?_setCell _ _ _ _).trans h.f2⟩
theorem qmk.set2 {key:Int} {data:ByteArray} {gone:Bool} (h:qmk w b key data gone) (x:Bool):qmk (w.setCell ⟨b,2,none⟩ (.bool x)) b key data x:=
 ⟨(World.cell?_setCell_other _ _ _ _ (by simp)).trans h.c0,(World.cell?_setCell_other _ _ _ _ (by simp)).trans h.c1,World.cell?_setCell_same _ _ _ h.c2,(World.frozen?_setCell _ _ _ _).trans h.f0,(World.frozen?_setCell _ _ _ _).trans h.f1,(World.frozen?_setCell _ _ _ _).trans h.f2⟩
def qml (R:List UInt8) (wrong:Bool) (key:Int) (data:ByteArray) (gone:Bool) (R':List UInt8) (wrong':Bool):Prop:=
 ∃R0 x0 R1 x1 R2 x2 g n,qcm 7 R wrong key R0 x0/\qcm 1 R0 x0 g R1 x1/\gone=(g==1)/\qcm 12 R1 x1 n R2 x2/\qne R2 x2 n data R' wrong'
def q5a (R:List UInt8) (wrong:Bool) (rb:Nat) (w:World) (key:Int) (data:ByteArray) (gone:Bool) (w':World):Prop:=
 ∃R' wrong',qml R wrong key data gone R' wrong'/\Rd w' rb R' wrong'/\qdw rb w w'
theorem q2e (d:Nat) (R:List UInt8) (i:Bool) (w:World) (D:Rd w d R i) (O:R.length<=1000000):
 Calls Tryz.prog 250 #[.pointer (some ⟨d,0,none⟩)] w λe w'=>
  ∃key data gone,e=.returned (.agg #[.int .i64 key,.string data,.bool gone])/\q5a R i d w key data gone w':=by
 have P:=D.lt
 have j:w.heap.size+1≠d:=by omega
 have k:w.heap.size≠d:=by omega
 have a:=(qmk.new (T:=100) (key:=0) (data:=⟨#[]⟩) (gone:=false) (Eq.refl w.heap.size)).boxed (.cells #[.int .i64 0,.string ⟨#[]⟩,.bool false] 100);have RW:qmk ((w.alloc (.cells #[.int .i64 0,.string ⟨#[]⟩,.bool false] 100)).alloc (.cells #[.int .i64 0,.string ⟨#[]⟩,.bool false] 100)) (w.heap.size+1) 0 ⟨#[]⟩ false:=qmk.new (by simp);have c:qdw d w ((w.alloc (.cells #[.int .i64 0,.string ⟨#[]⟩,.bool false] 100)).alloc (.cells #[.int .i64 0,.string ⟨#[]⟩,.bool false] 100)):=qn5 (qn5 (qdw.refl _ _));go_enter Tryz.func250,Tryz.ntmps250
 go_wp2_with fail
 refine(qbi d R i 7 _ ((D.alloc _).alloc _)).mono ?_;rintro e Q ⟨key,rfl,l,x0,E,x,m⟩;have F:Hid (qcm 7 R i key l x0):=E;replace RW:=RW.only m j;replace a:=a.only m k;replace c:=c.trans m (.inl rfl);clear E m;replace x:=x.far ⟨w.heap.size+1,0,none⟩ (.int .i64 key) (by show d<w.heap.size+1;omega);replace c:=qdt (p:=⟨w.heap.size+1,0,none⟩) (v:=.int .i64 key) c (by show w.heap.size<=w.heap.size+1;omega);have h:=RW.set0 key;replace a:=a.far ⟨w.heap.size+1,0,none⟩ (.int .i64 key) (by show w.heap.size+1≠w.heap.size;omega);have c0:=RW.c0;have f0:=RW.f0
 go_wp2_with fail
 clear c0 f0 RW;have RW:=h;clear h;refine(qbi d l x0 1 _ x).mono ?_;rintro e w2 ⟨g,rfl,o,x1,n1,y,q⟩;have G:Hid (qcm 1 l x0 g o x1):=n1;replace RW:=RW.only q j;replace a:=a.only q k;replace c:=c.trans q (.inl rfl);clear n1 q;obtain⟨gone,H⟩:∃gone:Bool,(g==1)=gone:=⟨_,rfl⟩;replace y:=y.far ⟨w.heap.size+1,2,none⟩ (.bool gone) (by show d<w.heap.size+1;omega);replace c:=qdt (p:=⟨w.heap.size+1,2,none⟩) (v:=.bool gone) c (by show w.heap.size<=w.heap.size+1;omega);have h:=RW.set2 gone;replace a:=a.far ⟨w.heap.size+1,2,none⟩ (.bool gone) (by show w.heap.size+1≠w.heap.size;omega);have c2:=RW.c2;have f2:=RW.f2
 go_wp2_with fail
 clear c2 f2 RW;have RW:=h;clear h;have J:Hid ((g==1)=gone):=H;clear H;refine(qbi d o x1 12 _ y).mono ?_;rintro e S ⟨n,rfl,r,x2,n2,K,s⟩;have z:Hid (qcm 12 o x1 n r x2):=n2;replace RW:=RW.only s j;replace a:=a.only s k;replace c:=c.trans s (.inl rfl);clear n2 s
 go_wp2_with fail
 refine(qs5 d r x2 n _ K z.out.nonneg (by have:=F.out.1;have:=G.out.1;have:=z.out.1;omega)).mono ?_;rintro e U ⟨data,rfl,I,x3,t3,B,u⟩;have L:Hid (qne r x2 n data I x3):=t3;replace RW:=RW.only u j;replace a:=a.only u k;replace c:=c.trans u (.inl rfl);clear t3 u;replace B:=B.far ⟨w.heap.size+1,1,none⟩ (.string data) (by show d<w.heap.size+1;omega);replace c:=qdt (p:=⟨w.heap.size+1,1,none⟩) (v:=.string data) c (by show w.heap.size<=w.heap.size+1;omega);have h:=RW.set1 data;replace a:=a.far ⟨w.heap.size+1,1,none⟩ (.string data) (by show w.heap.size+1≠w.heap.size;omega);have M:=((B.far ⟨w.heap.size,0,none⟩ (.int .i64 key) (by show d<w.heap.size;omega)).far ⟨w.heap.size,1,none⟩ (.string data) (by show d<w.heap.size;omega)).far ⟨w.heap.size,2,none⟩ (.bool gone) (by show d<w.heap.size;omega);replace c:=qdt (p:=⟨w.heap.size,2,none⟩) (v:=.bool gone) (qdt (p:=⟨w.heap.size,1,none⟩) (v:=.string data) (qdt (p:=⟨w.heap.size,0,none⟩) (v:=.int .i64 key) c (Nat.le_refl _)) (Nat.le_refl _)) (Nat.le_refl _);have C:=((a.set0 key).set1 data).set2 gone;have c1:=RW.c1;have f1:=RW.f1;have V:=h.c0;have W:=h.c1;have X:=h.c2;have Y:=a.c0;have Z:=a.c1;have k2:=a.c2;have g0:=a.f0;have g1:=a.f1;have g2:=a.f2
 go_wp2_with fail
 have z0:=C.c0;have N:=C.c1;have z2:=C.c2;exact bodyPost_ret (v:=.agg #[.int .i64 key,.string data,.bool gone]) (by simp[results,Tryz.results250,go_sem,z0,N,z2]) rfl ⟨key,data,gone,rfl,I,x3,⟨l,x0,o,x1,r,x2,g,n,F.out,G.out,J.out.symm,z.out,L.out⟩,M,c⟩
end
section
open Go.Value Go.IntKind Go.RowKit
variable {R R':List UInt8} {v:Int}
theorem qcm.sound {most:Int} {c d:Bool} (h:qcm most R c v R' d) (e:d=false):c=false/\(0<=v/\v<=most)/\R=qff 5 v++R':=by
 rcases h.2 with ⟨f,g,b⟩|⟨_,_,b⟩
 ·obtain⟨⟨s0,_⟩,s1⟩:=qn3 5 R v R' f;exact⟨by rw[<-b];exact e,⟨s0,g⟩,s1⟩
 ·rw[e]at b;cases b
theorem qcm.full {most:Int} {c d:Bool} {n:Int} {r:List UInt8} (h:qcm most R c v R' d) (f:c=false) (g:R=qff 5 n++r) (i:0<=n) (j:n<=most) (l:most<=1099511627776):v=n/\R'=r/\d=false:=by
 have e:=qyl 5 n r i (by rw[jd0];omega);rw[<-g]at e;rcases h.2 with ⟨b,_,k⟩|⟨b,_,_⟩
 ·rw[e]at b;injection b with b;injection b with h4 h5;exact⟨h4.symm,h5.symm,by rw[k,f]⟩
 ·exact absurd j (b n r e)
def qxx (R:List UInt8) (wrong:Bool) (c:UInt8) (R':List UInt8) (wrong':Bool):Prop:=(wrong'=false↔wrong=false/\R=c::R')/\R'.length<=R.length/\(∀r,R=c::r->R'=r)
theorem qlt {b:Bool}:qma R b=true↔b=false/\R=[]:=by cases b<;>simp[qma]
variable {L:List UInt8}
theorem q5d {k l m o p g:List UInt8} {x0 x1 x2 x3 q i:Bool} {site v0 v1 v2 v3:Int} (j:qxx L false 97 k x0) (r:qcm 3 k x0 site l x1) (t:qcm 1099511627776 l x1 v0 m x2) (u:qcm 1099511627776 m x2 v1 o x3) (x:qcm 1099511627776 o x3 v2 p q) (z:qcm 1099511627776 p q v3 g i):
 (qma g i=true->qeb L ⟨site,v0,v1,v2,v3⟩)/\(∀y,qeb L y->qma g i=true):=by
 constructor
 ·intro h;obtain⟨C,D⟩:=qlt.1 h;obtain⟨E,b,F⟩:=z.sound C;obtain⟨G,c,H⟩:=x.sound E;obtain⟨I,d,J⟩:=u.sound G;obtain⟨K,f,M⟩:=t.sound I;obtain⟨N,bs,O⟩:=r.sound K;obtain⟨_,P⟩:=j.1.1 N;refine⟨?_,?_⟩
  ·simp only[qqh.ok,Bool.and_eq_true,qa5,qay,qfs];exact⟨⟨bs.1,bs.2⟩,⟨⟨f,d⟩,c⟩,b⟩
  ·show toL (jcq site v0 v1 v2 v3)=L;rw[qjw,P,O,M,J,H,F,D];rfl
 ·rintro ⟨s,a0,a1,a2,a3⟩ A;obtain⟨bs,f,d,c,b⟩:=qph A.1;have e:L=ja7 s a0 a1 a2 a3 []:=A.2.symm.trans (qjw s a0 a1 a2 a3);unfold ja7 at e;have B:=j.2.2 _ e;have Q:=j.1.2 ⟨rfl,by rw[B];exact e⟩;obtain⟨_,S,T⟩:=r.full Q B bs.1 bs.2 (by decide);obtain⟨_,U,V⟩:=t.full T S f.1 f.2 (by decide);obtain⟨_,W,X⟩:=u.full V U d.1 d.2 (by decide);obtain⟨_,Y,Z⟩:=x.full X W c.1 c.2 (by decide);obtain⟨_,r5,y5⟩:=z.full Z Y b.1 b.2 (by decide);exact qlt.2 ⟨y5,r5⟩
variable {w:World} {a:Option Addr} {n:Nat}
theorem Rd.new {c T:Nat} (e:w.heap.size=n) (f:L.length<=c) (d:qdr w n a L):Rd (w.alloc (.cells #[.slice a L.length c,.bool false] T)) n L false:=by
 subst e;refine⟨⟨a,c,by go_simp,f,?_⟩,by go_simp,by go_simp,by go_simp⟩;rcases d with d|⟨b,o,g,h,i⟩
 ·exact .inl d
 ·refine .inr ⟨b,o,g,h,λj u k=>?_⟩;exact cell_later (boxed (Below.refl _ _) _) (i j u k)
variable {w':World}
theorem qdr.later {c:Nat} (h:qdr w n a L) (hb:Below w.heap.size w w') (g:n<=c):qdr w' c a L:=by
 rcases h with h|⟨b,o,d,i,e⟩
 ·exact .inl h
 ·exact .inr ⟨b,o,d,by omega,λj u f=>cell_later hb (e j u f)⟩
theorem qc9 {g:Nat} {W:World} (h:Below W.heap.size W w) (b:qdw g w w') (c:W.heap.size<=g):Below W.heap.size W w':=h.trans (b.below c h.size)
def jc0 (L:List UInt8) (w:World) (e:Ending) (w':World):Prop:=
 ((∃x:qqh,qeb L x/\e=.returned (.tuple #[int i64 x.site,.agg #[int i64 x.a0,int i64 x.a1,int i64 x.a2,int i64 x.a3],.nilIface]))\/
  ((∀x,¬qeb L x)/\e=.returned (.tuple #[int i64 0,.agg #[int i64 0,int i64 0,int i64 0,int i64 0],.iface 26 (int i64 3)])))/\Below w.heap.size w w'
theorem q0w (a:Option Addr) (L:List UInt8) (c:Nat) (w:World) (I:qdr w w.heap.size a L) (J:L.length<=c) (K:L.length<=1000000):
 Calls Tryz.prog 211 #[.slice a L.length c] w λe w'=>jc0 L w e w':=by
 have b:=(qa9.new w 77 0 0 0 0).boxed (.cells #[.slice a L.length c,.bool false] 301);have D:=Rd.new (w:=w.alloc (.cells #[int i64 0,int i64 0,int i64 0,int i64 0] 77)) (n:=w.heap.size+1) (T:=301) (by simp) J (I.later (boxed (Below.refl _ _) _) (by omega));have hb:=boxed (boxed (Below.refl _ w) (.cells #[int i64 0,int i64 0,int i64 0,int i64 0] 77)) (.cells #[.slice a L.length c,.bool false] 301)
 have l:w.heap.size≠w.heap.size+1:=by omega
 go_enter Tryz.func211,Tryz.ntmps211
 go_wp2_with fail
 refine(qyv (w.heap.size+1) L false 97 _ D K).mono ?_;rintro e U ⟨rfl,m,x0,o,u,p⟩;have M:Hid (qxx L false 97 m x0):=o;replace b:=b.only p l;replace hb:=qc9 hb p (by omega);clear o p D
 go_wp2_with fail
 refine(qbi (w.heap.size+1) m x0 3 _ u).mono ?_;rintro e w2 ⟨site,rfl,z,x1,n1,B,q⟩;have N:Hid (qcm 3 m x0 site z x1):=n1;replace b:=b.only q l;replace hb:=qc9 hb q (by omega);clear n1 q u
 go_wp2_with fail
 refine(q4v (w.heap.size+1) z x1 _ B).mono ?_;rintro e O ⟨v0,v1,v2,v3,rfl,V,x2,W,x3,X,Y,h,i,C,E,F,G,j,r⟩;have H:Hid ((qma h i=true->qeb L ⟨site,v0,v1,v2,v3⟩)/\(∀y,qeb L y->qma h i=true)):=q5d M.out N.out C E F G;replace b:=b.only r l;replace hb:=qc9 hb r (by omega);clear C E F G r B;have g:=qa9.new O 77 v0 v1 v2 v3;replace b:=b.boxed (.cells #[int i64 v0,int i64 v1,int i64 v2,int i64 v3] 77);replace j:=j.alloc (.cells #[int i64 v0,int i64 v1,int i64 v2,int i64 v3] 77);replace hb:=boxed hb (.cells #[int i64 v0,int i64 v1,int i64 v2,int i64 v3] 77)
 go_wp2_with fail
 refine(qqg (w.heap.size+1) h i _ j).mono ?_;rintro e Z ⟨rfl,k⟩;replace b:=b.later k;replace g:=g.later k;replace hb:=qab hb k;clear k j;have o:=b.c0;have k1:=b.c1;have k2:=b.c2;have k3:=b.c3;have f0:=b.f0;have f1:=b.f1;have f2:=b.f2;have f3:=b.f3;cases hd:qma h i
 ·have P:Hid (∀x,¬qeb L x):=λx Q=>by rw[H.out.2 x Q]at hd;cases hd
  clear hd;have d:=b.set (x0:=0) (x1:=0) (x2:=0) (x3:=0)
  go_wp2_with fail
  have z0:=d.c0;have s:=d.c1;have z2:=d.c2;have z3:=d.c3;exact bodyPost_ret (v:=.tuple #[int i64 0,.agg #[int i64 0,int i64 0,int i64 0,int i64 0],.iface 26 (int i64 3)]) (by simp[results,Tryz.results211,go_sem,z0,s,z2,z3]) rfl ⟨.inr ⟨P.out,rfl⟩,(((hb.setCell (Nat.le_refl _) _).setCell (Nat.le_refl _) _).setCell (Nat.le_refl _) _).setCell (Nat.le_refl _) _⟩
 ·have S:Hid (qeb L ⟨site,v0,v1,v2,v3⟩):=H.out.1 hd;clear hd;have c0:=g.c0;have c1:=g.c1;have c2:=g.c2;have c3:=g.c3;have d:=b.set (x0:=v0) (x1:=v1) (x2:=v2) (x3:=v3)
  go_wp2_with fail
  go_region
  all_goals (try go_wp2)
  have z0:=d.drew.c0;have s:=d.drew.c1;have z2:=d.drew.c2;have z3:=d.drew.c3;exact bodyPost_ret (v:=.tuple #[int i64 site,.agg #[int i64 v0,int i64 v1,int i64 v2,int i64 v3],.nilIface]) (by simp[results,Tryz.results211,go_sem,z0,s,z2,z3]) rfl ⟨.inl ⟨⟨site,v0,v1,v2,v3⟩,S.out,rfl⟩,((((hb.setCell (Nat.le_refl _) _).setCell (Nat.le_refl _) _).setCell (Nat.le_refl _) _).setCell (Nat.le_refl _) _).drew⟩
end
section
open Go.RowKit
variable {R R':List UInt8} {n:Int} {s:ByteArray}
theorem q0v {b c:Bool} (h:qne R b n s R' c) (d:c=false) (g:0<=n):b=false/\(s.size:Int)=n/\R=toL s++R':=by
 rcases h with ⟨i,e,f,a⟩|⟨_,_,_,a⟩
 ·refine⟨by rw[<-a];exact d,?_,by rw[e,f,List.take_append_drop]⟩
  have:(toL s).length=n.toNat:=by rw[e,List.length_take];omega
  rw[qbg]at this;omega
 ·rw[d]at a;cases a
variable {r:List UInt8}
theorem q36 {b c:Bool} {d:ByteArray} (h:qne R b n s R' c) (g:b=false) (m:n=(d.size:Int)) (a:R=toL d++r):s=d/\R'=r/\c=false:=by
 have e:(toL d).length=n.toNat:=by rw[qbg];omega
 rcases h with ⟨f,i,j,k⟩|⟨f,_,_,_⟩
 ·refine⟨qww ?_,?_,by rw[k,g]⟩
  ·rw[i,a,<-e,List.take_left]
  ·rw[j,a,<-e,List.drop_left]
 ·rw[a,List.length_append]at f;omega
theorem qvh {a b:Bool} {key:Int} {data:ByteArray} {gone:Bool} (h:qml R a key data gone R' b) (c:b=false):a=false/\R=wrL ⟨key,data,gone⟩++R':=by
 obtain⟨v,x0,w,x1,y,x2,g,n,d,n1,f,n2,t⟩:=h;obtain⟨i,s2,j⟩:=q0v t c n2.nonneg;obtain⟨k,_,m⟩:=n2.sound i;obtain⟨o,z,p⟩:=n1.sound k;obtain⟨e,_,q⟩:=d.sound o;refine⟨e,?_⟩
 have u:g=if gone then 1 else 0:=by
  rw[f]
  have:g=0\/g=1:=by omega
  rcases this with rfl|rfl<;>rfl
 simp only[wrL,List.append_assoc];rw[q,p,m,j,<-u,s2]
theorem qzi {a b:Bool} {key:Int} {data:ByteArray} {gone:Bool} {y:Wr} (h:qml R a key data gone R' b) (f:a=false) (c:R=wrL y++r) (d:0<=y.key/\y.key<=7/\y.data.size<=12):
 (⟨key,data,gone⟩:Wr)=y/\R'=r/\b=false:=by
 obtain⟨z,x0,A,x1,B,x2,g,n,i,n1,j,n2,t⟩:=h;simp only[wrL,List.append_assoc]at c;obtain⟨a0,k,m⟩:=i.full f c d.1 d.2.1 (by decide);obtain⟨a1,o,p⟩:=n1.full m k (by cases y.gone<;>decide) (by cases y.gone<;>decide) (by decide);obtain⟨a2,q,u⟩:=n2.full p o (by omega) (by omega) (by decide);obtain⟨a3,v,w⟩:=q36 t u a2 q;refine⟨?_,v,w⟩;obtain⟨C,D,e⟩:=y;simp only at a0 a1 a3
 have:gone=e:=by
  rw[j,a1]
  cases e<;>rfl
 rw[a0,a3,this]
theorem qui {a b:Bool} {key:Int} {data:ByteArray} {gone:Bool} (h:qml R a key data gone R' b):R'.length<=R.length:=by
 obtain⟨d,x0,e,x1,f,x2,g,n,c,n1,i,n2,t⟩:=h;have a0:=c.1;have a1:=n1.1;have a2:=n2.1;have a3:=take_length t;omega
inductive q80 (R:List UInt8) (x:Bool):List Wr->List UInt8->Bool->Prop
 |nil:q80 R x [] R x
 |snoc {l:List Wr} {R1 R2:List UInt8} {x1 x2:Bool} {key:Int} {data:ByteArray} {gone:Bool}:q80 R x l R1 x1->qml R1 x1 key data gone R2 x2->q80 R x (l++[⟨key,data,gone⟩]) R2 x2
theorem q3k (l:List Wr) (x:Wr):qpp (l++[x])=qpp l++wrL x:=by simp[qpp]
variable {x x':Bool} {l:List Wr}
theorem q67 (h:q80 R x l R' x'):x'=false->x=false/\R=qpp l++R':=by
 induction h with
 |nil=>exact λe=>⟨e,rfl⟩
 |snoc _ hw ih=>
  intro e;obtain⟨a,b⟩:=qvh hw e;obtain⟨c,d⟩:=ih a;exact⟨c,by rw[d,b,q3k,List.append_assoc]⟩
theorem jba {m:List Wr} (h:q80 R x l R' x') (g:x=false) (i:R=qpp m++r) (j:∀y∈m,0<=y.key/\y.key<=7/\y.data.size<=12):
 l.length<=m.length->l=m.take l.length/\R'=qpp (m.drop l.length)++r/\x'=false:=by
 induction h with
 |nil=>exact λ_=>⟨by simp,by simpa using i,g⟩
 |@snoc l R1 R2 x1 x2 key data gone _ hw ih=>
  intro k;rw[List.length_append,List.length_singleton]at k ⊢;obtain⟨o,f,p⟩:=ih (by omega)
  have d:l.length<m.length:=by omega
  have e:qpp (m.drop l.length)=wrL m[l.length]++qpp (m.drop (l.length+1)):=by
   unfold qpp;rw[List.drop_eq_getElem_cons d,List.flatMap_cons]
  rw[e,List.append_assoc]at f;obtain⟨a,b,c⟩:=qzi hw p f (j _ (List.getElem_mem d));refine⟨?_,b,c⟩;rw[a,List.take_succ_eq_append_getElem d,<-o]
theorem q1w (h:q80 R x l R' x'):R'.length<=R.length:=by
 induction h with
 |nil=>exact Nat.le_refl _
 |snoc _ hw ih=>exact Nat.le_trans (qui hw) ih
theorem q81 {L o p t u v w z A B C a:List UInt8} {x0 x1 x2 x3 D E F G H I b:Bool} {site seq wall count v0 v1 v2 v3 nw:Int}
 (c:qxx L false 116 o x0) (J:qcm 3 o x0 site p x1) (K:qcm 1099511627776 p x1 seq t x2) (M:qcm 1099511627776 t x2 wall u x3) (N:qcm 1099511627776 u x3 count v D)
 (O:qcm 1099511627776 v D v0 w E) (P:qcm 1099511627776 w E v1 z F) (Q:qcm 1099511627776 z F v2 A G) (S:qcm 1099511627776 A G v3 B H) (T:qcm 5 B H nw C I) (U:q80 C I l a b) (hl:(l.length:Int)=nw):
 (qma a b=true->toL (txS site seq wall count v0 v1 v2 v3 l)=L)/\(∀y,qv3 L y->qma a b=true/\y=⟨site,seq,wall,count,v0,v1,v2,v3,l⟩):=by
 constructor
 ·intro h;obtain⟨hx,hR⟩:=qlt.1 h;obtain⟨e9,q10⟩:=q67 U hx;obtain⟨e8,_,q9⟩:=T.sound e9;obtain⟨e7,_,q8⟩:=S.sound e8;obtain⟨e6,_,q7⟩:=Q.sound e7;obtain⟨e5,_,q6⟩:=P.sound e6;obtain⟨e4,_,q5⟩:=O.sound e5;obtain⟨e3,_,q4⟩:=N.sound e4;obtain⟨e2,_,q3⟩:=M.sound e3;obtain⟨e1,_,q2⟩:=K.sound e2;obtain⟨e0,_,q1⟩:=J.sound e1;obtain⟨_,qk⟩:=c.1.1 e0;rw[qm4,qk,q1,q2,q3,q4,q5,q6,q7,q8,q9,q10,hR,hl,List.append_nil];rfl
 ·rintro ⟨s,q,wl,V,a0,a1,a2,a3,m⟩ W;obtain⟨bs,X,d,f,g,i,j,k,bm⟩:=qnw W.1;simp only at bs X d f g i j k bm;have hlen:=qln bm;have e:L=qve s q wl V a0 a1 a2 a3 m.length (qpp m):=W.2.symm.trans (qm4 s q wl V a0 a1 a2 a3 m);unfold qve at e;have Y:=c.2.2 _ e;have y0:=c.1.2 ⟨rfl,by rw[Y];exact e⟩;obtain⟨z1,r1,y1⟩:=J.full y0 Y bs.1 bs.2 (by decide);obtain⟨z2,r2,y2⟩:=K.full y1 r1 (by omega) X.2 (by decide);obtain⟨z3,r3,y3⟩:=M.full y2 r2 d.1 d.2 (by decide);obtain⟨z4,r4,y4⟩:=N.full y3 r3 f.1 f.2 (by decide);obtain⟨z5,r5,y5⟩:=O.full y4 r4 g.1 g.2 (by decide);obtain⟨z6,r6,y6⟩:=P.full y5 r5 i.1 i.2 (by decide);obtain⟨z7,r7,y7⟩:=Q.full y6 r6 j.1 j.2 (by decide);obtain⟨z8,r8,y8⟩:=S.full y7 r7 k.1 k.2 (by decide);obtain⟨z9,r9,y9⟩:=T.full y8 r8 (by omega) (by omega) (by decide)
  have Z:l.length=m.length:=by omega
  obtain⟨w1,w2,w3⟩:=jba (m:=m) (r:=[]) U y9 (by simpa using r9) (qrq bm) (by omega)
  have hlm2:l=m:=by rw[Z,List.take_length]at w1;exact w1
  refine⟨qlt.2 ⟨w3,?_⟩,?_⟩
  ·rw[w2,Z,List.drop_length];rfl
  ·rw[z1,z2,z3,z4,z5,z6,z7,z8,hlm2]
end
section
open Go.Value Go.IntKind Go.RowKit
variable {w:World} {rb:Nat} {R:List UInt8}
theorem Rd.drew {a:Bool} (h:Rd w rb R a):Rd w.drew rb R a:=h.kept λ_ _=>rfl
variable {w':World}
theorem Rd.grown {f:Bool} {r:Option Nat} (h:Rd w rb R f) (g:w.grownBy w' r) (i:∀k,r=some k->rb<k):Rd w' rb R f:=by
 obtain⟨a,c,m,p,d⟩:=h.rest;have e:=g.block rb h.lt (λx=>by have:=i rb x.symm;omega);refine⟨⟨a,c,by rw[World.cell?_of_block (w:=w) e];exact m,p,?_⟩,by rw[World.cell?_of_block (w:=w) e];exact h.c1,by rw[World.frozen?_of_block (w:=w) e];exact h.f0,by rw[World.frozen?_of_block (w:=w) e];exact h.f1⟩;rcases d with d|⟨b,o,q,s,t⟩
 ·exact .inl d
 ·refine .inr ⟨b,o,q,s,λj u y=>?_⟩;have l:=t j u y;rw[World.cell?_of_block (w:=w) (g.block b (World.block_lt_of_cell? _ _ l) (λx=>by have:=i b x.symm;omega))];exact l
variable {B n:Nat} {T:TypeId} {v:Value} {xs:List Value}
theorem q6i (h:w.ownsRow B T 3 v n xs) (a:qdw rb w w') (b:rb<B):w'.ownsRow B T 3 v n xs:=by
 refine h.kept a ?_;cases hv:v.ownBlock with
 |none=>exact .inl rfl
 |some k=>
  refine .inr (λe=>?_);injection e with e;have:=(h.lt k hv).1;omega
theorem qt4 (h:w.ownsRow B T 3 v n xs) (hb:Below w.heap.size w w'):w'.ownsRow B T 3 v n xs:=
 h.kept (row:=none) ⟨hb.os,hb.tape,hb.output,hb.size,λk a _=>hb.block k a⟩ (by cases v.ownBlock<;>simp)
theorem qnz (h:w.ownsRow B T 3 v n xs):∀k,v.ownBlock=some k->B<=k:=λk a=>(h.lt k a).1
theorem q3v:(Tryz.prog.info? 100).map (λi=>(i.zero,i.size,i.bytes))=some (some (.agg #[int i64 0,.string ⟨#[]⟩,.bool false]),3,32):=by kernel_rfl
def txA (site seq wall count d0 d1 d2 d3:Int) (v:Value):List Value:=[int i64 site,int i64 seq,int i64 wall,int i64 count,int i64 d0,int i64 d1,int i64 d2,int i64 d3,v]
def jd5 (L:List UInt8) (w:World) (e:Ending) (w':World):Prop:=
 ((∃(x:TxV) (a:Option Addr) (cap:Nat),qv3 L x/\qaz w' a cap x.l/\e=.returned (.tuple #[.agg #[int i64 x.site,int i64 x.seq,int i64 x.wall,int i64 x.count,int i64 x.d0,int i64 x.d1,int i64 x.d2,int i64 x.d3,.slice a x.l.length cap],.nilIface]))\/
  ((∀x,¬qv3 L x)/\e=.returned (.tuple #[.agg #[int i64 0,int i64 0,int i64 0,int i64 0,int i64 0,int i64 0,int i64 0,int i64 0,.slice none 0 0],.iface 26 (int i64 3)])))/\Below w.heap.size w w'
theorem qk2 {tmps:Array Value} {b:Nat} {d e g i j k l m o ev:Value} (h:qag w b [d,e,g,i,j,k,l,m,o]) (p:tmps[2]?=some (.pointer (some ⟨b,0,none⟩))) (q:tmps[3]?=some ev)
 (p0:∃n,d=int i64 n) (p1:∃n,e=int i64 n) (p2:∃n,g=int i64 n) (p3:∃n,i=int i64 n) (r:∃n,j=int i64 n) (s:∃n,k=int i64 n) (t:∃n,l=int i64 n) (u:∃n,m=int i64 n) (x:∃a n c,o=.slice a n c):
 (results Tryz.f209 tmps).run Tryz.prog w=.ok (.tuple #[.agg #[d,e,g,i,j,k,l,m,o],ev]) w:=by
 obtain⟨E,rfl⟩:=p0;obtain⟨n1,rfl⟩:=p1;obtain⟨n2,rfl⟩:=p2;obtain⟨n3,rfl⟩:=p3;obtain⟨n4,rfl⟩:=r;obtain⟨F,rfl⟩:=s;obtain⟨G,rfl⟩:=t;obtain⟨H,rfl⟩:=u;obtain⟨a,n,c,rfl⟩:=x;obtain⟨z0,y,z2,z3,z4,z5,z,C,D⟩:=h.c9;simp[results,Tryz.results209,go_sem,p,q,z0,y,z2,z3,z4,z5,z,C,D]
theorem qtm (a:Option Addr) (L:List UInt8) (c:Nat) (w:World) (hB:qdr w w.heap.size a L) (hc:L.length<=c) (hl:L.length<=1000000):
 Calls Tryz.prog 209 #[.slice a L.length c] w λe w'=>jd5 L w e w':=by
 have q:=(qag.new (w:=w) (T:=102) [int i64 0,int i64 0,int i64 0,int i64 0,int i64 0,int i64 0,int i64 0,int i64 0,.slice none 0 0] rfl).boxed (.cells #[.slice a L.length c,.bool false] 301);have D:=Rd.new (w:=w.alloc (.cells #[int i64 0,int i64 0,int i64 0,int i64 0,int i64 0,int i64 0,int i64 0,int i64 0,.slice none 0 0] 102)) (n:=w.heap.size+1) (T:=301) (by simp) hc (hB.later (boxed (Below.refl _ _) _) (by omega));have hb:=boxed (boxed (Below.refl _ w) (.cells #[int i64 0,int i64 0,int i64 0,int i64 0,int i64 0,int i64 0,int i64 0,int i64 0,.slice none 0 0] 102)) (.cells #[.slice a L.length c,.bool false] 301)
 have H:w.heap.size≠w.heap.size+1:=by omega
 go_enter Tryz.func209,Tryz.ntmps209
 go_wp2_with fail
 refine(qyv (w.heap.size+1) L false 116 _ D hl).mono ?_;rintro e b ⟨rfl,R0,x0,O,X,Y⟩;have K0:Hid (qxx L false 116 R0 x0):=O;replace q:=(q.only Y H).boxed (.cells #[int i64 0,int i64 0,int i64 0,int i64 0,int i64 0,int i64 0,int i64 0,int i64 0,.slice none 0 0] 102);replace hb:=boxed (qc9 hb Y (by omega)) (.cells #[int i64 0,int i64 0,int i64 0,int i64 0,int i64 0,int i64 0,int i64 0,int i64 0,.slice none 0 0] 102);replace X:=X.alloc (.cells #[int i64 0,int i64 0,int i64 0,int i64 0,int i64 0,int i64 0,int i64 0,int i64 0,.slice none 0 0] 102);have o:=qag.new (w:=b) (T:=102) [int i64 0,int i64 0,int i64 0,int i64 0,int i64 0,int i64 0,int i64 0,int i64 0,.slice none 0 0] rfl
 have hlt:w.heap.size+1<b.heap.size:=by have:=Y.size;simp at this;omega
 have K:b.heap.size≠w.heap.size+1:=by omega
 clear O Y D
 go_wp2_with fail
 refine(qbi (w.heap.size+1) R0 x0 3 _ X).mono ?_;rintro e w2 ⟨site,rfl,R1,x1,n1,Z,y1⟩;have N1:Hid (qcm 3 R0 x0 site R1 x1):=n1;replace q:=q.only y1 H;replace o:=o.only y1 K;replace hb:=qc9 hb y1 (by omega);clear n1 y1 X;have c0:=o.cell 0 _ rfl;have f0:=o.free 0 (by simp);replace q:=q.far ⟨b.heap.size,0,none⟩ (int i64 site) (by show b.heap.size≠w.heap.size;omega);replace o:=o.set 0 (int i64 site) (by simp);replace hb:=hb.setCell (p:=⟨b.heap.size,0,none⟩) (by show w.heap.size<=b.heap.size;omega) (int i64 site);replace Z:=Z.far ⟨b.heap.size,0,none⟩ (int i64 site) (by show w.heap.size+1<b.heap.size;omega)
 go_wp2_with fail
 clear c0 f0;refine(qbi (w.heap.size+1) R1 x1 1099511627776 _ Z).mono ?_;rintro e w3 ⟨seq,rfl,R2,x2,n2,D2,y2⟩;have N2:Hid (qcm 1099511627776 R1 x1 seq R2 x2):=n2;replace q:=q.only y2 H;replace o:=o.only y2 K;replace hb:=qc9 hb y2 (by omega);clear n2 y2 Z;have c1:=o.cell 1 _ rfl;have f1:=o.free 1 (by simp);replace q:=q.far ⟨b.heap.size,1,none⟩ (int i64 seq) (by show b.heap.size≠w.heap.size;omega);replace o:=o.set 1 (int i64 seq) (by simp);replace hb:=hb.setCell (p:=⟨b.heap.size,1,none⟩) (by show w.heap.size<=b.heap.size;omega) (int i64 seq);replace D2:=D2.far ⟨b.heap.size,1,none⟩ (int i64 seq) (by show w.heap.size+1<b.heap.size;omega)
 go_wp2_with fail
 clear c1 f1;refine(qbi (w.heap.size+1) R2 x2 1099511627776 _ D2).mono ?_;rintro e w4 ⟨wall,rfl,R3,x3,n3,D3,y3⟩;have N3:Hid (qcm 1099511627776 R2 x2 wall R3 x3):=n3;replace q:=q.only y3 H;replace o:=o.only y3 K;replace hb:=qc9 hb y3 (by omega);clear n3 y3 D2;have c2:=o.cell 2 _ rfl;have f2:=o.free 2 (by simp);replace q:=q.far ⟨b.heap.size,2,none⟩ (int i64 wall) (by show b.heap.size≠w.heap.size;omega);replace o:=o.set 2 (int i64 wall) (by simp);replace hb:=hb.setCell (p:=⟨b.heap.size,2,none⟩) (by show w.heap.size<=b.heap.size;omega) (int i64 wall);replace D3:=D3.far ⟨b.heap.size,2,none⟩ (int i64 wall) (by show w.heap.size+1<b.heap.size;omega)
 go_wp2_with fail
 clear c2 f2;refine(qbi (w.heap.size+1) R3 x3 1099511627776 _ D3).mono ?_;rintro e w5 ⟨count,rfl,R4,x4,n4,D4,y4⟩;have N4:Hid (qcm 1099511627776 R3 x3 count R4 x4):=n4;replace q:=q.only y4 H;replace o:=o.only y4 K;replace hb:=qc9 hb y4 (by omega);clear n4 y4 D3;have c3:=o.cell 3 _ rfl;have f3:=o.free 3 (by simp);replace q:=q.far ⟨b.heap.size,3,none⟩ (int i64 count) (by show b.heap.size≠w.heap.size;omega);replace o:=o.set 3 (int i64 count) (by simp);replace hb:=hb.setCell (p:=⟨b.heap.size,3,none⟩) (by show w.heap.size<=b.heap.size;omega) (int i64 count);replace D4:=D4.far ⟨b.heap.size,3,none⟩ (int i64 count) (by show w.heap.size+1<b.heap.size;omega)
 go_wp2_with fail
 clear c3 f3;refine(q4v (w.heap.size+1) R4 x4 _ D4).mono ?_;rintro e w6 ⟨v0,v1,v2,v3,rfl,R5,x5,R6,x6,R7,x7,R8,x8,m5,m6,m7,m8,E,F⟩;have N5:Hid (qcm 1099511627776 R4 x4 v0 R5 x5):=m5;have N6:Hid (qcm 1099511627776 R5 x5 v1 R6 x6):=m6;have N7:Hid (qcm 1099511627776 R6 x6 v2 R7 x7):=m7;have N8:Hid (qcm 1099511627776 R7 x7 v3 R8 x8):=m8;replace q:=q.only F H;replace o:=o.only F K;replace hb:=qc9 hb F (by omega);clear m5 m6 m7 m8 F D4;have c4:=o.cell 4 _ rfl;have f4:=o.free 4 (by simp);have c5:=o.cell 5 _ rfl;have f5:=o.free 5 (by simp);have c6:=o.cell 6 _ rfl;have f6:=o.free 6 (by simp);have c7:=o.cell 7 _ rfl;have f7:=o.free 7 (by simp);replace q:=q.far ⟨b.heap.size,4,none⟩ (int i64 v0) (by show b.heap.size≠w.heap.size;omega);replace o:=o.set 4 (int i64 v0) (by simp);replace hb:=hb.setCell (p:=⟨b.heap.size,4,none⟩) (by show w.heap.size<=b.heap.size;omega) (int i64 v0);replace E:=E.far ⟨b.heap.size,4,none⟩ (int i64 v0) (by show w.heap.size+1<b.heap.size;omega);replace q:=q.far ⟨b.heap.size,5,none⟩ (int i64 v1) (by show b.heap.size≠w.heap.size;omega);replace o:=o.set 5 (int i64 v1) (by simp);replace hb:=hb.setCell (p:=⟨b.heap.size,5,none⟩) (by show w.heap.size<=b.heap.size;omega) (int i64 v1);replace E:=E.far ⟨b.heap.size,5,none⟩ (int i64 v1) (by show w.heap.size+1<b.heap.size;omega);replace q:=q.far ⟨b.heap.size,6,none⟩ (int i64 v2) (by show b.heap.size≠w.heap.size;omega);replace o:=o.set 6 (int i64 v2) (by simp);replace hb:=hb.setCell (p:=⟨b.heap.size,6,none⟩) (by show w.heap.size<=b.heap.size;omega) (int i64 v2);replace E:=E.far ⟨b.heap.size,6,none⟩ (int i64 v2) (by show w.heap.size+1<b.heap.size;omega);replace q:=q.far ⟨b.heap.size,7,none⟩ (int i64 v3) (by show b.heap.size≠w.heap.size;omega);replace o:=o.set 7 (int i64 v3) (by simp);replace hb:=hb.setCell (p:=⟨b.heap.size,7,none⟩) (by show w.heap.size<=b.heap.size;omega) (int i64 v3);replace E:=E.far ⟨b.heap.size,7,none⟩ (int i64 v3) (by show w.heap.size+1<b.heap.size;omega)
 go_wp2_with fail
 clear c4 f4 c5 f5 c6 f6 c7 f7;refine(qbi (w.heap.size+1) R8 x8 5 _ E).mono ?_;rintro e w7 ⟨nw,rfl,P,x9,n9,D9,y9⟩;have N9:Hid (qcm 5 R8 x8 nw P x9):=n9;replace q:=q.only y9 H;replace o:=o.only y9 K;replace hb:=qc9 hb y9 (by omega);clear n9 y9 E;have RTX:qag w7 b.heap.size (txA site seq wall count v0 v1 v2 v3 (.slice none 0 0)):=o;have hsz:b.heap.size+1<=w7.heap.size:=o.lt;clear o;have nw0:=N9.out.nonneg
 have hlen9:P.length<=1000000:=by
  have a0:=K0.out.2.1;have a1:=N1.out.1;have a2:=N2.out.1;have a3:=N3.out.1;have a4:=N4.out.1;have a5:=N5.out.1;have a6:=N6.out.1;have a7:=N7.out.1;have a8:=N8.out.1;have a9:=N9.out.1;omega
 obtain⟨m,rfl⟩:∃m:Nat,nw=m:=⟨nw.toNat,by omega⟩
 have hm5:m<=5:=by
  rcases N9.out.2 with ⟨_,h,_⟩|⟨_,h,_⟩<;>omega
 clear nw0
 go_wp2_with fail
 go_loopw [30] (λiv wr=>∃(k:Nat) (z:Int) (l:List Wr) (R:List UInt8) (x:Bool) (v:Value),k<=m/\z=k/\iv=int i64 z/\l.length=k/\q80 P x9 l R x/\qag wr b.heap.size (txA site seq wall count v0 v1 v2 v3 v)/\wr.ownsRow (b.heap.size+1) 100 3 v l.length (qhp l)/\Rd wr (w.heap.size+1) R x/\qag wr w.heap.size [int i64 0,int i64 0,int i64 0,int i64 0,int i64 0,int i64 0,int i64 0,int i64 0,.slice none 0 0]/\Below w.heap.size w wr/\b.heap.size+1<=wr.heap.size) (λi _=>m-(intOf i).toNat)
 case atStart=>exact⟨0,0,[],P,x9,.slice none 0 0,by omega,rfl,rfl,rfl,.nil,RTX,World.ownsRow_nil _ _ _ _,D9,q,hb,hsz⟩
 case round=>
  clear RTX D9 q hb hsz;obtain⟨k,z,l,R,x,v,hk,hz,rfl,hlk,hws,o,own,D,q,hb,hsz⟩:=hrel;have HWS:Hid (q80 P x9 l R x):=hws;have HLK:Hid (l.length=k):=hlk
  have hl5:l.length<=5:=by omega
  clear hws hlk;by_cases hlt2:k<m
  ·have h1:z<(m:Int):=by omega
   have h3:0<=z:=by omega
   have HZ:Hid (z=k):=hz;clear hz;have hlenR:R.length<=1000000:=Nat.le_trans (q1w HWS.out) hlen9;have c8:wr.cell? ⟨b.heap.size,8,none⟩=some v:=o.cell 8 _ rfl;obtain⟨i0,hi,hz0,hz1,hz2⟩:=info_parts q3v
   go_wp2_with fail
   go_region_law (first
        |(refine qav rfl 250 #[.pointer (some ⟨w.heap.size+1,0,none⟩)] (by go_simp) (q2e (w.heap.size+1) R x _ D.drew hlenR) ?_
          rintro e Q ⟨key,data,gone,rfl,R',x',wi,D',F⟩;refine⟨_,rfl,?_⟩;have WI:Hid (qml R x key data gone R' x'):=wi;have s:=o.drew.only F K;have d:=q.drew.only F H;have G:=qc9 hb.drew F (by omega);have S:=q6i (w:=wr.drew) own F (by omega);have c8b:Q.cell? ⟨b.heap.size,8,none⟩=some v:=s.cell 8 _ rfl;have hlt8:=s.lt
          clear wi F)
        |(refine step_append_lies _ rfl (.tmp 33) (.tmp 36) 88 rfl (b.heap.size+1) 100 i0 (.agg #[int i64 0,.string ⟨#[]⟩,.bool false]) 3 32 Tryz.underlying88 hi hz0 hz1 hz2 rfl (by decide) v l.length (qhp l) (by simp[Act.eval]) (S.alloc _) ⟨Q.heap.size,0,none⟩ 1 1 (wrC ⟨key,data,gone⟩) (by simp[Act.eval]) rfl (World.news_of_block (heap_alloc_new Q (.cells #[int i64 key,.string data,.bool gone] 100))) (by intro u hu;simp[wrC]at hu;rcases hu with rfl|rfl|rfl<;>rfl) (by decide) (by simp only[maxLen];omega) (by omega) (by simp;omega) _ rfl ?_
          intro g cap U own9 gr9 eg9 lt9;have RT9:=(s.boxed (.cells #[int i64 key,.string data,.bool gone] 100)).grown gr9 (λe=>by have:=qnz S _ e.symm;omega);have RV9:=(d.boxed (.cells #[int i64 key,.string data,.bool gone] 100)).grown gr9 (λe=>by have:=qnz S _ e.symm;omega);have D9:=(D'.alloc (.cells #[int i64 key,.string data,.bool gone] 100)).grown gr9 (λj hj=>by have:=qnz S _ hj;omega);have C:=(boxed G (.cells #[int i64 key,.string data,.bool gone] 100)).grown gr9 (by have:=G.size;simp;omega) (λj hj=>by have:=qnz S _ hj;omega);have c8c:U.cell? ⟨b.heap.size,8,none⟩=some v:=RT9.cell 8 _ rfl
          have f8c:U.frozen? ⟨b.heap.size,8,none⟩=false:=RT9.free 8 (by simp[txA])))
   all_goals
        have RT10:qag (U.setCell ⟨b.heap.size,8,none⟩ (.slice (some ⟨g,0,none⟩) (l.length+1) cap)) b.heap.size (txA site seq wall count v0 v1 v2 v3 (.slice (some ⟨g,0,none⟩) (l.length+1) cap)):=RT9.set 8 (.slice (some ⟨g,0,none⟩) (l.length+1) cap) (by simp[txA]);have RV10:=RV9.far ⟨b.heap.size,8,none⟩ (.slice (some ⟨g,0,none⟩) (l.length+1) cap) (by show b.heap.size≠w.heap.size;omega);have D10:=D9.far ⟨b.heap.size,8,none⟩ (.slice (some ⟨g,0,none⟩) (l.length+1) cap) (by show w.heap.size+1<b.heap.size;omega);have hb10:=C.setCell (p:=⟨b.heap.size,8,none⟩) (by show w.heap.size<=b.heap.size;omega) (.slice (some ⟨g,0,none⟩) (l.length+1) cap);have own10:=ownsRow_setCell_below own9 (a:=⟨b.heap.size,8,none⟩) (by show b.heap.size<b.heap.size+1;omega) (.slice (some ⟨g,0,none⟩) (l.length+1) cap)
        go_wp2_with fail
        go_roundw
        case rel=>exact⟨k+1,z+1,l++[⟨key,data,gone⟩],R',x',_,by omega,by have:=HZ.out;omega,by go_num,by have:=HLK.out;simp;omega,.snoc HWS.out WI.out,RT10,by rw[qlr,List.length_append];exact own10,D10,RV10,hb10,by have:=RT10.lt;omega⟩
        case measure=>simp[intOf];omega
  ·obtain rfl:k=m:=by omega
   have CH:Hid ((qma R x=true->toL (txS site seq wall count v0 v1 v2 v3 l)=L)/\(∀y,qv3 L y->qma R x=true/\y=⟨site,seq,wall,count,v0,v1,v2,v3,l⟩)):=q81 K0.out N1.out N2.out N3.out N4.out N5.out N6.out N7.out N8.out N9.out HWS.out (by have:=HLK.out;omega);obtain⟨I,J,rfl,N⟩:=qdn own;have OWN:Hid (wr.ownsRow (b.heap.size+1) 100 3 (.slice I l.length J) l.length (qhp l)):=own;clear own
   go_wp2_with fail
   refine(qqg (w.heap.size+1) R x _ D).mono ?_;rintro e Q ⟨rfl,G⟩;have d:=q.later G;have s:=o.later G;replace N:=N.later G;replace OWN:Hid (Q.ownsRow (b.heap.size+1) 100 3 (.slice I l.length J) l.length (qhp l)):=qt4 OWN.out G;have M:=qab hb G;clear G D q o;cases hd:qma R x
   ·have NO:Hid (∀y,¬qv3 L y):=λy hy=>by rw[(CH.out.2 y hy).1]at hd;cases hd
    clear hd;have V:=(((((((((d.set 0 (int i64 0) (by simp)).set 1 (int i64 0) (by simp)).set 2 (int i64 0) (by simp)).set 3 (int i64 0) (by simp)).set 4 (int i64 0) (by simp)).set 5 (int i64 0) (by simp)).set 6 (int i64 0) (by simp)).set 7 (int i64 0) (by simp)).set 8 (.slice none 0 0) (by simp));have W:=(((((((((M.setCell (p:=⟨w.heap.size,0,none⟩) (Nat.le_refl _) (int i64 0)).setCell (p:=⟨w.heap.size,1,none⟩) (Nat.le_refl _) (int i64 0)).setCell (p:=⟨w.heap.size,2,none⟩) (Nat.le_refl _) (int i64 0)).setCell (p:=⟨w.heap.size,3,none⟩) (Nat.le_refl _) (int i64 0)).setCell (p:=⟨w.heap.size,4,none⟩) (Nat.le_refl _) (int i64 0)).setCell (p:=⟨w.heap.size,5,none⟩) (Nat.le_refl _) (int i64 0)).setCell (p:=⟨w.heap.size,6,none⟩) (Nat.le_refl _) (int i64 0)).setCell (p:=⟨w.heap.size,7,none⟩) (Nat.le_refl _) (int i64 0)).setCell (p:=⟨w.heap.size,8,none⟩) (Nat.le_refl _) (.slice none 0 0));have O:=d.cell 0 _ rfl;have g0:=d.free 0 (by simp);have k1:=d.cell 1 _ rfl;have g1:=d.free 1 (by simp);have k2:=d.cell 2 _ rfl;have g2:=d.free 2 (by simp);have k3:=d.cell 3 _ rfl;have g3:=d.free 3 (by simp);have k4:=d.cell 4 _ rfl;have g4:=d.free 4 (by simp);have k5:=d.cell 5 _ rfl;have g5:=d.free 5 (by simp);have k6:=d.cell 6 _ rfl;have g6:=d.free 6 (by simp);have k7:=d.cell 7 _ rfl;have g7:=d.free 7 (by simp);have k8:=d.cell 8 _ rfl;have g8:=d.free 8 (by simp)
    go_wp2_with fail
    refine bodyPost_ret (v:=.tuple #[.agg #[int i64 0,int i64 0,int i64 0,int i64 0,int i64 0,int i64 0,int i64 0,int i64 0,.slice none 0 0],.iface 26 (int i64 3)]) (qk2 V rfl rfl ⟨_,rfl⟩ ⟨_,rfl⟩ ⟨_,rfl⟩ ⟨_,rfl⟩ ⟨_,rfl⟩ ⟨_,rfl⟩ ⟨_,rfl⟩ ⟨_,rfl⟩ ⟨_,_,_,rfl⟩) rfl ⟨.inr ⟨NO.out,rfl⟩,W⟩
   ·have HD:Hid (qma R x=true):=hd;clear hd;obtain⟨c0,c1,c2,c3,c4,c5,c6,c7,c8⟩:=s.c9;cases ho:qdf site seq wall count v0 v1 v2 v3 l
    ·have NO:Hid (∀y,¬qv3 L y):=λy hy=>by
      have h1:=(CH.out.2 y hy).2;have h2:=hy.1;rw[h1]at h2;rw[show TxV.ok ⟨site,seq,wall,count,v0,v1,v2,v3,l⟩=qdf site seq wall count v0 v1 v2 v3 l from rfl,ho]at h2;cases h2
     have HO:Hid (qdf site seq wall count v0 v1 v2 v3 l=false):=ho;clear ho
     go_wp2_with fail
     refine(qgf N HO.out).mono ?_;rintro e U ⟨rfl,C⟩;replace d:=d.later C;replace M:=qab M C;clear C s N c0 c1 c2 c3 c4 c5 c6 c7 c8;have V:=(((((((((d.set 0 (int i64 0) (by simp)).set 1 (int i64 0) (by simp)).set 2 (int i64 0) (by simp)).set 3 (int i64 0) (by simp)).set 4 (int i64 0) (by simp)).set 5 (int i64 0) (by simp)).set 6 (int i64 0) (by simp)).set 7 (int i64 0) (by simp)).set 8 (.slice none 0 0) (by simp));have W:=(((((((((M.setCell (p:=⟨w.heap.size,0,none⟩) (Nat.le_refl _) (int i64 0)).setCell (p:=⟨w.heap.size,1,none⟩) (Nat.le_refl _) (int i64 0)).setCell (p:=⟨w.heap.size,2,none⟩) (Nat.le_refl _) (int i64 0)).setCell (p:=⟨w.heap.size,3,none⟩) (Nat.le_refl _) (int i64 0)).setCell (p:=⟨w.heap.size,4,none⟩) (Nat.le_refl _) (int i64 0)).setCell (p:=⟨w.heap.size,5,none⟩) (Nat.le_refl _) (int i64 0)).setCell (p:=⟨w.heap.size,6,none⟩) (Nat.le_refl _) (int i64 0)).setCell (p:=⟨w.heap.size,7,none⟩) (Nat.le_refl _) (int i64 0)).setCell (p:=⟨w.heap.size,8,none⟩) (Nat.le_refl _) (.slice none 0 0));have O:=d.cell 0 _ rfl;have g0:=d.free 0 (by simp);have k1:=d.cell 1 _ rfl;have g1:=d.free 1 (by simp);have k2:=d.cell 2 _ rfl;have g2:=d.free 2 (by simp);have k3:=d.cell 3 _ rfl;have g3:=d.free 3 (by simp);have k4:=d.cell 4 _ rfl;have g4:=d.free 4 (by simp);have k5:=d.cell 5 _ rfl;have g5:=d.free 5 (by simp);have k6:=d.cell 6 _ rfl;have g6:=d.free 6 (by simp);have k7:=d.cell 7 _ rfl;have g7:=d.free 7 (by simp);have k8:=d.cell 8 _ rfl;have g8:=d.free 8 (by simp)
     go_wp2_with fail
     refine bodyPost_ret (v:=.tuple #[.agg #[int i64 0,int i64 0,int i64 0,int i64 0,int i64 0,int i64 0,int i64 0,int i64 0,.slice none 0 0],.iface 26 (int i64 3)]) (qk2 V rfl rfl ⟨_,rfl⟩ ⟨_,rfl⟩ ⟨_,rfl⟩ ⟨_,rfl⟩ ⟨_,rfl⟩ ⟨_,rfl⟩ ⟨_,rfl⟩ ⟨_,rfl⟩ ⟨_,_,_,rfl⟩) rfl ⟨.inr ⟨NO.out,rfl⟩,W⟩
    ·have YES:Hid (qv3 L ⟨site,seq,wall,count,v0,v1,v2,v3,l⟩):=⟨ho,CH.out.1 HD.out⟩;have HO:Hid (qdf site seq wall count v0 v1 v2 v3 l=true):=ho;clear ho
     go_wp2_with fail
     refine(qgf N HO.out).mono ?_;rintro e U ⟨rfl,C⟩;replace d:=d.later C;replace s:=s.later C;have r:=qt4 OWN.out C;replace M:=qab M C;clear C;replace c0:=s.cell 0 _ rfl;replace c1:=s.cell 1 _ rfl;replace c2:=s.cell 2 _ rfl;replace c3:=s.cell 3 _ rfl;replace c4:=s.cell 4 _ rfl;replace c5:=s.cell 5 _ rfl;replace c6:=s.cell 6 _ rfl;replace c7:=s.cell 7 _ rfl;replace c8:=s.cell 8 _ rfl;have V:=(((((((((d.set 0 (int i64 site) (by simp)).set 1 (int i64 seq) (by simp)).set 2 (int i64 wall) (by simp)).set 3 (int i64 count) (by simp)).set 4 (int i64 v0) (by simp)).set 5 (int i64 v1) (by simp)).set 6 (int i64 v2) (by simp)).set 7 (int i64 v3) (by simp)).set 8 (.slice I l.length J) (by simp));replace r:=ownsRow_setCell_below r (a:=⟨w.heap.size,0,none⟩) (by show w.heap.size<b.heap.size+1;omega) (int i64 site);replace r:=ownsRow_setCell_below r (a:=⟨w.heap.size,1,none⟩) (by show w.heap.size<b.heap.size+1;omega) (int i64 seq);replace r:=ownsRow_setCell_below r (a:=⟨w.heap.size,2,none⟩) (by show w.heap.size<b.heap.size+1;omega) (int i64 wall);replace r:=ownsRow_setCell_below r (a:=⟨w.heap.size,3,none⟩) (by show w.heap.size<b.heap.size+1;omega) (int i64 count);replace r:=ownsRow_setCell_below r (a:=⟨w.heap.size,4,none⟩) (by show w.heap.size<b.heap.size+1;omega) (int i64 v0);replace r:=ownsRow_setCell_below r (a:=⟨w.heap.size,5,none⟩) (by show w.heap.size<b.heap.size+1;omega) (int i64 v1);replace r:=ownsRow_setCell_below r (a:=⟨w.heap.size,6,none⟩) (by show w.heap.size<b.heap.size+1;omega) (int i64 v2);replace r:=ownsRow_setCell_below r (a:=⟨w.heap.size,7,none⟩) (by show w.heap.size<b.heap.size+1;omega) (int i64 v3);replace r:=ownsRow_setCell_below r (a:=⟨w.heap.size,8,none⟩) (by show w.heap.size<b.heap.size+1;omega) (.slice I l.length J);obtain⟨a2,cap2,ea,hW2⟩:=qdn r;injection ea with e1 _ e3;subst e1 e3;have HW2:Hid (qaz _ I J l):=hW2;clear hW2 r N OWN;have W:=(((((((((M.setCell (p:=⟨w.heap.size,0,none⟩) (Nat.le_refl _) (int i64 site)).setCell (p:=⟨w.heap.size,1,none⟩) (Nat.le_refl _) (int i64 seq)).setCell (p:=⟨w.heap.size,2,none⟩) (Nat.le_refl _) (int i64 wall)).setCell (p:=⟨w.heap.size,3,none⟩) (Nat.le_refl _) (int i64 count)).setCell (p:=⟨w.heap.size,4,none⟩) (Nat.le_refl _) (int i64 v0)).setCell (p:=⟨w.heap.size,5,none⟩) (Nat.le_refl _) (int i64 v1)).setCell (p:=⟨w.heap.size,6,none⟩) (Nat.le_refl _) (int i64 v2)).setCell (p:=⟨w.heap.size,7,none⟩) (Nat.le_refl _) (int i64 v3)).setCell (p:=⟨w.heap.size,8,none⟩) (Nat.le_refl _) (.slice I l.length J))
     have O:=d.cell 0 _ rfl;have g0:=d.free 0 (by simp);have k1:=d.cell 1 _ rfl;have g1:=d.free 1 (by simp);have k2:=d.cell 2 _ rfl;have g2:=d.free 2 (by simp);have k3:=d.cell 3 _ rfl;have g3:=d.free 3 (by simp);have k4:=d.cell 4 _ rfl;have g4:=d.free 4 (by simp);have k5:=d.cell 5 _ rfl;have g5:=d.free 5 (by simp);have k6:=d.cell 6 _ rfl;have g6:=d.free 6 (by simp);have k7:=d.cell 7 _ rfl;have g7:=d.free 7 (by simp);have k8:=d.cell 8 _ rfl;have g8:=d.free 8 (by simp)
     go_wp2_with fail
     refine bodyPost_ret (v:=.tuple #[.agg #[int i64 site,int i64 seq,int i64 wall,int i64 count,int i64 v0,int i64 v1,int i64 v2,int i64 v3,.slice I l.length J],.nilIface]) (qk2 V rfl rfl ⟨_,rfl⟩ ⟨_,rfl⟩ ⟨_,rfl⟩ ⟨_,rfl⟩ ⟨_,rfl⟩ ⟨_,rfl⟩ ⟨_,rfl⟩ ⟨_,rfl⟩ ⟨_,_,_,rfl⟩) rfl ⟨.inl ⟨⟨site,seq,wall,count,v0,v1,v2,v3,l⟩,I,J,YES.out,HW2.out,rfl⟩,W⟩
end
section
open Go.RowKit
def qpv (S:ByteArray) (ns:List Int):ByteArray:=ns.foldl (λs n=>s++qi7 5 n) S
theorem qrj {S:ByteArray} {ns:List Int} {k:Nat} (hk:k<ns.length):qpv S (ns.take (k+1))=qpv S (ns.take k)++qi7 5 (ns.getD k 0):=by
 unfold qpv;rw[List.take_succ_eq_append_getElem hk,List.foldl_append];simp[List.getD,List.getElem?_eq_getElem hk]
theorem qkd (S:ByteArray) (ns:List Int):∀k,k<=ns.length->(qpv S (ns.take k)).size<=S.size+6*k
 |0,_=>by simp[qpv]
 |k+1,hk=>by
  rw[qrj (by omega),ByteArray.size_append];have a:=qkd S ns k (by omega);have b:=qbv 5 (ns.getD k 0);omega
variable {m:Int}
theorem jex (h0:0<=m):IntKind.i64.wrap (m.tmod 128)=m%128:=by
 rw[Int.tmod_eq_emod_of_nonneg h0];unfold IntKind.wrap;simp[IntKind.signed,IntKind.bits];omega
theorem jes (h0:0<=m) (hm:m<=1099511627776):IntKind.i64.wrap (m.tdiv 128)=m/128:=by
 rw[Int.tdiv_eq_ediv_of_nonneg h0];unfold IntKind.wrap;simp[IntKind.signed,IntKind.bits];omega
theorem qxw:(Tryz.prog.info? 5).map (λi=>(i.zero,i.size,i.bytes))=some (some (.int .u8 0),1,1):=by kernel_rfl
theorem qen (B g cap:Nat) (S:ByteArray) (lb lo lc:Nat) (ns:List Int) (w:World) (hO:Own w B g cap S) (hB:B<=w.heap.size) (hne:lb≠g)
 (hC:∀i,i<ns.length->w.cell? ⟨lb,lo+i,none⟩=some (.int .i64 (ns.getD i 0))) (hr:∀i,i<ns.length->0<=ns.getD i 0/\ns.getD i 0<=1099511627776) (hs:S.size+6*ns.length<=900000):
 Calls Tryz.prog 204 #[.slice (some ⟨g,0,none⟩) S.size cap,.slice (some ⟨lb,lo,none⟩) ns.length lc] w λe w'=>
  ∃S' g' cap',e=.returned (.slice (some ⟨g',0,none⟩) S'.size cap')/\S'=qpv S ns/\Own w' B g' cap' S'/\(g'=g\/w.heap.size<=g')/\qdw g w w':=by
 have HC:Hid _:=hC;have HR:Hid _:=hr;clear hC hr;go_enter Tryz.func204,Tryz.ntmps204
 go_wp2_with fail
 go_loopw [0,9] (λbv i wr=>∃(k:Nat) (z:Int) (S':ByteArray) (g' cap':Nat),k<=ns.length/\z=k/\i=.int .i64 z/\bv=.slice (some ⟨g',0,none⟩) S'.size cap'/\S'=qpv S (ns.take k)/\Own wr B g' cap' S'/\(g'=g\/w.heap.size<=g')/\qdw g w wr) (λ_ i _=>ns.length-(intOf i).toNat)
 case atStart=>exact⟨0,0,S,g,cap,by omega,rfl,rfl,rfl,rfl,hO,.inl rfl,qdw.refl _ _⟩
 case round=>
  obtain⟨k,z,S1,g1,c1,hk,hz,rfl,rfl,hS1,O1,e1,y1⟩:=hrel;have HS1:Hid _:=hS1;clear hS1
  have hsz1:S1.size<=S.size+6*k:=by rw[HS1.out];exact qkd S ns k hk
  by_cases hlt:k<ns.length
  ·have x0:=y1.cell (HC.out k hlt) hne;obtain⟨r0,r1⟩:=HR.out k hlt
   have h1:z<(ns.length:Int):=by omega
   have h2:z.toNat=k:=by omega
   have h3:0<=z:=by omega
   have HZ:Hid _:=hz;clear hz;have HN:=qrj (S:=S) hlt;obtain⟨n,hn⟩:∃n,ns.getD k 0=n:=⟨_,rfl⟩;rw[hn]at x0 r0 r1 HN;rw[<-HS1.out]at HN;obtain⟨T,hT⟩:∃T,T=S1++qi7 5 n:=⟨_,rfl⟩;rw[<-hT]at HN;have HN2:Hid _:=HN;have HT:Hid _:=hT;clear HN hT hn
   have hszT:T.size<=S.size+6*k+6:=by rw[HT.out,ByteArray.size_append];have:=qbv 5 n;omega
   go_wp2_with fail
   go_loopw [0,6] (λbv nv wi=>∃(m:Int) (f:Nat) (S2:ByteArray) (g2 c2:Nat),nv=.int .i64 m/\bv=.slice (some ⟨g2,0,none⟩) S2.size c2/\0<=m/\m<=1099511627776/\m<128^(f+1)/\S2++qi7 f m=T/\Own wi B g2 c2 S2/\(g2=g\/w.heap.size<=g2)/\qdw g w wi) (λ_ nv _=>(intOf nv).toNat)
   case atStart=>exact⟨n,5,S1,g1,c1,rfl,rfl,r0,r1,by have e:(128:Int)^(5+1)=4398046511104:=by decide
                                                     rw[e];omega,HT.out.symm,O1,e1,y1⟩
   case round=>
        obtain⟨m,f,S2,g2,c2,rfl,rfl,m0,m1,mf,hT2,O2,e2,y2⟩:=hrel;have HT2:Hid _:=hT2;clear hT2
        have hszS:S2.size<=T.size:=by rw[<-HT2.out,ByteArray.size_append];omega
        have q:=jes m0 m1;have r:=jex m0;by_cases hm:127<m
        ·obtain⟨f,rfl⟩:∃f',f=f'+1:=by
          cases f with
          |zero=>simp at mf;omega
          |succ f=>exact⟨f,rfl⟩
         have MF:Hid _:=mf;clear mf
         have hc:(wr.alloc (.cells #[.int .u8 (m%128+128)] 5)).cell? ⟨wr.heap.size,0,none⟩=some (.int .u8 (m%128+128)):=by go_simp
         go_wp2_with (at_builtin;refine qdl rfl (.tmp 15) (.tmp 20) 30 30 5 rfl Tryz.underlying30 qxw rfl (O2.alloc _) (qkk (m%128+128)) _ rfl (q5w Tryz.underlying30 (by omega) (by omega) 1 hc) (by rw[qes];omega) (by have:=y2.size;simp;omega) ?_;intro S3 g3 c3 w3 hS3 O3 e3 y3)
         go_roundw
         case rel=>
          have h128:(128:Int)^(f+1+1)=128^(f+1)*128:=Int.pow_succ 128 (f+1);have hmf:=MF.out;rw[h128]at hmf;have y4:qdw g2 wr w3:=(qdw.ofBelow (boxed (Below.refl _ _) _)).trans y3 (.inl rfl);refine⟨m/128,f,S3,g3,c3,rfl,rfl,by omega,by omega,by omega,?_,O3,?_,y2.trans y4 e2⟩
          ·rw[hS3.out,<-HT2.out,qvg (by omega),ByteArray.append_assoc]
          ·rcases e3 with rfl|rfl
           ·exact e2
           ·exact .inr (by have:=y2.size;simp;omega)
         case measure=>simp[intOf];omega
        ·have hc:(wr.alloc (.cells #[.int .u8 m] 5)).cell? ⟨wr.heap.size,0,none⟩=some (.int .u8 m):=by go_simp
         have MF:Hid _:=mf;clear mf
         go_wp2_with (at_builtin;refine qdl rfl (.tmp 24) (.tmp 27) 30 30 5 rfl Tryz.underlying30 qxw rfl (O2.alloc _) (qkk m) _ rfl (q5w Tryz.underlying30 (by omega) (by omega) 1 hc) (by rw[qes];omega) (by have:=y2.size;simp;omega) ?_;intro S3 g3 c3 w3 hS3 O3 e3 y3)
         go_roundw
         case rel=>
          have y4:qdw g2 wr w3:=(qdw.ofBelow (boxed (Below.refl _ _) _)).trans y3 (.inl rfl);refine⟨k+1,z+1,S3,g3,c3,by omega,by have:=HZ.out;omega,by go_num,rfl,?_,O3,?_,y2.trans y4 e2⟩
          ·rw[hS3.out,HN2.out,<-HT2.out,qwp (by omega)]
          ·rcases e3 with rfl|rfl
           ·exact e2
           ·exact .inr (by have:=y2.size;simp;omega)
         case measure=>simp[intOf];omega
  ·have e:k=ns.length:=by omega
   go_wp2_with fail
   go_ret;exact⟨S1,g1,c1,rfl,by rw[HS1.out,e,List.take_length],O1,e1,y1⟩
end
section
open Go.Value Go.IntKind Go.RowKit
theorem ql3 (S:ByteArray) (ns:List Int):(qpv S ns).size<=S.size+6*ns.length:=by
 have:=qkd S ns ns.length (Nat.le_refl _)
 rwa [List.take_length]at this
theorem q7b (g:Bool):qi7 5 (if g then 1 else 0)=q4n g:=by cases g<;>rfl
theorem jac (S:ByteArray) (key:Int) (data:ByteArray) (gone:Bool):qpv S [key,if gone then 1 else 0,(data.size:Int)]++data=stepS S ⟨key,data,gone⟩:=by
 show S++qi7 5 key++qi7 5 (if gone then 1 else 0)++qi7 5 (data.size:Int)++data=S++qi7 5 key++q4n gone++(qi7 5 (data.size:Int)++data);rw[q7b,ByteArray.append_assoc (b:=qi7 5 (data.size:Int))]
theorem q6s (site seq wall count d0 d1 d2 d3:Int) (a:Option Addr) (cap:Nat) (l:List Wr) (w:World) (F:qaz w a cap l) (h:qdf site seq wall count d0 d1 d2 d3 l=true):
 Calls Tryz.prog 246 #[.agg #[int i64 site,int i64 seq,int i64 wall,int i64 count,int i64 d0,int i64 d1,int i64 d2,int i64 d3,.slice a l.length cap]] w λe w'=>
  ∃S g cp,e=.returned (.tuple #[.slice (some ⟨g,0,none⟩) S.size cp,.nilIface])/\S=txS site seq wall count d0 d1 d2 d3 l/\Own w' w.heap.size g cp S/\Below w.heap.size w w':=by
 have kc:=λ(w:World) (C:Array Value) (n c:Nat)=>Lib.run_convert_bytes_const (P:=Tryz.prog) w 30 5 C n c Tryz.underlying30 Tryz.underlying5;have H:Hid _:=h;have ht:=h;simp only[qdf,Bool.and_eq_true,qa5,qay,qfs]at ht;obtain⟨⟨⟨⟨⟨ts,tq⟩,tw,tc⟩,⟨⟨t0,t1⟩,t2⟩,t3⟩,_⟩,ac⟩:=ht;have TS:Hid ((0<=site/\site<=3)/\(1<=seq/\seq<=1099511627776)/\(0<=wall/\wall<=1099511627776)/\(0<=count/\count<=1099511627776)):=⟨ts,tq,tw,tc⟩;have TD:Hid ((0<=d0/\d0<=1099511627776)/\(0<=d1/\d1<=1099511627776)/\(0<=d2/\d2<=1099511627776)/\(0<=d3/\d3<=1099511627776)):=⟨t0,t1,t2,t3⟩;have ad:Hid (1<=l.length/\l.length<=5):=qln ac;have ae:Hid (∀j,j<l.length->qjr l j=true):=ql4 ac;clear ac ts tq tw tc t0 t1 t2 t3 h
 have c0:(w.alloc (.cells #[int i64 site,int i64 seq,int i64 wall,int i64 count,int i64 d0,int i64 d1,int i64 d2,int i64 d3,.slice a l.length cap] 102)).cell? ⟨w.heap.size,0,none⟩=some (int i64 site):=by go_simp
 have c1:(w.alloc (.cells #[int i64 site,int i64 seq,int i64 wall,int i64 count,int i64 d0,int i64 d1,int i64 d2,int i64 d3,.slice a l.length cap] 102)).cell? ⟨w.heap.size,1,none⟩=some (int i64 seq):=by go_simp
 have c2:(w.alloc (.cells #[int i64 site,int i64 seq,int i64 wall,int i64 count,int i64 d0,int i64 d1,int i64 d2,int i64 d3,.slice a l.length cap] 102)).cell? ⟨w.heap.size,2,none⟩=some (int i64 wall):=by go_simp
 have c3:(w.alloc (.cells #[int i64 site,int i64 seq,int i64 wall,int i64 count,int i64 d0,int i64 d1,int i64 d2,int i64 d3,.slice a l.length cap] 102)).cell? ⟨w.heap.size,3,none⟩=some (int i64 count):=by go_simp
 have c4:(w.alloc (.cells #[int i64 site,int i64 seq,int i64 wall,int i64 count,int i64 d0,int i64 d1,int i64 d2,int i64 d3,.slice a l.length cap] 102)).cell? ⟨w.heap.size,4,none⟩=some (int i64 d0):=by go_simp
 have c5:(w.alloc (.cells #[int i64 site,int i64 seq,int i64 wall,int i64 count,int i64 d0,int i64 d1,int i64 d2,int i64 d3,.slice a l.length cap] 102)).cell? ⟨w.heap.size,5,none⟩=some (int i64 d1):=by go_simp
 have c6:(w.alloc (.cells #[int i64 site,int i64 seq,int i64 wall,int i64 count,int i64 d0,int i64 d1,int i64 d2,int i64 d3,.slice a l.length cap] 102)).cell? ⟨w.heap.size,6,none⟩=some (int i64 d2):=by go_simp
 have J:(w.alloc (.cells #[int i64 site,int i64 seq,int i64 wall,int i64 count,int i64 d0,int i64 d1,int i64 d2,int i64 d3,.slice a l.length cap] 102)).cell? ⟨w.heap.size,7,none⟩=some (int i64 d3):=by go_simp
 have s:(w.alloc (.cells #[int i64 site,int i64 seq,int i64 wall,int i64 count,int i64 d0,int i64 d1,int i64 d2,int i64 d3,.slice a l.length cap] 102)).cell? ⟨w.heap.size,8,none⟩=some (.slice a l.length cap):=by go_simp
 go_enter Tryz.func246,Tryz.ntmps246
 go_wp2_with fail
 refine(qgf (F.later (boxed (Below.refl _ _) _)) H.out).mono ?_;rintro e d ⟨rfl,q⟩;replace c0:=cell_later q c0;replace c1:=cell_later q c1;replace c2:=cell_later q c2;replace c3:=cell_later q c3;replace c4:=cell_later q c4;replace c5:=cell_later q c5;replace c6:=cell_later q c6;replace J:=cell_later q J;replace s:=cell_later q s;have hbw:=qab (boxed (Below.refl _ _) _) q;replace F:=F.later hbw;clear q;have hlt:w.heap.size<d.heap.size:=World.block_lt_of_cell? _ _ c0;have K:Hid _:=hlt
 go_wp2_with fail
 refine(qen d.heap.size d.heap.size 1 (qkk 116) (d.heap.size+1) 0 4 [site,seq,wall,count] _ ((Own.one d d.heap.size _ (by omega) (by omega) (Nat.le_refl _)).alloc _) (by simp;omega) (by omega) ?_ ?_ (by rw[qes];simp)).mono ?_
 ·intro i hi
  have m:i=0\/i=1\/i=2\/i=3:=by simp at hi;omega
  rcases m with rfl|rfl|rfl|rfl<;>go_simp
 ·intro i hi
  have m:i=0\/i=1\/i=2\/i=3:=by simp at hi;omega
  obtain⟨L,M,q2,q3⟩:=TS.out;rcases m with rfl|rfl|rfl|rfl
  ·exact⟨L.1,Int.le_trans L.2 (by decide)⟩
  ·exact⟨Int.le_trans (by decide) M.1,M.2⟩
  ·exact q2
  ·exact q3
 rintro e w2 ⟨S1,g1,cap1,rfl,hS1,O1,e1,N⟩;have HS1:Hid _:=hS1;have r:Below d.heap.size d w2:=(boxed (boxed (Below.refl _ _) _) _).trans (N.below (Nat.le_refl _) (by simp;omega));have W:Hid _:=O1.base
 have hz1:S1.size<=25:=by rw[HS1.out];exact ql3 (qkk 116) [site,seq,wall,count]
 clear hS1 N e1;replace c4:=cell_later r c4;replace c5:=cell_later r c5;replace c6:=cell_later r c6;replace J:=cell_later r J;replace s:=cell_later r s;clear c0 c1 c2 c3
 go_wp2_with fail
 refine(qen d.heap.size g1 cap1 S1 w.heap.size 4 4 [d0,d1,d2,d3] w2 O1 r.size (by have:=W.out;have:=K.out;omega) ?_ ?_ ?_).mono ?_
 ·intro i hi
  have m:i=0\/i=1\/i=2\/i=3:=by simp at hi;omega
  rcases m with rfl|rfl|rfl|rfl
  ·exact c4
  ·exact c5
  ·exact c6
  ·exact J
 ·intro i hi
  have m:i=0\/i=1\/i=2\/i=3:=by simp at hi;omega
  obtain⟨L,M,q2,q3⟩:=TD.out;rcases m with rfl|rfl|rfl|rfl
  ·exact L
  ·exact M
  ·exact q2
  ·exact q3
 ·exact Nat.le_trans (Nat.add_le_add_right hz1 _) (by simp)
 rintro e X ⟨S2,g2,cap2,rfl,hS2,Y,e2,O⟩;have HS2:Hid _:=hS2;have Q:Below d.heap.size d X:=r.trans (O.below W.out r.size)
 have hz2:S2.size<=49:=by rw[HS2.out];exact Nat.le_trans (ql3 S1 [d0,d1,d2,d3]) (Nat.add_le_add_right hz1 24)
 have HG2:Hid _:=Y.base;replace s:X.cell? ⟨w.heap.size,8,none⟩=some (.slice a l.length cap):=(O.below (B:=d.heap.size) W.out r.size).cell (p:=⟨w.heap.size,8,none⟩) K.out▸s;clear hS2 O e2 r c4 c5 c6 J
 go_wp2_with fail
 refine(qen d.heap.size g2 cap2 S2 X.heap.size 0 1 [(l.length:Int)] _ (Y.alloc _) (by have:=Q.size;simp;omega) (by have:=Y.lt;omega) ?_ ?_ ?_).mono ?_
 ·intro i hi
  obtain rfl:i=0:=by simpa using hi
  go_simp
 ·intro i hi
  obtain rfl:i=0:=by simpa using hi
  have:=ad.out;show 0<=(l.length:Int)/\(l.length:Int)<=1099511627776;omega
 ·exact Nat.le_trans (Nat.add_le_add_right hz2 _) (by simp)
 rintro e w4 ⟨S3,g3,cap3,rfl,hS3,O3,e3,y3⟩
 have HS3:Hid (S3=quj site seq wall count d0 d1 d2 d3 l.length):=by show S3=_;rw[hS3,HS2.out,HS1.out];rfl
 have hb34:Below d.heap.size X w4:=((Below.refl _ _).alloc Q.size _).trans (y3.below HG2.out (by have:=Q.size;simp;omega));have hb4:Below d.heap.size d w4:=Q.trans hb34;replace s:w4.cell? ⟨w.heap.size,8,none⟩=some (.slice a l.length cap):=hb34.cell (p:=⟨w.heap.size,8,none⟩) K.out▸s
 obtain⟨b,off,rfl,C⟩:∃b off,a=some ⟨b,off,none⟩/\qd4 d b off l:=by
  rcases F.held with h0|h0
  ·have:=ad.out;rw[h0]at this;simp at this
  ·exact h0
 have hcap:=F.cap;have hlc:=F.len;clear F hS3 y3 e3 hb34 Y hz2 HG2 W O1 hz1 Q
 go_wp2_with fail
 clear s
 go_loopw [4,39] (λbv i wr=>∃(k:Nat) (z:Int) (S':ByteArray) (g' cap':Nat),k<=l.length/\z=k/\i=int i64 z/\bv=.slice (some ⟨g',0,none⟩) S'.size cap'/\S'=wrS (quj site seq wall count d0 d1 d2 d3 l.length) (l.take k)/\Own wr d.heap.size g' cap' S'/\Below d.heap.size d wr) (λ_ i _=>l.length-(intOf i).toNat)
 case atStart=>exact⟨0,0,S3,g3,cap3,by omega,rfl,rfl,rfl,HS3.out,O3,hb4⟩
 case round=>
  clear O3 hb4;obtain⟨k,z,u,R,cap5,hk,hz,rfl,rfl,hS5,v,o⟩:=hrel;have HS5:Hid _:=hS5;clear hS5
  have hsz:u.size<=55+25*k:=by
   rw[HS5.out];exact Nat.le_trans (qsm ae.out k hk) (Nat.add_le_add_right (qqn _ _ _ _ _ _ _ _ _) _)
  have hlen:=ad.out;by_cases Z:k<l.length
  ·obtain⟨x0,x1,x2⟩:=(C.later o) k Z
   have h1:z<(l.length:Int):=by omega
   have h2:z.toNat=k:=by omega
   have h3:0<=z:=by omega
   have HZ:Hid _:=hz;clear hz;have hkey:=qsv (ae.out k Z);have hsize:=qov (ae.out k Z);obtain⟨⟨key,data,gone⟩,hx⟩:∃x,qgi l k=x:=⟨_,rfl⟩;rw[hx]at x0 x1 x2 hkey hsize;have HX:Hid _:=hx;clear hx;simp only at x0 x1 x2 hkey hsize;obtain⟨L,M⟩:=hkey
   have E:Hid (∀y,y=qpv u [key,if gone then 1 else 0,(data.size:Int)]->y++data=wrS (quj site seq wall count d0 d1 d2 d3 l.length) (l.take (k+1))):=λy h6=>by
        rw[h6,jac,qxi Z,HX.out,HS5.out]
   obtain⟨D,aa⟩:∃D:Int,D=if gone then 1 else 0:=⟨_,rfl⟩
   rw[<-aa]at E
   have Hgi:Hid (0<=D/\D<=1):=by
        show 0<=D/\D<=1;rw[aa]
        cases gone<;>decide
   have N:(wr.alloc (.cells #[int i64 key,.string data,.bool gone] 100)).cell? ⟨wr.heap.size,1,none⟩=some (.string data):=by go_simp
   have ab:((wr.alloc (.cells #[int i64 key,.string data,.bool gone] 100)).alloc (.cells #[int i64 key,int i64 D,int i64 (data.size:Int)] 3)).cell? ⟨wr.heap.size,1,none⟩=some (.string data):=by go_simp
   cases gone
   ·obtain rfl:D=0:=aa
    go_wp2_with fail
    refine(qen d.heap.size R cap5 u (wr.heap.size+1) 0 3 [key,0,(data.size:Int)] _ ((v.alloc _).alloc _) (by have:=o.size;simp;omega) (by have:=v.lt;omega) ?_ ?_ ?_).mono ?_
    ·intro i hi
     have m:i=0\/i=1\/i=2:=by simp at hi;omega
     rcases m with rfl|rfl|rfl<;>go_simp
    ·intro i hi
     have m:i=0\/i=1\/i=2:=by simp at hi;omega
     rcases m with rfl|rfl|rfl
     ·show 0<=key/\key<=1099511627776;omega
     ·show (0:Int)<=0/\(0:Int)<=1099511627776
      decide
     ·show 0<=(data.size:Int)/\(data.size:Int)<=1099511627776;omega
    ·simp;omega
    rintro e w6 ⟨y,g6,cap6,rfl,T,U,e6,G⟩;have V:Hid _:=T
    have hz6:y.size<=u.size+18:=by rw[V.out];exact ql3 u [key,0,(data.size:Int)]
    have I:Below d.heap.size d w6:=(o.trans (((Below.refl _ _).alloc o.size _).alloc (by have:=o.size;simp;omega) _)).trans (G.below v.base (by have:=o.size;simp;omega));have O:=G.cell ab (by have:=v.lt;show wr.heap.size≠R;omega);clear T G e6 N ab
    go_wp2_with (at_builtin;refine qdl rfl (.tmp 54) (.tmp 56) 30 9 5 rfl Tryz.underlying30 qxw rfl U data _ rfl (Src.ofString _ Tryz.underlying9 data) (by omega) I.size ?_;intro S7 g7 cap7 w7 hS7 O7 e7 y7)
    go_roundw
    case rel=>exact⟨k+1,z+1,S7,g7,cap7,by omega,by have:=HZ.out;omega,by go_num,rfl,by rw[hS7.out];exact E.out y V.out,O7,I.trans (y7.below U.base I.size)⟩
    case measure=>simp[intOf];omega
   ·obtain rfl:D=1:=aa
    go_wp2_with fail
    refine(qen d.heap.size R cap5 u (wr.heap.size+1) 0 3 [key,1,(data.size:Int)] _ ((v.alloc _).alloc _) (by have:=o.size;simp;omega) (by have:=v.lt;omega) ?_ ?_ ?_).mono ?_
    ·intro i hi
     have m:i=0\/i=1\/i=2:=by simp at hi;omega
     rcases m with rfl|rfl|rfl<;>go_simp
    ·intro i hi
     have m:i=0\/i=1\/i=2:=by simp at hi;omega
     rcases m with rfl|rfl|rfl
     ·show 0<=key/\key<=1099511627776;omega
     ·show (0:Int)<=1/\(1:Int)<=1099511627776
      decide
     ·show 0<=(data.size:Int)/\(data.size:Int)<=1099511627776;omega
    ·simp;omega
    rintro e w6 ⟨y,g6,cap6,rfl,T,U,e6,G⟩;have V:Hid _:=T
    have hz6:y.size<=u.size+18:=by rw[V.out];exact ql3 u [key,1,(data.size:Int)]
    have I:Below d.heap.size d w6:=(o.trans (((Below.refl _ _).alloc o.size _).alloc (by have:=o.size;simp;omega) _)).trans (G.below v.base (by have:=o.size;simp;omega));have O:=G.cell ab (by have:=v.lt;show wr.heap.size≠R;omega);clear T G e6 N ab
    go_wp2_with (at_builtin;refine qdl rfl (.tmp 54) (.tmp 56) 30 9 5 rfl Tryz.underlying30 qxw rfl U data _ rfl (Src.ofString _ Tryz.underlying9 data) (by omega) I.size ?_;intro S7 g7 cap7 w7 hS7 O7 e7 y7)
    go_roundw
    case rel=>exact⟨k+1,z+1,S7,g7,cap7,by omega,by have:=HZ.out;omega,by go_num,rfl,by rw[hS7.out];exact E.out y V.out,O7,I.trans (y7.below U.base I.size)⟩
    case measure=>simp[intOf];omega
  ·have e:k=l.length:=by omega
   go_wp2_with fail
   go_ret2;exact⟨u,R,cap5,rfl,by rw[HS5.out,e,List.take_length];rfl,v.mono (by have:=K.out;omega),hbw.trans (o.mono (by have:=K.out;omega))⟩
end
section
open Go.RowKit
theorem q33 (site a0 a1 a2 a3:Int) (w:World) (h:inB site 0 3=true) (k:qay a0 a1 a2 a3=true):
 Calls Tryz.prog 142 #[.int .i64 site,.agg #[.int .i64 a0,.int .i64 a1,.int .i64 a2,.int .i64 a3]] w λe w'=>
  ∃S g cap,e=.returned (.tuple #[.slice (some ⟨g,0,none⟩) S.size cap,.nilIface])/\S=jcq site a0 a1 a2 a3/\Own w' w.heap.size g cap S/\Below w.heap.size w w':=by
 have H:Hid _:=h;have B:Hid _:=k;have hs:=qa5.1 h;have l:=k;simp only[qay,Bool.and_eq_true,qfs]at l;have D:Hid _:=l;have E:Hid _:=hs;clear h k l hs;have O:=λ(w:World) (C:Array Value) (n c:Nat)=>Lib.run_convert_bytes_const (P:=Tryz.prog) w 30 5 C n c Tryz.underlying30 Tryz.underlying5;obtain⟨c0,c1,c2,c3,_,_,_,_⟩:=qa9.new w 77 a0 a1 a2 a3;go_enter Tryz.func142,Tryz.ntmps142
 go_wp2_with fail
 refine(qi9 H.out _).mono ?_;rintro e Q ⟨rfl,a⟩;replace c0:=cell_later a c0;replace c1:=cell_later a c1;replace c2:=cell_later a c2;replace c3:=cell_later a c3
 go_wp2_with fail
 refine(qcr B.out _).mono ?_;rintro e w2 ⟨rfl,b⟩;replace c0:=cell_later b c0;replace c1:=cell_later b c1;replace c2:=cell_later b c2;replace c3:=cell_later b c3;have p:w.heap.size<w2.heap.size:=World.block_lt_of_cell? _ _ c0;have j:Below w.heap.size w w2:=qab (qab (boxed (Below.refl _ _) _) a) b;clear a b;have m:Hid _:=p;clear p
 go_wp2_with fail
 have i0:((w2.alloc (.cells #[.int .u8 97] 5 (1,2))).alloc (.cells #[.int .i64 site] 3)).cell? ⟨w2.heap.size+1,0,none⟩=some (.int .i64 site):=by go_simp
 refine(qen w2.heap.size w2.heap.size 1 (qkk 97) (w2.heap.size+1) 0 1 [site] _ ((Own.one w2 w2.heap.size _ (by omega) (by omega) (Nat.le_refl _)).alloc _) (by simp;omega) (by omega) ?_ ?_ (by rw[qes];simp)).mono ?_
 ·intro i hi
  obtain rfl:i=0:=by simpa using hi
  exact i0
 ·intro i hi
  obtain rfl:i=0:=by simpa using hi
  show 0<=site/\site<=1099511627776;have:=E.out;omega
 rintro e q ⟨r,g1,F,rfl,s,u,G,v⟩;have x:Hid _:=s;have d:Below w2.heap.size w2 q:=(boxed (boxed (Below.refl _ _) _) _).trans (v.below (Nat.le_refl _) (by simp;omega));have y:Hid _:=u.base;clear s i0 v G;replace c0:=cell_later d c0;replace c1:=cell_later d c1;replace c2:=cell_later d c2;replace c3:=cell_later d c3;replace j:=qab j d
 go_wp2_with fail
 refine(qen w2.heap.size g1 F r w.heap.size 0 4 [a0,a1,a2,a3] q u d.size (by have:=y.out;have:=m.out;omega) ?_ ?_ ?_).mono ?_
 ·intro i hi
  have o:i=0\/i=1\/i=2\/i=3:=by simp at hi;omega
  rcases o with rfl|rfl|rfl|rfl
  ·exact c0
  ·exact c1
  ·exact c2
  ·exact c3
 ·intro i hi
  have o:i=0\/i=1\/i=2\/i=3:=by simp at hi;omega
  have:=D.out;rcases o with rfl|rfl|rfl|rfl
  ·exact this.1.1.1
  ·exact this.1.1.2
  ·exact this.1.2
  ·exact this.2
 ·have:r.size<=7:=by
   rw[x.out];have:=qkd (qkk 97) [site] 1 (Nat.le_refl _);simpa[qes]using this
  simp;omega
 rintro e R ⟨I,J,K,rfl,z,L,T,M⟩;have N:Hid _:=z;clear z
 go_wp2_with fail
 go_ret2;refine⟨I,J,K,rfl,?_,L.mono (by have:=m.out;omega),j.trans (M.below (by have:=y.out;have:=m.out;omega) j.size)⟩;rw[N.out,x.out];rfl
end
section
open Go.Value Go.IntKind Go.RowKit
theorem qu2 (S:ByteArray) (j:Nat) (u:UInt8) (h:(toL S)[j]?=some u):(byteCells S)[j]?=some (.int .u8 u.toNat):=by
 unfold byteCells;rw[List.getElem?_map];show ((toL S)[j]?).map _=_;rw[h];rfl
variable {w:World} {B g:Nat} {S:ByteArray}
theorem Own.bytes {cap:Nat} (h:Own w B g cap S) (r:Nat):qdr w w.heap.size (some ⟨g,0,none⟩) ((toL S).take r):=by
 refine .inr ⟨g,0,rfl,h.lt,λj u a=>?_⟩;rw[Nat.zero_add];refine h.have_ j _ (qu2 S j u ?_);rw[List.getElem?_take]at a;split at a
 ·exact a
 ·cases a
theorem Own.all {cap:Nat} (h:Own w B g cap S):qdr w w.heap.size (some ⟨g,0,none⟩) (toL S):=by
 have:=h.bytes (toL S).length
 rwa [List.take_length]at this
variable {L:List UInt8}
theorem q0x {x:TxV} (b:qv3 L x) (a:Option Addr) (len c:Nat) (h:L.length=len) (w:World) (i:qdr w w.heap.size a L) (j:len<=c) (k:len<=1000000):
 Calls Tryz.prog 209 #[.slice a len c] w λe w'=>∃a2 d,e=.returned (.tuple #[.agg #[int i64 x.site,int i64 x.seq,int i64 x.wall,int i64 x.count,int i64 x.d0,int i64 x.d1,int i64 x.d2,int i64 x.d3,.slice a2 x.l.length d],.nilIface])/\qaz w' a2 d x.l/\Below w.heap.size w w':=by
 subst h;refine(qtm a L c w i j k).mono λe w' m=>?_;rcases m with ⟨⟨y,n,o,p,q,r⟩|⟨s,_⟩,hb⟩
 ·obtain rfl:=q7k b p;exact⟨n,o,r,q,hb⟩
 ·exact absurd b (s x)
theorem q5b (d:∀x,¬qv3 L x) (a:Option Addr) (len c:Nat) (h:L.length=len) (w:World) (i:qdr w w.heap.size a L) (j:len<=c) (k:len<=1000000):
 Calls Tryz.prog 209 #[.slice a len c] w λe w'=>e=.returned (.tuple #[.agg #[int i64 0,int i64 0,int i64 0,int i64 0,int i64 0,int i64 0,int i64 0,int i64 0,.slice none 0 0],.iface 26 (int i64 3)])/\Below w.heap.size w w':=by
 subst h;refine(qtm a L c w i j k).mono λe w' l=>?_;rcases l with ⟨⟨y,n,o,m,p,b⟩|⟨q,b⟩,hb⟩
 ·exact absurd m (d y)
 ·exact⟨b,hb⟩
theorem qvc {x:qqh} (b:qeb L x) (a:Option Addr) (len c:Nat) (d:L.length=len) (w:World) (h:qdr w w.heap.size a L) (i:len<=c) (j:len<=1000000):
 Calls Tryz.prog 211 #[.slice a len c] w λe w'=>e=.returned (.tuple #[int i64 x.site,.agg #[int i64 x.a0,int i64 x.a1,int i64 x.a2,int i64 x.a3],.nilIface])/\Below w.heap.size w w':=by
 subst d;refine(q0w a L c w h i j).mono λe w' k=>?_;rcases k with ⟨⟨y,l,m⟩|⟨n,_⟩,hb⟩
 ·obtain rfl:=qwq b l;exact⟨m,hb⟩
 ·exact absurd b (n x)
theorem qvo {site a0 a1 a2 a3:Int} (h:qqh.ok ⟨site,a0,a1,a2,a3⟩=true) (w:World):
 Calls Tryz.prog 142 #[int i64 site,.agg #[int i64 a0,int i64 a1,int i64 a2,int i64 a3]] w λe w'=>∃S g a,e=.returned (.tuple #[.slice (some ⟨g,0,none⟩) S.size a,.nilIface])/\(qeb (toL S) ⟨site,a0,a1,a2,a3⟩/\0<S.size)/\S.size<=1000000/\Own w' w.heap.size g a S/\Below w.heap.size w w':=by
 have c:inB site 0 3=true/\qay a0 a1 a2 a3=true:=by simpa[qqh.ok]using h
 refine(q33 site a0 a1 a2 a3 w c.1 c.2).mono λe w' ⟨S,g,a,d,b,O,hb⟩=>⟨S,g,a,d,⟨⟨h,by rw[b];rfl⟩,?_⟩,?_,O,hb⟩
 ·rw[b,<-qbg,qjw];simp[ja7]
 ·rw[b];have i:=qbv 5 site;have j:=qbv 5 a0;have k:=qbv 5 a1;have l:=qbv 5 a2;have m:=qbv 5 a3;have z:(⟨#[97]⟩:ByteArray).size=1:=rfl;simp only[jcq,ByteArray.size_append];omega
theorem q0z {site seq wall count d0 d1 d2 d3:Int} {a:Option Addr} {cap:Nat} {l:List Wr} (i:qaz w a cap l) (h:qdf site seq wall count d0 d1 d2 d3 l=true):
 Calls Tryz.prog 246 #[.agg #[int i64 site,int i64 seq,int i64 wall,int i64 count,int i64 d0,int i64 d1,int i64 d2,int i64 d3,.slice a l.length cap]] w λe w'=>∃S g b,e=.returned (.tuple #[.slice (some ⟨g,0,none⟩) S.size b,.nilIface])/\(qv3 (toL S) ⟨site,seq,wall,count,d0,d1,d2,d3,l⟩/\0<S.size)/\S.size<=1000000/\Own w' w.heap.size g b S/\Below w.heap.size w w':=by
 refine(q6s site seq wall count d0 d1 d2 d3 a cap l w i h).mono λe w' ⟨S,g,b,j,c,O,hb⟩=>⟨S,g,b,j,⟨⟨h,by rw[c];rfl⟩,?_⟩,?_,O,hb⟩
 ·rw[c,<-qbg,qm4];simp[qve]
 ·have d:=(qnw (x:=⟨site,seq,wall,count,d0,d1,d2,d3,l⟩) h).2.2.2.2.2.2.2.2;have k:=qln d;simp only at k;have m:=qsm (s:=quj site seq wall count d0 d1 d2 d3 l.length) (ql4 d) l.length (Nat.le_refl _);have n:=qqn site seq wall count d0 d1 d2 d3 l.length;rw[List.take_length]at m;rw[c];unfold txS;omega
end
section
open Go.RowKit
theorem qq3 {x:Int} (a:0<=x) (c:x<=1099511627776):wrap64 (x+1)=x+1:=by
 unfold wrap64;omega
variable {W:World} {b:Nat}
theorem qi3 {k:Nat} (h:k≠b) (x0 x1 x2 x3 a c d e:Int) (v:Value):(qbu W b x0 x1 x2 x3 a c d e v).heap[k]?=W.heap[k]?:=
 (Below.heap_setCell _ _ _ _ h).trans ((Below.heap_setCell _ _ _ _ h).trans ((Below.heap_setCell _ _ _ _ h).trans ((Below.heap_setCell _ _ _ _ h).trans ((Below.heap_setCell _ _ _ _ h).trans ((Below.heap_setCell _ _ _ _ h).trans ((Below.heap_setCell _ _ _ _ h).trans ((Below.heap_setCell _ _ _ _ h).trans (Below.heap_setCell _ _ _ _ h))))))))
variable {w:World}
theorem qky {g c:Nat} {ws:List Wr} (h:w.ownsRow 0 100 3 (.slice (some ⟨g,0,none⟩) (0+ws.length) c) (0+ws.length) ([]++qhp ws)):qaz w (some ⟨g,0,none⟩) c ws:=by
 rw[Nat.zero_add,List.nil_append]at h;obtain⟨a,f,e,d⟩:=qdn h;injection e with e1 e2 e3;subst e1 e3;exact d
variable {F:Nat->Prop}
theorem qdk {p:Addr} (h:qae F w W) (d:w.heap.size<=p.block) (v:Value):qae F w (W.setCell p v):=
 ⟨h.os,h.tape,h.output,by simpa[World.setCell]using h.size,λk a c=>(Below.heap_setCell _ _ _ _ (by omega)).trans (h.block k a c)⟩
theorem q4u (h:qae F w W) (a:w.heap.size<=b) (x0 x1 x2 x3 c d e f:Int) (v:Value):qae F w (qbu W b x0 x1 x2 x3 c d e f v):=
 qdk (qdk (qdk (qdk (qdk (qdk (qdk (qdk (qdk h a _) a _) a _) a _) a _) a _) a _) a _) a _
end
section
open Go.RowKit
theorem qwj (l:List TxM):(qfi l).length=l.length*9:=by
 induction l with
 |nil=>rfl
 |cons x l ih=>
  show (txC x++qfi l).length=_;rw[List.length_append,ih];simp[txC];omega
theorem q87 (l:List TxM):∀u∈qfi l,u.oneCell'=true:=by
 intro u a;obtain⟨x,_,b⟩:=List.mem_flatMap.1 a;exact qk5 x u b
theorem qyw:∀(l:List TxM) (j:Nat) (u:Value),(qfi l)[j]?=some u->∃m,l[j/9]?=some m/\(txC m)[j%9]?=some u
 |[],j,u,h=>by simp[qfi]at h
 |x::l,j,u,h=>by
  have e:qfi (x::l)=txC x++qfi l:=rfl;rw[e]at h;have a:(txC x).length=9:=rfl;by_cases b:j<9
  ·rw[List.getElem?_append_left (by rw[a];exact b)]at h;exact⟨x,by rw[Nat.div_eq_of_lt b];rfl,by rw[Nat.mod_eq_of_lt b];exact h⟩
  ·rw[List.getElem?_append_right (by rw[a];omega),a]at h;obtain⟨m,d,f⟩:=qyw l (j-9) u h;refine⟨m,?_,?_⟩
   ·rw[show j/9=(j-9)/9+1 by omega];simpa using d
   ·rw[show j%9=(j-9)%9 by omega];exact f
variable {l:List TxM}
theorem q9d {w:World} {a b:Nat} (h:∀i m r u,l[i]?=some m->(txC m)[r]?=some u->w.cell? ⟨a,b+(i*9+r),none⟩=some u):∀j u,(qfi l)[j]?=some u->w.cell? ((⟨a,b,none⟩:Addr).add j)=some u:=λj u d=>by
 obtain⟨m,e,f⟩:=qyw l j u d
 have k:(⟨a,b,none⟩:Addr).add j=⟨a,b+j,none⟩:=by unfold Addr.add;split<;>simp_all
 rw[k];have:=h (j/9) m (j%9) u e f;rw[show j/9*9+j%9=j by omega]at this;exact this
theorem qok (w:World) (a:TypeId) (g n cap c:Nat) (b:n<=cap):(Builtin.append_ #[80,80] a #[.slice (some ⟨g,0,none⟩) n cap,.slice none 0 c]).run Tryz.prog w=.ok (.slice (some ⟨g,0,none⟩) n cap) w:=by
 simp[Builtin.append_,go_sem,Builtin.lenOf,Builtin.firstCells,b]
variable {g n c:Nat} {xs:List Value}
theorem qpu (w:World) (f:TypeId) {cap:Nat} (b:w.ownsRow 0 102 9 (.slice (some ⟨g,0,none⟩) n cap) n xs) {a:Option Addr} (m:qew w a c l) (E:n+l.length<=2000):
 ∃g' d w',(Builtin.append_ #[80,80] f #[.slice (some ⟨g,0,none⟩) n cap,.slice a l.length c]).run Tryz.prog w=.ok (.slice (some ⟨g',0,none⟩) (n+l.length) d) w'/\
  w'.ownsRow 0 102 9 (.slice (some ⟨g',0,none⟩) (n+l.length) d) (n+l.length) (xs++qfi l)/\w.grownBy w' (some g)/\(g'=g\/g'=w.heap.size)/\g'<w'.heap.size:=by
 obtain⟨i0,hi,o,p,q⟩:=info_parts qsz;have r:g<w.heap.size:=(b.lt g (by simp[Value.ownBlock])).2
 have s:n<=cap:=by
  rcases b.2 with ⟨h,_⟩|⟨F,G,cur,e,_,_,i,_⟩
  ·cases h
  ·injection e with _ _ e3;rw[e3];exact i
 cases a with
 |none=>
  have v:l=[]:=by
   rcases m.held with h|⟨_,_,h,_⟩
   ·exact h
   ·cases h
  subst v;refine⟨g,cap,w,qok w f g n cap c s,?_,⟨rfl,rfl,rfl,Nat.le_refl _,λ_ _ _=>rfl⟩,.inl rfl,r⟩;show w.ownsRow 0 _ 9 _ n (xs++[]);rw[List.append_nil];exact b
 |some ad=>
  have x:∀j u,(qfi l)[j]?=some u->w.cell? (ad.add j)=some u:=by
   rcases m.held with h|⟨H,I,h,y⟩
   ·subst h;intro j u z;simp[qfi]at z
   ·injection h with h;subst h;exact q9d y
  obtain⟨v',w',B,k,i,C,D⟩:=run_append_own_at (P:=Tryz.prog) w 0 80 f 102 i0 (.agg #[.int .i64 0,.int .i64 0,.int .i64 0,.int .i64 0,.int .i64 0,.int .i64 0,.int .i64 0,.int .i64 0,.slice none 0 0]) 9 88 Tryz.underlying80 hi o p q rfl (by decide) (.slice (some ⟨g,0,none⟩) n cap) n xs b ad l.length c (qfi l) (qwj l) x (q87 l) (by simp only[maxLen];omega) (by omega) (Nat.zero_le _);rcases k.2 with ⟨e,_⟩|⟨g',d,cur,rfl,_,_⟩
  ·have:=(C.1 e).1;cases this
  ·refine⟨g',d,w',B,k,i,?_,(k.lt g' (by simp[Value.ownBlock])).2⟩;rcases D with h|h
   ·exact .inl (by simpa[Value.ownBlock]using h)
   ·exact .inr (by simpa[Value.ownBlock]using h)
theorem qbp {d:Array Oper} {o:Oper} {a:Act} {K:Act->World->Prop} {Q:Exit->Act->World->Prop} {E:Prop} (w:World) (e:o.guard=none) (s x:Operand) (f:o.op=.call {callee:=.builtin .append,args:=#[s,x],argTypes:=#[80,80]})
 {cap:Nat} (hs:a.eval s=.slice (some ⟨g,0,none⟩) n cap) (i:w.ownsRow 0 102 9 (.slice (some ⟨g,0,none⟩) n cap) n xs) {sa:Option Addr} (j:a.eval x=.slice sa l.length c) (k:qew w sa c l) (m:n+l.length<=2000)
 (h:∀g' b w',w'.ownsRow 0 102 9 (.slice (some ⟨g',0,none⟩) (n+l.length) b) (n+l.length) (xs++qfi l)->w.grownBy w' (some g)->(g'=g\/g'=w.heap.size)->g'<w'.heap.size->K (a.put o.dst (.slice (some ⟨g',0,none⟩) (n+l.length) b)) w'):
 if Region.wanted o (yielded d a.tmps)=true then Oper.wp Tryz.prog o a w K Q else E:=by
 have p:Region.wanted o (yielded d a.tmps)=true:=by simp[Region.wanted,e]
 rw[if_pos p];obtain⟨g',b,w',q,r,u,v,y⟩:=qpu w o.type i k m;unfold Oper.wp execOp;simp only[f,resolve,invoke,builtin,Sem.run_bind,Sem.run_pure,Result.andThen_ok,List.map_toArray,List.map_cons,List.map_nil,hs,j,q];exact h g' b w' r u v y
end
section
open Go.RowKit
theorem qjc (w:World) {n:Nat} (T:TypeId) (a:w.heap.size=n):(w.alloc (.cells #[] T)).ownsRow 0 T 9 (.slice (some ⟨n,0,none⟩) 0 0) 0 []:=by
 subst a;exact⟨rfl,.inr ⟨w.heap.size,0,#[],rfl,Nat.zero_le _,heap_alloc_new w (.cells #[] T),Nat.le_refl _,by decide,rfl,rfl⟩⟩
variable {w:World}
theorem qew.one {M:Nat} {m:TxM} (h:qag w M (txC m)):qew w (some ⟨M,0,none⟩) 1 [m]:=by
 refine⟨Nat.le_refl _,by omega,.inr ⟨M,0,rfl,λi x r u hi a=>?_⟩⟩
 have b:i=0:=by
  have:=(List.getElem?_eq_some_iff.1 hi).1;simp at this;exact this
 subst b;simp at hi;subst hi;simpa using h.cell r u a
variable {wb c:Nat} {l:List TxM}
theorem qew.take {b:Nat} (h:qew w (some ⟨wb,b,none⟩) c l) (k:Nat) (o:k<=l.length):qew w (some ⟨wb,b,none⟩) c (l.take k):=by
 refine⟨by rw[List.length_take];have:=h.len;omega,h.cap,?_⟩;rcases h.held with d|⟨f,g,e,j⟩
 ·exact .inl (by rw[d];simp)
 ·refine .inr ⟨f,g,e,λi m r u a n=>j i m r u ?_ n⟩;rw[List.getElem?_take]at a;split at a
  ·exact a
  ·cases a
theorem qew.drop {a:Nat} (h:qew w (some ⟨wb,a,none⟩) c l) (k:Nat) (j:k<=l.length):qew w (some ⟨wb,a+k*9,none⟩) (c-k) (l.drop k):=by
 refine⟨by rw[List.length_drop];have:=h.len;omega,by have:=h.cap;omega,?_⟩;rcases h.held with d|⟨n,o,e,f⟩
 ·exact .inl (by rw[d];simp)
 ·injection e with e;injection e with e1 e2;subst e1 e2;refine .inr ⟨_,_,rfl,λi m r u b g=>?_⟩;rw[List.getElem?_drop]at b;have:=f (k+i) m r u b g;rw[show a+k*9+(i*9+r)=a+((k+i)*9+r) by omega];exact this
theorem qie (l a:List TxM):qfi (l++a)=qfi l++qfi a:=by simp[qfi]
end
section
open Go.RowKit
structure V4 where
 v0:Int
 v1:Int
 v2:Int
 v3:Int
def qap (S:qaf):Nat->V4
 |0=>⟨S.a0,S.a1,S.a2,S.a3⟩
 |k+1=>if (k:Int)=S.id then qap S k else ⟨qa6 (qap S k).v0 (S.oth (k*4)),qa6 (qap S k).v1 (S.oth (k*4+1)),qa6 (qap S k).v2 (S.oth (k*4+2)),qa6 (qap S k).v3 (S.oth (k*4+3))⟩
theorem q5q {S:qaf} {lv wv sv:Value} {k:Nat} (a:k<4):(qc5 S lv wv sv)[10+k*4]?=some (.int .i64 (S.oth (k*4)))/\(qc5 S lv wv sv)[10+k*4+1]?=some (.int .i64 (S.oth (k*4+1)))/\(qc5 S lv wv sv)[10+k*4+2]?=some (.int .i64 (S.oth (k*4+2)))/\(qc5 S lv wv sv)[10+k*4+3]?=some (.int .i64 (S.oth (k*4+3))):=by
 match k,a with
 |0,_=>exact⟨rfl,rfl,rfl,rfl⟩
 |1,_=>exact⟨rfl,rfl,rfl,rfl⟩
 |2,_=>exact⟨rfl,rfl,rfl,rfl⟩
 |3,_=>exact⟨rfl,rfl,rfl,rfl⟩
theorem qm6 {w W:World} {b:Nat} (h:Below w.heap.size w W) (a:w.heap.size<=b) (x0 x1 x2 x3:Int):Below w.heap.size w ((((W.setCell ⟨b,0,none⟩ (.int .i64 x0)).setCell ⟨b,1,none⟩ (.int .i64 x1)).setCell ⟨b,2,none⟩ (.int .i64 x2)).setCell ⟨b,3,none⟩ (.int .i64 x3)):=
 (((h.setCell a _).setCell a _).setCell a _).setCell a _
structure StM (w:World) (S:qaf) (k:Nat) (wr:World):Prop where
 r:qa9 wr w.heap.size 0 0 0 0
 v:qa9 wr (w.heap.size+1) (qap S k).v0 (qap S k).v1 (qap S k).v2 (qap S k).v3
 b:Below w.heap.size w wr
end
section
open Go.RowKit
def qdo (n:Int):Nat:=min 4 n.toNat
end
section
open Go.RowKit
def qw6 (a0 a1 a2 a3:Int) (l:List Hd) (k:Nat):List Value:=qhj a0 a1 a2 a3 l k++List.replicate (8-k) (.string ⟨#[]⟩)
theorem qje (a0 a1 a2 a3:Int) (l:List Hd) (k:Nat):(qhj a0 a1 a2 a3 l k).length=k:=by simp[qhj]
variable {a0 a1 a2 a3:Int} {l:List Hd} {k:Nat}
theorem q66 (a:k<8):(qw6 a0 a1 a2 a3 l k).set k (.string (qhh a0 a1 a2 a3 l k))=qw6 a0 a1 a2 a3 l (k+1):=by
 unfold qw6;rw[List.set_append_right _ _ (by rw[qje];omega),qje,Nat.sub_self,qju,show 8-k=8-(k+1)+1 by omega,List.replicate_succ,List.set_cons_zero,List.append_assoc];rfl
theorem q5r (a:k<8) (h:qhh a0 a1 a2 a3 l k=⟨#[]⟩):qw6 a0 a1 a2 a3 l k=qw6 a0 a1 a2 a3 l (k+1):=by
 unfold qw6;rw[qju,h,show 8-k=8-(k+1)+1 by omega,List.replicate_succ,List.append_assoc];rfl
end
section
open Go.RowKit
def qrz (Ls:Nat->List Ver):Nat->Nat
 |0=>0
 |k+1=>qrz Ls k+(Ls k).length
theorem qym (a:Nat->List Ver):∀{k m:Nat},k<=m->qrz a k<=qrz a m
 |k,0,h=>by obtain rfl:k=0:=by omega
            exact Nat.le_refl _
 |k,m+1,h=>by
  rcases Nat.lt_or_ge k (m+1)with b|b
  ·exact Nat.le_trans (qym a (by omega)) (Nat.le_add_right _ _)
  ·obtain rfl:k=m+1:=by omega
   exact Nat.le_refl _
theorem q9m (x:Nat->Value) {k:Nat} (a:k<8) {z:Int} (b:z=k) (w:World):(Instr.index 216 (.agg #[x 0,x 1,x 2,x 3,x 4,x 5,x 6,x 7]) (.int .i64 z)).run Tryz.prog w=.ok (x k) w:=by
 subst b
 rcases jaw a with rfl|rfl|rfl|rfl|rfl|rfl|rfl|rfl<;>kernel_rfl
end
section
open Go.RowKit
theorem q2j {b h:Nat} {F:Nat->Prop} {l:List Hd} (w:World) (t:qp6 w b h F l) (M:l.length<=1000):
 Calls Tryz.prog 218 #[.pointer (some ⟨b,h,none⟩)] w λe w'=>e=.returned (.int .i64 l.length)/\Below w.heap.size w w':=by
 obtain⟨m,d,R,u,N⟩:=id t;have v:(w).cell? ⟨b,h,none⟩=some (m 0):=R.cell (k:=0) (by omega);have x:=R.cell (k:=1) (by omega);have B:=R.cell (k:=2) (by omega);have C:=R.cell (k:=3) (by omega);have D:=R.cell (k:=4) (by omega);have E:=R.cell (k:=5) (by omega);have G:=R.cell (k:=6) (by omega);have H:=R.cell (k:=7) (by omega)
 have n:qrz d 8=l.length:=by
  have:=u.count;simp only[qrz];omega
 have o:Hid _:=n;clear n;go_enter Tryz.func218,Tryz.ntmps218
 go_wp2_with fail
 clear v x B C D E G H
 go_loopw [3,10] (λI iv wr=>∃(k:Nat) (z y:Int),k<=8/\z=k/\y=qrz d k/\iv=.int .i64 z/\I=.int .i64 y/\wr=w) (λ_ i _=>8-(intOf i).toNat)
 case atStart=>exact⟨0,0,0,by omega,rfl,rfl,rfl,rfl,rfl⟩
 case round=>
  obtain⟨k,z,y,O,g,j,rfl,rfl,rfl⟩:=hrel;have p:Hid _:=j;have q:Hid _:=g;by_cases r:k<8
  ·have s:=qym d (show k+1<=8 by omega);rw[o.out]at s;have J:qrz d (k+1)=qrz d k+(d k).length:=rfl
   have K:z<8:=by omega
   have P:0<=z:=by omega
   obtain⟨a,c,e,_⟩:=qg9 (R.own k r);have L:=q9m m r g;rw[e]at L
   have Q: -9223372036854775808<=y+((d k).length:Int):=by omega
   have S:y+((d k).length:Int)<=9223372036854775807:=by omega
   clear g j J s
   go_wp2_with fail
   go_roundw
   case rel=>exact⟨k+1,z+1,y+((d k).length:Int),by omega,by have:=q.out;omega,by have:=p.out;simp only[qrz];omega,by go_num,by go_num,by first|rfl|trivial⟩
   case measure=>simp[intOf];have:=q.out;omega
  ·obtain rfl:k=8:=by omega
   have K:¬z<8:=by omega
   clear g j
   go_wp2_with fail
   go_ret;exact⟨by rw[p.out,o.out];rfl,Below.refl _ _⟩
end
section
open Go.RowKit
def qon (a0 a1 a2 a3:Int) (L:List Ver):List Ver:=L.filter λv=>!qp7 a0 a1 a2 a3 ((qgv a0 a1 a2 a3 L).getD qc6) v
end
section
open Go.Value Go.IntKind Go.RowKit
structure qks (w0:World) (b so:Nat) (vs:Nat->Value) (Ls:Nat->List Ver) (a0 a1 a2 a3:Int) (k:Nat) (vs':Nat->Value) (Ls':Nat->List Ver) (wr:World):Prop where
 raw:qrl wr b so vs' Ls'
 done:∀i,i<k->Ls' i=qon a0 a1 a2 a3 (Ls i)
 rest:∀i,k<=i->Ls' i=Ls i/\vs' i=vs i
 foot:∀j,qkn b vs' j->qkn b vs j
 touch:qae (qkn b vs) w0 wr
 cells:qkl b so w0 wr
variable {w0 wr:World} {b so k:Nat} {vs:Nat->Value} {Ls:Nat->List Ver} {a0 a1 a2 a3:Int}
theorem qks.later {w':World} {a:Nat->Value} {c:Nat->List Ver} (h:qks w0 b so vs Ls a0 a1 a2 a3 k a c wr) (hb:Below wr.heap.size wr w'):qks w0 b so vs Ls a0 a1 a2 a3 k a c w':=
 ⟨h.raw.later hb,h.done,h.rest,h.foot,h.touch.trans (qae.ofBelow hb),h.cells.trans (qkl.ofBlock (hb.block b h.raw.box.lt))⟩
theorem qks.next {n:World} {c:Nat->Value} {o:Nat->List Ver} (h:qks w0 b so vs Ls a0 a1 a2 a3 k c o wr) (p:k<8) {v':Value}
 (f:qo1 wr (c k) (qon a0 a1 a2 a3 (Ls k)) v' n):qks w0 b so vs Ls a0 a1 a2 a3 (k+1) (upd c k v') (upd o k (qon a0 a1 a2 a3 (Ls k))) (n.setCell ⟨b,so+k,none⟩ v'):=by
 have hs:Sorted (qon a0 a1 a2 a3 (Ls k)):=by
  have:=h.raw.sorted k p;rw[(h.rest k (Nat.le_refl _)).1]at this;exact qrx this _
 have m:=h.raw.change p (v':=v') (L':=qon a0 a1 a2 a3 (Ls k)) (qae.grown f.2.1 (λj a=>a)) f.1 (λg e=>.inl (by rw[f.2.2]at e;exact e)) hs
 have q:∀j,qkn b (upd c k v') j->qkn b c j:=λj a=>by
  rcases a with rfl|⟨i,hi,e⟩
  ·exact .inl rfl
  ·by_cases d:i=k
   ·subst d;rw[qfl,f.2.2]at e;exact .inr ⟨i,hi,e⟩
   ·rw[qdc _ _ d]at e;exact .inr ⟨i,hi,e⟩
 refine⟨m.1,λi hi=>?_,λi hi=>?_,λj a=>h.foot j (q j a),?_,h.cells.trans m.2.2.2⟩
 ·by_cases d:i=k
  ·subst d;rw[qfl]
  ·rw[qdc _ _ d];exact h.done i (by omega)
 ·rw[qdc _ _ (by omega),qdc _ _ (by omega)];exact h.rest i (by omega)
 ·have t:=m.2.1;exact h.touch.trans ⟨t.os,t.tape,t.output,t.size,λj a r=>t.block j a (λe=>r (h.foot j e))⟩
variable {F:Nat->Prop} {l:List Hd}
theorem qks.post {a:Nat->Value} {g:Nat->List Ver} (h:qks w0 b so vs Ls a0 a1 a2 a3 8 a g wr) (R:qrl w0 b so vs Ls) (c:qea Ls l) (i:∀k,F k↔qkn b vs k) (m:qiz l):qld w0 b so F (qfr a0 a1 a2 a3 l) wr:=by
 refine⟨qkn b a,⟨a,g,h.raw,⟨λk d=>?_,λx n=>c.keys x (List.mem_filter.1 n).1⟩,λ_=>Iff.rfl⟩,λj f=>.inl ((i j).2 (h.foot j f)),⟨h.touch.os,h.touch.tape,h.touch.output,h.touch.size,λj f o=>h.touch.block j f (λe=>o ((i j).2 e))⟩,h.cells⟩;rw[h.done k d];exact q2a (c.perm k d) (c.qlast R m d a0 a1 a2 a3)
theorem q0h (a0 a1 a2 a3:Int) (w:World) (hS:qp6 w b so F l) (hl:l.length<=1000) (S:qiz l) (H:∀h∈l,qd2 h.v=true):
 Calls Tryz.prog 221 #[.pointer (some ⟨b,so,none⟩),.agg #[int i64 a0,int i64 a1,int i64 a2,int i64 a3]] w λe w'=>e=.returned (.tuple #[])/\qld w b so F (qfr a0 a1 a2 a3 l) w':=by
 obtain⟨vs,Ls,R,I,hF⟩:=id hS;have d:=qag.new (w:=w) (T:=77) [int i64 a0,int i64 a1,int i64 a2,int i64 a3] rfl;have hb:=boxed (Below.refl _ w) (.cells #[int i64 a0,int i64 a1,int i64 a2,int i64 a3] 77);have o:=R.later hb;have J:qks w b so vs Ls a0 a1 a2 a3 0 vs Ls (w.alloc (.cells #[int i64 a0,int i64 a1,int i64 a2,int i64 a3] 77)):=⟨o,λi hi=>by omega,λi _=>⟨rfl,rfl⟩,λj hj=>hj,qae.ofBelow hb,qkl.ofBlock (hb.block b R.box.lt)⟩;have k0:(w.alloc (.cells #[int i64 a0,int i64 a1,int i64 a2,int i64 a3] 77)).cell? ⟨b,so,none⟩=some (vs 0):=o.cell (k:=0) (by omega);have k1:=o.cell (k:=1) (by omega);have k2:=o.cell (k:=2) (by omega);have k3:=o.cell (k:=3) (by omega);have k4:=o.cell (k:=4) (by omega);have k5:=o.cell (k:=5) (by omega);have k6:=o.cell (k:=6) (by omega);have k7:=o.cell (k:=7) (by omega);have HA:Hid _:=S;have HO:Hid _:=H;have U:∀k,k<8->(Ls k).length<=1000:=λk x=>Nat.le_trans (I.len x) hl;have V:Hid _:=U;have X:Hid (∀k,k<8->∀v∈Ls k,0<=v.site/\v.site<=3):=λk x=>I.sites H x;clear S H U o;go_enter Tryz.func221,Tryz.ntmps221
 go_wp2_with fail
 clear k0 k1 k2 k3 k4 k5 k6 k7;obtain⟨W,Y⟩:∃W,w.alloc (.cells #[int i64 a0,int i64 a1,int i64 a2,int i64 a3] 77)=W:=⟨_,rfl⟩;rw[Y]at d J ⊢;clear Y hb
 go_loopw [12] (λiv wr=>∃(k:Nat) (z:Int) (K:Nat->Value) (Z:Nat->List Ver),k<=8/\z=k/\iv=int i64 z/\Hid (qks w b so vs Ls a0 a1 a2 a3 k K Z wr)/\qag wr w.heap.size [int i64 a0,int i64 a1,int i64 a2,int i64 a3]) (λi _=>8-(intOf i).toNat)
 case atStart=>exact⟨0,0,vs,Ls,by omega,rfl,rfl,J,d⟩
 case round=>
  clear J d;obtain⟨k,z,K,Z,x,y,rfl,s,d⟩:=hrel;have HZ:Hid _:=y;by_cases m:k<8
  ·have h1:z<8:=by omega
   have h3:0<=z:=by omega
   have h2:z.toNat=k:=by omega
   obtain⟨a,c,e,hV⟩:=qg9 (R.own k m);have ix:=q9m vs m y;rw[e]at ix;obtain⟨c0,c1,c2,c3⟩:=d.c4
   have r:wr.ownsRow 0 130 6 (.slice a (Ls k).length c) (Ls k).length (qa4 (Ls k)):=by
        have:=s.out.raw.own k m;rw[(s.out.rest k (Nat.le_refl _)).1,(s.out.rest k (Nat.le_refl _)).2,e]at this;exact this
   have hVr:q6e wr a c (Ls k):=by
        obtain⟨a',c',e',h'⟩:=qg9 r;injection e' with L e2 e3;subst L e3;exact h'
   obtain⟨st,M⟩:∃st,(qgv a0 a1 a2 a3 (Ls k)).getD qc6=st:=⟨_,rfl⟩;obtain⟨sb,hsb⟩:∃sb,qkm (qgv a0 a1 a2 a3 (Ls k))=sb:=⟨_,rfl⟩;have N:=qyc a0 a1 a2 a3 wr hVr (X.out k m) (V.out k m);rw[qmh,M,hsb]at N;have ST:Hid _:=M;have B:Hid _:=e;clear y M hsb hV hVr e
   go_wp2_with fail
   refine N.mono ?_;rintro e q ⟨rfl,C⟩;replace d:=d.later C;replace r:=qhy r C;have n:Hid _:=s.out.later C;clear N s c0 c1 c2 c3 C;rw[show (qah st).toArray=#[int i64 st.wall,int i64 st.count,int i64 st.site,int i64 st.seq,.string st.data,.bool st.gone]from rfl];have D:=boxed (Below.refl _ q) (.cells #[int i64 st.wall,int i64 st.count,int i64 st.site,int i64 st.seq,.string st.data,.bool st.gone] 130);have E:=qag.new (w:=q) (T:=130) (qah st) rfl;change qag (q.alloc (.cells #[int i64 st.wall,int i64 st.count,int i64 st.site,int i64 st.seq,.string st.data,.bool st.gone] 130)) q.heap.size (qah st)at E;replace d:=d.later D;replace r:=qhy r D;replace n:=n.out.later D;have O:∀g,(Value.slice a (Ls k).length c).ownBlock=some g->g<w.heap.size:=λg hg=>((R.own k m).lt g (by rw[B.out];exact hg)).2;have hsz:=n.touch.size;obtain⟨p,P⟩:∃p,q.alloc (.cells #[int i64 st.wall,int i64 st.count,int i64 st.site,int i64 st.seq,.string st.data,.bool st.gone] 130)=p:=⟨_,rfl⟩;rw[P]at E d r n
   have L:p.heap.size=q.heap.size+1:=by rw[<-P];simp
   have hw1:w.heap.size<=q.heap.size:=by rw[P]at hsz;have:=d.lt;omega
   have S2:Hid _:=n.later (Below.refl _ p).drew
   have DE:Hid (Calls Tryz.prog 261 #[.slice a (Ls k).length c,.func (.func 262) #[] #[.pointer (some ⟨w.heap.size,0,none⟩),.pointer (some ⟨q.heap.size,0,none⟩)]] p.drew λe w'=>
    ∃v',e=.returned v'/\qo1 p.drew (.slice a (Ls k).length c) ((Ls k).filter λv=>!qp7 a0 a1 a2 a3 st v) v' w'):=
        qzh p.drew r (X.out k m) (V.out k m) d.drew E.drew (λh=>by have:=O _ h;omega) (λh=>by have:=O _ h;omega)
   have qhg:=n.raw.cell m;rw[(n.rest k (Nat.le_refl _)).2,B.out]at qhg;have bfree:=n.raw.free m;have hap:=n.raw.apart k m;rw[(n.rest k (Nat.le_refl _)).2,B.out]at hap;have hbl:=n.raw.box.lt;clear r E D n hsz L
   go_wp2_with fail
   go_region_law (
        refine qav rfl 261 #[.slice a (Ls k).length c,.func (.func 262) #[] #[.pointer (some ⟨w.heap.size,0,none⟩),.pointer (some ⟨q.heap.size,0,none⟩)]] (by go_simp) DE.out ?_;rintro e u ⟨v',rfl,G⟩;refine⟨_,rfl,?_⟩;have HD:Hid _:=G;have Q:=G.2.1.block b hbl (λe=>hap e.symm)
        have c8:u.cell? ⟨b,so+k,none⟩=some (.slice a (Ls k).length c):=by rw[World.cell?_of_block (w:=p.drew) Q];exact qhg
        have f8:u.frozen? ⟨b,so+k,none⟩=false:=by rw[World.frozen?_of_block (w:=p.drew) Q];exact bfree
        obtain⟨a9,c9,hv9,_⟩:=qg9 G.1;subst hv9
        clear G Q)
   all_goals
        have HD2:qo1 p.drew (K k) (qon a0 a1 a2 a3 (Ls k)) (.slice a9 ((Ls k).filter λv=>!qp7 a0 a1 a2 a3 st v).length c9) u:=by
         rw[(S2.out.rest k (Nat.le_refl _)).2,B.out];unfold qon;rw[ST.out];exact HD.out
        have SN:Hid _:=S2.out.next m HD2
        have hwb:w.heap.size≠b:=by have:=R.box.lt;omega
        have RA8:qag u w.heap.size [int i64 a0,int i64 a1,int i64 a2,int i64 a3]:=d.drew.grown HD.out.2.1 (λe=>by have:=O _ e.symm;omega);have RA9:=RA8.far ⟨b,so+k,none⟩ (.slice a9 ((Ls k).filter λv=>!qp7 a0 a1 a2 a3 st v).length c9) (Ne.symm hwb);obtain⟨W9,hW9⟩:∃W9,u.setCell ⟨b,so+k,none⟩ (.slice a9 ((Ls k).filter λv=>!qp7 a0 a1 a2 a3 st v).length c9)=W9:=⟨_,rfl⟩;rw[hW9]at SN RA9 ⊢;clear hW9 HD2 RA8 c8 f8
        go_wp2_with fail
        go_roundw
        case rel=>exact⟨k+1,z+1,_,_,by omega,by have:=HZ.out;omega,by go_num,SN,RA9⟩
        case measure=>simp[intOf];have:=HZ.out;omega
  ·obtain rfl:k=8:=by omega
   have h1:¬z<8:=by omega
   clear y
   go_wp2_with fail
   go_end0;exact⟨rfl,s.out.post R I hF HA.out⟩
end
section
open Go.RowKit
def q89 (o:Oper):Option Nat:=match o.op with
 |.call c=>match c.callee with
  |.value (.func n)=>some n
  |_=>none
 |_=>none
theorem qcn {P:Program} {b:Array Oper} {o:Oper} {a:Act} {w:World} {K:Act->World->Prop} {Q:Exit->Act->World->Prop} {E:Prop} (c:o.guard=none) (f:FuncId) (_hf:q89 o=some f) (args:Array Value)
 (d:(execOp a.eval o).run P w=.ok (.enter f args) w) {R:Ending->World->Prop} (h:Calls P f args w R) (g:∀e w',R e w'->∃v,e=.returned v/\K (a.put o.dst v) w'):
 if Region.wanted o (yielded b a.tmps)=true then Oper.wp P o a w K Q else E:=qav c f args d h g
end
section
open Go.Shelf
def Tryz.lays169_ren:Go.Shelf.Ren:=⟨λ|169=>13|n=>n,λ|70=>29|9=>9|0=>0|72=>32|37=>30|127=>66|3=>3|5=>5|n=>n,λ|n=>n⟩
theorem Tryz.lays169:Go.Proofs.Lays.n169 Tryz.prog Tryz.lays169_ren:={
 mixed:=by kernel_rfl
 f169:=Tryz.func13.trans (congrArg some (by kernel_rfl))
 t0:=Tryz.underlying0
 a0:=Tryz.isAgg0
 z0:=Tryz.sizeOf0
 v0:=Tryz.zeroValue0
 t3:=Tryz.underlying3
 a3:=Tryz.isAgg3
 z3:=Tryz.sizeOf3
 v3:=Tryz.zeroValue3
 t9:=Tryz.underlying9
 a9:=Tryz.isAgg9
 z9:=Tryz.sizeOf9
 v9:=Tryz.zeroValue9
 t37:=Tryz.underlying30
 a37:=Tryz.isAgg30
 z37:=Tryz.sizeOf30
 v37:=Tryz.zeroValue30
 t70:=Tryz.underlying29
 a70:=Tryz.isAgg29
 z70:=Tryz.sizeOf29
 v70:=Tryz.zeroValue29
 t72:=Tryz.underlying32
 a72:=Tryz.isAgg32
 z72:=Tryz.sizeOf32
 v72:=Tryz.zeroValue32
 t127:=Tryz.underlying66
 a127:=Tryz.isAgg66
 z127:=Tryz.sizeOf66
 v127:=Tryz.zeroValue66}
theorem Tryz.Builder_Extra_169:Builder.Extra Tryz.prog Tryz.lays169_ren:={
 sizeBuilder:=by kernel_rfl
 liesBuilder:=by kernel_rfl
 t5:=Tryz.underlying5
 a5:=Tryz.isAgg5
 z5:=Tryz.sizeOf5
 v5:=Tryz.zeroValue5
 infoByte:=by kernel_rfl
 cellsByte:=by kernel_rfl
 sizeByte:=by kernel_rfl
 neB5:=by decide}
open Go.RowKit in
def Tryz.lays156_ren:Go.Shelf.Ren:=⟨λ|156=>42|165=>90|166=>10|169=>13|240=>24|241=>131|276=>69|277=>184|n=>n,λ|31=>42|9=>9|3=>3|4=>4|0=>0|20=>20|72=>32|76=>38|70=>29|37=>30|75=>37|127=>66|164=>117|5=>5|80=>41|n=>n,λ|n=>n⟩
theorem Tryz.lays156:Go.Proofs.Lays.n156 Tryz.prog Tryz.lays156_ren:={
 mixed:=by kernel_rfl
 f156:=Tryz.func42.trans (congrArg some (by kernel_rfl))
 f165:=Tryz.func90.trans (congrArg some (by kernel_rfl))
 f166:=Tryz.func10.trans (congrArg some (by kernel_rfl))
 f169:=Tryz.func13.trans (congrArg some (by kernel_rfl))
 f240:=Tryz.func24.trans (congrArg some (by kernel_rfl))
 f241:=Tryz.func131.trans (congrArg some (by kernel_rfl))
 f276:=Tryz.func69.trans (congrArg some (by kernel_rfl))
 f277:=Tryz.func184.trans (congrArg some (by kernel_rfl))
 t0:=Tryz.underlying0
 a0:=Tryz.isAgg0
 z0:=Tryz.sizeOf0
 v0:=Tryz.zeroValue0
 t3:=Tryz.underlying3
 a3:=Tryz.isAgg3
 z3:=Tryz.sizeOf3
 v3:=Tryz.zeroValue3
 t4:=Tryz.underlying4
 a4:=Tryz.isAgg4
 z4:=Tryz.sizeOf4
 v4:=Tryz.zeroValue4
 t9:=Tryz.underlying9
 a9:=Tryz.isAgg9
 z9:=Tryz.sizeOf9
 v9:=Tryz.zeroValue9
 t20:=Tryz.underlying20
 a20:=Tryz.isAgg20
 z20:=Tryz.sizeOf20
 v20:=Tryz.zeroValue20
 t31:=Tryz.underlying42
 a31:=Tryz.isAgg42
 z31:=Tryz.sizeOf42
 v31:=Tryz.zeroValue42
 t37:=Tryz.underlying30
 a37:=Tryz.isAgg30
 z37:=Tryz.sizeOf30
 v37:=Tryz.zeroValue30
 t70:=Tryz.underlying29
 a70:=Tryz.isAgg29
 z70:=Tryz.sizeOf29
 v70:=Tryz.zeroValue29
 t72:=Tryz.underlying32
 a72:=Tryz.isAgg32
 z72:=Tryz.sizeOf32
 v72:=Tryz.zeroValue32
 t75:=Tryz.underlying37
 a75:=Tryz.isAgg37
 z75:=Tryz.sizeOf37
 v75:=Tryz.zeroValue37
 t76:=Tryz.underlying38
 a76:=Tryz.isAgg38
 z76:=Tryz.sizeOf38
 v76:=Tryz.zeroValue38
 t127:=Tryz.underlying66
 a127:=Tryz.isAgg66
 z127:=Tryz.sizeOf66
 v127:=Tryz.zeroValue66
 t164:=Tryz.underlying117
 a164:=Tryz.isAgg117
 z164:=Tryz.sizeOf117
 v164:=Tryz.zeroValue117}
theorem Tryz.Builder_Extra_156:Builder.Extra Tryz.prog Tryz.lays156_ren:={
 sizeBuilder:=by kernel_rfl
 liesBuilder:=by kernel_rfl
 t5:=Tryz.underlying5
 a5:=Tryz.isAgg5
 z5:=Tryz.sizeOf5
 v5:=Tryz.zeroValue5
 infoByte:=by kernel_rfl
 cellsByte:=by kernel_rfl
 sizeByte:=by kernel_rfl
 neB5:=by decide}
open Go.RowKit in
theorem Tryz.strings_Join (a o c:Nat) (xs:List ByteArray) (b:ByteArray) (w:World) (d:∀(j:Nat) x,xs[j]?=some x->w.cell? ⟨a,o+j,none⟩=some (.string x)) (f:a<w.heap.size) (g:xs.length<=140737488355328) (h:xs.length<=c) (i:(Lib.join (xs.map (·.data.toList)) b.data.toList).length<=140737488355328):
 Calls Tryz.prog 42 #[.slice (some ⟨a,o,none⟩) xs.length c,.string b] w λe w'=>e=.returned (.string ⟨(Lib.join (xs.map (·.data.toList)) b.data.toList).toArray⟩)/\Below w.heap.size w w':=Any.strings_Join Tryz.lays156 Tryz.Builder_Extra_156 a o c xs b w d f g h i
def Tryz.laysM171_ren:Go.Shelf.Ren:=⟨λ|171=>18|243=>45|246=>93|283=>134|284=>135|285=>136|286=>137|129=>195|317=>196|318=>197|319=>198|320=>199|337=>238|338=>239|n=>n,λ|3=>3|9=>9|2=>2|4=>4|171=>191|0=>0|53=>192|37=>30|5=>5|173=>195|212=>252|51=>250|20=>20|213=>253|46=>190|232=>329|233=>330|n=>n,λ|17=>2|18=>8|19=>9|n=>n⟩
theorem Tryz.laysM171:Go.Proofs.LaysM.n171 Tryz.prog Tryz.laysM171_ren:={
 mixed:=by kernel_rfl
 f129:=Tryz.func195.trans (congrArg some (by kernel_rfl))
 f171:=Tryz.func18.trans (congrArg some (by kernel_rfl))
 f243:=Tryz.func45.trans (congrArg some (by kernel_rfl))
 f246:=Tryz.func93.trans (congrArg some (by kernel_rfl))
 f283:=Tryz.func134.trans (congrArg some (by kernel_rfl))
 f284:=Tryz.func135.trans (congrArg some (by kernel_rfl))
 f285:=Tryz.func136.trans (congrArg some (by kernel_rfl))
 f286:=Tryz.func137.trans (congrArg some (by kernel_rfl))
 f317:=Tryz.func196.trans (congrArg some (by kernel_rfl))
 f318:=Tryz.func197.trans (congrArg some (by kernel_rfl))
 f319:=Tryz.func198.trans (congrArg some (by kernel_rfl))
 f320:=Tryz.func199.trans (congrArg some (by kernel_rfl))
 f337:=Tryz.func238.trans (congrArg some (by kernel_rfl))
 f338:=Tryz.func239.trans (congrArg some (by kernel_rfl))
 t0:=Tryz.underlying0
 a0:=Tryz.isAgg0
 z0:=Tryz.sizeOf0
 v0:=Tryz.zeroValue0
 t2:=Tryz.underlying2
 a2:=Tryz.isAgg2
 z2:=Tryz.sizeOf2
 v2:=Tryz.zeroValue2
 t3:=Tryz.underlying3
 a3:=Tryz.isAgg3
 z3:=Tryz.sizeOf3
 v3:=Tryz.zeroValue3
 t4:=Tryz.underlying4
 a4:=Tryz.isAgg4
 z4:=Tryz.sizeOf4
 v4:=Tryz.zeroValue4
 t5:=Tryz.underlying5
 a5:=Tryz.isAgg5
 z5:=Tryz.sizeOf5
 v5:=Tryz.zeroValue5
 t9:=Tryz.underlying9
 a9:=Tryz.isAgg9
 z9:=Tryz.sizeOf9
 v9:=Tryz.zeroValue9
 t20:=Tryz.underlying20
 a20:=Tryz.isAgg20
 z20:=Tryz.sizeOf20
 v20:=Tryz.zeroValue20
 t37:=Tryz.underlying30
 a37:=Tryz.isAgg30
 z37:=Tryz.sizeOf30
 v37:=Tryz.zeroValue30
 t46:=Tryz.underlying190
 a46:=Tryz.isAgg190
 z46:=Tryz.sizeOf190
 v46:=Tryz.zeroValue190
 t51:=Tryz.underlying250
 a51:=Tryz.isAgg250
 z51:=Tryz.sizeOf250
 v51:=Tryz.zeroValue250
 t53:=Tryz.underlying192
 a53:=Tryz.isAgg192
 z53:=Tryz.sizeOf192
 v53:=Tryz.zeroValue192
 t171:=Tryz.underlying191
 a171:=Tryz.isAgg191
 z171:=Tryz.sizeOf191
 v171:=Tryz.zeroValue191
 t173:=Tryz.underlying195
 a173:=Tryz.isAgg195
 z173:=Tryz.sizeOf195
 v173:=Tryz.zeroValue195
 t212:=Tryz.underlying252
 a212:=Tryz.isAgg252
 z212:=Tryz.sizeOf252
 v212:=Tryz.zeroValue252
 t213:=Tryz.underlying253
 a213:=Tryz.isAgg253
 z213:=Tryz.sizeOf253
 t232:=Tryz.underlying329
 a232:=Tryz.isAgg329
 z232:=Tryz.sizeOf329
 v232:=Tryz.zeroValue329
 t233:=Tryz.underlying330
 a233:=Tryz.isAgg330
 z233:=Tryz.sizeOf330
 v233:=Tryz.zeroValue330
 g17:=by kernel_rfl
 g18:=by kernel_rfl
 g19:=by kernel_rfl
 i0:=by kernel_rfl
 i2:=by kernel_rfl
 i3:=by kernel_rfl
 i4:=by kernel_rfl
 i5:=by kernel_rfl
 i9:=by kernel_rfl
 i20:=by kernel_rfl
 i37:=by kernel_rfl
 i46:=by kernel_rfl
 i51:=by kernel_rfl
 i53:=by kernel_rfl
 i171:=by kernel_rfl
 i173:=by kernel_rfl
 i212:=by kernel_rfl
 i232:=by kernel_rfl
 i233:=by kernel_rfl
 m17:=by kernel_rfl
 m18:=by kernel_rfl
 m19:=by kernel_rfl}
open Go.RowKit Go.Sort Go.Lib in
theorem Tryz.strconv_Itoa (n:Int) (a: -9223372036854775808<=n) (b:n<=9223372036854775807) (w:World) (c:Lib.TabIs Tryz.prog w "internal/strconv.uint64pow10" .u64 Lib.pow10Tab):
 Calls Tryz.prog 18 #[.int .i64 n] w λe w'=>e=.returned (.string ⟨(Lib.itoa n).toArray⟩)/\∃k os,w'=grow (w.drewN k) os:=Any.strconv_Itoa Tryz.laysM171 n a b w c
def Tryz.laysM173_ren:Go.Shelf.Ren:=⟨λ|173=>76|246=>93|283=>134|284=>135|285=>136|286=>137|129=>195|317=>196|318=>197|319=>198|320=>199|337=>238|338=>239|n=>n,λ|2=>2|3=>3|9=>9|4=>4|171=>191|0=>0|53=>192|37=>30|5=>5|173=>195|212=>252|51=>250|20=>20|213=>253|46=>190|232=>329|233=>330|n=>n,λ|17=>2|18=>8|19=>9|n=>n⟩
theorem Tryz.laysM173:Go.Proofs.LaysM.n173 Tryz.prog Tryz.laysM173_ren:={
 mixed:=by kernel_rfl
 f129:=Tryz.func195.trans (congrArg some (by kernel_rfl))
 f173:=Tryz.func76.trans (congrArg some (by kernel_rfl))
 f246:=Tryz.func93.trans (congrArg some (by kernel_rfl))
 f283:=Tryz.func134.trans (congrArg some (by kernel_rfl))
 f284:=Tryz.func135.trans (congrArg some (by kernel_rfl))
 f285:=Tryz.func136.trans (congrArg some (by kernel_rfl))
 f286:=Tryz.func137.trans (congrArg some (by kernel_rfl))
 f317:=Tryz.func196.trans (congrArg some (by kernel_rfl))
 f318:=Tryz.func197.trans (congrArg some (by kernel_rfl))
 f319:=Tryz.func198.trans (congrArg some (by kernel_rfl))
 f320:=Tryz.func199.trans (congrArg some (by kernel_rfl))
 f337:=Tryz.func238.trans (congrArg some (by kernel_rfl))
 f338:=Tryz.func239.trans (congrArg some (by kernel_rfl))
 t0:=Tryz.underlying0
 a0:=Tryz.isAgg0
 z0:=Tryz.sizeOf0
 v0:=Tryz.zeroValue0
 t2:=Tryz.underlying2
 a2:=Tryz.isAgg2
 z2:=Tryz.sizeOf2
 v2:=Tryz.zeroValue2
 t3:=Tryz.underlying3
 a3:=Tryz.isAgg3
 z3:=Tryz.sizeOf3
 v3:=Tryz.zeroValue3
 t4:=Tryz.underlying4
 a4:=Tryz.isAgg4
 z4:=Tryz.sizeOf4
 v4:=Tryz.zeroValue4
 t5:=Tryz.underlying5
 a5:=Tryz.isAgg5
 z5:=Tryz.sizeOf5
 v5:=Tryz.zeroValue5
 t9:=Tryz.underlying9
 a9:=Tryz.isAgg9
 z9:=Tryz.sizeOf9
 v9:=Tryz.zeroValue9
 t20:=Tryz.underlying20
 a20:=Tryz.isAgg20
 z20:=Tryz.sizeOf20
 v20:=Tryz.zeroValue20
 t37:=Tryz.underlying30
 a37:=Tryz.isAgg30
 z37:=Tryz.sizeOf30
 v37:=Tryz.zeroValue30
 t46:=Tryz.underlying190
 a46:=Tryz.isAgg190
 z46:=Tryz.sizeOf190
 v46:=Tryz.zeroValue190
 t51:=Tryz.underlying250
 a51:=Tryz.isAgg250
 z51:=Tryz.sizeOf250
 v51:=Tryz.zeroValue250
 t53:=Tryz.underlying192
 a53:=Tryz.isAgg192
 z53:=Tryz.sizeOf192
 v53:=Tryz.zeroValue192
 t171:=Tryz.underlying191
 a171:=Tryz.isAgg191
 z171:=Tryz.sizeOf191
 v171:=Tryz.zeroValue191
 t173:=Tryz.underlying195
 a173:=Tryz.isAgg195
 z173:=Tryz.sizeOf195
 v173:=Tryz.zeroValue195
 t212:=Tryz.underlying252
 a212:=Tryz.isAgg252
 z212:=Tryz.sizeOf252
 v212:=Tryz.zeroValue252
 t213:=Tryz.underlying253
 a213:=Tryz.isAgg253
 z213:=Tryz.sizeOf253
 t232:=Tryz.underlying329
 a232:=Tryz.isAgg329
 z232:=Tryz.sizeOf329
 v232:=Tryz.zeroValue329
 t233:=Tryz.underlying330
 a233:=Tryz.isAgg330
 z233:=Tryz.sizeOf330
 v233:=Tryz.zeroValue330
 g17:=by kernel_rfl
 g18:=by kernel_rfl
 g19:=by kernel_rfl
 i0:=by kernel_rfl
 i2:=by kernel_rfl
 i3:=by kernel_rfl
 i4:=by kernel_rfl
 i5:=by kernel_rfl
 i9:=by kernel_rfl
 i20:=by kernel_rfl
 i37:=by kernel_rfl
 i46:=by kernel_rfl
 i51:=by kernel_rfl
 i53:=by kernel_rfl
 i171:=by kernel_rfl
 i173:=by kernel_rfl
 i212:=by kernel_rfl
 i232:=by kernel_rfl
 i233:=by kernel_rfl
 m17:=by kernel_rfl
 m18:=by kernel_rfl
 m19:=by kernel_rfl}
open Go.RowKit Go.Sort Go.Lib in
theorem Tryz.strconv_FormatInt_10 (n:Int) (a: -9223372036854775808<=n) (b:n<=9223372036854775807) (w:World) (c:Lib.TabIs Tryz.prog w "internal/strconv.uint64pow10" .u64 Lib.pow10Tab):
 Calls Tryz.prog 76 #[.int .i64 n,.int .i64 10] w λe w'=>e=.returned (.string ⟨(Lib.itoa n).toArray⟩)/\∃k os,w'=grow (w.drewN k) os:=Any.strconv_FormatInt_10 Tryz.laysM173 n a b w c
def Tryz.laysC174_ren:Go.Shelf.Ren:=⟨λ|174=>75|247=>125|245=>126|287=>172|279=>173|280=>174|281=>175|282=>176|321=>228|322=>229|316=>230|171=>18|205=>231|243=>45|246=>93|283=>134|284=>135|285=>136|286=>137|129=>195|317=>196|318=>197|319=>198|320=>199|337=>238|338=>239|n=>n,λ|9=>9|3=>3|2=>2|75=>37|85=>123|4=>4|167=>227|5=>5|53=>192|175=>228|46=>190|168=>230|37=>30|0=>0|210=>287|21=>21|127=>66|145=>326|143=>324|171=>191|173=>195|212=>252|51=>250|20=>20|213=>253|232=>329|233=>330|80=>41|n=>n,λ|15=>6|16=>7|17=>2|18=>8|19=>9|n=>n⟩
theorem Tryz.laysC174:Go.Proofs.LaysC.n174 Tryz.prog Tryz.laysC174_ren:={
 mixed:=by kernel_rfl
 f129:=Tryz.func195.trans (congrArg some (by kernel_rfl))
 f171:=Tryz.func18.trans (congrArg some (by kernel_rfl))
 f174:=Tryz.func75.trans (congrArg some (by kernel_rfl))
 f205:=Tryz.func231.trans (congrArg some (by kernel_rfl))
 f243:=Tryz.func45.trans (congrArg some (by kernel_rfl))
 f245:=Tryz.func126.trans (congrArg some (by kernel_rfl))
 f246:=Tryz.func93.trans (congrArg some (by kernel_rfl))
 f247:=Tryz.func125.trans (congrArg some (by kernel_rfl))
 f279:=Tryz.func173.trans (congrArg some (by kernel_rfl))
 f280:=Tryz.func174.trans (congrArg some (by kernel_rfl))
 f281:=Tryz.func175.trans (congrArg some (by kernel_rfl))
 f282:=Tryz.func176.trans (congrArg some (by kernel_rfl))
 f283:=Tryz.func134.trans (congrArg some (by kernel_rfl))
 f284:=Tryz.func135.trans (congrArg some (by kernel_rfl))
 f285:=Tryz.func136.trans (congrArg some (by kernel_rfl))
 f286:=Tryz.func137.trans (congrArg some (by kernel_rfl))
 f287:=Tryz.func172.trans (congrArg some (by kernel_rfl))
 f316:=Tryz.func230.trans (congrArg some (by kernel_rfl))
 f317:=Tryz.func196.trans (congrArg some (by kernel_rfl))
 f318:=Tryz.func197.trans (congrArg some (by kernel_rfl))
 f319:=Tryz.func198.trans (congrArg some (by kernel_rfl))
 f320:=Tryz.func199.trans (congrArg some (by kernel_rfl))
 f321:=Tryz.func228.trans (congrArg some (by kernel_rfl))
 f322:=Tryz.func229.trans (congrArg some (by kernel_rfl))
 f337:=Tryz.func238.trans (congrArg some (by kernel_rfl))
 f338:=Tryz.func239.trans (congrArg some (by kernel_rfl))
 t0:=Tryz.underlying0
 a0:=Tryz.isAgg0
 z0:=Tryz.sizeOf0
 v0:=Tryz.zeroValue0
 t2:=Tryz.underlying2
 a2:=Tryz.isAgg2
 z2:=Tryz.sizeOf2
 v2:=Tryz.zeroValue2
 t3:=Tryz.underlying3
 a3:=Tryz.isAgg3
 z3:=Tryz.sizeOf3
 v3:=Tryz.zeroValue3
 t4:=Tryz.underlying4
 a4:=Tryz.isAgg4
 z4:=Tryz.sizeOf4
 v4:=Tryz.zeroValue4
 t5:=Tryz.underlying5
 a5:=Tryz.isAgg5
 z5:=Tryz.sizeOf5
 v5:=Tryz.zeroValue5
 t9:=Tryz.underlying9
 a9:=Tryz.isAgg9
 z9:=Tryz.sizeOf9
 v9:=Tryz.zeroValue9
 t20:=Tryz.underlying20
 a20:=Tryz.isAgg20
 z20:=Tryz.sizeOf20
 v20:=Tryz.zeroValue20
 t21:=Tryz.underlying21
 a21:=Tryz.isAgg21
 z21:=Tryz.sizeOf21
 v21:=Tryz.zeroValue21
 t37:=Tryz.underlying30
 a37:=Tryz.isAgg30
 z37:=Tryz.sizeOf30
 v37:=Tryz.zeroValue30
 t46:=Tryz.underlying190
 a46:=Tryz.isAgg190
 z46:=Tryz.sizeOf190
 v46:=Tryz.zeroValue190
 t51:=Tryz.underlying250
 a51:=Tryz.isAgg250
 z51:=Tryz.sizeOf250
 v51:=Tryz.zeroValue250
 t53:=Tryz.underlying192
 a53:=Tryz.isAgg192
 z53:=Tryz.sizeOf192
 v53:=Tryz.zeroValue192
 t75:=Tryz.underlying37
 a75:=Tryz.isAgg37
 z75:=Tryz.sizeOf37
 v75:=Tryz.zeroValue37
 t85:=Tryz.underlying123
 a85:=Tryz.isAgg123
 z85:=Tryz.sizeOf123
 v85:=Tryz.zeroValue123
 t127:=Tryz.underlying66
 a127:=Tryz.isAgg66
 z127:=Tryz.sizeOf66
 v127:=Tryz.zeroValue66
 t143:=Tryz.underlying324
 a143:=Tryz.isAgg324
 z143:=Tryz.sizeOf324
 v143:=Tryz.zeroValue324
 t145:=Tryz.underlying326
 a145:=Tryz.isAgg326
 z145:=Tryz.sizeOf326
 v145:=Tryz.zeroValue326
 t167:=Tryz.underlying227
 a167:=Tryz.isAgg227
 z167:=Tryz.sizeOf227
 v167:=Tryz.zeroValue227
 t168:=Tryz.underlying230
 a168:=Tryz.isAgg230
 z168:=Tryz.sizeOf230
 v168:=Tryz.zeroValue230
 t171:=Tryz.underlying191
 a171:=Tryz.isAgg191
 z171:=Tryz.sizeOf191
 v171:=Tryz.zeroValue191
 t173:=Tryz.underlying195
 a173:=Tryz.isAgg195
 z173:=Tryz.sizeOf195
 v173:=Tryz.zeroValue195
 t175:=Tryz.underlying228
 a175:=Tryz.isAgg228
 z175:=Tryz.sizeOf228
 v175:=Tryz.zeroValue228
 t210:=Tryz.underlying287
 a210:=Tryz.isAgg287
 z210:=Tryz.sizeOf287
 v210:=Tryz.zeroValue287
 t212:=Tryz.underlying252
 a212:=Tryz.isAgg252
 z212:=Tryz.sizeOf252
 v212:=Tryz.zeroValue252
 t213:=Tryz.underlying253
 a213:=Tryz.isAgg253
 z213:=Tryz.sizeOf253
 t232:=Tryz.underlying329
 a232:=Tryz.isAgg329
 z232:=Tryz.sizeOf329
 v232:=Tryz.zeroValue329
 t233:=Tryz.underlying330
 a233:=Tryz.isAgg330
 z233:=Tryz.sizeOf330
 v233:=Tryz.zeroValue330
 g15:=by kernel_rfl
 g16:=by kernel_rfl
 g17:=by kernel_rfl
 g18:=by kernel_rfl
 g19:=by kernel_rfl
 t80:=Tryz.underlying41
 a80:=Tryz.isAgg41
 z80:=Tryz.sizeOf41
 v80:=Tryz.zeroValue41
 i0:=by kernel_rfl
 i2:=by kernel_rfl
 i3:=by kernel_rfl
 i4:=by kernel_rfl
 i5:=by kernel_rfl
 i9:=by kernel_rfl
 i20:=by kernel_rfl
 i21:=by kernel_rfl
 i37:=by kernel_rfl
 i46:=by kernel_rfl
 i51:=by kernel_rfl
 i53:=by kernel_rfl
 i75:=by kernel_rfl
 i80:=by kernel_rfl
 i85:=by kernel_rfl
 i127:=by kernel_rfl
 i143:=by kernel_rfl
 i145:=by kernel_rfl
 i167:=by kernel_rfl
 i168:=by kernel_rfl
 i171:=by kernel_rfl
 i173:=by kernel_rfl
 i175:=by kernel_rfl
 i210:=by kernel_rfl
 i212:=by kernel_rfl
 i232:=by kernel_rfl
 i233:=by kernel_rfl
 m15:=by kernel_rfl
 m16:=by kernel_rfl
 m17:=by kernel_rfl
 m18:=by kernel_rfl
 m19:=by kernel_rfl
 c0:=by kernel_rfl
 c2:=by kernel_rfl
 c3:=by kernel_rfl
 c4:=by kernel_rfl
 c5:=by kernel_rfl
 c9:=by kernel_rfl
 c20:=by kernel_rfl
 c21:=by kernel_rfl
 c37:=by kernel_rfl
 c46:=by kernel_rfl
 c51:=by kernel_rfl
 c53:=by kernel_rfl
 c75:=by kernel_rfl
 c80:=by kernel_rfl
 c85:=by kernel_rfl
 c127:=by kernel_rfl
 c143:=by kernel_rfl
 c145:=by kernel_rfl
 c167:=by kernel_rfl
 c168:=by kernel_rfl
 c171:=by kernel_rfl
 c173:=by kernel_rfl
 c175:=by kernel_rfl
 c210:=by kernel_rfl
 c212:=by kernel_rfl
 c213:=by kernel_rfl
 c232:=by kernel_rfl
 c233:=by kernel_rfl}
open Go.RowKit in
theorem Tryz.strconv_ParseInt_10_at64_ok (s:ByteArray) (a:s.size<=9223372036854775806) (v:Int) (h:Lib.parseIntB 64 s.data.toList=.ok v) (w:World):
 Calls Tryz.prog 75 #[.string s,.int .i64 10,.int .i64 64] w λe w'=>e=.returned (.tuple #[.int .i64 v,.nilIface])/\(w'=w\/∃t,w'=Lib.bytesWorld w 5 t):=Any.strconv_ParseInt_10_at64_ok Tryz.laysC174 s a v h w
open Go.RowKit in
theorem Tryz.parse_no (s:ByteArray) (f:s.size<=281474976710656) (g:∀v,Lib.parseIntB 64 s.data.toList≠.ok v) (w:World) (a:∃t p,w.cell? ⟨6,0,none⟩=some (.iface t p)) (b:∃t p,w.cell? ⟨7,0,none⟩=some (.iface t p)):
 Calls Tryz.prog 75 #[.string s,.int .i64 10,.int .i64 64] w λe w'=>∃n N,e=.returned (.tuple #[.int .i64 n,.iface 230 (.pointer (some ⟨N,0,none⟩))])/\Below w.heap.size w w':=by
 obtain⟨_,_,a⟩:=a;obtain⟨_,_,b⟩:=b;cases hp:Lib.parseIntB 64 s.data.toList
 ·exact absurd hp (g _)
 ·exact(Any.strconv_ParseInt_10_at64_syntax Tryz.laysC174 s f hp _ w a (.inr ⟨_,_,rfl⟩)).mono λe w' ⟨N,c,_,_,d⟩=>⟨_,N,c,d⟩
 ·exact(Any.strconv_ParseInt_10_at64_range Tryz.laysC174 s f hp _ w b (.inr ⟨_,_,rfl⟩)).mono λe w' ⟨N,c,_,_,d⟩=>⟨_,N,c,d⟩
def Tryz.lays145_ren:Go.Shelf.Ren:=⟨λ|145=>23|220=>68|219=>121|217=>167|225=>168|224=>169|267=>170|266=>226|314=>227|n=>n,λ|9=>9|4=>4|59=>61|3=>3|5=>5|46=>190|146=>279|51=>250|n=>n,λ|1=>1|n=>n⟩
theorem Tryz.lays145:Go.Proofs.Lays.n145 Tryz.prog Tryz.lays145_ren:={
 mixed:=by kernel_rfl
 f145:=Tryz.func23.trans (congrArg some (by kernel_rfl))
 f217:=Tryz.func167.trans (congrArg some (by kernel_rfl))
 f219:=Tryz.func121.trans (congrArg some (by kernel_rfl))
 f220:=Tryz.func68.trans (congrArg some (by kernel_rfl))
 f224:=Tryz.func169.trans (congrArg some (by kernel_rfl))
 f225:=Tryz.func168.trans (congrArg some (by kernel_rfl))
 f266:=Tryz.func226.trans (congrArg some (by kernel_rfl))
 f267:=Tryz.func170.trans (congrArg some (by kernel_rfl))
 f314:=Tryz.func227.trans (congrArg some (by kernel_rfl))
 t3:=Tryz.underlying3
 a3:=Tryz.isAgg3
 z3:=Tryz.sizeOf3
 v3:=Tryz.zeroValue3
 t4:=Tryz.underlying4
 a4:=Tryz.isAgg4
 z4:=Tryz.sizeOf4
 v4:=Tryz.zeroValue4
 t5:=Tryz.underlying5
 a5:=Tryz.isAgg5
 z5:=Tryz.sizeOf5
 v5:=Tryz.zeroValue5
 t9:=Tryz.underlying9
 a9:=Tryz.isAgg9
 z9:=Tryz.sizeOf9
 v9:=Tryz.zeroValue9
 t46:=Tryz.underlying190
 a46:=Tryz.isAgg190
 z46:=Tryz.sizeOf190
 v46:=Tryz.zeroValue190
 t51:=Tryz.underlying250
 a51:=Tryz.isAgg250
 z51:=Tryz.sizeOf250
 v51:=Tryz.zeroValue250
 t59:=Tryz.underlying61
 a59:=Tryz.isAgg61
 z59:=Tryz.sizeOf61
 v59:=Tryz.zeroValue61
 t146:=Tryz.underlying279
 a146:=Tryz.isAgg279
 z146:=Tryz.sizeOf279
 v146:=Tryz.zeroValue279
 g1:=by kernel_rfl}
open Go.RowKit Go.Lib in
theorem Tryz.strings_Cut (s a:ByteArray) (m:Int) (w:World) (hs:s.size<4294967281) (b:w.cell? ⟨1,0,none⟩=some (.int .i64 m)):
 Calls Tryz.prog 23 #[.string s,.string a] w λe w'=>e=.returned (.tuple #[.string ⟨(Lib.cut s.data.toList a.data.toList).1.toArray⟩,.string ⟨(Lib.cut s.data.toList a.data.toList).2.1.toArray⟩,.bool (Lib.cut s.data.toList a.data.toList).2.2])/\∃n,w'=w.drewN n:=Any.strings_Cut Tryz.lays145 s a m w hs b
def Tryz.lays102_ren:Go.Shelf.Ren:=⟨λ|102=>22|209=>67|207=>120|n=>n,λ|9=>9|4=>4|3=>3|n=>n,λ|n=>n⟩
theorem Tryz.lays102:Go.Proofs.Lays.n102 Tryz.prog Tryz.lays102_ren:={
 mixed:=by kernel_rfl
 f102:=Tryz.func22.trans (congrArg some (by kernel_rfl))
 f207:=Tryz.func120.trans (congrArg some (by kernel_rfl))
 f209:=Tryz.func67.trans (congrArg some (by kernel_rfl))
 t3:=Tryz.underlying3
 a3:=Tryz.isAgg3
 z3:=Tryz.sizeOf3
 v3:=Tryz.zeroValue3
 t4:=Tryz.underlying4
 a4:=Tryz.isAgg4
 z4:=Tryz.sizeOf4
 v4:=Tryz.zeroValue4
 t9:=Tryz.underlying9
 a9:=Tryz.isAgg9
 z9:=Tryz.sizeOf9
 v9:=Tryz.zeroValue9}
open Go.RowKit Go.Lib in
theorem Tryz.strings_TrimSuffix (s p:ByteArray) (w:World) (hs:s.size<=9223372036854775807):
 Calls Tryz.prog 22 #[.string s,.string p] w λe w'=>e=.returned (.string ⟨(Lib.trimSuffix s.data.toList p.data.toList).toArray⟩)/\w'=w:=Any.strings_TrimSuffix Tryz.lays102 s p w hs
def Tryz.lays229_ren:Go.Shelf.Ren:=⟨λ|229=>70|n=>n,λ|9=>9|40=>120|31=>42|152=>173|3=>3|0=>0|4=>4|21=>21|154=>175|n=>n,λ|n=>n⟩
theorem Tryz.lays229:Go.Proofs.Lays.n229 Tryz.prog Tryz.lays229_ren:={
 mixed:=by kernel_rfl
 f229:=Tryz.func70.trans (congrArg some (by kernel_rfl))
 t0:=Tryz.underlying0
 a0:=Tryz.isAgg0
 z0:=Tryz.sizeOf0
 v0:=Tryz.zeroValue0
 t3:=Tryz.underlying3
 a3:=Tryz.isAgg3
 z3:=Tryz.sizeOf3
 v3:=Tryz.zeroValue3
 t4:=Tryz.underlying4
 a4:=Tryz.isAgg4
 z4:=Tryz.sizeOf4
 v4:=Tryz.zeroValue4
 t9:=Tryz.underlying9
 a9:=Tryz.isAgg9
 z9:=Tryz.sizeOf9
 v9:=Tryz.zeroValue9
 t21:=Tryz.underlying21
 a21:=Tryz.isAgg21
 z21:=Tryz.sizeOf21
 v21:=Tryz.zeroValue21
 t31:=Tryz.underlying42
 a31:=Tryz.isAgg42
 z31:=Tryz.sizeOf42
 v31:=Tryz.zeroValue42
 t40:=Tryz.underlying120
 a40:=Tryz.isAgg120
 z40:=Tryz.sizeOf120
 v40:=Tryz.zeroValue120
 t152:=Tryz.underlying173
 a152:=Tryz.isAgg173
 z152:=Tryz.sizeOf173
 v152:=Tryz.zeroValue173
 t154:=Tryz.underlying175
 a154:=Tryz.isAgg175
 z154:=Tryz.sizeOf175
 v154:=Tryz.zeroValue175}
open Go.RowKit Go.Lib in
theorem Tryz.strings_FieldsFunc_runes (g:Nat) (lb:Array Value) (a:∀args w,(callFunc g args).run Tryz.prog w=.ok (.enter g args) w) (p:Nat->Bool) (s:ByteArray) (w:World) (hs:s.size<=4294967296) (b:PredAtRunes Tryz.prog g lb p w):
 Calls Tryz.prog 70 #[.string s,.func (.func g) #[] lb] w λe w'=>∃A,e=.returned (.slice (some ⟨A,0,none⟩) (Lib.goFieldsP p s).length (Lib.goFieldsP p s).length)/\w.heap.size<=A/\
  w'.ownsRow w.heap.size 9 1 (.slice (some ⟨A,0,none⟩) (Lib.goFieldsP p s).length (Lib.goFieldsP p s).length) (Lib.goFieldsP p s).length ((Lib.goFieldsP p s).map Value.string)/\Below w.heap.size w w':=Any.strings_FieldsFunc_runes Tryz.lays229 g lb a p s w hs b (by kernel_rfl) (by kernel_rfl)
end
open Go.RowKit
theorem qjl (n lo hi:Int) (w:World):
 Calls Tryz.prog 28 #[.int .i64 n,.int .i64 lo,.int .i64 hi] w λe w'=>e=.returned (.bool (inB n lo hi))/\w'=w:=by
 by_cases a:lo<=n
 ·by_cases b:n<=hi
  ·have e:inB n lo hi=true:=by simp[inB,a,b]
   rw[e];go_enter Tryz.func28,Tryz.ntmps28
   go_wp2
   go_ret;exact⟨rfl,rfl⟩
  ·have e:inB n lo hi=false:=by simp[inB,b]
   rw[e];go_enter Tryz.func28,Tryz.ntmps28
   go_wp2
   go_ret;exact⟨rfl,rfl⟩
 ·have e:inB n lo hi=false:=by simp[inB,a]
  rw[e];go_enter Tryz.func28,Tryz.ntmps28
  go_wp2
  go_ret;exact⟨rfl,rfl⟩
theorem qax {n lo hi:Int} {v:Bool} (h:inB n lo hi=v) (w:World):
 Calls Tryz.prog 28 #[.int .i64 n,.int .i64 lo,.int .i64 hi] w λe w'=>e=.returned (.bool v)/\Below w.heap.size w w':=by
 subst h;exact(qjl n lo hi w).mono λe w' ⟨a,b⟩=>⟨a,by rw[b];exact Below.refl _ _⟩
theorem qef (n:Int) (w:World):
 Calls Tryz.prog 28 #[.int .i64 n,.int .i64 0,.int .i64 1099511627776] w λe w'=>e=.returned (.bool (qal n))/\w'=w:=qjl n 0 1099511627776 w
end Go.Proofs.YtoanjdndmlffdaaGreatDoor
