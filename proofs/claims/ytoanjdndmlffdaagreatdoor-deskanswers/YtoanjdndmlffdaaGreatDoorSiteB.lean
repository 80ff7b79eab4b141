import Derived.Test.YtoanjdndmlffdaaGreatDoorPgRead
import Derived.Shelf.Strings.OnBuilder
import Derived.Shelf.Strconv.Itoa4
import Derived.Shelf.Strconv.ParseIntPublic10
import Derived.Shelf.Strings.Cut
import Derived.Shelf.Strings.Prefix
import Derived.Shelf.Strings.FieldsFuncAny
set_option maxHeartbeats 8000000
set_option maxRecDepth 100000
namespace Go.Proofs.YtoanjdndmlffdaaGreatDoor
section
open Go.RowKit
variable {S:qe}
theorem q1q {waits:List TxM} {s:Int} {m:TxM} {v:Bool} (c:qpl waits s (qp s S.a0 S.a1 S.a2 S.a3+1) m v) (d:waits.map (·.t)=S.waits) (f:qgu S.waits):
 (v=false->qbt S s=none)/\(v=true->(qz S m.t=false->qbt S s=none)/\(qz S m.t=true->qbt S s=some m.t)):=by
 refine⟨λe=>qjy (λx g i=>?_),λe=>?_⟩
 ·obtain⟨_,h⟩:=c.no e;rw[<-d]at g;obtain⟨y,n,rfl⟩:=jcz.1 g;have o:=h y n;cases a:qz S y.t with
  |false=>rfl
  |true=>
   have:=(qgo a).1;rw[i]at this;exact absurd ⟨i,this⟩ o
 obtain⟨p,j,q⟩:=c.yes e
 have k:m.t∈S.waits:=by rw[<-d];exact jcz.2 ⟨m,p,rfl⟩
 refine⟨λa=>?_,λa=>by rw[<-j];exact qw3 f k a⟩;cases hp:qbt S s with
 |none=>rfl
 |some y=>
  obtain⟨p1,p2,p3⟩:=qbv hp;have l:=(qgo p3).1;rw[p2]at l;rw[f.uniq p1 k (by rw[p2,j]) (by rw[l,q]),a]at p3;cases p3
structure NxB (A b bm:Nat) (s D:Int) (w:World):Prop where
 c:w.cell? (AD A 0)=some (PP b)
 m:w.cell? (AD b 8)=some (.map (some bm))
 d:w.cell? (AD b (1+s.toNat))=some (U D)
variable {A b bm:Nat} {lv:Value} {F:Nat->Prop}
theorem qyg {log waits:List TxM} (s:Int) (w:World) (M:w.cell? (AD A 0)=some (PP b)) (h:zf w b lv bm F S log waits) (X:waits.map (·.t)=S.waits) (B:j3 S) (N:0<=s) (O:s<=3):
 Ca 277 #[U s,PP A] w (Rn (.bool (qbt S s).isSome) w):=by
 have C:=B.dep s;have Y:=B.nums;have Z:wfI (qp s S.a0 S.a1 S.a2 S.a3+1):=⟨by have:=C.1;omega,by have:=C.2;omega⟩;have aa:wfI s:=⟨by omega,by omega⟩;obtain⟨m,v,E⟩:=q0t waits s (qp s S.a0 S.a1 S.a2 S.a3+1);have PK:=q1q E X Y
 have P:v=true->0<=m.t.site/\m.t.site<=3:=λe=>by rw[(E.yes e).2.1];exact⟨N,O⟩
 have u:NxB A b bm s (qp s S.a0 S.a1 S.a2 S.a3) w.drew:=⟨M,h.box.cell 8 _ rfl,h.box.cell _ _ (qmz N O)⟩;have x:=hd1 (λW G=>qvd E aa Z W (h.later G).map);have RD:Hid (∀W,Bw w W->v=true->∀r,qz S m.t=r->Ca 254 #[PP b,txV m] W λe w'=>e=.returned (.bool r)/\Bw W w'):=λW G Q r H=>qnn m W (h.later G) (P Q).1 (P Q).2 (B.dep _) H;have y:=hd1 PK;have R:=qd1 C;obtain⟨⟨i,j,wall,k,l,n,o,p,ws⟩,a,cap⟩:=m;obtain⟨D,hD⟩:∃D,qp s S.a0 S.a1 S.a2 S.a3=D:=⟨_,rfl⟩;rw[hD]at R u x
 have hw2:IntKind.i64.wrap (D+1)=D+1:=by rw[<-R];unfold wrap64 IntKind.wrap;simp[IntKind.signed,IntKind.bits];omega
 rw[<-hw2]at x
 have h4:s<4:=by omega
 have hbl:=h.box.lt;have hal:A<w.heap.size:=jcr _ _ M;have q:NxB A b bm s D w:=⟨u.c,u.m,u.d⟩;have Y0:=λ(w':World) (h:Bw w w')=>cell_later h q.c;have Y1:=λ(w':World) (h:Bw w w')=>cell_later h q.m;have Y2:=λ(w':World) (h:Bw w w')=>cell_later h q.d;have hbD:=(jcc w.heap.size w).drew;go_enter Tryz.func277,Tryz.ntmps277
 go_wp2_with fail
 go_region_held3 (λw'=>Bw w w') (repeat (first|(with_reducible assumption)|(with_reducible exact jcc _ _)|(with_reducible refine boxed ?_ _)|(with_reducible refine jc6 ?_)|(refine jdz ?_ (by first|(with_reducible exact jcd _)|(have:=Below.size (by with_reducible assumption);simpa using this)) _)))
  (first
    |(go_at_call 276;with_reducible refine(x.out (w.alloc (.cells ZA 102)).drew ((boxed (jcc w.heap.size w) (.cells ZA 102)).drew)).mono ?_;rintro e w2 ⟨rfl,z⟩;have I:=qa ((boxed (jcc w.heap.size w) (.cells ZA 102)).drew) z;have f:=((qd.new (w:=w) (T:=102) ZL rfl).drew).later z;have y0:=f.cell 0 _ rfl;have z0:=f.free 0 (by simp);have y1:=f.cell 1 _ rfl;have z1:=f.free 1 (by simp);have y2:=f.cell 2 _ rfl;have z2:=f.free 2 (by simp);have y3:=f.cell 3 _ rfl;have z3:=f.free 3 (by simp);have y4:=f.cell 4 _ rfl;have z4:=f.free 4 (by simp);have y5:=f.cell 5 _ rfl;have z5:=f.free 5 (by simp);have y6:=f.cell 6 _ rfl;have z6:=f.free 6 (by simp);have y7:=f.cell 7 _ rfl;have z7:=f.free 7 (by simp);have y8:=f.cell 8 _ rfl;have z8:=f.free 8 (by simp);simp only[txV])
    |(go_at_call 276;with_reducible refine(x.out _ (by with_reducible assumption)).mono ?_;rintro e w2 ⟨rfl,z⟩;have I:=qa (by with_reducible assumption) z;simp only[txV]))
 have g:=boxed I (.cells (List.toArray (T9 i j wall k l n o p a ws.length cap)) 102);have J:=qd.new (w:=w2) (T:=102) (T9 i j wall k l n o p a ws.length cap) rfl;have b0:=cell_later g q.c;obtain⟨c0,c1,c2,c3,c4,c5,c6,c7,c8⟩:=J.c9;cases v
 ·have K:=hd1 (y.out.1 rfl)
  go_wp2_with fail
  go_ret;exact⟨by rw[K.out];rfl,g⟩
 rotate_left
 have g:=qd9 I (jcd _) i j wall k l n o p (.slice a ws.length cap);have J:=yz f rfl i j wall k l n o p (.slice a ws.length cap);have b0:=cell_later g q.c;obtain⟨c0,c1,c2,c3,c4,c5,c6,c7,c8⟩:=J.c9;cases v
 ·have K:=hd1 (y.out.1 rfl)
  go_wp2_with fail
  go_ret;exact⟨by rw[K.out];rfl,g⟩
 all_goals
  obtain⟨r,H⟩:∃r,qz S ⟨i,j,wall,k,l,n,o,p,ws⟩=r:=⟨_,rfl⟩;have L:=hd1 H;have V:=RD.out _ g rfl r L.out
  have HP1:Hid ((qbt S s).isSome=r):=by
   show _=_;cases r
   ·rw[((y.out.2 rfl).1 L.out)];rfl
   rw[((y.out.2 rfl).2 L.out)];rfl
  simp only[txV]at V
  go_wp2_with fail
  refine V.mono ?_;rintro e w3 ⟨rfl,hb3⟩
  go_wp2_with fail
  go_ret;exact⟨by rw[HP1.out];rfl,qa g hb3⟩
def qks (S:qe):Nat->Option TxP
 |0=>none
 |n+1=>match qks S n with
  |some x=>some x
  |none=>qbt S n
theorem qpp (S:qe):qks S 4=qd7 S:=by
 cases h0:qbt S 0<;>cases h1:qbt S 1<;>cases h2:qbt S 2<;>simp[qks,qd7,h0,h1,h2]
def q76 (S:qe) (e:Ending):Prop:=(∃x,qd7 S=some x/\e=.returned (.tuple #[U x.site,.bool true]))\/(qd7 S=none/\e=.returned (.tuple #[U 0,.bool false]))
theorem q03 {log waits:List TxM} (w:World) (n:w.cell? (AD A 0)=some (PP b)) (h:zf w b lv bm F S log waits) (o:waits.map (·.t)=S.waits) (p:j3 S):
 Ca 278 #[.func (.func 277) #[] #[PP A]] w λe w'=>
  q76 S e/\Bw w w':=by
 have q:=hd1 (λW a s r m=>qyg s W (cell_later a n) (h.later a) o p r m);go_enter Tryz.func278,Tryz.ntmps278
 go_wp2_with fail
 go_loopw [5] (λiv wr=>∃(k:Nat) (z:Int),k<=4/\z=k/\iv=U z/\Hid (qks S k=none)/\Bw w wr) (λi _=>4-(intOf i).toNat)
 case atStart=>exact⟨0,0,by omega,rfl,rfl,rfl,jcc _ _⟩
 obtain⟨k,z,D,u,rfl,g,a⟩:=hrel;have c:=hd1 u;by_cases E:k<4
 ·have y:z<4:=by omega
  have m:0<=z:=by omega
  have d:=q.out wr a z (by omega) (by omega);cases hp:qbt S z with
  |none=>
   have f:=hd1 hp;rw[hp]at d
   go_wp2_with fail
   refine d.mono ?_;rintro e w2 ⟨rfl,l⟩
   go_wp2_with fail
   go_roundw
   case rel=>
        refine⟨k+1,z+1,by omega,by have:=c.out;omega,by go_num,?_,qa a l⟩;show qks S (k+1)=none;simp only[qks];rw[g.out,<-c.out];exact f.out
   simp[intOf];have:=c.out;omega
  |some x=>
   have f:=hd1 hp;rw[hp]at d
   go_wp2_with fail
   refine d.mono ?_;rintro e w2 ⟨rfl,l⟩
   go_wp2_with fail
   refine bodyPost_ret (v:=.tuple #[U z,.bool true]) (by simp[results,Tryz.results278,go_sem]) rfl ⟨.inl ⟨x,?_,by rw[(qbv f.out).2.1]⟩,qa a l⟩
   have B:qks S (k+1)=some x:=by
        simp only[qks];rw[g.out,<-c.out];exact f.out
   have C:∀j,qks S (k+1+j)=some x:=λj=>by
        induction j with
        |zero=>exact B
        |succ j ih=>rw[<-Nat.add_assoc];simp only[qks];rw[ih]
   have:=C (3-k);rw[show k+1+(3-k)=4 by omega,qpp]at this;exact this
 have y:¬z<4:=by omega
 obtain rfl:k=4:=by omega
 go_wp2_with fail
 exact bodyPost_ret (v:=.tuple #[U 0,.bool false]) (by simp[results,Tryz.results278,go_sem]) rfl ⟨.inr ⟨by rw[<-qpp];exact g.out,rfl⟩,a⟩
end
section
open Go.RowKit
theorem qru (a c d i:Int):qdr a c d i<0↔0<qdr d i a c:=by
 rcases qcw a c d i with ⟨h,e⟩|⟨h,e⟩|⟨h,e⟩<;>rcases qcw d i a c with ⟨g,f⟩|⟨g,f⟩|⟨g,f⟩<;>rw[e,f]<;>constructor<;>intro k<;>omega
theorem q4d {lw lc a c x y:Int} (d:(if 0<qdr a c lw lc then a else lw)=x) (f:(if 0<qdr a c lw lc then c else lc)=y) (w:World):
 Ca 273 #[.agg #[U lw,U lc],.agg #[U a,U c]] w (Rn (.agg #[U x,U y]) w):=by
 subst d f;by_cases h:0<qdr a c lw lc
 ·rw[if_pos h,if_pos h];exact q8l lw lc a c w ((qru lw lc a c).2 h)
 rw[if_neg h,if_neg h];exact q78 lw lc a c w (λe=>h ((qru lw lc a c).1 e))
structure qje (w0:World) (b:Nat) (lv:Value) (bm:Nat) (F:Nat->Prop) (S:qe) (log waits:List TxM) (m:TxM) (k:Nat) (F':Nat->Prop) (wr:World):Prop where
 mem:zf wr b lv bm F' {S with l:=qbz m.t (m.t.ws.take k) S.l} log waits
 box:qd wr w0.heap.size (txC m)
 far:¬jn b lv bm F' w0.heap.size
 foot:∀j,jn b lv bm F' j->jn b lv bm F j\/w0.heap.size<=j
 touch:qc (jn b lv bm F) w0 wr
variable {w0 wr w':World} {b bm k:Nat} {lv:Value} {F F':Nat->Prop} {S:qe} {m:TxM}
theorem qje.later {log waits:List TxM} (h:qje w0 b lv bm F S log waits m k F' wr) (a:Bw wr w'):qje w0 b lv bm F S log waits m k F' w':=
 ⟨h.mem.later a,h.box.later a,h.far,h.foot,h.touch.trans (qc.ofBelow a)⟩
theorem qje.put {log waits:List TxM} (h:qje w0 b lv bm F S log waits m k F' wr) (f:k<m.t.ws.length)
 (g:qf8 wr b 25 F' (qa4 (qbz m.t (m.t.ws.take k) S.l) (qa7 m.t.ws k).key (qne m.t (qa7 m.t.ws k))) w'):∃c,qje w0 b lv bm F S log waits m (k+1) c w':=by
 obtain⟨c,i,e,d⟩:=h.mem.store g;refine⟨c,by rw[qpz f];exact i,h.box.kept (d.block _ h.box.lt h.far) d.size,λn=>?_,λj o=>?_,h.touch.more d h.foot⟩
 ·rcases e _ n with a|a
  ·exact h.far a
  have:=h.box.lt;omega
 rcases e j o with a|a
 ·exact h.foot j a
 exact .inr (by have:=h.touch.size;omega)
theorem qje.outside {log waits:List TxM} {c:Nat} {xs:List Value} {e:List Hd} (h:qje w0 b lv bm F S log waits m k F' wr)
 (f:qf8 wr b 25 F' e w') (d:qd wr c xs) (g:¬jn b lv bm F' c):ApB w0.heap.size c (txC m) xs w':=by
 obtain⟨i,j,l,a⟩:=h.mem.store f;exact⟨h.box.kept (a.block _ h.box.lt h.far) a.size,d.kept (a.block _ d.lt g) a.size⟩
structure PaE (w0:World) (b:Nat) (lv:Value) (bm:Nat) (F:Nat->Prop) (S:qe) (log waits:List TxM) (m:TxM) (F':Nat->Prop) (wr:World):Prop where
 mem:zf wr b lv bm F' S log waits
 box:qd wr w0.heap.size (txC m)
 far:¬jn b lv bm F' w0.heap.size
 foot:∀j,jn b lv bm F' j->jn b lv bm F j\/w0.heap.size<=j
 touch:qc (jn b lv bm F) w0 wr
theorem PaE.later {log waits:List TxM} (h:PaE w0 b lv bm F S log waits m F' wr) (a:Bw wr w'):PaE w0 b lv bm F S log waits m F' w':=
 ⟨h.mem.later a,h.box.later a,h.far,h.foot,h.touch.trans (qc.ofBelow a)⟩
theorem PaE.seq {log waits:List TxM} (h:PaE w0 b lv bm F S log waits m F' wr) {s:Int} (x:Int) (a:0<=s) (c:s<=3):
 PaE w0 b lv bm F {S with a0:=qch s x S.a0,a1:=qcl s x S.a1,a2:=qck s x S.a2,a3:=qcj s x S.a3} log waits m F' (wr.setCell (AD b (1+s.toNat)) (U x)):=
 ⟨h.mem.seq x a c,h.box.far _ _ (λe=>h.far (.inl e.symm)),h.far,h.foot,h.touch.trans (qc.setCell wr (AD b (1+s.toNat)) _ (.inl rfl))⟩
theorem PaE.last {log waits:List TxM} (h:PaE w0 b lv bm F S log waits m F' wr) (x y:Int):
 PaE w0 b lv bm F {S with lw:=x,lc:=y} log waits m F' ((wr.setCell (AD b 5) (U x)).setCell (AD b 6) (U y)):=
 ⟨h.mem.last x y,(h.box.far _ _ (λe=>h.far (.inl e.symm))).far _ _ (λe=>h.far (.inl e.symm)),h.far,h.foot,(h.touch.trans (qc.setCell wr (AD b 5) _ (.inl rfl))).trans (qc.setCell _ (AD b 6) _ (.inl rfl))⟩
theorem PaE.append {log waits:List TxM} {c:World} (h:PaE w0 b lv bm F S log waits m F' wr) (a:qr w0 m.wa m.wc m.t.ws/\∀k,m.blk k->¬jn b lv bm F k) {g f:Nat} (n:wr.grownBy c lv.ownBlock)
 (o:c.ownsRow 0 102 9 (.slice (PT g) (log.length+1) f) (log.length+1) (zw log++txC m)) (p:lv.ownBlock=some g\/wr.heap.size<=g):
 ∃i j,zf (c.setCell (AD b 7) (.slice (PT g) (log.length+1) f)) b i bm j S (log++[m]) waits/\(∀k,jn b i bm j k->jn b lv bm F k\/w0.heap.size<=k)/\qc (jn b lv bm F) w0 (c.setCell (AD b 7) (.slice (PT g) (log.length+1) f)):=by
 obtain⟨d,q,r⟩:=h.mem.append m ⟨a.1.kept (λk e=>h.touch.block k (a.1.blk_lt k e) (a.2 k e)),λk e s=>by
  rcases h.foot k s with d|d
  ·exact a.2 k e d
  have:=a.1.blk_lt k e
  omega⟩ n o p
 refine⟨_,_,d,λk u=>?_,h.touch.more r h.foot⟩;rcases q k u with l|l
 ·exact h.foot k l
 exact .inr (by have:=h.touch.size;omega)
theorem qr3 {log waits:List TxM} (m:TxM) (w:World) (h:zf w b lv bm F S log waits) (N:qr w m.wa m.wc m.t.ws/\∀k,m.blk k->¬jn b lv bm F k) (hs0:0<=m.t.site) (hs1:m.t.site<=3) (hl:S.l.length+m.t.ws.length<=1000) (hlog:log.length<=1000):
 Ca 244 #[PP b,.agg (List.toArray (T9 m.t.site m.t.seq m.t.wall m.t.count m.t.d0 m.t.d1 m.t.d2 m.t.d3 m.wa m.t.ws.length m.wc))] w λe w'=>
  e=.returned (.tuple #[])/\∃r F',zf w' b r bm F' (vr S m.t) (log++[m]) waits/\(∀k,jn b r bm F' k->jn b lv bm F k\/w.heap.size<=k)/\qc (jn b lv bm F) w w':=by
 have hb:=boxed (jcc _ w) (.cells (List.toArray (T9 m.t.site m.t.seq m.t.wall m.t.count m.t.d0 m.t.d1 m.t.d2 m.t.d3 m.wa m.t.ws.length m.wc)) 102);have RT:=qd.new (w:=w) (T:=102) (txC m) rfl;change qd (w.alloc (.cells (List.toArray (T9 m.t.site m.t.seq m.t.wall m.t.count m.t.d0 m.t.d1 m.t.d2 m.t.d3 m.wa m.t.ws.length m.wc)) 102)) w.heap.size (txC m)at RT
 have M0:qje w b lv bm F S log waits m 0 F (w.alloc (.cells (List.toArray (T9 m.t.site m.t.seq m.t.wall m.t.count m.t.d0 m.t.d1 m.t.d2 m.t.d3 m.wa m.t.ws.length m.wc)) 102)):=
  ⟨by simpa[qbz]using h.later hb,RT,λe=>Nat.lt_irrefl _ (h.lt _ e),λj hj=>.inl hj,qc.ofBelow hb⟩
 have I:=hd1 N;have hc1:=N.1.len;have hc2:=N.1.cap;go_enter Tryz.func244,Tryz.ntmps244
 go_wp2_with fail
 obtain⟨W,hWW⟩:∃W,w.alloc (.cells (List.toArray (T9 m.t.site m.t.seq m.t.wall m.t.count m.t.d0 m.t.d1 m.t.d2 m.t.d3 m.wa m.t.ws.length m.wc)) 102)=W:=⟨_,rfl⟩;rw[hWW]at M0 ⊢
 go_loopw [9] (λiv wr=>∃(k:Nat) (z:Int) (F':Nat->Prop),k<=m.t.ws.length/\z=k/\iv=U z/\Hid (qje w b lv bm F S log waits m k F' wr)) (λi _=>m.t.ws.length-(intOf i).toNat)
 case atStart=>exact⟨0,0,F,by omega,rfl,rfl,M0⟩
 obtain⟨k,z,F',hk,hz,rfl,J⟩:=hrel;have HZ:=hd1 hz;by_cases y:k<m.t.ws.length
 ·have n:z<(m.t.ws.length:Int):=by omega
  have h2:z.toNat=k:=by omega
  have h3:0<=z:=by omega
  obtain⟨o,s,O,hcc⟩:∃o s,m.wa=some (AD o s)/\qbo w o s m.t.ws:=by
   rcases I.out.1.held with P|P
   ·rw[P]at y;simp at y
   exact P
  have hblk:m.blk o:=⟨λe=>by rw[e]at y;simp at y,s,O⟩;have hwl:=I.out.1.blk_lt o hblk;have Q:=J.out.touch.block o hwl (I.out.2 o hblk);obtain⟨⟨a,c,d⟩,hx⟩:∃x,qa7 m.t.ws k=x:=⟨_,rfl⟩;have K:=hcc k y;rw[hx]at K
  have x0:wr.cell? (AD o (s+k*3))=some (U a):=by rw[jch (w:=w) Q];exact K.1
  have x1:wr.cell? (AD o (s+k*3+1))=some (.string c):=by rw[jch (w:=w) Q];exact K.2.1
  have x2:wr.cell? (AD o (s+k*3+2))=some (.bool d):=by rw[jch (w:=w) Q];exact K.2.2
  have HX:=hd1 hx;have HWA:=hd1 O;rw[O];have hbx:=boxed (jcc _ wr) (.cells #[U a,.string c,.bool d] 100);have L:=(J.out.later hbx).later (jcc _ (wr.alloc (.cells #[U a,.string c,.bool d] 100))).drew;have R:=(qd.new (w:=wr) (T:=100) [U a,.string c,.bool d] rfl).drew;change qd (wr.alloc (.cells #[U a,.string c,.bool d] 100)).drew wr.heap.size [U a,.string c,.bool d]at R;have SB:ApB w.heap.size wr.heap.size (txC m) [U a,.string c,.bool d] (wr.alloc (.cells #[U a,.string c,.bool d] 100)).drew:=⟨L.box,R⟩
  have hll:(qbz m.t (m.t.ws.take k) S.l).length<=1000:=by
   have:=qf1 m.t (m.t.ws.take k) S.l;rw[jc5]at this;omega
  have V:Hid (Ca 272 #[.pointer (some (AD b 25)),U a,.agg #[U m.t.wall,U m.t.count,U m.t.site,U m.t.seq,.string c,.bool d]] (wr.alloc (.cells #[U a,.string c,.bool d] 100)).drew λe w'=>e=.returned (jc (qb5 (qbz m.t (m.t.ws.take k) S.l) a ⟨m.t.wall,m.t.count,m.t.site,m.t.seq,c,d⟩))/\ApB w.heap.size wr.heap.size (txC m) [U a,.string c,.bool d] w'/\∃q,Hid (qje w b lv bm F S log waits m (k+1) q w')):=
   (q64 a ⟨m.t.wall,m.t.count,m.t.site,m.t.seq,c,d⟩ _ L.mem.st hll).mono λe w' ⟨X,hp⟩=>⟨X,L.outside hp R (λhf=>Nat.lt_irrefl _ (J.out.mem.lt _ hf)),L.put y (by rw[HX.out];exact hp)⟩
  have T0:=λ(w':World) (h:ApB w.heap.size wr.heap.size (txC m) [U a,.string c,.bool d] w')=>h.t.cell 0 _ rfl;have T1:=λ(w':World) (h:ApB w.heap.size wr.heap.size (txC m) [U a,.string c,.bool d] w')=>h.t.cell 1 _ rfl;have T2:=λ(w':World) (h:ApB w.heap.size wr.heap.size (txC m) [U a,.string c,.bool d] w')=>h.t.cell 2 _ rfl;have T3:=λ(w':World) (h:ApB w.heap.size wr.heap.size (txC m) [U a,.string c,.bool d] w')=>h.t.cell 3 _ rfl;have X0:=λ(w':World) (h:ApB w.heap.size wr.heap.size (txC m) [U a,.string c,.bool d] w')=>h.x.cell 0 _ rfl;have X1:=λ(w':World) (h:ApB w.heap.size wr.heap.size (txC m) [U a,.string c,.bool d] w')=>h.x.cell 1 _ rfl;have X2:=λ(w':World) (h:ApB w.heap.size wr.heap.size (txC m) [U a,.string c,.bool d] w')=>h.x.cell 2 _ rfl
  go_wp2_with fail
  go_region_held3 (λw'=>ApB w.heap.size wr.heap.size (txC m) [U a,.string c,.bool d] w') (with_reducible assumption)
   (first|(go_at_call 272;with_reducible refine V.out.mono ?_;rintro e Y ⟨rfl,SB5,q,AM3⟩))
  all_goals
   go_wp2_with fail
   go_roundw
   case rel=>exact⟨k+1,z+1,q,by omega,by have:=HZ.out;omega,by go_num,AM3⟩
   simp[intOf];have:=HZ.out;omega
 have h4:¬z<(m.t.ws.length:Int):=by omega
 obtain rfl:k=m.t.ws.length:=by omega
 have M:Hid (PaE w b lv bm F {S with l:=qbz m.t m.t.ws S.l} log waits m F' wr):=by
  have D:=J.out;refine⟨?_,D.box,D.far,D.foot,D.touch⟩;have:=D.mem;rw[jc9]at this;exact this
 have BX:=M.out.box;have t0:=BX.cell 0 _ rfl;have t1:=BX.cell 1 _ rfl;have s1:=M.out.mem.box.free (1+m.t.site.toNat) (by simp[qab];omega);obtain⟨ov,s0⟩:∃v,wr.cell? (AD b (1+m.t.site.toNat))=some v:=⟨_,M.out.mem.box.cell (1+m.t.site.toNat) _ (jcg (by simp[qab];omega))⟩
 go_wp2_with fail
 go_region
 have B:Hid (PaE w b lv bm F {S with l:=qbz m.t m.t.ws S.l,a0:=qch m.t.site m.t.seq S.a0,a1:=qcl m.t.site m.t.seq S.a1,a2:=qck m.t.site m.t.seq S.a2,a3:=qcj m.t.site m.t.seq S.a3} log waits m F' (wr.setCell (AD b (1+m.t.site.toNat)) (U m.t.seq)).drew):=(M.out.seq m.t.seq hs0 hs1).later (jcc _ _).drew;obtain⟨W1,hW1⟩:∃W1,(wr.setCell (AD b (1+m.t.site.toNat)) (U m.t.seq)).drew=W1:=⟨_,rfl⟩;rw[hW1]at B ⊢;have t2:=B.out.box.cell 2 _ rfl;have t3:=B.out.box.cell 3 _ rfl;have l5:=B.out.mem.box.cell 5 _ rfl;have l6:=B.out.mem.box.cell 6 _ rfl;obtain⟨E,hlw⟩:∃x,(if 0<qdr m.t.wall m.t.count S.lw S.lc then m.t.wall else S.lw)=x:=⟨_,rfl⟩;obtain⟨G,hlc⟩:∃x,(if 0<qdr m.t.wall m.t.count S.lw S.lc then m.t.count else S.lc)=x:=⟨_,rfl⟩;have HLW:=hd2 hlw hlc
 have V:Hid (Ca 273 #[.agg #[U S.lw,U S.lc],.agg #[U m.t.wall,U m.t.count]] W1.drew λe w'=>e=.returned (.agg #[U E,U G])/\Hid (PaE w b lv bm F {S with l:=qbz m.t m.t.ws S.l,a0:=qch m.t.site m.t.seq S.a0,a1:=qcl m.t.site m.t.seq S.a1,a2:=qck m.t.site m.t.seq S.a2,a3:=qcj m.t.site m.t.seq S.a3} log waits m F' w')):=
  (q4d hlw hlc W1.drew).mono λe w' ⟨X,hb'⟩=>⟨X,B.out.later (qa (jcc _ W1).drew hb')⟩
 go_wp2_with fail
 go_region_with
  (first|(go_at_call 273;with_reducible refine V.out.mono ?_;rintro e Y ⟨rfl,H⟩;have k5:=H.out.mem.box.cell 5 _ rfl;have k6:=H.out.mem.box.cell 6 _ rfl;have q5:=H.out.mem.box.free 5 (by simp[qab]);have q6:=H.out.mem.box.free 6 (by simp[qab])))
 all_goals
  have p:Hid (PaE w b lv bm F {S with l:=qbz m.t m.t.ws S.l,a0:=qch m.t.site m.t.seq S.a0,a1:=qcl m.t.site m.t.seq S.a1,a2:=qck m.t.site m.t.seq S.a2,a3:=qcj m.t.site m.t.seq S.a3,lw:=E,lc:=G} log waits m F' ((Y.setCell (AD b 5) (U E)).setCell (AD b 6) (U G))):=H.out.last E G;obtain⟨f,hw6⟩:∃f,(Y.setCell (AD b 5) (U E)).setCell (AD b 6) (U G)=f:=⟨_,rfl⟩;rw[hw6]at p ⊢
  have FIN9:∀(Z:qe) (f:World),Hid (PaE w b lv bm F Z log waits m F' f)->{Z with log:=S.log++[m.t]}=vr S m.t->∀(g C:Nat) (u:World),(f.drew.alloc (.cells (List.toArray (T9 m.t.site m.t.seq m.t.wall m.t.count m.t.d0 m.t.d1 m.t.d2 m.t.d3 m.wa m.t.ws.length m.wc)) 102)).grownBy u lv.ownBlock->
        u.ownsRow 0 102 9 (.slice (PT g) (log.length+1) C) (log.length+1) (zw log++txC m)->(lv.ownBlock=some g\/g=(f.drew.alloc (.cells (List.toArray (T9 m.t.site m.t.seq m.t.wall m.t.count m.t.d0 m.t.d1 m.t.d2 m.t.d3 m.wa m.t.ws.length m.wc)) 102)).heap.size)->
        Hid (∃r q,zf (u.setCell (AD b 7) (.slice (PT g) (log.length+1) C)) b r bm q (vr S m.t) (log++[m]) waits/\(∀k,jn b r bm q k->jn b lv bm F k\/w.heap.size<=k)/\qc (jn b lv bm F) w (u.setCell (AD b 7) (.slice (PT g) (log.length+1) C))):=λZ f A e g C u gr ow eg=>by
   have A':=A.out.later (boxed ((jcc _ f).drew) (.cells (List.toArray (T9 m.t.site m.t.seq m.t.wall m.t.count m.t.d0 m.t.d1 m.t.d2 m.t.d3 m.wa m.t.ws.length m.wc)) 102));obtain⟨r,q,n,h2,h3⟩:=A'.append I.out gr ow (eg.imp id (λe=>Nat.le_of_eq e.symm));rw[<-e];exact⟨r,q,⟨n.box,n.st,n.rlog,n.map,n.nl,n.nm,n.lm,n.lf,n.mf,n.hold⟩,h2,h3⟩
  obtain⟨i0,hi,hz0,hz1,hz2⟩:=info_parts qpi;have AP:=FIN9 _ f p (by simp only[vr];obtain⟨e1,e2⟩:=HLW.out;rw[e1,e2]);obtain⟨t0,t1,t2,t3,t4,t5,t6,t7,t8⟩:=p.out.box.c9;have s7:=p.out.mem.box.cell 7 _ rfl;have f7:=p.out.mem.box.free 7 (by simp[qab]);have own6:f.drew.ownsRow 0 102 9 lv log.length (zw log):=p.out.mem.rlog;have hsb:=p.out.mem.box.lt;have nb:some b≠lv.ownBlock:=λe=>p.out.mem.nl e.symm;have bx:qd f b (qab _ lv bm):=p.out.mem.box
  go_wp2_with fail
  go_region_law (refine step_append_lies _ rfl (.tmp 53) (.tmp 55) 80 rfl 0 102 i0 (.agg ZA) 9 88 Tryz.underlying80 hi hz0 hz1 hz2 rfl (by decide) lv log.length (zw log) (by simp[Act.eval]) (own6.alloc _) (AD f.heap.size 0) 1 1 (txC m) (by simp[Act.eval]) rfl (World.news_of_block (heap_alloc_new f.drew (.cells (List.toArray (T9 m.t.site m.t.seq m.t.wall m.t.count m.t.d0 m.t.d1 m.t.d2 m.t.d3 m.wa m.t.ws.length m.wc)) 102))) (qih m) (by decide) (by simp only[maxLen];omega) (by omega) (by simp) _ rfl ?_
                 intro g C u ownE grE egE ltE;have FIN:=AP g C u grE ownE egE;have BE:=((bx.drew).boxed (.cells (List.toArray (T9 m.t.site m.t.seq m.t.wall m.t.count m.t.d0 m.t.d1 m.t.d2 m.t.d3 m.wa m.t.ws.length m.wc)) 102)).grown grE nb;have s0E:=BE.cell 7 _ rfl
                 have s1E:=BE.free 7 (by simp[qab]))
  all_goals
   go_wp2_with fail
   go_end0;exact⟨rfl,FIN.out⟩
end
section
open Go.RowKit
variable {v:Bool}
theorem qhv {n:Int} (h:inB n 0 3=v) (w:World):
 Ca 202 #[U n] w (Rn (.bool v) w):=by
 subst h;by_cases a:0<=n;by_cases b:n<4
 have e:Hid (inB n 0 3=true):=by show inB n 0 3=true;rw[jk];omega
 rotate_left
 have e:Hid (inB n 0 3=false):=by show inB n 0 3=false;simp[inB];omega
 rotate_left
 have e:Hid (inB n 0 3=false):=by show inB n 0 3=false;simp[inB,a]
 all_goals
  go_enter Tryz.func202,Tryz.ntmps202
  go_wp2
  go_ret;exact⟨by rw[e.out];rfl,jcc _ _⟩
def qnl (data:ByteArray) (gone:Bool):Bool:=if gone then data.toList.isEmpty else decide ((data.size:Int)<=12)
theorem qrr {key:Int} {data:ByteArray} {gone:Bool} (h:qnl data gone=v) (w:World):
 Ca 269 #[.agg #[U key,.string data,.bool gone]] w (Rn (.bool v) w):=by
 subst h;cases gone;by_cases a:(data.size:Int)<=12;have e:Hid (qnl data false=true):=decide_eq_true a
 rotate_left
 have e:Hid (qnl data false=false):=decide_eq_false a
 rotate_left
 cases he:data.toList.isEmpty;have e:Hid (qnl data true=false):=he
 rotate_left
 have e:Hid (qnl data true=true):=he
 all_goals
  go_enter Tryz.func269,Tryz.ntmps269
  go_wp2
  go_ret;exact⟨by rw[e.out];rfl,boxed (jcc _ _) _⟩
def qq6 (l:List Wr) (k:Nat):Int:=if k=0 then-1 else (qa7 l (k-1)).key
theorem qsg {data:ByteArray} (h:data.toList.isEmpty=true):data.size=0:=by
 have a:∀(n i:Nat) (r:List UInt8),data.size-i=n->(ByteArray.toList.loop data i r).length=r.length+n:=by
  intro n
  induction n with
  |zero=>
   intro i r b;unfold ByteArray.toList.loop;rw[if_neg (by omega)];simp
  |succ n ih=>
   intro i r b;unfold ByteArray.toList.loop;rw[if_pos (by omega),ih _ _ (by omega)];simp;omega
 have:=a data.size 0 [] (by omega);have e:=List.isEmpty_iff.1 h;rw[show ByteArray.toList.loop data 0 []=data.toList from rfl,e]at this;simpa using this.symm
variable {l:List Wr} {k:Nat}
theorem q6e {key:Int} {data:ByteArray} {gone:Bool} (a:qa7 l k=⟨key,data,gone⟩) (h:key<=qq6 l k):qdd l k=false:=by
 rw[ql6 a];unfold qq6 at h;split at h
 ·exact qso (by simp[inB];omega)
 exact qvf (by omega) h
theorem q1b {key:Int} {data:ByteArray} {gone:Bool} (a:qa7 l k=⟨key,data,gone⟩) (h:8<=key):qdd l k=false:=by
 rw[ql6 a];exact qso (by simp[inB];omega)
theorem q5b {key:Int} {data:ByteArray} {gone:Bool} (a:qa7 l k=⟨key,data,gone⟩) (h:qnl data gone=false):qdd l k=false:=by
 rw[ql6 a];cases gone
 ·exact qtz (by have:=of_decide_eq_false (show decide ((data.size:Int)<=12)=false from h);omega)
 exact qpo rfl h
theorem q4o {key:Int} {data:ByteArray} {gone:Bool} (c:qa7 l k=⟨key,data,gone⟩) (d:∀j,j<k->qdd l j=true) (b:¬key<=qq6 l k) (e:¬8<=key) (h:qnl data gone=true):qdd l k=true:=by
 rw[ql6 c]
 have a:¬12<(data.size:Int)/\(gone=false\/data.toList.isEmpty=true):=by
  cases gone
  ·exact⟨by have:=of_decide_eq_true (show decide ((data.size:Int)<=12)=true from h);omega,.inl rfl⟩
  have:=qsg h;exact⟨by omega,.inr h⟩
 unfold qq6 at b;split at b
 ·exact qhr (by rw[jk];omega) (.inl (by assumption)) a.1 a.2
 have:=qoy (d (k-1) (by omega));exact qhr (by rw[jk];omega) (.inr b) a.1 a.2
theorem qsm (b h cap:Nat) (l:List Wr) (w:World) (B:qbo w b h l) (D:¬(l.length:Int)<1) (L:¬5<(l.length:Int)):
 Ca 241 #[.slice (some (AD b h)) l.length cap] w (Rn (.bool (qad l)) w):=by
 go_enter Tryz.func241,Tryz.ntmps241
 go_wp2_with fail
 go_loopw [3,16] (λp i wr=>∃(k:Nat) (z:Int),k<=l.length/\z=k/\i=U z/\p=U (qq6 l k)/\(∀j,j<k->qdd l j=true)/\Bw w wr/\qbo wr b h l) (λ_ i _=>l.length-(intOf i).toNat)
 case atStart=>exact⟨0,0,by omega,rfl,rfl,rfl,λj E=>by omega,jcc _ _,B⟩
 obtain⟨k,z,M,F,rfl,rfl,G,o,C⟩:=hrel;have m:=hd1 G;obtain⟨p,q⟩:∃p,qq6 l k=p:=⟨_,rfl⟩;rw[q];have r:=hd1 q;by_cases f:k<l.length
 ·obtain⟨x0,x1,x2⟩:=C k f
  have D:z<(l.length:Int):=by omega
  have N:z.toNat=k:=by omega
  have O:0<=z:=by omega
  have H:=hd1 F;obtain⟨⟨key,data,gone⟩,s⟩:∃x,qa7 l k=x:=⟨_,rfl⟩;rw[s]at x0 x1 x2;have a:=hd1 s;simp only at x0 x1 x2;have g:=boxed o (.cells #[U key,.string data,.bool gone] 100);have I:=C.later (boxed (jcc _ wr) (.cells #[U key,.string data,.bool gone] 100));by_cases t:key<=p
  ·have c:=hd1 (qef f (q6e a.out (by rw[r.out];exact t)))
   go_wp2_with fail
   go_ret;exact⟨by rw[c.out];rfl,g⟩
  by_cases u:8<=key
  ·have c:=hd1 (qef f (q1b a.out u))
   go_wp2_with fail
   go_ret;exact⟨by rw[c.out];rfl,g⟩
  cases h8:qnl data gone
  ·have c:=hd1 (qef f (q5b a.out h8));have n:=hd1 h8
   go_wp2_with (go_at_call 269;refine(qrr n.out _).mono ?_;rintro e J ⟨rfl,d⟩)
   go_ret;exact⟨by rw[c.out];rfl,qa g d⟩
  have K:=hd1 (q4o a.out m.out (by rw[r.out];exact t) u h8);have n:=hd1 h8
  have y:(wr.alloc (.cells #[U key,.string data,.bool gone] 100)).cell? (AD wr.heap.size 0)=some (U key):=by go_simp
  go_wp2_with (go_at_call 269;refine(qrr n.out _).mono ?_;rintro e J ⟨rfl,d⟩;replace y:=cell_later d y)
  go_roundw
  case rel=>exact⟨k+1,z+1,by omega,by have:=H.out;omega,by go_num,by show _=Value.int .i64 (qa7 l (k+1-1)).key;rw[Nat.add_sub_cancel,a.out],qmg m.out K.out,qa g d,I.later d⟩
  simp[intOf];omega
 have e:Hid (qad l=true):=by
  show qad l=true;rw[qvh (λj E=>m.out j (by omega)),jk];omega
 go_wp2
 go_ret;exact⟨by rw[e.out];rfl,o⟩
theorem qog {a:Option Addr} {cap:Nat} {w:World} (h:qr w a cap l):
 Ca 241 #[.slice a l.length cap] w (Rn (.bool (qad l)) w):=by
 by_cases c:(l.length:Int)<1
 ·have e:Hid (qad l=false):=by
   show qad l=false
   have:inB l.length 1 5=false:=by simp[inB];omega
   simp[qad,this]
  go_enter Tryz.func241,Tryz.ntmps241
  go_wp2
  go_ret;exact⟨by rw[e.out];rfl,jcc _ _⟩
 by_cases d:5<(l.length:Int)
 ·have e:Hid (qad l=false):=by
   show qad l=false
   have:inB l.length 1 5=false:=by simp[inB];omega
   simp[qad,this]
  go_enter Tryz.func241,Tryz.ntmps241
  go_wp2
  go_ret;exact⟨by rw[e.out];rfl,jcc _ _⟩
 rcases h.held with rfl|⟨b,f,rfl,g⟩
 ·simp at c
 exact qsm b f cap l w g c d
end
section
open Tryz Go.RowKit
theorem qw6 (a0 a1 a2 a3:Int) (w:World):
 Ca 203 #[.agg #[U a0,U a1,U a2,U a3]] w (Rn (.bool (jb a0 a1 a2 a3)) w):=by
 have a:∀w,(Instr.index 77 (.agg #[U a0,U a1,U a2,U a3]) (U 0)).run prog w=.ok (U a0) w:=λ_=>by kernel_rfl
 have b:∀w,(Instr.index 77 (.agg #[U a0,U a1,U a2,U a3]) (U 1)).run prog w=.ok (U a1) w:=λ_=>by kernel_rfl
 have c:∀w,(Instr.index 77 (.agg #[U a0,U a1,U a2,U a3]) (U 2)).run prog w=.ok (U a2) w:=λ_=>by kernel_rfl
 have d:∀w,(Instr.index 77 (.agg #[U a0,U a1,U a2,U a3]) (U 3)).run prog w=.ok (U a3) w:=λ_=>by kernel_rfl
 by_cases f:a0<0
 have e:jb a0 a1 a2 a3=false:=by simp[jb,qi];omega
 rw[e];go_enter func203,ntmps203
 go_wp2
 refine wp_loop_rounds 5 ?_
 rotate_left
 by_cases g:1099511627776<a0
 have e:jb a0 a1 a2 a3=false:=by simp[jb,qi];omega
 rw[e];go_enter func203,ntmps203
 go_wp2
 refine wp_loop_rounds 5 ?_
 rotate_left
 by_cases l1:a1<0
 have e:jb a0 a1 a2 a3=false:=by simp[jb,qi];omega
 rw[e];go_enter func203,ntmps203
 go_wp2
 refine wp_loop_rounds 5 ?_;rw[rounds_succ]
 go_wp2
 rotate_left
 by_cases h:1099511627776<a1
 have e:jb a0 a1 a2 a3=false:=by simp[jb,qi];omega
 rw[e];go_enter func203,ntmps203
 go_wp2
 refine wp_loop_rounds 5 ?_;rw[rounds_succ]
 go_wp2
 rotate_left
 by_cases i:a2<0
 have e:jb a0 a1 a2 a3=false:=by simp[jb,qi];omega
 rw[e];go_enter func203,ntmps203
 go_wp2
 refine wp_loop_rounds 5 ?_;rw[rounds_succ]
 go_wp2
 rw[rounds_succ]
 go_wp2
 rotate_left
 by_cases j:1099511627776<a2
 have e:jb a0 a1 a2 a3=false:=by simp[jb,qi];omega
 rw[e];go_enter func203,ntmps203
 go_wp2
 refine wp_loop_rounds 5 ?_;rw[rounds_succ]
 go_wp2
 rw[rounds_succ]
 go_wp2
 rotate_left
 by_cases k:a3<0
 have e:jb a0 a1 a2 a3=false:=by simp[jb,qi];omega
 rw[e];go_enter func203,ntmps203
 go_wp2
 refine wp_loop_rounds 5 ?_;rw[rounds_succ]
 go_wp2
 rw[rounds_succ]
 go_wp2
 rw[rounds_succ]
 go_wp2
 rotate_left
 by_cases l:1099511627776<a3
 have e:jb a0 a1 a2 a3=false:=by simp[jb,qi];omega
 rw[e];go_enter func203,ntmps203
 go_wp2
 refine wp_loop_rounds 5 ?_;rw[rounds_succ]
 go_wp2
 rw[rounds_succ]
 go_wp2
 rw[rounds_succ]
 go_wp2
 rotate_left
 have e:jb a0 a1 a2 a3=true:=by simp[jb,qi];omega
 rw[e];go_enter func203,ntmps203
 go_wp2
 refine wp_loop_rounds 5 ?_;rw[rounds_succ]
 go_wp2
 rw[rounds_succ]
 go_wp2
 rw[rounds_succ]
 go_wp2
 rw[rounds_succ]
 go_wp2
 all_goals
  rw[rounds_succ]
  go_wp2
  go_ret;exact⟨rfl,by repeat (first|exact jcc _ _|apply jy|apply boxed)⟩
end
section
open Go.RowKit
variable {v:Bool}
theorem q6t {x c:Int} (h:(qi x&&qi c)=v) (w:World):
 Ca 270 #[.agg #[U x,U c]] w (Rn (.bool v) w):=by
 subst h;exact qe6 x c w
theorem qh7 {a0 a1 a2 a3:Int} (h:jb a0 a1 a2 a3=v) (w:World):
 Ca 203 #[.agg #[U a0,U a1,U a2,U a3]] w (Rn (.bool v) w):=by
 subst h;exact qw6 a0 a1 a2 a3 w
theorem qux (j b wall i d f g h:Int) (a:Option Addr) (cap:Nat) (l:List Wr) (w:World) (D:qr w a cap l):
 Ca 252 #[.agg (List.toArray (T9 j b wall i d f g h a l.length cap))] w (Rn (.bool (jt j b wall i d f g h l)) w):=by
 have I:=qb.one;have y:=D.later (boxed (jcc _ w) (.cells (List.toArray (T9 j b wall i d f g h a l.length cap)) 102));clear D
 have n:(w.nu (List.toArray (T9 j b wall i d f g h a l.length cap)) 102).cell? (AD w.heap.size 0)=some (U j):=by go_simp
 have o:(w.nu (List.toArray (T9 j b wall i d f g h a l.length cap)) 102).cell? (AD w.heap.size 1)=some (U b):=by go_simp
 have p:(w.nu (List.toArray (T9 j b wall i d f g h a l.length cap)) 102).cell? (AD w.heap.size 2)=some (U wall):=by go_simp
 have q:(w.nu (List.toArray (T9 j b wall i d f g h a l.length cap)) 102).cell? (AD w.heap.size 3)=some (U i):=by go_simp
 have r:(w.nu (List.toArray (T9 j b wall i d f g h a l.length cap)) 102).cell? (AD w.heap.size 4)=some (U d):=by go_simp
 have s:(w.nu (List.toArray (T9 j b wall i d f g h a l.length cap)) 102).cell? (AD w.heap.size 5)=some (U f):=by go_simp
 have t:(w.nu (List.toArray (T9 j b wall i d f g h a l.length cap)) 102).cell? (AD w.heap.size 6)=some (U g):=by go_simp
 have u:(w.nu (List.toArray (T9 j b wall i d f g h a l.length cap)) 102).cell? (AD w.heap.size 7)=some (U h):=by go_simp
 have x:(w.nu (List.toArray (T9 j b wall i d f g h a l.length cap)) 102).cell? (AD w.heap.size 8)=some (.slice a l.length cap):=by go_simp
 cases p1:inB j 0 3
 ·have e:Hid (jt j b wall i d f g h l=false):=by show jt j b wall i d f g h l=false;simp only[jt,p1,Bool.false_and]
  have m:=hd1 p1;clear p1;go_enter Tryz.func252,Tryz.ntmps252
  go_wp2_with (go_at_call 202;refine(qhv m.out _).mono ?_;rintro e C ⟨rfl,c⟩;replace n:=cell_later c n;replace o:=cell_later c o;replace p:=cell_later c p;replace q:=cell_later c q;replace r:=cell_later c r;replace s:=cell_later c s;replace t:=cell_later c t;replace u:=cell_later c u;replace x:=cell_later c x;replace y:=y.later c)
  go_ret;exact⟨by rw[e.out];rfl,qa (boxed (jcc _ _) _) c⟩
 have m:=hd1 p1;by_cases s1:b<1
 ·have e:Hid (jt j b wall i d f g h l=false):=by
   have p2:inB b 1 1099511627776=false:=by simp[inB];omega
   show jt j b wall i d f g h l=false;simp only[jt,p2,Bool.and_false,Bool.false_and]
  clear p1;go_enter Tryz.func252,Tryz.ntmps252
  go_wp2_with (go_at_call 202;refine(qhv m.out _).mono ?_;rintro e C ⟨rfl,c⟩;replace n:=cell_later c n;replace o:=cell_later c o;replace p:=cell_later c p;replace q:=cell_later c q;replace r:=cell_later c r;replace s:=cell_later c s;replace t:=cell_later c t;replace u:=cell_later c u;replace x:=cell_later c x;replace y:=y.later c)
  go_ret;exact⟨by rw[e.out];rfl,qa (boxed (jcc _ _) _) c⟩
 by_cases s2:1099511627776<b
 ·have e:Hid (jt j b wall i d f g h l=false):=by
   have p2:inB b 1 1099511627776=false:=by simp[inB];omega
   show jt j b wall i d f g h l=false;simp only[jt,p2,Bool.and_false,Bool.false_and]
  clear p1;go_enter Tryz.func252,Tryz.ntmps252
  go_wp2_with (go_at_call 202;refine(qhv m.out _).mono ?_;rintro e C ⟨rfl,c⟩;replace n:=cell_later c n;replace o:=cell_later c o;replace p:=cell_later c p;replace q:=cell_later c q;replace r:=cell_later c r;replace s:=cell_later c s;replace t:=cell_later c t;replace u:=cell_later c u;replace x:=cell_later c x;replace y:=y.later c)
  go_ret;exact⟨by rw[e.out];rfl,qa (boxed (jcc _ _) _) c⟩
 have p2:inB b 1 1099511627776=true:=by rw[jk];omega
 have z:=hd1 p2;clear p2;clear p1;go_enter Tryz.func252,Tryz.ntmps252
 go_wp2_with (go_at_call 202;refine(qhv m.out _).mono ?_;rintro e C ⟨rfl,c⟩;replace n:=cell_later c n;replace o:=cell_later c o;replace p:=cell_later c p;replace q:=cell_later c q;replace r:=cell_later c r;replace s:=cell_later c s;replace t:=cell_later c t;replace u:=cell_later c u;replace x:=cell_later c x;replace y:=y.later c)
 have E:=qa (boxed (jcc _ _) _) c;clear c;replace n:=qb.cell n;replace o:=qb.cell o;replace p:=qb.cell p;replace q:=qb.cell q;replace r:=qb.cell r;replace s:=qb.cell s;replace t:=qb.cell t;replace u:=qb.cell u;replace x:=qb.cell x;cases p3:(qi wall&&qi i)
 have e:Hid (jt j b wall i d f g h l=false):=by show jt j b wall i d f g h l=false;simp only[jt,p3,Bool.and_false,Bool.false_and]
 rotate_left
 cases p4:jb d f g h
 have e:Hid (jt j b wall i d f g h l=false):=by show jt j b wall i d f g h l=false;simp only[jt,p4,Bool.and_false,Bool.false_and]
 rotate_left
 have F:=jk.1 m.out
 have G:j=0\/j=1\/j=2\/j=3:=by omega
 clear F;rcases G with rfl|rfl|rfl|rfl;by_cases k:d=b-1
 have B:(d==b-1)=true:=by simp[k]
 have e:Hid (jt 0 b wall i d f g h l=qad l):=by show jt 0 b wall i d f g h l=qad l;simp only[jt,m.out,z.out,p3,p4,Bool.and_true,Bool.true_and,qp];simp[k]
 clear k
 rotate_left
 have B:(d==b-1)=false:=by simp[k]
 have e:Hid (jt 0 b wall i d f g h l=false):=by show jt 0 b wall i d f g h l=false;simp only[jt,m.out,z.out,p3,p4,Bool.and_true,Bool.true_and,qp];simp[k]
 clear k
 rotate_left
 by_cases k:f=b-1
 have B:(f==b-1)=true:=by simp[k]
 have e:Hid (jt 1 b wall i d f g h l=qad l):=by show jt 1 b wall i d f g h l=qad l;simp only[jt,m.out,z.out,p3,p4,Bool.and_true,Bool.true_and,qp];simp[k]
 clear k
 rotate_left
 have B:(f==b-1)=false:=by simp[k]
 have e:Hid (jt 1 b wall i d f g h l=false):=by show jt 1 b wall i d f g h l=false;simp only[jt,m.out,z.out,p3,p4,Bool.and_true,Bool.true_and,qp];simp[k]
 clear k
 rotate_left
 by_cases k:g=b-1
 have B:(g==b-1)=true:=by simp[k]
 have e:Hid (jt 2 b wall i d f g h l=qad l):=by show jt 2 b wall i d f g h l=qad l;simp only[jt,m.out,z.out,p3,p4,Bool.and_true,Bool.true_and,qp];simp[k]
 clear k
 rotate_left
 have B:(g==b-1)=false:=by simp[k]
 have e:Hid (jt 2 b wall i d f g h l=false):=by show jt 2 b wall i d f g h l=false;simp only[jt,m.out,z.out,p3,p4,Bool.and_true,Bool.true_and,qp];simp[k]
 clear k
 rotate_left
 by_cases k:h=b-1
 have B:(h==b-1)=true:=by simp[k]
 have e:Hid (jt 3 b wall i d f g h l=qad l):=by show jt 3 b wall i d f g h l=qad l;simp only[jt,m.out,z.out,p3,p4,Bool.and_true,Bool.true_and,qp];simp[k]
 clear k
 rotate_left
 have B:(h==b-1)=false:=by simp[k]
 have e:Hid (jt 3 b wall i d f g h l=false):=by show jt 3 b wall i d f g h l=false;simp only[jt,m.out,z.out,p3,p4,Bool.and_true,Bool.true_and,qp];simp[k]
 clear k
 all_goals
  refine wrl ?_
  repeat (go_big_quiet_step (first|(go_at_call 270;with_reducible exact qg (q6t p3 _))|(go_at_call 203;with_reducible exact qg (qh7 p4 _))|(go_at_call 241;exact qg (qog (qr.later (qb.below _) y)))))
  refine wpQuiet_nil ?_;rintro J ⟨⟨_,H⟩,rfl⟩
  go_wp2
  go_ret;exact⟨by rw[e.out];rfl,qa E H⟩
theorem qex {b c wall d e f g i:Int} {a:Option Addr} {cap:Nat} {l:List Wr} {w:World} (j:qr w a cap l) (h:jt b c wall d e f g i l=v):
 Ca 252 #[.agg (List.toArray (T9 b c wall d e f g i a l.length cap))] w (Rn (.bool v) w):=by
 subst h;exact qux b c wall d e f g i a cap l w j
end
section
open Go.RowKit
def q8s (w:World) (L:List TxM) (v:Value) (w':World):Prop:=∃kept:List TxM,L.map (·.t)=kept.map (·.t)/\(∃B,w.heap.size<=B/\w'.ownsRow B 102 9 v kept.length (zw kept))/\(∀m∈kept,qr w' m.wa m.wc m.t.ws/\∀j,m.blk j->w.heap.size<=j)/\Bw w w'
theorem qt1 {b:Nat} {lv:Value} {bm:Nat} {F:Nat->Prop} {S:qe} {log waits:List TxM} (y a B C:Int) (w:World) (h:zf w b lv bm F S log waits) (hs:∀m∈log,(0<=m.t.site/\m.t.site<=3)/\1<=m.t.ws.length/\m.t.ws.length<=5) (hl:log.length<=1000):
 Ca 258 #[PP b,.agg #[U y,U a,U B,U C]] w λe w'=>
  ∃v,e=.returned v/\q8s w (log.filter (qcs y a B C)) v w':=by
 obtain⟨la,lc,rfl,hT⟩:=yx h.rlog;have hc1:=hT.len;have hc2:=hT.cap;have E:=qo.new w 77 y a B C;have D:=boxed (jcc _ w) (.cells #[U y,U a,U B,U C] 77);have s7:=cell_later D (h.box.cell 7 _ rfl);have HH:=hd1 h;have HS:=hd1 hs;go_enter Tryz.func258,Tryz.ntmps258
 go_wp2_with fail
 obtain⟨W,hWW⟩:∃W,w.alloc (.cells #[U y,U a,U B,U C] 77)=W:=⟨_,rfl⟩;rw[hWW]at E D s7 ⊢
 go_loopw [5,13] (λsl iv wr=>∃(k:Nat) (z:Int) (l:List TxM) (L:Value),L=sl/\k<=log.length/\z=k/\iv=U z/\((log.take k).filter (qcs y a B C)).map (·.t)=l.map (·.t)/\wr.ownsRow (w.heap.size+1) 102 9 L l.length (zw l)/\Hid (∀m∈l,qr wr m.wa m.wc m.t.ws/\∀j,m.blk j->L.ownBlock≠some j/\w.heap.size<=j)/\qo wr w.heap.size y a B C/\Bw w wr) (λ_ i _=>log.length-(intOf i).toNat)
 case atStart=>exact⟨0,0,[],_,rfl,by omega,rfl,rfl,by simp,jcx _ _ _ _,(λm H=>(by cases H)),E,D⟩
 obtain⟨k,z,l,L,hsl,hk,hz,rfl,R,G,M,E,D⟩:=hrel;subst hsl;have HZ:=hd1 hz;by_cases hlt:k<log.length
 ·have g1:z<(log.length:Int):=by omega
  have g2:z.toNat=k:=by omega
  have g3:0<=z:=by omega
  have hk6:l.length<=1000:=by
   have a0:=congrArg List.length R;simp only[jdh]at a0;have a1:=jdo (qcs y a B C) (log.take k);have a2:=List.length_take_le k log;omega
  obtain⟨V,X,hwa,hcc⟩:∃V X,la=some (AD V X)/\∀i m r u,log[i]?=some m->(txC m)[r]?=some u->w.cell? (AD V (X+(i*9+r)))=some u:=by
   rcases hT.held with e|e
   ·rw[e]at hlt;simp at hlt
   exact e
  obtain⟨⟨⟨d,f,wall,n,o,p,s,x,ws⟩,I,J⟩,Y⟩:∃m,log[k]?=some m:=⟨log[k],jcg hlt⟩;obtain⟨⟨hs0,hs1⟩,hn1,hn5⟩:=HS.out _ (jcq Y);simp only at hs0 hs1 hn1 hn5;have HL5:=hd2 hn1 hn5;have HWX:Hid (qr w I J ws):=(HH.out.hold _ (jcf.2 (.inl (jcq Y)))).1;have HX:=hd1 Y;have HKP:=hd1 R;have K:=λr u (hu:(txC ⟨⟨d,f,wall,n,o,p,s,x,ws⟩,I,J⟩)[r]?=some u)=>(show wr.cell? (AD V (X+k*9+r))=some u by rw[Nat.add_assoc];exact cell_later D (hcc k _ r u Y hu));have x0:=K 0 _ rfl;have x1:=K 1 _ rfl;have x2:=K 2 _ rfl;have x3:=K 3 _ rfl;have x4:=K 4 _ rfl;have x5:=K 5 _ rfl;have x6:=K 6 _ rfl;have x7:=K 7 _ rfl;have x8:=K 8 _ rfl;rw[Nat.add_zero]at x0;rw[hwa];replace E:=E.boxed (.cells (List.toArray (T9 d f wall n o p s x I ws.length J)) 102);replace G:=G.alloc (.cells (List.toArray (T9 d f wall n o p s x I ws.length J)) 102);replace D:=boxed D (.cells (List.toArray (T9 d f wall n o p s x I ws.length J)) 102);have O:=qd.new (w:=wr) (T:=102) (T9 d f wall n o p s x I ws.length J) rfl;have y0:=qb.cell (O.cell 0 _ rfl);have y1:=qb.cell (O.cell 1 _ rfl);have va:=qb.cell (qk9 E hs0 hs1);have KE:Hid (qcs y a B C ⟨⟨d,f,wall,n,o,p,s,x,ws⟩,I,J⟩=decide (qp d y a B C<f)):=rfl
  go_wp2_with fail
  refine wrl ?_
  repeat (go_big_quiet_step (first|rfl|fail))
  refine wpQuiet_nil ?_;rintro w5 ⟨⟨_,P⟩,rfl⟩;replace E:=E.later P;replace O:=O.later P;replace G:=qf G (λj c=>P.block j (G.lt j c).2);replace D:=qa D P;replace M:Hid (∀m∈l,qr w5 m.wa m.wc m.t.ws/\∀j,m.blk j->L.ownBlock≠some j/\w.heap.size<=j):=λm H=>⟨((M.out m H).1.later (boxed (jcc _ wr) _)).later P,(M.out m H).2⟩;cases hd:decide (qp d y a B C<f)
  ·have KF:Hid (((log.take (k+1)).filter (qcs y a B C)).map (·.t)=l.map (·.t)):=by
        have e:qcs y a B C ⟨⟨d,f,wall,n,o,p,s,x,ws⟩,I,J⟩=false:=by rw[KE.out];exact hd
        show ((log.take (k+1)).filter (qcs y a B C)).map (·.t)=l.map (·.t);rw[jdu,HX.out,jdk,jdb,HKP.out];simp[e]
   go_wp2_with fail
   go_roundw
   case rel=>exact⟨k+1,z+1,l,_,rfl,by omega,by have:=HZ.out;omega,by go_num,KF.out,G,M,E,D⟩
   simp[intOf];omega
  have KF:Hid (((log.take (k+1)).filter (qcs y a B C)).map (·.t)=l.map (·.t)++[⟨d,f,wall,n,o,p,s,x,ws⟩]):=by
   have e:qcs y a B C ⟨⟨d,f,wall,n,o,p,s,x,ws⟩,I,J⟩=true:=by rw[KE.out];exact hd
   show ((log.take (k+1)).filter (qcs y a B C)).map (·.t)=_;rw[jdu,HX.out,jdk,jdb,HKP.out];simp[e]
  obtain⟨y0,y1,y2,y3,y4,y5,y6,y7,y8⟩:=O.c9;obtain⟨i0,hi,hz0,hz1,hz2⟩:=info_parts qpi
  have hsz5:w.heap.size+1<=w5.heap.size:=by have:=E.lt;omega
  have HOLD:=hd1 (λj c=>(G.lt j c).2);have CP:=qgq ⟨⟨d,f,wall,n,o,p,s,x,ws⟩,I,J⟩ w5 (HWX.out.later D) HL5.out.1 (by have:=HL5.out;simp only;omega);simp only[txV]at CP
  go_wp2_with fail
  refine CP.mono ?_;rintro e Q ⟨m2,hm2,rfl,W62,hk2,Z⟩;obtain⟨t2,a2,N⟩:=m2;simp only at hm2 W62;subst hm2;simp only[txV];replace E:=E.later Z;replace G:=qf G (λj c=>Z.block j (G.lt j c).2)
  have HO5:=hd1 (λj c=>by
   have:=(G.lt j c).1
   exact HOLD.out j c)
  replace D:=qa D Z
  have HW6:Hid (∀m∈l++[⟨⟨d,f,wall,n,o,p,s,x,ws⟩,a2,N⟩],qr Q m.wa m.wc m.t.ws/\∀j,m.blk j->L.ownBlock≠some j/\w.heap.size<=j):=λm H=>by
   rcases jcf.1 H with a|a
   ·exact⟨(M.out m a).1.later Z,(M.out m a).2⟩
   rw[jcj.1 a];refine⟨W62,λj c=>⟨λe=>?_,?_⟩⟩
   ·have q1:=hk2 j c;have q2:=HO5.out j e;omega
   have q1:=hk2 j c;omega
  have hsz6:w.heap.size+1<=Q.heap.size:=by have:=E.lt;omega
  have HS6:=hd1 hsz6
  go_wp2_with (at_builtin;refine wpList_append_lies _ rfl (.tmp 24) (.tmp 27) 80 rfl (w.heap.size+1) 102 i0 (.agg ZA) 9 88 Tryz.underlying80 hi hz0 hz1 hz2 rfl (by decide) L l.length (zw l) rfl (G.alloc _) (AD Q.heap.size 0) 1 1 (txC ⟨⟨d,f,wall,n,o,p,s,x,ws⟩,a2,N⟩) rfl rfl (World.news_of_block (heap_alloc_new Q (.cells (List.toArray (T9 d f wall n o p s x a2 ws.length N)) 102))) (qih _) (by decide) (by simp only[maxLen];omega) (by omega) (by simp;omega) _ rfl ?_;intro g cap9 wE ownE grE egE ltE)
  have rowsg:=λj c=>(G.lt j c).1;have RAE:=(E.boxed (.cells (List.toArray (T9 d f wall n o p s x a2 ws.length N)) 102)).grown4 grE (λe=>by have:=rowsg _ e.symm;omega);have hbE:=(boxed D (.cells (List.toArray (T9 d f wall n o p s x a2 ws.length N)) 102)).grown grE (by have:=D.size;simp;omega) (λj c=>by have:=rowsg j c;omega)
  have HWE:Hid (∀m∈l++[⟨⟨d,f,wall,n,o,p,s,x,ws⟩,a2,N⟩],qr wE m.wa m.wc m.t.ws/\∀j,m.blk j->(Value.slice (PT g) (l.length+1) cap9).ownBlock≠some j/\w.heap.size<=j):=λm H=>by
   have q:=HW6.out m H;have q1:=q.1.later (boxed (jcc _ Q) (.cells (List.toArray (T9 d f wall n o p s x a2 ws.length N)) 102));refine⟨q1.kept (λj c=>grE.block j (q1.blk_lt j c) (λe=>(q.2 j c).1 e.symm)),λj c=>⟨λe=>?_,(q.2 j c).2⟩⟩
   have eg:g=j:=by simpa[Value.ownBlock]using e
   rcases egE with a|a
   ·exact(q.2 j c).1 (by rw[a,eg])
   have:=q.1.blk_lt j c;simp at a;omega
  go_roundw
  case rel=>exact⟨k+1,z+1,l++[⟨⟨d,f,wall,n,o,p,s,x,ws⟩,a2,N⟩],_,rfl,by omega,by have:=HZ.out;omega,by go_num,by rw[jdb];exact KF.out,by rw[qkf,jcl];exact ownE,HWE,RAE,hbE⟩
  simp[intOf];omega
 have g1:¬z<(log.length:Int):=by omega
 obtain rfl:k=log.length:=by omega
 rw[jc9]at R;have HKF:=hd1 R
 go_wp2_with fail
 go_ret;exact⟨L,rfl,l,HKF.out,⟨_,Nat.le_succ _,G⟩,λm H=>⟨(M.out m H).1,λj c=>((M.out m H).2 j c).2⟩,D⟩
end
section
abbrev qbs (f:Nat) (n:Int):List UInt8:=toL (qcq f n)
variable {f:Nat} {n:Int}
theorem qn1 (h:n<128):qbs f n=[UInt8.ofNat n.toNat]:=by
 show toL (qcq f n)=_;rw[qtw h];rfl
theorem q0c (h:¬n<128):qbs (f+1) n=UInt8.ofNat (n%128+128).toNat::qbs f (n/128):=by
 show toL (qcq (f+1) n)=_;rw[qr8 h,qif];rfl
def qb3:Nat->List UInt8->Option (Int×List UInt8)
 |_,[]=>none
 |0,c::r=>if c.toNat<128 then some (c.toNat,r)else none
 |f+1,c::r=>if c.toNat<128 then some (c.toNat,r)else
  match qb3 f r with
  |none=>none
  |some (n,r')=>if n=0 then none else some ((c.toNat:Int)-128+128*n,r')
theorem q5v (c:0<=n) (d:n<256):((UInt8.ofNat n.toNat).toNat:Int)=n:=by
 rw[UInt8.toNat_ofNat',Nat.mod_eq_of_lt (by omega),Int.toNat_of_nonneg c]
theorem qtf:∀(f:Nat) (n:Int) (r:List UInt8),0<=n->n<128^(f+1)->qb3 f (qbs f n++r)=some (n,r)
 |0,n,r,h0,h1=>by
  have c:n<128:=by simpa using h1
  have e:=q5v h0 (by omega);rw[qn1 c,List.singleton_append];unfold qb3;rw[if_pos (by omega),e]
 |f+1,n,r,h0,h1=>by
  by_cases h:n<128
  ·have e:=q5v h0 (by omega);rw[qn1 h,List.singleton_append];unfold qb3;rw[if_pos (by omega),e]
  have d:(128:Int)^(f+1+1)=128^(f+1)*128:=Int.pow_succ 128 (f+1);rw[d]at h1;have e:=q5v (n:=n%128+128) (by omega) (by omega);rw[q0c h,jdj];unfold qb3;rw[if_neg (by omega),qtf f (n/128) r (by omega) (by omega)];simp only;rw[if_neg (by omega),e]
  congr 2
  omega
theorem qlk:∀(f:Nat) (L:List UInt8) (n:Int) (r:List UInt8),qb3 f L=some (n,r)->(0<=n/\n<128^(f+1))/\L=qbs f n++r
 |0,[],n,r,h=>by simp[qb3]at h
 |f+1,[],n,r,h=>by simp[qb3]at h
 |0,c::l,n,r,h=>by
  unfold qb3 at h;split at h
  ·injection h with h;injection h with h1 h2;subst h1 h2;refine⟨⟨by omega,by simp;omega⟩,?_⟩;rw[qn1 (by omega)];simp
  cases h
 |f+1,c::l,n,r,h=>by
  have d:(128:Int)^(f+1+1)=128^(f+1)*128:=Int.pow_succ 128 (f+1);have k:(1:Int)<=128^(f+1):=Int.pow_pos (by decide);unfold qb3 at h;split at h
  ·injection h with h;injection h with h1 h2;subst h1 h2;refine⟨⟨by omega,by rw[d];omega⟩,?_⟩;rw[qn1 (by omega)];simp
  cases e:qb3 f l with
  |none=>rw[e]at h;cases h
  |some y=>
   obtain⟨m,g⟩:=y;rw[e]at h;simp only at h;split at h
   ·cases h
   injection h with h;injection h with h1 h2;subst h2;obtain⟨⟨o,p⟩,i⟩:=qlk f l m g e;have s:=c.toNat_lt
   have q:n/128=m:=by omega
   have j:n%128+128=c.toNat:=by omega
   refine⟨⟨by omega,by rw[d];omega⟩,?_⟩;rw[q0c (by omega),q,j,i];simp
theorem jar:(128:Int)^(5+1)=4398046511104:=by decide
variable {a b:List UInt8}
theorem za {m:Int} (h:qbs 5 n++a=qbs 5 m++b) (d:0<=n/\n<=1099511627776) (e:0<=m/\m<=1099511627776):n=m/\a=b:=by
 have c:=qtf 5 n a d.1 (by rw[jar];omega);have g:=qtf 5 m b e.1 (by rw[jar];omega);rw[h,g]at c;injection c with c;injection c with e3 e4;exact⟨e3.symm,e4.symm⟩
def wrL (x:Wr):List UInt8:=qbs 5 x.key++(qbs 5 (if x.gone then 1 else 0)++(qbs 5 (x.data.size:Int)++toL x.data))
def qhc (l:List Wr):List UInt8:=l.flatMap wrL
theorem q5h (g:Bool):toL (qv6 g)=qbs 5 (if g then 1 else 0):=by cases g<;>rfl
theorem q1g (s:ByteArray) (x:Wr):toL (stepS s x)=toL s++wrL x:=by
 simp only[stepS,wrL,qif,q5h,jcy]
theorem q8a (s:ByteArray) (l:List Wr):toL (wrS s l)=toL s++qhc l:=by
 induction l generalizing s with
 |nil=>simp[wrS,qhc]
 |cons x l ih=>
  have e:=ih (stepS s x);rw[q1g]at e;show toL (wrS (stepS s x) l)=_;rw[e];simp[qhc]
def qrk (site seq wall count d0 d1 d2 d3 n:Int) (r:List UInt8):List UInt8:=116::(qbs 5 site++(qbs 5 seq++(qbs 5 wall++(qbs 5 count++(qbs 5 d0++(qbs 5 d1++(qbs 5 d2++(qbs 5 d3++(qbs 5 n++r)))))))))
theorem qkb (c d wall e g h i j:Int) (l:List Wr):toL (txS c d wall e g h i j l)=qrk c d wall e g h i j l.length (qhc l):=by
 unfold txS;rw[q8a];have z:toL (⟨#[116]⟩:ByteArray)=[116]:=rfl;simp only[qnh,qrk,qif,jcy,z,jdj,jda]
def q1a (site a0 a1 a2 a3:Int) (r:List UInt8):List UInt8:=97::(qbs 5 site++(qbs 5 a0++(qbs 5 a1++(qbs 5 a2++(qbs 5 a3++r)))))
theorem qhy (c a0 a1 a2 a3:Int):toL (q1e c a0 a1 a2 a3)=q1a c a0 a1 a2 a3 []:=by
 have z:toL (⟨#[97]⟩:ByteArray)=[97]:=rfl;simp only[q1e,q1a,qif,jcy,z,jdj,jda,jdx]
structure TxV where
 site:Int
 seq:Int
 wall:Int
 count:Int
 d0:Int
 d1:Int
 d2:Int
 d3:Int
 l:List Wr
def TxV.ok (x:TxV):Bool:=jt x.site x.seq x.wall x.count x.d0 x.d1 x.d2 x.d3 x.l
def TxV.bytes (x:TxV):ByteArray:=txS x.site x.seq x.wall x.count x.d0 x.d1 x.d2 x.d3 x.l
def ql3 (L:List UInt8) (x:TxV):Prop:=x.ok=true/\toL x.bytes=L
theorem jav {x y:Wr} (h:wrL x++a=wrL y++b) (j:0<=x.key/\x.key<=7/\x.data.size<=12) (l:0<=y.key/\y.key<=7/\y.data.size<=12):x=y/\a=b:=by
 simp only[wrL,jcy]at h;obtain⟨e,h⟩:=za h ⟨j.1,by omega⟩ ⟨l.1,by omega⟩;obtain⟨c,h⟩:=za h (by cases x.gone<;>decide) (by cases y.gone<;>decide);obtain⟨p,h⟩:=za h ⟨by omega,by omega⟩ ⟨by omega,by omega⟩;obtain⟨i,m⟩:=List.append_inj h (by rw[yh,yh];omega);refine⟨?_,m⟩;obtain⟨k,d,g⟩:=x;obtain⟨q,d',g'⟩:=y;simp only at e c i
 have o:g=g':=by
  cases g<;>cases g'
  ·rfl
  ·simp at c
  ·simp at c
  rfl
 rw[e,qsh i,o]
theorem qz1:∀(l m:List Wr) (a b:List UInt8),l.length=m.length->qhc l++a=qhc m++b->(∀x∈l,0<=x.key/\x.key<=7/\x.data.size<=12)->(∀x∈m,0<=x.key/\x.key<=7/\x.data.size<=12)->l=m/\a=b
 |[],[],a,b,_,h,_,_=>⟨rfl,h⟩
 |[],_::_,_,_,hl,_,_,_=>by simp at hl
 |_::_,[],_,_,hl,_,_,_=>by simp at hl
 |x::l,y::m,a,b,hl,h,hx,hy=>by
  have d:qhc (x::l)++a=wrL x++(qhc l++a):=by simp[qhc]
  have e:qhc (y::m)++b=wrL y++(qhc m++b):=by simp[qhc]
  rw[d,e]at h;obtain⟨g,i⟩:=jav h (hx x (by simp)) (hy y (by simp));obtain⟨j,k⟩:=qz1 l m a b (by simpa using hl) i (λz c=>hx z (by simp[c])) (λz c=>hy z (by simp[c]));exact⟨by rw[g,j],k⟩
theorem qob {l:List Wr} (h:qad l=true):∀x∈l,0<=x.key/\x.key<=7/\x.data.size<=12:=λx g=>by
 obtain⟨i,hi,rfl⟩:=jdm.1 g
 have e:qa7 l i=l[i]:=by simp[qa7,List.getD,List.getElem?_eq_getElem hi]
 have c:=qoy (qkl h i hi);have d:=qmq (qkl h i hi);rw[e]at c d;exact⟨c.1,c.2,d⟩
variable {x:TxV}
theorem qlw (h:x.ok=true):(0<=x.site/\x.site<=3)/\(1<=x.seq/\x.seq<=1099511627776)/\(0<=x.wall/\x.wall<=1099511627776)/\(0<=x.count/\x.count<=1099511627776)/\(0<=x.d0/\x.d0<=1099511627776)/\(0<=x.d1/\x.d1<=1099511627776)/\(0<=x.d2/\x.d2<=1099511627776)/\(0<=x.d3/\x.d3<=1099511627776)/\qad x.l=true:=by
 simp only[TxV.ok,jt,jct,jk,jb,qdz]at h;obtain⟨⟨⟨⟨⟨c,d⟩,e,g⟩,⟨⟨i,j⟩,k⟩,m⟩,_⟩,o⟩:=h;exact⟨c,d,e,g,i,j,k,m,o⟩
variable {r:List UInt8}
theorem q1c {y:TxV} (s:x.ok=true) (t:y.ok=true) (h:toL x.bytes=toL y.bytes++r):x=y/\r=[]:=by
 obtain⟨a1,a2,a3,u,v,w,z,A,c⟩:=qlw s;obtain⟨B,C,D,E,F,G,H,I,d⟩:=qlw t;have l1:=qjz c;have J:=qjz d;rw[TxV.bytes,TxV.bytes,qkb,qkb]at h;simp only[qrk,jdj,jcy,List.cons.injEq,true_and]at h;obtain⟨e,h⟩:=za h ⟨a1.1,by omega⟩ ⟨B.1,by omega⟩;obtain⟨g,h⟩:=za h ⟨by omega,a2.2⟩ ⟨by omega,C.2⟩;obtain⟨i,h⟩:=za h a3 D;obtain⟨j,h⟩:=za h u E;obtain⟨k,h⟩:=za h v F;obtain⟨m,h⟩:=za h w G;obtain⟨o,h⟩:=za h z H;obtain⟨p,h⟩:=za h A I;obtain⟨K,h⟩:=za h ⟨by omega,by omega⟩ ⟨by omega,by omega⟩;obtain⟨q,h⟩:=qz1 x.l y.l [] r (by omega) (by simpa using h) (qob c) (qob d);refine⟨?_,h.symm⟩;obtain⟨_,_,_,_,_,_,_,_,_⟩:=x;obtain⟨_,_,_,_,_,_,_,_,_⟩:=y;simp only at e g i j k m o p q;subst e g i j k m o p q;rfl
variable {L:List UInt8}
theorem q6h {y:TxV} (c:ql3 L x) (d:ql3 L y):x=y:=(q1c c.1 d.1 (r:=[]) (by rw[c.2,d.2,jdx])).1
structure qho where
 site:Int
 a0:Int
 a1:Int
 a2:Int
 a3:Int
def qho.ok (x:qho):Bool:=inB x.site 0 3&&jb x.a0 x.a1 x.a2 x.a3
def qho.bytes (x:qho):ByteArray:=q1e x.site x.a0 x.a1 x.a2 x.a3
def qdj (L:List UInt8) (x:qho):Prop:=x.ok=true/\toL x.bytes=L
theorem qmo {x:qho} (h:x.ok=true):(0<=x.site/\x.site<=3)/\(0<=x.a0/\x.a0<=1099511627776)/\(0<=x.a1/\x.a1<=1099511627776)/\(0<=x.a2/\x.a2<=1099511627776)/\(0<=x.a3/\x.a3<=1099511627776):=by
 simp only[qho.ok,jct,jk,jb,qdz]at h;obtain⟨c,⟨⟨d,e⟩,g⟩,i⟩:=h;exact⟨c,d,e,g,i⟩
variable {y:qho}
theorem qyx {x:qho} (j:x.ok=true) (k:y.ok=true) (h:toL x.bytes=toL y.bytes++r):x=y/\r=[]:=by
 obtain⟨a1,a2,a3,l,m⟩:=qmo j;obtain⟨o,p,q,s,t⟩:=qmo k;rw[qho.bytes,qho.bytes,qhy,qhy]at h;simp only[q1a,jdj,jcy,List.cons.injEq,true_and,jda]at h;obtain⟨c,h⟩:=za h ⟨a1.1,by omega⟩ ⟨o.1,by omega⟩;obtain⟨d,h⟩:=za h a2 p;obtain⟨e,h⟩:=za h a3 q;obtain⟨g,h⟩:=za h l s;obtain⟨i,h⟩:=za h m t;refine⟨?_,h.symm⟩;obtain⟨_,_,_,_,_⟩:=x;obtain⟨_,_,_,_,_⟩:=y;simp only at c d e g i;subst c d e g i;rfl
theorem qwl {x:qho} (c:qdj L x) (d:qdj L y):x=y:=(qyx c.1 d.1 (r:=[]) (by rw[c.2,d.2,jdx])).1
theorem qzw (c:ql3 L x) (d:qdj L y):False:=by
 have h:=c.2.trans d.2.symm;rw[TxV.bytes,qho.bytes,qkb,qhy]at h;simp[qrk,q1a]at h
end
section
open Go.RowKit
def qa5 (w:World) (rb:Nat) (a:Option Addr) (R:List UInt8):Prop:=
 R=[]\/∃b o,a=some (AD b o)/\b<rb/\∀j u,R[j]?=some u->w.cell? (AD b (o+j))=some (.int .u8 u.toNat)
structure Rd (w:World) (rb:Nat) (R:List UInt8) (wrong:Bool):Prop where
 rest:∃a c,w.cell? (AD rb 0)=some (.slice a R.length c)/\R.length<=c/\qa5 w rb a R
 c1:w.cell? (AD rb 1)=some (.bool wrong)
 f0:w.frozen? (AD rb 0)=false
 f1:w.frozen? (AD rb 1)=false
def qzn (k:Nat) (n:Int):Option (Int×List UInt8)->Option (Int×List UInt8)
 |none=>none
 |some (m,r)=>if 0<k/\m=0 then none else some (n+128^k*m,r)
def qoh (k:Nat) (n:Int) (R:List UInt8):Option (Int×List UInt8):=if 6<=k then none else qzn k n (qb3 (5-k) R)
theorem q3t (R:List UInt8):qoh 0 0 R=qb3 5 R:=by
 show qzn 0 0 (qb3 5 R)=_;cases h:qb3 5 R with
 |none=>rfl
 |some x=>
  obtain⟨m,r⟩:=x;simp[qzn]
theorem q7b (n:Int) (R:List UInt8):qoh 6 n R=none:=rfl
theorem q7q (k:Nat) (n:Int):qoh k n []=none:=by
 unfold qoh;split
 ·rfl
 cases h:5-k<;>rfl
variable {k:Nat} {n:Int} {c:UInt8} {R:List UInt8}
theorem q2k (j:k<6) (b:¬c.toNat<128):qoh k n (c::R)=qoh (k+1) (n+((c.toNat:Int)-128)*128^k) R:=by
 unfold qoh;rw[if_neg (by omega)];by_cases d:k=5
 ·subst d;show qzn 5 n (if c.toNat<128 then some ((c.toNat:Int),R)else none)=none;rw[if_neg b];rfl
 rw[if_neg (by omega)];obtain⟨f,g⟩:∃f,5-k=f+1:=⟨4-k,by omega⟩
 have i:5-(k+1)=f:=by omega
 rw[g,i]
 show qzn k n (if c.toNat<128 then some ((c.toNat:Int),R)else match qb3 f R with
  |none=>none
  |some (n,r')=>if n=0 then none else some ((c.toNat:Int)-128+128*n,r'))=_
 rw[if_neg b];cases h:qb3 f R with
 |none=>rfl
 |some x=>
  obtain⟨m,r⟩:=x;have l:=(qlk f R m r h).1.1;by_cases a:m=0
  ·subst a;simp[qzn]
  have o:128<=c.toNat:=by omega
  have e:¬((c.toNat:Int)-128+128*m=0):=by omega
  simp only[qzn,if_neg a];rw[if_neg (λx=>e x.2),if_neg (λx=>a x.2)]
  congr 2
  have:(128:Int)^(k+1)=128^k*128:=Int.pow_succ 128 k;rw[this]
  generalize (128:Int)^k=P
  rw[Int.mul_add,Int.mul_comm ((c.toNat:Int)-128) P,Int.add_assoc,Int.mul_assoc]
theorem q1y (b:k<6) (a:c.toNat<128):qoh k n (c::R)=if 0<k/\(c.toNat:Int)=0 then none else some (n+128^k*c.toNat,R):=by
 unfold qoh;rw[if_neg (by omega)]
 have:qb3 (5-k) (c::R)=some ((c.toNat:Int),R):=by
  cases h:5-k<;>(unfold qb3;rw[if_pos a])
 rw[this];rfl
theorem qan (g o:Nat) (w:World) (v:Value):yu g w (w.setCell (AD g o) v):=⟨rfl,rfl,rfl,by simp[World.setCell],λk _ a=>jce w (AD g o) v k (λe=>a (by rw[e]))⟩
variable {w:World} {rb:Nat}
theorem Rd.put {d:List UInt8} {g:Bool} (h:Rd w rb R g) (a:Option Addr) (n c:Nat) (l:n=d.length) (m:d.length<=c) (f:qa5 w rb a d):Rd (w.setCell (AD rb 0) (.slice a n c)) rb d g:=by
 subst l;obtain⟨a0,s,p,_,_⟩:=h.rest;refine⟨⟨a,c,jc8 w _ _ p,m,?_⟩,?_,?_,?_⟩
 ·rcases f with f|⟨b,o,e,i,q⟩
  ·exact .inl f
  refine .inr ⟨b,o,e,i,λj u r=>?_⟩;rw[jco (h:=λe=>Nat.ne_of_lt i (by injection e with e1 _ _;exact e1.symm))];exact q j u r
 ·rw[jco (h:=λe=>by injection e with _ e2 _;cases e2)];exact h.c1
 ·rw[jcm];exact h.f0
 rw[jcm];exact h.f1
theorem Rd.bad {f:Bool} (h:Rd w rb R f):Rd (w.setCell (AD rb 1) (.bool true)) rb R true:=by
 obtain⟨a0,g,i,l,a⟩:=h.rest;refine⟨⟨a0,g,?_,l,?_⟩,jc8 w _ _ h.c1,?_,?_⟩
 ·rw[jco (h:=λe=>by injection e with _ e2 _;cases e2)];exact i
 ·rcases a with a|⟨b,o,e,d,m⟩
  ·exact .inl a
  refine .inr ⟨b,o,e,d,λj u p=>?_⟩;rw[jco (h:=λe=>Nat.ne_of_lt d (by injection e with e1 _ _;exact e1.symm))];exact m j u p
 ·rw[jcm];exact h.f0
 rw[jcm];exact h.f1
theorem qa5.drop {b o c:Nat} (d:b<rb) (e:∀j u,R[j]?=some u->w.cell? (AD b (o+j))=some (.int .u8 u.toNat)) (f:k<=R.length) (g:R.length<=c):
 qa5 w rb (if c=k then some (AD b o)else some (AD b (o+k))) (R.drop k):=by
 by_cases h:c=k
 ·exact .inl (jdw (by omega))
 rw[if_neg h];refine .inr ⟨b,o+k,rfl,d,λj u a=>?_⟩;rw[List.getElem?_drop]at a;rw[Nat.add_assoc];exact e _ _ a
theorem q7y (a:k<6):(128:Int)^k<=34359738368:=by
 have:k=0\/k=1\/k=2\/k=3\/k=4\/k=5:=by omega
 rcases this with rfl|rfl|rfl|rfl|rfl|rfl<;>decide
theorem q44 (k:Nat):(2:Int)^(7*(k:Int)).toNat=128^k:=by
 have e:(7*(k:Int)).toNat=7*k:=by omega
 rw[e,Int.pow_mul];rfl
theorem q3v {x P:Int} (b:0<=x) (d:x<=127) (a:0<=P):0<=x*P/\x*P<=127*P:=
 ⟨Int.mul_nonneg b a,Int.mul_le_mul_of_nonneg_right d a⟩
theorem q1w {m z:Int} (g:k<6) (h:z=k) (j:0<=n) (b:n<128^k):wrap64 (n+wrap64 (m%128*2^(7*z).toNat))=n+m%128*128^k/\0<=n+m%128*128^k/\n+m%128*128^k<128^(k+1):=by
 have i:(128:Int)^(k+1)=128^k*128:=Int.pow_succ 128 k;rw[h,q44,i];have d:=q7y g
 have a:(0:Int)<=128^k:=by omega
 revert d a b
 generalize (128:Int)^k=P
 intro b d a;obtain⟨e,f⟩:=q3v (x:=m%128) (by omega) (by omega) a
 revert e f
 generalize m%128*P=Q
 intro e f;unfold wrap64;omega
def qbm (most:Int) (R:List UInt8) (wrong:Bool) (v:Int) (R':List UInt8) (wrong':Bool):Prop:=
 R'.length<=R.length/\((qb3 5 R=some (v,R')/\v<=most/\wrong'=wrong)\/((∀n r,qb3 5 R=some (n,r)->¬n<=most)/\v=0/\wrong'=true))
def q8e (most:Int) (R:List UInt8) (wrong:Bool) (rb:Nat) (w:World) (v:Int) (w':World):Prop:=∃R' wrong',qbm most R wrong v R' wrong'/\Rd w' rb R' wrong'/\yu rb w w'
theorem ym (rb:Nat) (R:List UInt8) (p:Bool) (I:Int) (w:World) (hR:Rd w rb R p):
 Ca 248 #[PP rb,U I] w λe w'=>
  ∃v,e=.returned (U v)/\q8e I R p rb w v w':=by
 go_enter Tryz.func248,Tryz.ntmps248
 go_wp2_with fail
 go_loopw [5,8] (λnv iv wr=>∃(k:Nat) (z n:Int) (g:List UInt8),k<=6/\z=k/\iv=U z/\nv=U n/\0<=n/\n<128^k/\g.length<=R.length/\qb3 5 R=qoh k n g/\Rd wr rb g p/\yu rb w wr) (λ_ i _=>6-(intOf i).toNat)
 case atStart=>exact⟨0,0,0,R,by omega,rfl,rfl,rfl,by omega,by decide,by omega,(q3t R).symm,hR,yu.refl _ _⟩
 obtain⟨k,z,n,g,hk,S,rfl,rfl,n0,T,J,V,d,t⟩:=hrel;have y:=hd1 V;clear V;obtain⟨a,c,W,X,hB⟩:=d.rest;have q1:=d.c1;have g0:=d.f0;have g1:=d.f1;by_cases K:k<6
 ·have h1:z<6:=by omega
  have h3:0<=z:=by omega
  have B:=hd1 S;clear S;have N1:=hd1 T;clear T;cases g with
  |nil=>
   simp only[List.length_nil]at W;have L:=d.bad
   go_wp2_with fail
   go_ret;exact⟨0,rfl,[],true,⟨by simp,.inr ⟨λn r h=>(by rw[y.out,q7q]at h;cases h),rfl,rfl⟩⟩,L,t.trans (qan _ _ _ _) (.inl rfl)⟩
  |cons ch R''=>
   obtain⟨b,o,rfl,hne,M⟩:∃b o,a=some (AD b o)/\b<rb/\∀j u,(ch::R'')[j]?=some u->wr.cell? (AD b (o+j))=some (.int .u8 u.toNat):=by
        rcases hB with h|h
        ·cases h
        exact h
   have x0:wr.cell? (AD b o)=some (.int .u8 ch.toNat):=M 0 ch rfl;have N:=qa5.drop (k:=1) hne M (by simp) X;obtain⟨q,ha'⟩:∃q,(if c=1 then some ((AD b o):Addr)else some (AD b (o+1)))=q:=⟨_,rfl⟩;rw[ha']at N;have HC:Hid (qa5 wr rb q R''):=N;clear N;clear M;have hch:=ch.toNat_lt;obtain⟨m,O⟩:∃m:Int,m=ch.toNat:=⟨_,rfl⟩;rw[<-O]at x0;have C:=hd1 O
   have m0:0<=m:=by omega
   have m1:m<256:=by omega
   clear O;have hlen3:R''.length+1<=R.length:=J;obtain⟨D,F⟩:∃D:Nat,R''.length=D:=⟨_,rfl⟩;rw[List.length_cons,F]at W X;rw[F]at hlen3;have f:=hd1 F;clear F J;obtain⟨bm,Y,P⟩:=q1w (m:=m) K B.out n0 N1.out;obtain⟨v,G⟩:∃v,v=n+m%128*128^k:=⟨_,rfl⟩;rw[<-G]at bm Y P;have Z:=hd1 G;have B1:=hd1 P;clear G P;have aa:=d.put q D (c-1) f.out.symm (by rw[f.out];omega) HC.out;have s:Hid (yu rb w (wr.setCell (AD rb 0) (.slice q D (c-1)))):=t.trans (qan _ _ _ _) (.inl rfl);have H:=hd1 aa;clear aa d t;by_cases hm2:128<=m
   ·have E:Hid (qb3 5 R=qoh (k+1) v R''):=by
     have e:m%128=(ch.toNat:Int)-128:=by have:=C.out;omega
     show qb3 5 R=_;rw[y.out,q2k K (by have:=C.out;omega),Z.out,e]
    go_wp2_with fail
    go_roundw
    case rel=>exact⟨k+1,z+1,v,R'',by omega,by have:=B.out;omega,rfl,by first|rfl|rw[bm],Y,B1.out,by rw[f.out];omega,E.out,H.out,s.out⟩
    simp[intOf];omega
   have E:Hid (qb3 5 R=if 0<k/\m=0 then none else some (v,R'')):=by
        have e:m%128=m:=by omega
        show qb3 5 R=_;rw[y.out,q1y K (by have:=C.out;omega),Z.out,e,C.out,Int.mul_comm (128^k)]
   have ab:=H.out.bad;have ac:=hd1 ab;clear ab;by_cases G:I<v
   ·go_wp2_with fail
    go_ret;refine⟨0,rfl,R'',true,⟨by rw[f.out];omega,.inr ⟨λn r h=>?_,rfl,rfl⟩⟩,ac.out,s.out.trans (qan _ _ _ _) (.inl rfl)⟩;rw[E.out]at h;split at h
    ·cases h
    injection h with h;injection h with h1 _;omega
   by_cases l:m=0
   ·have e0:(m==0)=true:=by simp[l]
    have Q:=hd1 l;clear l;by_cases hk0:0<z
    ·go_wp2_with fail
     go_ret;refine⟨0,rfl,R'',true,⟨by rw[f.out];omega,.inr ⟨λn r h=>?_,rfl,rfl⟩⟩,ac.out,s.out.trans (qan _ _ _ _) (.inl rfl)⟩;rw[E.out,if_pos ⟨by have:=B.out;omega,Q.out⟩]at h;cases h
    go_wp2_with fail
    go_ret;refine⟨v,rfl,R'',p,⟨by rw[f.out];omega,.inl ⟨?_,by omega,rfl⟩⟩,H.out,s.out⟩;rw[E.out,if_neg (λx=>by have:=B.out;have:=x.1;omega)]
   have e0:(m==0)=false:=by simp[l]
   have Q:=hd1 l;clear l
   go_wp2_with fail
   go_ret;refine⟨v,rfl,R'',p,⟨by rw[f.out];omega,.inl ⟨?_,by omega,rfl⟩⟩,H.out,s.out⟩;rw[E.out,if_neg (λx=>Q.out x.2)]
 have e:k=6:=by omega
 have L:=d.bad
 go_wp2_with fail
 go_ret;exact⟨0,rfl,g,true,⟨J,.inr ⟨λn r h=>(by rw[y.out,e,q7b]at h;cases h),rfl,rfl⟩⟩,L,t.trans (qan _ _ _ _) (.inl rfl)⟩
end
section
open Tryz Go.RowKit
def qkz (R:List UInt8) (wrong:Bool) (n:Int) (s:ByteArray) (R':List UInt8) (wrong':Bool):Prop:=
 (n<=R.length/\toL s=R.take n.toNat/\R'=R.drop n.toNat/\wrong'=wrong)\/((R.length:Int)<n/\s=⟨#[]⟩/\R'=R/\wrong'=true)
def q7a (R:List UInt8) (wrong:Bool) (n:Int) (rb:Nat) (w:World) (s:ByteArray) (w':World):Prop:=∃R' wrong',qkz R wrong n s R' wrong'/\Rd w' rb R' wrong'/\yu rb w w'
theorem jb0 (a:Option Addr) (c:Nat) (w:World):(convert 30 9 (.slice a 0 c)).run prog w=.ok (.string ⟨#[]⟩) w:=by
 rw[run_convert_bytes_string w 30 9 5 a 0 c underlying30 underlying5 underlying9];cases a with
 |none=>simp[Conv.bytesToString];rfl
 |some a=>simp[Conv.bytesToString,loadCells,loadCellsFrom];rfl
variable {R:List UInt8}
theorem jbb {w:World} {b o:Nat} (n c:Nat) (i:n<=R.length) (d:∀j u,R[j]?=some u->w.cell? (AD b (o+j))=some (.int .u8 u.toNat)):
 (convert 30 9 (.slice (some (AD b o)) n c)).run prog w=.ok (.string ⟨(R.take n).toArray⟩) w:=by
 have f:((R.take n).map λb=>(b.toNat:Int)).length=n:=by simp;omega
 have:=run_convert_bytes_arg (P:=prog) w 30 5 underlying30 underlying5 b o n c ((R.take n).map λb=>(b.toNat:Int)) f (λj g=>by
  have a:j<R.length:=by omega
  rw[d j R[j] (jcg a)]
  simp[List.getD,List.getElem?_eq_getElem a,List.getElem?_take_of_lt g]) 9 underlying9
 have e:((λn:Int=>UInt8.ofNat n.toNat)∘λb:UInt8=>(b.toNat:Int))=id:=by
  funext b
  simp
 have h:strOfNums ((R.take n).map λb=>(b.toNat:Int))=⟨(R.take n).toArray⟩:=by
  unfold strOfNums;rw[List.map_map,e,List.map_id]
 rw[this,h]
theorem qrw (j:Nat) (R:List UInt8) (i:Bool) (n:Int) (w:World) (f:Rd w j R i) (I:0<=n) (z:R.length<=1000000):
 Ca 275 #[PP j,U n] w λe w'=>
  ∃s,e=.returned (.string s)/\q7a R i n j w s w':=by
 obtain⟨a,c,B,x,C⟩:=f.rest;have J:=f.c1;have K:=f.f0;have L:=f.f1;obtain⟨g,l⟩:∃g,R.length=g:=⟨_,rfl⟩;rw[l]at B x z;have d:=hd1 l;clear l;by_cases h:(g:Int)<n
 ·have D:=f.bad;go_enter func275,ntmps275
  go_wp2_with fail
  go_ret;exact⟨_,rfl,R,true,.inr ⟨by rw[d.out];exact h,rfl,rfl,rfl⟩,D,qan _ _ _ _⟩
 rcases C with p|⟨b,o,rfl,E,q⟩
 ·obtain rfl:g=0:=by rw[<-d.out,p];rfl
  obtain rfl:n=0:=by omega
  have F:=hd1 p;clear p;have y:=jb0;have r:=hd1 (f.put a 0 c rfl (by simp) (.inl rfl));go_enter func275,ntmps275
  go_wp2_with fail
  go_ret;exact⟨_,rfl,[],i,.inl ⟨by rw[d.out];decide,rfl,by rw[F.out];rfl,rfl⟩,r.out,qan _ _ _ _⟩
 obtain⟨m,rfl⟩:∃m:Nat,n=m:=⟨n.toNat,by omega⟩;have y:=jbb (R:=R) m c (by rw[d.out];omega) q;have t:=qa5.drop (k:=m) E q (by rw[d.out];omega) (by rw[d.out];exact x);obtain⟨u,G⟩:∃u,(if c=m then some ((AD b o):Addr)else some (AD b (o+m)))=u:=⟨_,rfl⟩;rw[G]at t;obtain⟨s,v⟩:∃s:ByteArray,s=⟨(R.take m).toArray⟩:=⟨_,rfl⟩;rw[<-v]at y;have H:=hd1 v;clear v q;have r:=hd1 (f.put u (g-m) (c-m) (by rw[jdt,d.out]) (by rw[jdt,d.out];omega) t);clear t;go_enter func275,ntmps275
 go_wp2_with fail
 go_ret;exact⟨_,rfl,R.drop m,i,.inl ⟨by rw[d.out];omega,by rw[H.out];rfl,rfl,rfl⟩,r.out,qan _ _ _ _⟩
def q5r (R:List UInt8) (wrong:Bool) (c:UInt8) (rb:Nat) (w w':World):Prop:=∃R' wrong',((wrong'=false↔wrong=false/\R=c::R')/\R'.length<=R.length/\(∀r,R=c::r->R'=r))/\Rd w' rb R' wrong'/\yu rb w w'
variable {R':List UInt8} {c:UInt8} {s:ByteArray}
theorem qwk {d f:Bool} (h:qkz R d 1 s R' f) (b:toL s=[c]):R=c::R'/\f=d:=by
 rcases h with ⟨g,a,i,j⟩|⟨_,a,_,_⟩
 ·refine⟨?_,j⟩;cases R with
  |nil=>simp at g
  |cons x R=>
   rw[b]at a
   have e:x=c:=by simpa using a.symm
   rw[i,e];rfl
 rw[a]at b;cases b
theorem qsl {a b:Bool} (h:qkz R a 1 s R' b) (d:¬toL s=[c]) (r:List UInt8):¬R=c::r:=by
 intro e;subst e;rcases h with ⟨_,f,_,_⟩|⟨g,_,_,_⟩
 ·exact d (by rw[f];rfl)
 simp at g;omega
theorem take_length {b d:Bool} {n:Int} (h:qkz R b n s R' d):R'.length<=R.length:=by
 rcases h with ⟨_,_,a,_⟩|⟨_,_,a,_⟩
 ·rw[a,jdt];omega
 rw[a];exact jcd _
theorem qul (d:Nat) (R:List UInt8) (i:Bool) (c:UInt8) (w:World) (p:Rd w d R i) (q:R.length<=1000000):
 Ca 247 #[PP d,.string ⟨#[c]⟩] w λe w'=>e=.returned (.tuple #[])/\q5r R i c d w w':=by
 go_enter func247,ntmps247
 go_wp2_with fail
 refine(qrw d R i 1 w p (by omega) q).mono ?_;rintro e x ⟨s,rfl,R',t,k,f,l⟩;have y:=f.f1;have z:=f.c1;have g:=hd1 k;clear k;by_cases a:toL s=[c]
 ·have u:(s.toList==[c])=true:=by rw[qca,a];simp
  obtain⟨m,n⟩:=qwk g.out a;have b:=hd1 m;have o:=hd1 n;clear m n a
  go_wp2_with fail
  go_end0;exact⟨rfl,R',t,⟨⟨λh=>⟨by rw[<-o.out];exact h,b.out⟩,λh=>by rw[o.out];exact h.1⟩,take_length g.out,λr j=>by have:=b.out.symm.trans j;injection this⟩,f,l⟩
 have u:(s.toList==[c])=false:=by rw[qca];exact beq_eq_false_iff_ne.2 a
 have b:=hd1 (qsl g.out a);have v:=f.bad;clear a
 go_wp2_with fail
 go_end0;exact⟨rfl,R',true,⟨⟨λh=>(by cases h),λh=>absurd h.2 (b.out _)⟩,take_length g.out,λr j=>absurd j (b.out r)⟩,v,l.trans (qan _ _ _ _) (.inl rfl)⟩
def ql0 (R:List UInt8) (wrong:Bool):Bool:=!wrong&&R.isEmpty
theorem qpy (f:Nat) (R:List UInt8) (b:Bool) (w:World) (g:Rd w f R b):
 Ca 251 #[PP f] w (Rn (.bool (ql0 R b)) w):=by
 obtain⟨a,c,d,i,j⟩:=g.rest;have k:=g.c1;cases b
 ·cases R with
  |nil=>
   simp only[List.length_nil]at d;go_enter func251,ntmps251
   go_wp2_with fail
   go_ret;exact⟨rfl,jcc _ _⟩
  |cons x R=>
   simp only[List.length_cons]at d;obtain⟨e,h⟩:∃e,R.length=e:=⟨_,rfl⟩;rw[h]at d;have l:((e:Int)+1==0)=false:=beq_eq_false_iff_ne.2 (by omega);go_enter func251,ntmps251
   go_wp2_with fail
   go_ret;exact⟨rfl,jcc _ _⟩
 go_enter func251,ntmps251
 go_wp2_with fail
 go_ret;exact⟨rfl,jcc _ _⟩
end
section
open Go.RowKit
variable {w w':World} {rb:Nat}
theorem qo.only {b:Nat} {a0 a1 a2 a3:Int} (h:qo w b a0 a1 a2 a3) (a:yu rb w w') (c:b≠rb):qo w' b a0 a1 a2 a3:=by
 have e:=a.block b h.lt (λx=>by injection x with x;exact c x)
 constructor
 ·rw[jch (w:=w) e];exact h.c0
 ·rw[jch (w:=w) e];exact h.c1
 ·rw[jch (w:=w) e];exact h.c2
 ·rw[jch (w:=w) e];exact h.c3
 ·rw[jcp (w:=w) e];exact h.f0
 ·rw[jcp (w:=w) e];exact h.f1
 ·rw[jcp (w:=w) e];exact h.f2
 rw[jcp (w:=w) e];exact h.f3
variable {R:List UInt8}
theorem Rd.lt {a:Bool} (h:Rd w rb R a):rb<w.heap.size:=jcr _ _ h.c1
theorem Rd.kept {f:Bool} (h:Rd w rb R f) (i:∀k,k<w.heap.size->w'.heap[k]?=w.heap[k]?):Rd w' rb R f:=by
 obtain⟨a,c,m,n,d⟩:=h.rest;have e:=i rb h.lt;refine⟨⟨a,c,by rw[jch (w:=w) e];exact m,n,?_⟩,by rw[jch (w:=w) e];exact h.c1,by rw[jcp (w:=w) e];exact h.f0,by rw[jcp (w:=w) e];exact h.f1⟩;rcases d with d|⟨b,o,p,q,r⟩
 ·exact .inl d
 refine .inr ⟨b,o,p,q,λj u s=>?_⟩;have l:=r j u s;rw[jch (w:=w) (i b (jcr _ _ l))];exact l
theorem Rd.alloc {a:Bool} (h:Rd w rb R a) (o:Obj):Rd (w.alloc o) rb R a:=h.kept λk b=>jdg w o k b
theorem Rd.far {f:Bool} (h:Rd w rb R f) (p:Addr) (v:Value) (r:rb<p.block):Rd (w.setCell p v) rb R f:=by
 obtain⟨a,c,i,k,d⟩:=h.rest;have e:=jce w p v rb (by omega);refine⟨⟨a,c,by rw[jch (w:=w) e];exact i,k,?_⟩,by rw[jch (w:=w) e];exact h.c1,by rw[jcp (w:=w) e];exact h.f0,by rw[jcp (w:=w) e];exact h.f1⟩;rcases d with d|⟨b,o,l,m,n⟩
 ·exact .inl d
 refine .inr ⟨b,o,l,m,λj u q=>?_⟩;rw[jch (w:=w) (jce w p v b (by omega))];exact n j u q
variable {g:Nat} {w1:World}
theorem qbf {p:Addr} {v:Value} (h:yu g w w1) (c:w.heap.size<=p.block):yu g w (w1.setCell p v):=
 ⟨h.os,h.tape,h.output,by simpa[World.setCell]using h.size,λk a b=>(jce w1 p v k (by omega)).trans (h.block k a b)⟩
theorem qly {o:Obj} (h:yu g w w1):yu g w (w1.alloc o):=h.trans (g':=g) (yu.ofBelow (boxed (jcc _ _) o)) (.inl rfl)
def q98 (R:List UInt8) (wrong:Bool) (rb:Nat) (w:World) (v0 v1 v2 v3:Int) (w':World):Prop:=
 ∃R0 x0 R1 x1 R2 x2 R3 x3,qbm 1099511627776 R wrong v0 R0 x0/\qbm 1099511627776 R0 x0 v1 R1 x1/\qbm 1099511627776 R1 x1 v2 R2 x2/\qbm 1099511627776 R2 x2 v3 R3 x3/\Rd w' rb R3 x3/\yu rb w w'
theorem qzy (rb:Nat) (R:List UInt8) (u:Bool) (w:World) (G:Rd w rb R u):
 Ca 249 #[PP rb] w λe w'=>
  ∃c d f h,e=.returned (.agg #[U c,U d,U f,U h])/\q98 R u rb w c d f h w':=by
 have aa:=G.lt
 have j:w.heap.size+1≠rb:=by omega
 have k:w.heap.size≠rb:=by omega
 have a:=(qo.new w 77 0 0 0 0).boxed (.cells #[U 0,U 0,U 0,U 0] 77);have RW:qo ((w.alloc (.cells #[U 0,U 0,U 0,U 0] 77)).alloc (.cells #[U 0,U 0,U 0,U 0] 77)) (w.heap.size+1) 0 0 0 0:=qo.newest (by simp);have b:yu rb w ((w.alloc (.cells #[U 0,U 0,U 0,U 0] 77)).alloc (.cells #[U 0,U 0,U 0,U 0] 77)):=qly (qly (yu.refl _ _));go_enter Tryz.func249,Tryz.ntmps249
 go_wp2_with fail
 refine wp_loop_rounds 5 ?_;rw[rounds_succ]
 go_wp2_with fail
 refine(ym rb R u 1099511627776 _ ((G.alloc _).alloc _)).mono ?_;rintro e w1 ⟨c,rfl,H,x0,K,x,y⟩;have L:=hd1 K;replace RW:=RW.only y j;replace a:=a.only y k;replace b:=b.trans y (.inl rfl);replace x:=x.far (AD (w.heap.size+1) 0) (U c) (by show rb<w.heap.size+1;omega);replace b:=qbf (p:=AD (w.heap.size+1) 0) (v:=U c) b (by show w.heap.size<=w.heap.size+1;omega);have i:=RW.set0 c;replace a:=a.far (AD (w.heap.size+1) 0) (U c) (by show w.heap.size+1≠w.heap.size;omega);have l:=RW.c0;have m:=RW.c1;have n:=RW.c2;have o:=RW.c3;have q:=RW.f0;have f1:=RW.f1;have r:=RW.f2;have s:=RW.f3
 go_wp2_with fail
 have RW:=i;rw[rounds_succ]
 go_wp2_with fail
 refine(ym rb H x0 1099511627776 _ x).mono ?_;rintro e w2 ⟨d,rfl,I,x1,M,z,B⟩;have N:=hd1 M;replace RW:=RW.only B j;replace a:=a.only B k;replace b:=b.trans B (.inl rfl);replace z:=z.far (AD (w.heap.size+1) 1) (U d) (by show rb<w.heap.size+1;omega);replace b:=qbf (p:=AD (w.heap.size+1) 1) (v:=U d) b (by show w.heap.size<=w.heap.size+1;omega);have i:=RW.set1 d;replace a:=a.far (AD (w.heap.size+1) 1) (U d) (by show w.heap.size+1≠w.heap.size;omega);have l:=RW.c0;have m:=RW.c1;have n:=RW.c2;have o:=RW.c3;have q:=RW.f0;have f1:=RW.f1;have r:=RW.f2;have s:=RW.f3
 go_wp2_with fail
 have RW:=i;rw[rounds_succ]
 go_wp2_with fail
 refine(ym rb I x1 1099511627776 _ z).mono ?_;rintro e w3 ⟨f,rfl,J,x2,O,C,D⟩;have P:=hd1 O;replace RW:=RW.only D j;replace a:=a.only D k;replace b:=b.trans D (.inl rfl);replace C:=C.far (AD (w.heap.size+1) 2) (U f) (by show rb<w.heap.size+1;omega);replace b:=qbf (p:=AD (w.heap.size+1) 2) (v:=U f) b (by show w.heap.size<=w.heap.size+1;omega);have i:=RW.set2 f;replace a:=a.far (AD (w.heap.size+1) 2) (U f) (by show w.heap.size+1≠w.heap.size;omega);have l:=RW.c0;have m:=RW.c1;have n:=RW.c2;have o:=RW.c3;have q:=RW.f0;have f1:=RW.f1;have r:=RW.f2;have s:=RW.f3
 go_wp2_with fail
 have RW:=i;rw[rounds_succ]
 go_wp2_with fail
 refine(ym rb J x2 1099511627776 _ C).mono ?_;rintro e w4 ⟨h,rfl,Q,x3,S,E,F⟩;have T:=hd1 S;replace RW:=RW.only F j;replace a:=a.only F k;replace b:=b.trans F (.inl rfl);replace E:=E.far (AD (w.heap.size+1) 3) (U h) (by show rb<w.heap.size+1;omega);replace b:=qbf (p:=AD (w.heap.size+1) 3) (v:=U h) b (by show w.heap.size<=w.heap.size+1;omega);have i:=RW.set3 h;replace a:=a.far (AD (w.heap.size+1) 3) (U h) (by show w.heap.size+1≠w.heap.size;omega);have l:=RW.c0;have m:=RW.c1;have n:=RW.c2;have o:=RW.c3;have q:=RW.f0;have f1:=RW.f1;have r:=RW.f2;have s:=RW.f3
 go_wp2_with fail
 have RW:=i;rw[rounds_succ];have V:=(((E.far (AD w.heap.size 0) (U c) (by show rb<w.heap.size;omega)).far (AD w.heap.size 1) (U d) (by show rb<w.heap.size;omega)).far (AD w.heap.size 2) (U f) (by show rb<w.heap.size;omega)).far (AD w.heap.size 3) (U h) (by show rb<w.heap.size;omega);replace b:=qbf (p:=AD w.heap.size 3) (v:=U h) (qbf (p:=AD w.heap.size 2) (v:=U f) (qbf (p:=AD w.heap.size 1) (v:=U d) (qbf (p:=AD w.heap.size 0) (v:=U c) b (jcd _)) (jcd _)) (jcd _)) (jcd _);have t:=a.set (x0:=c) (x1:=d) (x2:=f) (x3:=h);have l:=RW.c0;have m:=RW.c1;have n:=RW.c2;have o:=RW.c3;have k0:=a.c0;have k1:=a.c1;have k2:=a.c2;have k3:=a.c3;have q:=a.f0;have f1:=a.f1;have r:=a.f2;have s:=a.f3
 go_wp2_with fail
 have W:=t.c0;have X:=t.c1;have Y:=t.c2;have Z:=t.c3;exact bodyPost_ret (v:=.agg #[U c,U d,U f,U h]) (by simp[results,Tryz.results249,go_sem,W,X,Y,Z]) rfl ⟨c,d,f,h,rfl,H,x0,I,x1,J,x2,Q,x3,L.out,N.out,P.out,T.out,V,b⟩
end
section
open Go.RowKit
theorem qbm.nonneg {c:Int} {R a:List UInt8} {d e:Bool} {v:Int} (h:qbm c R d v a e):0<=v:=by
 rcases h.2 with ⟨h,_,_⟩|⟨_,h,_⟩
 ·exact(qlk 5 R v a h).1.1
 omega
structure qer (w:World) (b:Nat) (key:Int) (data:ByteArray) (gone:Bool):Prop where
 c0:w.cell? (AD b 0)=some (U key)
 c1:w.cell? (AD b 1)=some (.string data)
 c2:w.cell? (AD b 2)=some (.bool gone)
 f0:w.frozen? (AD b 0)=false
 f1:w.frozen? (AD b 1)=false
 f2:w.frozen? (AD b 2)=false
variable {w:World} {b:Nat}
theorem qer.lt {key:Int} {data:ByteArray} {gone:Bool} (h:qer w b key data gone):b<w.heap.size:=jcr _ _ h.c0
variable {w':World}
theorem qer.kept {key:Int} {data:ByteArray} {gone:Bool} (h:qer w b key data gone) (e:w'.heap[b]?=w.heap[b]?):qer w' b key data gone:=by
 constructor
 ·rw[jch (w:=w) e];exact h.c0
 ·rw[jch (w:=w) e];exact h.c1
 ·rw[jch (w:=w) e];exact h.c2
 ·rw[jcp (w:=w) e];exact h.f0
 ·rw[jcp (w:=w) e];exact h.f1
 rw[jcp (w:=w) e];exact h.f2
theorem qer.only {a:Nat} {key:Int} {data:ByteArray} {gone:Bool} (h:qer w b key data gone) (c:yu a w w') (d:b≠a):qer w' b key data gone:=
 h.kept (c.block b h.lt (λx=>by injection x with x;exact d x))
theorem qer.far {key:Int} {data:ByteArray} {gone:Bool} (h:qer w b key data gone) (p:Addr) (u:Value) (a:p.block≠b):qer (w.setCell p u) b key data gone:=
 h.kept (jce _ _ _ _ (Ne.symm a))
theorem qer.boxed {key:Int} {data:ByteArray} {gone:Bool} (h:qer w b key data gone) (o:Obj):qer (w.alloc o) b key data gone:=
 h.kept (jdg _ _ _ h.lt)
theorem qer.new {T:TypeId} {n:Nat} {key:Int} {data:ByteArray} {gone:Bool} (a:w.heap.size=n):qer (w.alloc (.cells #[U key,.string data,.bool gone] T)) n key data gone:=by
 subst a
 constructor<;>go_simp
theorem qer.set0 {key:Int} {data:ByteArray} {gone:Bool} (h:qer w b key data gone) (x:Int):qer (w.setCell (AD b 0) (U x)) b x data gone:=
 ⟨jc8 _ _ _ h.c0,(jco _ _ _ _ (by simp)).trans h.c1,(jco _ _ _ _ (by simp)).trans h.c2,(jcm _ _ _ _).trans h.f0,(jcm _ _ _ _).trans h.f1,(jcm _ _ _ _).trans h.f2⟩
theorem qer.set1 {key:Int} {data:ByteArray} {gone:Bool} (h:qer w b key data gone) (x:ByteArray):qer (w.setCell (AD b 1) (.string x)) b key x gone:=
 ⟨(jco _ _ _ _ (by simp)).trans h.c0,jc8 _ _ _ h.c1,(jco _ _ _ _ (by simp)).trans h.c2,(jcm _ _ _ _).trans h.f0,(jcm _ _ _ _).trans h.f1,(jcm _ _ _ _).trans h.f2⟩
theorem qer.set2 {key:Int} {data:ByteArray} {gone:Bool} (h:qer w b key data gone) (x:Bool):qer (w.setCell (AD b 2) (.bool x)) b key data x:=
 ⟨(jco _ _ _ _ (by simp)).trans h.c0,(jco _ _ _ _ (by simp)).trans h.c1,jc8 _ _ _ h.c2,(jcm _ _ _ _).trans h.f0,(jcm _ _ _ _).trans h.f1,(jcm _ _ _ _).trans h.f2⟩
def ql5 (R:List UInt8) (wrong:Bool) (key:Int) (data:ByteArray) (gone:Bool) (R':List UInt8) (wrong':Bool):Prop:=
 ∃R0 x0 R1 x1 R2 x2 g n,qbm 7 R wrong key R0 x0/\qbm 1 R0 x0 g R1 x1/\gone=(g==1)/\qbm 12 R1 x1 n R2 x2/\qkz R2 x2 n data R' wrong'
def q2e (R:List UInt8) (wrong:Bool) (rb:Nat) (w:World) (key:Int) (data:ByteArray) (gone:Bool) (w':World):Prop:=
 ∃R' wrong',ql5 R wrong key data gone R' wrong'/\Rd w' rb R' wrong'/\yu rb w w'
theorem q3e (d:Nat) (R:List UInt8) (j:Bool) (w:World) (x:Rd w d R j) (S:R.length<=1000000):
 Ca 250 #[PP d] w λe w'=>
  ∃key data gone,e=.returned (.agg #[U key,.string data,.bool gone])/\q2e R j d w key data gone w':=by
 have V:=x.lt
 have h:w.heap.size+1≠d:=by omega
 have i:w.heap.size≠d:=by omega
 have a:=(qer.new (T:=100) (key:=0) (data:=⟨#[]⟩) (gone:=false) (Eq.refl w.heap.size)).boxed (.cells #[U 0,.string ⟨#[]⟩,.bool false] 100);have RW:qer ((w.alloc (.cells #[U 0,.string ⟨#[]⟩,.bool false] 100)).alloc (.cells #[U 0,.string ⟨#[]⟩,.bool false] 100)) (w.heap.size+1) 0 ⟨#[]⟩ false:=qer.new (by simp);have c:yu d w ((w.alloc (.cells #[U 0,.string ⟨#[]⟩,.bool false] 100)).alloc (.cells #[U 0,.string ⟨#[]⟩,.bool false] 100)):=qly (qly (yu.refl _ _));go_enter Tryz.func250,Tryz.ntmps250
 go_wp2_with fail
 refine(ym d R j 7 _ ((x.alloc _).alloc _)).mono ?_;rintro e W ⟨key,rfl,y,x0,E,k,l⟩;have z:=hd1 E;replace RW:=RW.only l h;replace a:=a.only l i;replace c:=c.trans l (.inl rfl);replace k:=k.far (AD (w.heap.size+1) 0) (U key) (by show d<w.heap.size+1;omega);replace c:=qbf (p:=AD (w.heap.size+1) 0) (v:=U key) c (by show w.heap.size<=w.heap.size+1;omega);have f:=RW.set0 key;replace a:=a.far (AD (w.heap.size+1) 0) (U key) (by show w.heap.size+1≠w.heap.size;omega);have X:=RW.c0;have Y:=RW.f0
 go_wp2_with fail
 have RW:=f;refine(ym d y x0 1 _ k).mono ?_;rintro e w2 ⟨g,rfl,B,x1,F,m,o⟩;have C:=hd1 F;replace RW:=RW.only o h;replace a:=a.only o i;replace c:=c.trans o (.inl rfl);obtain⟨gone,G⟩:∃gone:Bool,(g==1)=gone:=⟨_,rfl⟩;replace m:=m.far (AD (w.heap.size+1) 2) (.bool gone) (by show d<w.heap.size+1;omega);replace c:=qbf (p:=AD (w.heap.size+1) 2) (v:=.bool gone) c (by show w.heap.size<=w.heap.size+1;omega);have f:=RW.set2 gone;replace a:=a.far (AD (w.heap.size+1) 2) (.bool gone) (by show w.heap.size+1≠w.heap.size;omega);have Z:=RW.c2;have f2:=RW.f2
 go_wp2_with fail
 have RW:=f;have H:=hd1 G;refine(ym d B x1 12 _ m).mono ?_;rintro e w3 ⟨n,rfl,D,x2,I,J,q⟩;have r:=hd1 I;replace RW:=RW.only q h;replace a:=a.only q i;replace c:=c.trans q (.inl rfl)
 go_wp2_with fail
 refine(qrw d D x2 n _ J r.out.nonneg (by have:=z.out.1;have:=C.out.1;have:=r.out.1;omega)).mono ?_;rintro e w4 ⟨data,rfl,K,x3,L,s,t⟩;have M:=hd1 L;replace RW:=RW.only t h;replace a:=a.only t i;replace c:=c.trans t (.inl rfl);replace s:=s.far (AD (w.heap.size+1) 1) (.string data) (by show d<w.heap.size+1;omega);replace c:=qbf (p:=AD (w.heap.size+1) 1) (v:=.string data) c (by show w.heap.size<=w.heap.size+1;omega);have f:=RW.set1 data;replace a:=a.far (AD (w.heap.size+1) 1) (.string data) (by show w.heap.size+1≠w.heap.size;omega);have N:=((s.far (AD w.heap.size 0) (U key) (by show d<w.heap.size;omega)).far (AD w.heap.size 1) (.string data) (by show d<w.heap.size;omega)).far (AD w.heap.size 2) (.bool gone) (by show d<w.heap.size;omega);replace c:=qbf (p:=AD w.heap.size 2) (v:=.bool gone) (qbf (p:=AD w.heap.size 1) (v:=.string data) (qbf (p:=AD w.heap.size 0) (v:=U key) c (jcd _)) (jcd _)) (jcd _);have u:=((a.set0 key).set1 data).set2 gone;have c1:=RW.c1;have f1:=RW.f1;have e0:=f.c0;have e1:=f.c1;have e2:=f.c2;have k0:=a.c0;have k1:=a.c1;have k2:=a.c2;have g0:=a.f0;have g1:=a.f1;have g2:=a.f2
 go_wp2_with fail
 have O:=u.c0;have P:=u.c1;have Q:=u.c2;exact bodyPost_ret (v:=.agg #[U key,.string data,.bool gone]) (by simp[results,Tryz.results250,go_sem,O,P,Q]) rfl ⟨key,data,gone,rfl,K,x3,⟨y,x0,B,x1,D,x2,g,n,z.out,C.out,H.out.symm,r.out,M.out⟩,N,c⟩
end
section
open Go.RowKit
variable {R R':List UInt8} {v:Int}
theorem qbm.sound {c:Int} {d e:Bool} (h:qbm c R d v R' e) (f:e=false):d=false/\(0<=v/\v<=c)/\R=qbs 5 v++R':=by
 rcases h.2 with ⟨g,i,b⟩|⟨_,_,b⟩
 ·obtain⟨⟨s0,_⟩,s1⟩:=qlk 5 R v R' g;exact⟨by rw[<-b];exact f,⟨s0,i⟩,s1⟩
 rw[f]at b;cases b
theorem qbm.full {c:Int} {d f:Bool} {n:Int} {r:List UInt8} (h:qbm c R d v R' f) (g:d=false) (i:R=qbs 5 n++r) (j:0<=n) (k:n<=c) (m:c<=1099511627776):v=n/\R'=r/\f=false:=by
 have e:=qtf 5 n r j (by rw[jar];omega);rw[<-i]at e;rcases h.2 with ⟨b,_,l⟩|⟨b,_,_⟩
 ·rw[e]at b;injection b with b;injection b with h4 h5;exact⟨h4.symm,h5.symm,by rw[l,g]⟩
 exact absurd k (b n r e)
def qsj (R:List UInt8) (wrong:Bool) (c:UInt8) (R':List UInt8) (wrong':Bool):Prop:=(wrong'=false↔wrong=false/\R=c::R')/\R'.length<=R.length/\(∀r,R=c::r->R'=r)
theorem qkd {b:Bool}:ql0 R b=true↔b=false/\R=[]:=by cases b<;>simp[ql0]
variable {L:List UInt8}
theorem q22 {q r t u x g:List UInt8} {x0 x1 x2 x3 z i:Bool} {j k l m o:Int} (p:qsj L false 97 q x0) (A:qbm 3 q x0 j r x1) (B:qbm 1099511627776 r x1 k t x2) (C:qbm 1099511627776 t x2 l u x3) (D:qbm 1099511627776 u x3 m x z) (E:qbm 1099511627776 x z o g i):
 (ql0 g i=true->qdj L ⟨j,k,l,m,o⟩)/\(∀y,qdj L y->ql0 g i=true):=by
 constructor
 ·intro h;obtain⟨H,I⟩:=qkd.1 h;obtain⟨J,b,K⟩:=E.sound H;obtain⟨M,c,N⟩:=D.sound J;obtain⟨O,d,P⟩:=C.sound M;obtain⟨Q,f,S⟩:=B.sound O;obtain⟨T,bs,V⟩:=A.sound Q;obtain⟨_,W⟩:=p.1.1 T;refine⟨?_,?_⟩
  ·simp only[qho.ok,jct,jk,jb,qdz];exact⟨⟨bs.1,bs.2⟩,⟨⟨f,d⟩,c⟩,b⟩
  show toL (q1e j k l m o)=L;rw[qhy,W,V,S,P,N,K,I];rfl
 rintro ⟨s,a0,a1,a2,a3⟩ F;obtain⟨bs,f,d,c,b⟩:=qmo F.1;have e:=F.2.symm.trans (qhy s a0 a1 a2 a3);unfold q1a at e;have G:=p.2.2 _ e;have X:=p.1.2 ⟨rfl,by rw[G];exact e⟩;obtain⟨_,Y,Z⟩:=A.full X G bs.1 bs.2 (by decide);obtain⟨_,r2,y2⟩:=B.full Z Y f.1 f.2 (by decide);obtain⟨_,r3,y3⟩:=C.full y2 r2 d.1 d.2 (by decide);obtain⟨_,r4,y4⟩:=D.full y3 r3 c.1 c.2 (by decide);obtain⟨_,r5,y5⟩:=E.full y4 r4 b.1 b.2 (by decide);exact qkd.2 ⟨y5,r5⟩
variable {w:World} {a:Option Addr} {n:Nat}
theorem Rd.new {c T:Nat} (e:w.heap.size=n) (f:L.length<=c) (d:qa5 w n a L):Rd (w.alloc (.cells #[.slice a L.length c,.bool false] T)) n L false:=by
 subst e;refine⟨⟨a,c,by go_simp,f,?_⟩,by go_simp,by go_simp,by go_simp⟩;rcases d with d|⟨b,o,g,h,i⟩
 ·exact .inl d
 refine .inr ⟨b,o,g,h,λj u k=>?_⟩;exact cell_later (boxed (jcc _ _) _) (i j u k)
variable {w':World}
theorem qa5.later {c:Nat} (h:qa5 w n a L) (d:Bw w w') (i:n<=c):qa5 w' c a L:=by
 rcases h with h|⟨b,o,e,k,f⟩
 ·exact .inl h
 exact .inr ⟨b,o,e,by omega,λj u g=>cell_later d (f j u g)⟩
theorem qa1 {g:Nat} {W:World} (h:Bw W w) (b:yu g w w') (c:W.heap.size<=g):Bw W w':=h.trans (b.below c h.size)
def ja1 (L:List UInt8) (w:World) (e:Ending) (w':World):Prop:=
 ((∃x:qho,qdj L x/\e=.returned (.tuple #[U x.site,.agg #[U x.a0,U x.a1,U x.a2,U x.a3],.nilIface]))\/
  ((∀x,¬qdj L x)/\e=.returned (.tuple #[U 0,.agg #[U 0,U 0,U 0,U 0],.iface 26 (U 3)])))/\Bw w w'
theorem qxc (a:Option Addr) (L:List UInt8) (c:Nat) (w:World) (H:qa5 w w.heap.size a L) (I:L.length<=c) (J:L.length<=1000000):
 Ca 211 #[.slice a L.length c] w λe w'=>ja1 L w e w':=by
 have b:=(qo.new w 77 0 0 0 0).boxed (.cells #[.slice a L.length c,.bool false] 301);have D:=Rd.new (w:=w.alloc (.cells #[U 0,U 0,U 0,U 0] 77)) (n:=w.heap.size+1) (T:=301) (by simp) I (H.later (boxed (jcc _ _) _) (by omega));have d:=boxed (boxed (jcc _ w) (.cells #[U 0,U 0,U 0,U 0] 77)) (.cells #[.slice a L.length c,.bool false] 301)
 have l:w.heap.size≠w.heap.size+1:=by omega
 go_enter Tryz.func211,Tryz.ntmps211
 go_wp2_with fail
 refine(qul (w.heap.size+1) L false 97 _ D J).mono ?_;rintro e w1 ⟨rfl,t,x0,u,K,y⟩;have M:Hid (qsj L false 97 t x0):=u;replace b:=b.only y l;replace d:=qa1 d y (by omega)
 go_wp2_with fail
 refine(ym (w.heap.size+1) t x0 3 _ K).mono ?_;rintro e w2 ⟨z,rfl,N,x1,O,P,B⟩;have Q:=hd1 O;replace b:=b.only B l;replace d:=qa1 d B (by omega)
 go_wp2_with fail
 refine(qzy (w.heap.size+1) N x1 _ P).mono ?_;rintro e S ⟨g,h,i,j,rfl,R2,x2,R3,x3,R4,x4,C,E,V,W,X,Y,m,F⟩;have G:=hd1 (q22 M.out Q.out V W X Y);replace b:=b.only F l;replace d:=qa1 d F (by omega);have k:=qo.new S 77 g h i j;replace b:=b.boxed (.cells #[U g,U h,U i,U j] 77);replace m:=m.alloc (.cells #[U g,U h,U i,U j] 77);replace d:=boxed d (.cells #[U g,U h,U i,U j] 77)
 go_wp2_with fail
 refine(qpy (w.heap.size+1) C E _ m).mono ?_;rintro e w4 ⟨rfl,o⟩;replace b:=b.later o;replace k:=k.later o;replace d:=qa d o;have u:=b.c0;have k1:=b.c1;have k2:=b.c2;have k3:=b.c3;have f0:=b.f0;have f1:=b.f1;have f2:=b.f2;have f3:=b.f3;cases hd:ql0 C E
 ·have Z:Hid (∀x,¬qdj L x):=λx hx=>by rw[G.out.2 x hx]at hd;cases hd
  have f:=b.set (x0:=0) (x1:=0) (x2:=0) (x3:=0)
  go_wp2_with fail
  have p:=f.c0;have q:=f.c1;have r:=f.c2;have s:=f.c3;exact bodyPost_ret (v:=.tuple #[U 0,.agg #[U 0,U 0,U 0,U 0],.iface 26 (U 3)]) (by simp[results,Tryz.results211,go_sem,p,q,r,s]) rfl ⟨.inr ⟨Z.out,rfl⟩,(((d.setCell (jcd _) _).setCell (jcd _) _).setCell (jcd _) _).setCell (jcd _) _⟩
 have YES:=hd1 (G.out.1 hd);have c0:=k.c0;have c1:=k.c1;have c2:=k.c2;have c3:=k.c3;have f:=b.set (x0:=g) (x1:=h) (x2:=i) (x3:=j)
 go_wp2_with fail
 go_region
 all_goals (try go_wp2)
 have p:=f.drew.c0;have q:=f.drew.c1;have r:=f.drew.c2;have s:=f.drew.c3;exact bodyPost_ret (v:=.tuple #[U z,.agg #[U g,U h,U i,U j],.nilIface]) (by simp[results,Tryz.results211,go_sem,p,q,r,s]) rfl ⟨.inl ⟨⟨z,g,h,i,j⟩,YES.out,rfl⟩,((((d.setCell (jcd _) _).setCell (jcd _) _).setCell (jcd _) _).setCell (jcd _) _).drew⟩
end
section
open Go.RowKit
variable {R R':List UInt8} {n:Int} {s:ByteArray}
theorem qzd {b c:Bool} (h:qkz R b n s R' c) (d:c=false) (g:0<=n):b=false/\(s.size:Int)=n/\R=toL s++R':=by
 rcases h with ⟨i,e,f,a⟩|⟨_,_,_,a⟩
 ·refine⟨by rw[<-a];exact d,?_,by rw[e,f,jds]⟩
  have:(toL s).length=n.toNat:=by rw[e,jc5];omega
  rw[yh]at this;omega
 rw[d]at a;cases a
variable {r:List UInt8}
theorem q1d {b c:Bool} {d:ByteArray} (h:qkz R b n s R' c) (g:b=false) (m:n=(d.size:Int)) (a:R=toL d++r):s=d/\R'=r/\c=false:=by
 have e:(toL d).length=n.toNat:=by rw[yh];omega
 rcases h with ⟨f,i,j,k⟩|⟨f,_,_,_⟩
 ·refine⟨qsh ?_,?_,by rw[k,g]⟩
  ·rw[i,a,<-e,List.take_left]
  rw[j,a,<-e,List.drop_left]
 rw[a,jcl]at f;omega
theorem qua {a b:Bool} {key:Int} {data:ByteArray} {gone:Bool} (h:ql5 R a key data gone R' b) (d:b=false):a=false/\R=wrL ⟨key,data,gone⟩++R':=by
 obtain⟨y,x0,z,x1,A,x2,g,n,f,i,j,c,t⟩:=h;obtain⟨k,s2,m⟩:=qzd t d c.nonneg;obtain⟨o,_,p⟩:=c.sound k;obtain⟨q,B,u⟩:=i.sound o;obtain⟨e,_,v⟩:=f.sound q;refine⟨e,?_⟩
 have w:g=if gone then 1 else 0:=by
  rw[j]
  have:g=0\/g=1:=by omega
  rcases this with rfl|rfl<;>rfl
 simp only[wrL,jcy];rw[v,u,p,m,<-w,s2]
theorem qy8 {a b:Bool} {key:Int} {data:ByteArray} {gone:Bool} {y:Wr} (h:ql5 R a key data gone R' b) (f:a=false) (c:R=wrL y++r) (d:0<=y.key/\y.key<=7/\y.data.size<=12):
 (⟨key,data,gone⟩:Wr)=y/\R'=r/\b=false:=by
 obtain⟨B,x0,C,x1,D,x2,g,n,i,j,k,m,t⟩:=h;simp only[wrL,jcy]at c;obtain⟨a0,o,p⟩:=i.full f c d.1 d.2.1 (by decide);obtain⟨a1,q,u⟩:=j.full p o (by cases y.gone<;>decide) (by cases y.gone<;>decide) (by decide);obtain⟨a2,v,w⟩:=m.full u q (by omega) (by omega) (by decide);obtain⟨a3,z,A⟩:=q1d t w a2 v;refine⟨?_,z,A⟩;obtain⟨E,F,e⟩:=y;simp only at a0 a1 a3
 have:gone=e:=by
  rw[k,a1]
  cases e<;>rfl
 rw[a0,a3,this]
theorem qs6 {a b:Bool} {key:Int} {data:ByteArray} {gone:Bool} (h:ql5 R a key data gone R' b):R'.length<=R.length:=by
 obtain⟨f,x0,i,x1,j,x2,g,n,c,d,k,e,t⟩:=h;have a0:=c.1;have a1:=d.1;have a2:=e.1;have a3:=take_length t;omega
inductive qvx (R:List UInt8) (x:Bool):List Wr->List UInt8->Bool->Prop
 |nil:qvx R x [] R x
 |snoc {l:List Wr} {R1 R2:List UInt8} {x1 x2:Bool} {key:Int} {data:ByteArray} {gone:Bool}:qvx R x l R1 x1->ql5 R1 x1 key data gone R2 x2->qvx R x (l++[⟨key,data,gone⟩]) R2 x2
theorem q06 (l:List Wr) (x:Wr):qhc (l++[x])=qhc l++wrL x:=by simp[qhc]
variable {x x':Bool} {l:List Wr}
theorem q4z (h:qvx R x l R' x'):x'=false->x=false/\R=qhc l++R':=by
 induction h with
 |nil=>exact λe=>⟨e,rfl⟩
 |snoc _ hw ih=>
  intro e;obtain⟨a,b⟩:=qua hw e;obtain⟨c,d⟩:=ih a;exact⟨c,by rw[d,b,q06,jcy]⟩
theorem q87 {m:List Wr} (h:qvx R x l R' x') (g:x=false) (i:R=qhc m++r) (j:∀y∈m,0<=y.key/\y.key<=7/\y.data.size<=12):
 l.length<=m.length->l=m.take l.length/\R'=qhc (m.drop l.length)++r/\x'=false:=by
 induction h with
 |nil=>exact λ_=>⟨by simp,by simpa using i,g⟩
 |@snoc l R1 R2 x1 x2 key data gone _ hw ih=>
  intro k;rw[jcl,List.length_singleton]at k ⊢;obtain⟨o,f,p⟩:=ih (by omega)
  have d:l.length<m.length:=by omega
  have e:qhc (m.drop l.length)=wrL m[l.length]++qhc (m.drop (l.length+1)):=by
   unfold qhc;rw[jdy d,List.flatMap_cons]
  rw[e,jcy]at f;obtain⟨a,b,c⟩:=qy8 hw p f (j _ (jdr d));refine⟨?_,b,c⟩;rw[a,jc1 d,<-o]
theorem q2u (h:qvx R x l R' x'):R'.length<=R.length:=by
 induction h with
 |nil=>exact jcd _
 |snoc _ hw ih=>exact jcn (qs6 hw) ih
theorem q5s {L A B C D E F G H I J a:List UInt8} {x0 x1 x2 x3 K M N O P Q b:Bool} {c d wall f g i j k S:Int}
 (o:qsj L false 116 A x0) (T:qbm 3 A x0 c B x1) (V:qbm 1099511627776 B x1 d C x2) (W:qbm 1099511627776 C x2 wall D x3) (X:qbm 1099511627776 D x3 f E K)
 (Y:qbm 1099511627776 E K g F M) (Z:qbm 1099511627776 F M i G N) (h7:qbm 1099511627776 G N j H O) (h8:qbm 1099511627776 H O k I P) (h9:qbm 5 I P S J Q) (hW:qvx J Q l a b) (hl:(l.length:Int)=S):
 (ql0 a b=true->toL (txS c d wall f g i j k l)=L)/\(∀y,ql3 L y->ql0 a b=true/\y=⟨c,d,wall,f,g,i,j,k,l⟩):=by
 constructor
 ·intro h;obtain⟨hx,hR⟩:=qkd.1 h;obtain⟨e9,q10⟩:=q4z hW hx;obtain⟨e8,_,q9⟩:=h9.sound e9;obtain⟨e7,_,q8⟩:=h8.sound e8;obtain⟨e6,_,q7⟩:=h7.sound e7;obtain⟨e5,_,q6⟩:=Z.sound e6;obtain⟨e4,_,q5⟩:=Y.sound e5;obtain⟨e3,_,q4⟩:=X.sound e4;obtain⟨e2,_,q3⟩:=W.sound e3;obtain⟨e1,_,q2⟩:=V.sound e2;obtain⟨e0,_,q1⟩:=T.sound e1;obtain⟨_,qk⟩:=o.1.1 e0;rw[qkb,qk,q1,q2,q3,q4,q5,q6,q7,q8,q9,q10,hR,hl,jdx];rfl
 rintro ⟨s,q,wl,ct,a0,a1,a2,a3,m⟩ hy;obtain⟨bs,bq,p,t,u,v,w,z,bm⟩:=qlw hy.1;simp only at bs bq p t u v w z bm;have hlen:=qjz bm;have e:=hy.2.symm.trans (qkb s q wl ct a0 a1 a2 a3 m);unfold qrk at e;have r0:=o.2.2 _ e;have y0:=o.1.2 ⟨rfl,by rw[r0];exact e⟩;obtain⟨z1,r1,y1⟩:=T.full y0 r0 bs.1 bs.2 (by decide);obtain⟨z2,r2,y2⟩:=V.full y1 r1 (by omega) bq.2 (by decide);obtain⟨z3,r3,y3⟩:=W.full y2 r2 p.1 p.2 (by decide);obtain⟨z4,r4,y4⟩:=X.full y3 r3 t.1 t.2 (by decide);obtain⟨z5,r5,y5⟩:=Y.full y4 r4 u.1 u.2 (by decide);obtain⟨z6,r6,y6⟩:=Z.full y5 r5 v.1 v.2 (by decide);obtain⟨z7,r7,y7⟩:=h7.full y6 r6 w.1 w.2 (by decide);obtain⟨z8,r8,y8⟩:=h8.full y7 r7 z.1 z.2 (by decide);obtain⟨z9,r9,y9⟩:=h9.full y8 r8 (by omega) (by omega) (by decide)
 have hlm:l.length=m.length:=by omega
 obtain⟨w1,w2,w3⟩:=q87 (m:=m) (r:=[]) hW y9 (by simpa using r9) (qob bm) (by omega)
 have hlm2:l=m:=by rw[hlm,jc9]at w1;exact w1
 refine⟨qkd.2 ⟨w3,?_⟩,?_⟩
 ·rw[w2,hlm,List.drop_length];rfl
 rw[z1,z2,z3,z4,z5,z6,z7,z8,hlm2]
end
section
open Go.RowKit
variable {w:World} {rb:Nat} {R:List UInt8}
theorem Rd.drew {a:Bool} (h:Rd w rb R a):Rd w.drew rb R a:=h.kept λ_ _=>rfl
variable {w':World}
theorem Rd.grown {f:Bool} {r:Option Nat} (h:Rd w rb R f) (g:w.grownBy w' r) (i:∀k,r=some k->rb<k):Rd w' rb R f:=by
 obtain⟨a,c,m,p,d⟩:=h.rest;have e:=g.block rb h.lt (λx=>by have:=i rb x.symm;omega);refine⟨⟨a,c,by rw[jch (w:=w) e];exact m,p,?_⟩,by rw[jch (w:=w) e];exact h.c1,by rw[jcp (w:=w) e];exact h.f0,by rw[jcp (w:=w) e];exact h.f1⟩;rcases d with d|⟨b,o,q,s,t⟩
 ·exact .inl d
 refine .inr ⟨b,o,q,s,λj u y=>?_⟩;have l:=t j u y;rw[jch (w:=w) (g.block b (jcr _ _ l) (λx=>by have:=i b x.symm;omega))];exact l
variable {B n:Nat} {T:TypeId} {v:Value} {xs:List Value}
theorem q6n (h:w.ownsRow B T 3 v n xs) (a:yu rb w w') (b:rb<B):w'.ownsRow B T 3 v n xs:=by
 refine h.kept a ?_;cases hv:v.ownBlock with
 |none=>exact .inl rfl
 |some k=>
  refine .inr (λe=>?_);injection e with e;have:=(h.lt k hv).1;omega
theorem qq3 (h:w.ownsRow B T 3 v n xs) (a:Bw w w'):w'.ownsRow B T 3 v n xs:=
 h.kept (row:=none) ⟨a.os,a.tape,a.output,a.size,λk b _=>a.block k b⟩ (by cases v.ownBlock<;>simp)
theorem qlm (h:w.ownsRow B T 3 v n xs):∀k,v.ownBlock=some k->B<=k:=λk a=>(h.lt k a).1
theorem q35:(Tryz.prog.info? 100).map (λi=>(i.zero,i.size,i.bytes))=some (some (.agg #[U 0,.string ⟨#[]⟩,.bool false]),3,32):=by kernel_rfl
def txA (site seq wall count d0 d1 d2 d3:Int) (v:Value):List Value:=[U site,U seq,U wall,U count,U d0,U d1,U d2,U d3,v]
def jbi (L:List UInt8) (w:World) (e:Ending) (w':World):Prop:=
 ((∃(x:TxV) (a:Option Addr) (cap:Nat),ql3 L x/\qr w' a cap x.l/\e=.returned (.tuple #[.agg (List.toArray (T9 x.site x.seq x.wall x.count x.d0 x.d1 x.d2 x.d3 a x.l.length cap)),.nilIface]))\/
  ((∀x,¬ql3 L x)/\e=.returned (.tuple #[.agg ZA,.iface 26 (U 3)])))/\Bw w w'
theorem qjt {tmps:Array Value} {b:Nat} {d e f g i j k l m ev:Value} (h:qd w b [d,e,f,g,i,j,k,l,m]) (o:tmps[2]?=some (.pointer (some ⟨b,0,none⟩))) (p:tmps[3]?=some ev)
 (p0:∃n,d=U n) (p1:∃n,e=U n) (p2:∃n,f=U n) (p3:∃n,g=U n) (q:∃n,i=U n) (r:∃n,j=U n) (s:∃n,k=U n) (t:∃n,l=U n) (u:∃a n c,m=.slice a n c):
 (results Tryz.f209 tmps).run Tryz.prog w=.ok (.tuple #[.agg #[d,e,f,g,i,j,k,l,m],ev]) w:=by
 obtain⟨I,rfl⟩:=p0;obtain⟨J,rfl⟩:=p1;obtain⟨K,rfl⟩:=p2;obtain⟨L,rfl⟩:=p3;obtain⟨M,rfl⟩:=q;obtain⟨N,rfl⟩:=r;obtain⟨O,rfl⟩:=s;obtain⟨P,rfl⟩:=t;obtain⟨a,n,c,rfl⟩:=u;obtain⟨x,y,z,C,D,E,F,G,H⟩:=h.c9;simp[results,Tryz.results209,go_sem,o,p,x,y,z,C,D,E,F,G,H]
theorem qq5 (a:Option Addr) (L:List UInt8) (c:Nat) (w:World) (hB:qa5 w w.heap.size a L) (hc:L.length<=c) (hl:L.length<=1000000):
 Ca 209 #[.slice a L.length c] w λe w'=>jbi L w e w':=by
 have o:=(qd.new (w:=w) (T:=102) ZL rfl).boxed (.cells #[.slice a L.length c,.bool false] 301);have D:=Rd.new (w:=w.alloc (.cells ZA 102)) (n:=w.heap.size+1) (T:=301) (by simp) hc (hB.later (boxed (jcc _ _) _) (by omega));have q:=boxed (boxed (jcc _ w) (.cells ZA 102)) (.cells #[.slice a L.length c,.bool false] 301)
 have O:w.heap.size≠w.heap.size+1:=by omega
 go_enter Tryz.func209,Tryz.ntmps209
 go_wp2_with fail
 refine(qul (w.heap.size+1) L false 116 _ D hl).mono ?_;rintro e b ⟨rfl,R0,x0,X,D0,y0⟩;have K0:Hid (qsj L false 116 R0 x0):=X;replace o:=(o.only y0 O).boxed (.cells ZA 102);replace q:=boxed (qa1 q y0 (by omega)) (.cells ZA 102);replace D0:=D0.alloc (.cells ZA 102);have f:=qd.new (w:=b) (T:=102) ZL rfl
 have hlt:w.heap.size+1<b.heap.size:=by have:=y0.size;simp at this;omega
 have P:b.heap.size≠w.heap.size+1:=by omega
 clear X y0 D
 go_wp2_with fail
 refine(ym (w.heap.size+1) R0 x0 3 _ D0).mono ?_;rintro e w2 ⟨t,rfl,R1,x1,n1,D1,y1⟩;have N1:=hd1 n1;replace o:=o.only y1 O;replace f:=f.only y1 P;replace q:=qa1 q y1 (by omega);clear n1 y1 D0;have c0:=f.cell 0 _ rfl;have f0:=f.free 0 (by simp);replace o:=o.far ⟨b.heap.size,0,none⟩ (U t) (by show b.heap.size≠w.heap.size;omega);replace f:=f.set 0 (U t) (by simp);replace q:=q.setCell (p:=⟨b.heap.size,0,none⟩) (by show w.heap.size<=b.heap.size;omega) (U t);replace D1:=D1.far ⟨b.heap.size,0,none⟩ (U t) (by show w.heap.size+1<b.heap.size;omega)
 go_wp2_with fail
 clear c0 f0;refine(ym (w.heap.size+1) R1 x1 1099511627776 _ D1).mono ?_;rintro e w3 ⟨C,rfl,R2,x2,n2,D2,y2⟩;have N2:=hd1 n2;replace o:=o.only y2 O;replace f:=f.only y2 P;replace q:=qa1 q y2 (by omega);clear n2 y2 D1;have c1:=f.cell 1 _ rfl;have f1:=f.free 1 (by simp);replace o:=o.far ⟨b.heap.size,1,none⟩ (U C) (by show b.heap.size≠w.heap.size;omega);replace f:=f.set 1 (U C) (by simp);replace q:=q.setCell (p:=⟨b.heap.size,1,none⟩) (by show w.heap.size<=b.heap.size;omega) (U C);replace D2:=D2.far ⟨b.heap.size,1,none⟩ (U C) (by show w.heap.size+1<b.heap.size;omega)
 go_wp2_with fail
 clear c1 f1;refine(ym (w.heap.size+1) R2 x2 1099511627776 _ D2).mono ?_;rintro e w4 ⟨wall,rfl,R3,x3,n3,D3,y3⟩;have N3:=hd1 n3;replace o:=o.only y3 O;replace f:=f.only y3 P;replace q:=qa1 q y3 (by omega);clear n3 y3 D2;have c2:=f.cell 2 _ rfl;have f2:=f.free 2 (by simp);replace o:=o.far ⟨b.heap.size,2,none⟩ (U wall) (by show b.heap.size≠w.heap.size;omega);replace f:=f.set 2 (U wall) (by simp);replace q:=q.setCell (p:=⟨b.heap.size,2,none⟩) (by show w.heap.size<=b.heap.size;omega) (U wall);replace D3:=D3.far ⟨b.heap.size,2,none⟩ (U wall) (by show w.heap.size+1<b.heap.size;omega)
 go_wp2_with fail
 clear c2 f2;refine(ym (w.heap.size+1) R3 x3 1099511627776 _ D3).mono ?_;rintro e w5 ⟨E,rfl,R4,x4,n4,D4,y4⟩;have N4:=hd1 n4;replace o:=o.only y4 O;replace f:=f.only y4 P;replace q:=qa1 q y4 (by omega);clear n4 y4 D3;have c3:=f.cell 3 _ rfl;have f3:=f.free 3 (by simp);replace o:=o.far ⟨b.heap.size,3,none⟩ (U E) (by show b.heap.size≠w.heap.size;omega);replace f:=f.set 3 (U E) (by simp);replace q:=q.setCell (p:=⟨b.heap.size,3,none⟩) (by show w.heap.size<=b.heap.size;omega) (U E);replace D4:=D4.far ⟨b.heap.size,3,none⟩ (U E) (by show w.heap.size+1<b.heap.size;omega)
 go_wp2_with fail
 clear c3 f3;refine(qzy (w.heap.size+1) R4 x4 _ D4).mono ?_;rintro e w6 ⟨F,G,H,I,rfl,R5,x5,R6,x6,R7,x7,R8,x8,m5,m6,m7,m8,K,M⟩;have N5:=hd1 m5;have N6:=hd1 m6;have N7:=hd1 m7;have N8:=hd1 m8;replace o:=o.only M O;replace f:=f.only M P;replace q:=qa1 q M (by omega);clear m5 m6 m7 m8 M D4;have c4:=f.cell 4 _ rfl;have f4:=f.free 4 (by simp);have c5:=f.cell 5 _ rfl;have f5:=f.free 5 (by simp);have c6:=f.cell 6 _ rfl;have f6:=f.free 6 (by simp);have c7:=f.cell 7 _ rfl;have f7:=f.free 7 (by simp);replace o:=o.far ⟨b.heap.size,4,none⟩ (U F) (by show b.heap.size≠w.heap.size;omega);replace f:=f.set 4 (U F) (by simp);replace q:=q.setCell (p:=⟨b.heap.size,4,none⟩) (by show w.heap.size<=b.heap.size;omega) (U F);replace K:=K.far ⟨b.heap.size,4,none⟩ (U F) (by show w.heap.size+1<b.heap.size;omega);replace o:=o.far ⟨b.heap.size,5,none⟩ (U G) (by show b.heap.size≠w.heap.size;omega);replace f:=f.set 5 (U G) (by simp);replace q:=q.setCell (p:=⟨b.heap.size,5,none⟩) (by show w.heap.size<=b.heap.size;omega) (U G);replace K:=K.far ⟨b.heap.size,5,none⟩ (U G) (by show w.heap.size+1<b.heap.size;omega);replace o:=o.far ⟨b.heap.size,6,none⟩ (U H) (by show b.heap.size≠w.heap.size;omega);replace f:=f.set 6 (U H) (by simp);replace q:=q.setCell (p:=⟨b.heap.size,6,none⟩) (by show w.heap.size<=b.heap.size;omega) (U H);replace K:=K.far ⟨b.heap.size,6,none⟩ (U H) (by show w.heap.size+1<b.heap.size;omega);replace o:=o.far ⟨b.heap.size,7,none⟩ (U I) (by show b.heap.size≠w.heap.size;omega);replace f:=f.set 7 (U I) (by simp);replace q:=q.setCell (p:=⟨b.heap.size,7,none⟩) (by show w.heap.size<=b.heap.size;omega) (U I);replace K:=K.far ⟨b.heap.size,7,none⟩ (U I) (by show w.heap.size+1<b.heap.size;omega)
 go_wp2_with fail
 clear c4 f4 c5 f5 c6 f6 c7 f7;refine(ym (w.heap.size+1) R8 x8 5 _ K).mono ?_;rintro e w7 ⟨nw,rfl,R9,x9,n9,D9,y9⟩;have N9:=hd1 n9;replace o:=o.only y9 O;replace f:=f.only y9 P;replace q:=qa1 q y9 (by omega);clear n9 y9 K;have RTX:qd w7 b.heap.size (txA t C wall E F G H I (.slice none 0 0)):=f;have hsz:b.heap.size+1<=w7.heap.size:=f.lt;clear f;have nw0:=N9.out.nonneg
 have hlen9:R9.length<=1000000:=by
  have a0:=K0.out.2.1;have a1:=N1.out.1;have a2:=N2.out.1;have a3:=N3.out.1;have a4:=N4.out.1;have a5:=N5.out.1;have a6:=N6.out.1;have a7:=N7.out.1;have a8:=N8.out.1;have a9:=N9.out.1;omega
 obtain⟨m,rfl⟩:∃m:Nat,nw=m:=⟨nw.toNat,by omega⟩
 have hm5:m<=5:=by
  rcases N9.out.2 with ⟨_,h,_⟩|⟨_,h,_⟩<;>omega
 clear nw0
 go_wp2_with fail
 go_loopw [30] (λiv wr=>∃(k:Nat) (z:Int) (l:List Wr) (R:List UInt8) (x:Bool) (v:Value),k<=m/\z=k/\iv=U z/\l.length=k/\qvx R9 x9 l R x/\qd wr b.heap.size (txA t C wall E F G H I v)/\wr.ownsRow (b.heap.size+1) 100 3 v l.length (qcf l)/\Rd wr (w.heap.size+1) R x/\qd wr w.heap.size ZL/\Bw w wr/\b.heap.size+1<=wr.heap.size) (λi _=>m-(intOf i).toNat)
 case atStart=>exact⟨0,0,[],R9,x9,.slice none 0 0,by omega,rfl,rfl,rfl,.nil,RTX,jcx _ _ _ _,D9,o,q,hsz⟩
 clear RTX D9 o q hsz;obtain⟨k,z,l,R,x,v,hk,hz,rfl,hlk,hws,f,own,D,o,q,hsz⟩:=hrel;have HWS:=hd1 hws;have HLK:=hd1 hlk
 have hl5:l.length<=5:=by omega
 clear hws hlk;by_cases hlt2:k<m
 ·have h1:z<(m:Int):=by omega
  have h3:0<=z:=by omega
  have HZ:=hd1 hz;clear hz;have hlenR:=jcn (q2u HWS.out) hlen9;have c8:=f.cell 8 _ rfl;obtain⟨i0,hi,hz0,hz1,hz2⟩:=info_parts q35
  go_wp2_with fail
  go_region_law (first
   |(refine je rfl 250 #[.pointer (some ⟨w.heap.size+1,0,none⟩)] (by go_simp) (q3e (w.heap.size+1) R x _ D.drew hlenR) ?_
     rintro e w8 ⟨key,data,gone,rfl,R',x',wi,D',M⟩;refine⟨_,rfl,?_⟩;have WI:=hd1 wi;have s:=f.drew.only M P;have d:=o.drew.only M O;have N:=qa1 q.drew M (by omega);have Y:=q6n (w:=wr.drew) own M (by omega);have c8b:=s.cell 8 _ rfl;have hlt8:=s.lt
     clear wi M)
   |(refine step_append_lies _ rfl (.tmp 33) (.tmp 36) 88 rfl (b.heap.size+1) 100 i0 (.agg #[U 0,.string ⟨#[]⟩,.bool false]) 3 32 Tryz.underlying88 hi hz0 hz1 hz2 rfl (by decide) v l.length (qcf l) (by simp[Act.eval]) (Y.alloc _) ⟨w8.heap.size,0,none⟩ 1 1 (wrC ⟨key,data,gone⟩) (by simp[Act.eval]) rfl (World.news_of_block (heap_alloc_new w8 (.cells #[U key,.string data,.bool gone] 100))) (by intro u hu;simp[wrC]at hu;rcases hu with rfl|rfl|rfl<;>rfl) (by decide) (by simp only[maxLen];omega) (by omega) (by simp;omega) _ rfl ?_
     intro g cap w9 own9 gr9 eg9 lt9;have RT9:=(s.boxed (.cells #[U key,.string data,.bool gone] 100)).grown gr9 (λe=>by have:=qlm Y _ e.symm;omega);have RV9:=(d.boxed (.cells #[U key,.string data,.bool gone] 100)).grown gr9 (λe=>by have:=qlm Y _ e.symm;omega);have D9:=(D'.alloc (.cells #[U key,.string data,.bool gone] 100)).grown gr9 (λj hj=>by have:=qlm Y _ hj;omega);have J:=(boxed N (.cells #[U key,.string data,.bool gone] 100)).grown gr9 (by have:=N.size;simp;omega) (λj hj=>by have:=qlm Y _ hj;omega);have c8c:=RT9.cell 8 _ rfl
     have f8c:=RT9.free 8 (by simp[txA])))
  all_goals
   have RT10:qd (w9.setCell ⟨b.heap.size,8,none⟩ (.slice (some ⟨g,0,none⟩) (l.length+1) cap)) b.heap.size (txA t C wall E F G H I (.slice (some ⟨g,0,none⟩) (l.length+1) cap)):=RT9.set 8 (.slice (some ⟨g,0,none⟩) (l.length+1) cap) (by simp[txA]);have RV10:=RV9.far ⟨b.heap.size,8,none⟩ (.slice (some ⟨g,0,none⟩) (l.length+1) cap) (by show b.heap.size≠w.heap.size;omega);have D10:=D9.far ⟨b.heap.size,8,none⟩ (.slice (some ⟨g,0,none⟩) (l.length+1) cap) (by show w.heap.size+1<b.heap.size;omega);have hb10:=J.setCell (p:=⟨b.heap.size,8,none⟩) (by show w.heap.size<=b.heap.size;omega) (.slice (some ⟨g,0,none⟩) (l.length+1) cap);have own10:=ownsRow_setCell_below own9 (a:=⟨b.heap.size,8,none⟩) (by show b.heap.size<b.heap.size+1;omega) (.slice (some ⟨g,0,none⟩) (l.length+1) cap)
   go_wp2_with fail
   go_roundw
   case rel=>exact⟨k+1,z+1,l++[⟨key,data,gone⟩],R',x',_,by omega,by have:=HZ.out;omega,by go_num,by have:=HLK.out;simp;omega,.snoc HWS.out WI.out,RT10,by rw[qkh,jcl];exact own10,D10,RV10,hb10,by have:=RT10.lt;omega⟩
   simp[intOf];omega
 obtain rfl:k=m:=by omega
 have CH:=hd1 (q5s K0.out N1.out N2.out N3.out N4.out N5.out N6.out N7.out N8.out N9.out HWS.out (by have:=HLK.out;omega));obtain⟨Q,S,rfl,W⟩:=qbg own;have OWN:=hd1 own;clear own
 go_wp2_with fail
 refine(qpy (w.heap.size+1) R x _ D).mono ?_;rintro e w8 ⟨rfl,N⟩;have d:=o.later N;have s:=f.later N;replace W:=W.later N;replace OWN:Hid (w8.ownsRow (b.heap.size+1) 100 3 (.slice Q l.length S) l.length (qcf l)):=qq3 OWN.out N;have V:=qa q N;clear N D o f;cases hd:ql0 R x
 ·have NO:Hid (∀y,¬ql3 L y):=λy hy=>by rw[(CH.out.2 y hy).1]at hd;cases hd
  clear hd;have Z:=(((((((((d.set 0 (U 0) (by simp)).set 1 (U 0) (by simp)).set 2 (U 0) (by simp)).set 3 (U 0) (by simp)).set 4 (U 0) (by simp)).set 5 (U 0) (by simp)).set 6 (U 0) (by simp)).set 7 (U 0) (by simp)).set 8 (.slice none 0 0) (by simp));have aa:=(((((((((V.setCell (p:=⟨w.heap.size,0,none⟩) (jcd _) (U 0)).setCell (p:=⟨w.heap.size,1,none⟩) (jcd _) (U 0)).setCell (p:=⟨w.heap.size,2,none⟩) (jcd _) (U 0)).setCell (p:=⟨w.heap.size,3,none⟩) (jcd _) (U 0)).setCell (p:=⟨w.heap.size,4,none⟩) (jcd _) (U 0)).setCell (p:=⟨w.heap.size,5,none⟩) (jcd _) (U 0)).setCell (p:=⟨w.heap.size,6,none⟩) (jcd _) (U 0)).setCell (p:=⟨w.heap.size,7,none⟩) (jcd _) (U 0)).setCell (p:=⟨w.heap.size,8,none⟩) (jcd _) (.slice none 0 0));have X:=d.cell 0 _ rfl;have g0:=d.free 0 (by simp);have k1:=d.cell 1 _ rfl;have g1:=d.free 1 (by simp);have k2:=d.cell 2 _ rfl;have g2:=d.free 2 (by simp);have k3:=d.cell 3 _ rfl;have g3:=d.free 3 (by simp);have k4:=d.cell 4 _ rfl;have g4:=d.free 4 (by simp);have k5:=d.cell 5 _ rfl;have g5:=d.free 5 (by simp);have k6:=d.cell 6 _ rfl;have g6:=d.free 6 (by simp);have k7:=d.cell 7 _ rfl;have g7:=d.free 7 (by simp);have k8:=d.cell 8 _ rfl;have g8:=d.free 8 (by simp)
  go_wp2_with fail
  refine bodyPost_ret (v:=.tuple #[.agg ZA,.iface 26 (U 3)]) (qjt Z rfl rfl ⟨_,rfl⟩ ⟨_,rfl⟩ ⟨_,rfl⟩ ⟨_,rfl⟩ ⟨_,rfl⟩ ⟨_,rfl⟩ ⟨_,rfl⟩ ⟨_,rfl⟩ ⟨_,_,_,rfl⟩) rfl ⟨.inr ⟨NO.out,rfl⟩,aa⟩
 have HD:=hd1 hd;clear hd;obtain⟨c0,c1,c2,c3,c4,c5,c6,c7,c8⟩:=s.c9;cases ho:jt t C wall E F G H I l
 ·have NO:Hid (∀y,¬ql3 L y):=λy hy=>by
   have h1:=(CH.out.2 y hy).2;have h2:=hy.1;rw[h1]at h2;rw[show TxV.ok ⟨t,C,wall,E,F,G,H,I,l⟩=jt t C wall E F G H I l from rfl,ho]at h2;cases h2
  have HO:=hd1 ho;clear ho
  go_wp2_with fail
  refine(qex W HO.out).mono ?_;rintro e w9 ⟨rfl,J⟩;replace d:=d.later J;replace V:=qa V J;clear J s W c0 c1 c2 c3 c4 c5 c6 c7 c8;have Z:=(((((((((d.set 0 (U 0) (by simp)).set 1 (U 0) (by simp)).set 2 (U 0) (by simp)).set 3 (U 0) (by simp)).set 4 (U 0) (by simp)).set 5 (U 0) (by simp)).set 6 (U 0) (by simp)).set 7 (U 0) (by simp)).set 8 (.slice none 0 0) (by simp));have aa:=(((((((((V.setCell (p:=⟨w.heap.size,0,none⟩) (jcd _) (U 0)).setCell (p:=⟨w.heap.size,1,none⟩) (jcd _) (U 0)).setCell (p:=⟨w.heap.size,2,none⟩) (jcd _) (U 0)).setCell (p:=⟨w.heap.size,3,none⟩) (jcd _) (U 0)).setCell (p:=⟨w.heap.size,4,none⟩) (jcd _) (U 0)).setCell (p:=⟨w.heap.size,5,none⟩) (jcd _) (U 0)).setCell (p:=⟨w.heap.size,6,none⟩) (jcd _) (U 0)).setCell (p:=⟨w.heap.size,7,none⟩) (jcd _) (U 0)).setCell (p:=⟨w.heap.size,8,none⟩) (jcd _) (.slice none 0 0));have X:=d.cell 0 _ rfl;have g0:=d.free 0 (by simp);have k1:=d.cell 1 _ rfl;have g1:=d.free 1 (by simp);have k2:=d.cell 2 _ rfl;have g2:=d.free 2 (by simp);have k3:=d.cell 3 _ rfl;have g3:=d.free 3 (by simp);have k4:=d.cell 4 _ rfl;have g4:=d.free 4 (by simp);have k5:=d.cell 5 _ rfl;have g5:=d.free 5 (by simp);have k6:=d.cell 6 _ rfl;have g6:=d.free 6 (by simp);have k7:=d.cell 7 _ rfl;have g7:=d.free 7 (by simp);have k8:=d.cell 8 _ rfl;have g8:=d.free 8 (by simp)
  go_wp2_with fail
  refine bodyPost_ret (v:=.tuple #[.agg ZA,.iface 26 (U 3)]) (qjt Z rfl rfl ⟨_,rfl⟩ ⟨_,rfl⟩ ⟨_,rfl⟩ ⟨_,rfl⟩ ⟨_,rfl⟩ ⟨_,rfl⟩ ⟨_,rfl⟩ ⟨_,rfl⟩ ⟨_,_,_,rfl⟩) rfl ⟨.inr ⟨NO.out,rfl⟩,aa⟩
 have YES:Hid (ql3 L ⟨t,C,wall,E,F,G,H,I,l⟩):=⟨ho,CH.out.1 HD.out⟩;have HO:=hd1 ho;clear ho
 go_wp2_with fail
 refine(qex W HO.out).mono ?_;rintro e w9 ⟨rfl,J⟩;replace d:=d.later J;replace s:=s.later J;have r:=qq3 OWN.out J;replace V:=qa V J;clear J;replace c0:=s.cell 0 _ rfl;replace c1:=s.cell 1 _ rfl;replace c2:=s.cell 2 _ rfl;replace c3:=s.cell 3 _ rfl;replace c4:=s.cell 4 _ rfl;replace c5:=s.cell 5 _ rfl;replace c6:=s.cell 6 _ rfl;replace c7:=s.cell 7 _ rfl;replace c8:=s.cell 8 _ rfl;have Z:=(((((((((d.set 0 (U t) (by simp)).set 1 (U C) (by simp)).set 2 (U wall) (by simp)).set 3 (U E) (by simp)).set 4 (U F) (by simp)).set 5 (U G) (by simp)).set 6 (U H) (by simp)).set 7 (U I) (by simp)).set 8 (.slice Q l.length S) (by simp));replace r:=ownsRow_setCell_below r (a:=⟨w.heap.size,0,none⟩) (by show w.heap.size<b.heap.size+1;omega) (U t);replace r:=ownsRow_setCell_below r (a:=⟨w.heap.size,1,none⟩) (by show w.heap.size<b.heap.size+1;omega) (U C);replace r:=ownsRow_setCell_below r (a:=⟨w.heap.size,2,none⟩) (by show w.heap.size<b.heap.size+1;omega) (U wall);replace r:=ownsRow_setCell_below r (a:=⟨w.heap.size,3,none⟩) (by show w.heap.size<b.heap.size+1;omega) (U E);replace r:=ownsRow_setCell_below r (a:=⟨w.heap.size,4,none⟩) (by show w.heap.size<b.heap.size+1;omega) (U F);replace r:=ownsRow_setCell_below r (a:=⟨w.heap.size,5,none⟩) (by show w.heap.size<b.heap.size+1;omega) (U G);replace r:=ownsRow_setCell_below r (a:=⟨w.heap.size,6,none⟩) (by show w.heap.size<b.heap.size+1;omega) (U H);replace r:=ownsRow_setCell_below r (a:=⟨w.heap.size,7,none⟩) (by show w.heap.size<b.heap.size+1;omega) (U I);replace r:=ownsRow_setCell_below r (a:=⟨w.heap.size,8,none⟩) (by show w.heap.size<b.heap.size+1;omega) (.slice Q l.length S);obtain⟨a2,cap2,ea,hW2⟩:=qbg r;injection ea with e1 _ e3;subst e1 e3;have HW2:Hid (qr _ Q S l):=hW2;clear hW2 r W OWN;have aa:=(((((((((V.setCell (p:=⟨w.heap.size,0,none⟩) (jcd _) (U t)).setCell (p:=⟨w.heap.size,1,none⟩) (jcd _) (U C)).setCell (p:=⟨w.heap.size,2,none⟩) (jcd _) (U wall)).setCell (p:=⟨w.heap.size,3,none⟩) (jcd _) (U E)).setCell (p:=⟨w.heap.size,4,none⟩) (jcd _) (U F)).setCell (p:=⟨w.heap.size,5,none⟩) (jcd _) (U G)).setCell (p:=⟨w.heap.size,6,none⟩) (jcd _) (U H)).setCell (p:=⟨w.heap.size,7,none⟩) (jcd _) (U I)).setCell (p:=⟨w.heap.size,8,none⟩) (jcd _) (.slice Q l.length S))
 have X:=d.cell 0 _ rfl;have g0:=d.free 0 (by simp);have k1:=d.cell 1 _ rfl;have g1:=d.free 1 (by simp);have k2:=d.cell 2 _ rfl;have g2:=d.free 2 (by simp);have k3:=d.cell 3 _ rfl;have g3:=d.free 3 (by simp);have k4:=d.cell 4 _ rfl;have g4:=d.free 4 (by simp);have k5:=d.cell 5 _ rfl;have g5:=d.free 5 (by simp);have k6:=d.cell 6 _ rfl;have g6:=d.free 6 (by simp);have k7:=d.cell 7 _ rfl;have g7:=d.free 7 (by simp);have k8:=d.cell 8 _ rfl;have g8:=d.free 8 (by simp)
 go_wp2_with fail
 refine bodyPost_ret (v:=.tuple #[.agg (List.toArray (T9 t C wall E F G H I Q l.length S)),.nilIface]) (qjt Z rfl rfl ⟨_,rfl⟩ ⟨_,rfl⟩ ⟨_,rfl⟩ ⟨_,rfl⟩ ⟨_,rfl⟩ ⟨_,rfl⟩ ⟨_,rfl⟩ ⟨_,rfl⟩ ⟨_,_,_,rfl⟩) rfl ⟨.inl ⟨⟨t,C,wall,E,F,G,H,I,l⟩,Q,S,YES.out,HW2.out,rfl⟩,aa⟩
end
section
open Go.RowKit
def qkt (S:ByteArray) (ns:List Int):ByteArray:=ns.foldl (λs n=>s++qcq 5 n) S
theorem qph {S:ByteArray} {ns:List Int} {k:Nat} (hk:k<ns.length):qkt S (ns.take (k+1))=qkt S (ns.take k)++qcq 5 (ns.getD k 0):=by
 unfold qkt;rw[jc1 hk,List.foldl_append];simp[List.getD,List.getElem?_eq_getElem hk]
theorem qiz (S:ByteArray) (ns:List Int):∀k,k<=ns.length->(qkt S (ns.take k)).size<=S.size+6*k
 |0,_=>by simp[qkt]
 |k+1,hk=>by
  rw[qph (by omega),jc4];have a:=qiz S ns k (by omega);have b:=vo 5 (ns.getD k 0);omega
variable {m:Int}
theorem jb7 (h0:0<=m):IntKind.i64.wrap (m.tmod 128)=m%128:=by
 rw[Int.tmod_eq_emod_of_nonneg h0];unfold IntKind.wrap;simp[IntKind.signed,IntKind.bits];omega
theorem jcb (h0:0<=m) (hm:m<=1099511627776):IntKind.i64.wrap (m.tdiv 128)=m/128:=by
 rw[Int.tdiv_eq_ediv_of_nonneg h0];unfold IntKind.wrap;simp[IntKind.signed,IntKind.bits];omega
theorem qtv:(Tryz.prog.info? 5).map (λi=>(i.zero,i.size,i.bytes))=some (some (.int .u8 0),1,1):=by kernel_rfl
theorem qct (B g cap:Nat) (S:ByteArray) (lb lo lc:Nat) (ns:List Int) (w:World) (hO:Own w B g cap S) (hB:B<=w.heap.size) (hne:lb≠g)
 (hC:∀i,i<ns.length->w.cell? (AD lb (lo+i))=some (U (ns.getD i 0))) (hr:∀i,i<ns.length->0<=ns.getD i 0/\ns.getD i 0<=1099511627776) (hs:S.size+6*ns.length<=900000):
 Ca 204 #[.slice (PT g) S.size cap,.slice (some (AD lb lo)) ns.length lc] w λe w'=>
  ∃S' g' cap',e=.returned (.slice (PT g') S'.size cap')/\S'=qkt S ns/\Own w' B g' cap' S'/\(g'=g\/w.heap.size<=g')/\yu g w w':=by
 have HC:=hd1 hC;have HR:=hd1 hr;clear hC hr;go_enter Tryz.func204,Tryz.ntmps204
 go_wp2_with fail
 go_loopw [0,9] (λbv i wr=>∃(k:Nat) (z:Int) (S':ByteArray) (g' cap':Nat),k<=ns.length/\z=k/\i=U z/\bv=.slice (PT g') S'.size cap'/\S'=qkt S (ns.take k)/\Own wr B g' cap' S'/\(g'=g\/w.heap.size<=g')/\yu g w wr) (λ_ i _=>ns.length-(intOf i).toNat)
 case atStart=>exact⟨0,0,S,g,cap,by omega,rfl,rfl,rfl,rfl,hO,.inl rfl,yu.refl _ _⟩
 obtain⟨k,z,S1,g1,c1,hk,hz,rfl,rfl,hS1,O1,e1,y1⟩:=hrel;have HS1:=hd1 hS1;clear hS1
 have hsz1:S1.size<=S.size+6*k:=by rw[HS1.out];exact qiz S ns k hk
 by_cases hlt:k<ns.length
 ·have x0:=y1.cell (HC.out k hlt) hne;obtain⟨r0,r1⟩:=HR.out k hlt
  have h1:z<(ns.length:Int):=by omega
  have h2:z.toNat=k:=by omega
  have h3:0<=z:=by omega
  have HZ:=hd1 hz;clear hz;have HN:=qph (S:=S) hlt;obtain⟨n,hn⟩:∃n,ns.getD k 0=n:=⟨_,rfl⟩;rw[hn]at x0 r0 r1 HN;rw[<-HS1.out]at HN;obtain⟨T,hT⟩:∃T,T=S1++qcq 5 n:=⟨_,rfl⟩;rw[<-hT]at HN;have HN2:=hd1 HN;have HT:=hd1 hT;clear HN hT hn
  have hszT:T.size<=S.size+6*k+6:=by rw[HT.out,jc4];have:=vo 5 n;omega
  go_wp2_with fail
  go_loopw [0,6] (λbv nv wi=>∃(m:Int) (f:Nat) (S2:ByteArray) (g2 c2:Nat),nv=U m/\bv=.slice (PT g2) S2.size c2/\0<=m/\m<=1099511627776/\m<128^(f+1)/\S2++qcq f m=T/\Own wi B g2 c2 S2/\(g2=g\/w.heap.size<=g2)/\yu g w wi) (λ_ nv _=>(intOf nv).toNat)
  case atStart=>exact⟨n,5,S1,g1,c1,rfl,rfl,r0,r1,by have e:(128:Int)^(5+1)=4398046511104:=by decide
                                                    rw[e];omega,HT.out.symm,O1,e1,y1⟩
  obtain⟨m,f,S2,g2,c2,rfl,rfl,m0,m1,mf,hT2,O2,e2,y2⟩:=hrel;have HT2:=hd1 hT2;clear hT2
  have hszS:S2.size<=T.size:=by rw[<-HT2.out,jc4];omega
  have q:=jcb m0 m1;have r:=jb7 m0;by_cases hm:127<m
  ·obtain⟨f,rfl⟩:∃f',f=f'+1:=by
        cases f with
        |zero=>simp at mf;omega
        |succ f=>exact⟨f,rfl⟩
   have MF:=hd1 mf;clear mf
   have hc:(wr.alloc (.cells #[.int .u8 (m%128+128)] 5)).cell? (AD wr.heap.size 0)=some (.int .u8 (m%128+128)):=by go_simp
   go_wp2_with (at_builtin;refine qbn rfl (.tmp 15) (.tmp 20) 30 30 5 rfl Tryz.underlying30 qtv rfl (O2.alloc _) (qft (m%128+128)) _ rfl (q0w Tryz.underlying30 (by omega) (by omega) 1 hc) (by rw[qcx];omega) (by have:=y2.size;simp;omega) ?_;intro S3 g3 c3 w3 hS3 O3 e3 y3)
   go_roundw
   case rel=>
        have h128:(128:Int)^(f+1+1)=128^(f+1)*128:=Int.pow_succ 128 (f+1);have hmf:=MF.out;rw[h128]at hmf;have y4:=(yu.ofBelow (boxed (jcc _ _) _)).trans y3 (.inl rfl);refine⟨m/128,f,S3,g3,c3,rfl,rfl,by omega,by omega,by omega,?_,O3,?_,y2.trans y4 e2⟩
        ·rw[hS3.out,<-HT2.out,qr8 (by omega),ByteArray.append_assoc]
        rcases e3 with rfl|rfl
        ·exact e2
        exact .inr (by have:=y2.size;simp;omega)
   simp[intOf];omega
  have hc:(wr.alloc (.cells #[.int .u8 m] 5)).cell? (AD wr.heap.size 0)=some (.int .u8 m):=by go_simp
  have MF:=hd1 mf;clear mf
  go_wp2_with (at_builtin;refine qbn rfl (.tmp 24) (.tmp 27) 30 30 5 rfl Tryz.underlying30 qtv rfl (O2.alloc _) (qft m) _ rfl (q0w Tryz.underlying30 (by omega) (by omega) 1 hc) (by rw[qcx];omega) (by have:=y2.size;simp;omega) ?_;intro S3 g3 c3 w3 hS3 O3 e3 y3)
  go_roundw
  case rel=>
   have y4:=(yu.ofBelow (boxed (jcc _ _) _)).trans y3 (.inl rfl);refine⟨k+1,z+1,S3,g3,c3,by omega,by have:=HZ.out;omega,by go_num,rfl,?_,O3,?_,y2.trans y4 e2⟩
   ·rw[hS3.out,HN2.out,<-HT2.out,qtw (by omega)]
   rcases e3 with rfl|rfl
   ·exact e2
   exact .inr (by have:=y2.size;simp;omega)
  simp[intOf];omega
 have e:k=ns.length:=by omega
 go_wp2_with fail
 go_ret;exact⟨S1,g1,c1,rfl,by rw[HS1.out,e,jc9],O1,e1,y1⟩
end
section
open Go.RowKit
theorem qj7 (S:ByteArray) (ns:List Int):(qkt S ns).size<=S.size+6*ns.length:=by
 have:=qiz S ns ns.length (jcd _)
 rwa [jc9]at this
theorem q7s (g:Bool):qcq 5 (if g then 1 else 0)=qv6 g:=by cases g<;>rfl
theorem q85 (S:ByteArray) (key:Int) (data:ByteArray) (gone:Bool):qkt S [key,if gone then 1 else 0,(data.size:Int)]++data=stepS S ⟨key,data,gone⟩:=by
 show S++qcq 5 key++qcq 5 (if gone then 1 else 0)++qcq 5 (data.size:Int)++data=S++qcq 5 key++qv6 gone++(qcq 5 (data.size:Int)++data);rw[q7s,ByteArray.append_assoc (b:=qcq 5 (data.size:Int))]
theorem q6b (d f wall j m o q r:Int) (a:Option Addr) (cap:Nat) (l:List Wr) (w:World) (K:qr w a cap l) (h:jt d f wall j m o q r l=true):
 Ca 246 #[.agg (List.toArray (T9 d f wall j m o q r a l.length cap))] w λe w'=>
  ∃S g cp,e=.returned (.tuple #[.slice (PT g) S.size cp,.nilIface])/\S=txS d f wall j m o q r l/\Own w' w.heap.size g cp S/\Bw w w':=by
 have kc:=λ(w:World) (C:Array Value) (n c:Nat)=>Lib.run_convert_bytes_const (P:=Tryz.prog) w 30 5 C n c Tryz.underlying30 Tryz.underlying5;have H:=hd1 h;have ht:=h;simp only[jt,jct,jk,jb,qdz]at ht;obtain⟨⟨⟨⟨⟨ts,tq⟩,tw,tc⟩,⟨⟨t0,t1⟩,t2⟩,t3⟩,_⟩,hok⟩:=ht;have TS:=hd4 ts tq tw tc;have TD:=hd4 t0 t1 t2 t3;have HLEN:=hd1 (qjz hok);have hall:=hd1 (qkl hok);clear hok ts tq tw tc t0 t1 t2 t3 h
 have c0:(w.alloc (.cells (List.toArray (T9 d f wall j m o q r a l.length cap)) 102)).cell? (AD w.heap.size 0)=some (U d):=by go_simp
 have c1:(w.alloc (.cells (List.toArray (T9 d f wall j m o q r a l.length cap)) 102)).cell? (AD w.heap.size 1)=some (U f):=by go_simp
 have c2:(w.alloc (.cells (List.toArray (T9 d f wall j m o q r a l.length cap)) 102)).cell? (AD w.heap.size 2)=some (U wall):=by go_simp
 have c3:(w.alloc (.cells (List.toArray (T9 d f wall j m o q r a l.length cap)) 102)).cell? (AD w.heap.size 3)=some (U j):=by go_simp
 have N:(w.alloc (.cells (List.toArray (T9 d f wall j m o q r a l.length cap)) 102)).cell? (AD w.heap.size 4)=some (U m):=by go_simp
 have O:(w.alloc (.cells (List.toArray (T9 d f wall j m o q r a l.length cap)) 102)).cell? (AD w.heap.size 5)=some (U o):=by go_simp
 have Q:(w.alloc (.cells (List.toArray (T9 d f wall j m o q r a l.length cap)) 102)).cell? (AD w.heap.size 6)=some (U q):=by go_simp
 have R:(w.alloc (.cells (List.toArray (T9 d f wall j m o q r a l.length cap)) 102)).cell? (AD w.heap.size 7)=some (U r):=by go_simp
 have D:(w.alloc (.cells (List.toArray (T9 d f wall j m o q r a l.length cap)) 102)).cell? (AD w.heap.size 8)=some (.slice a l.length cap):=by go_simp
 go_enter Tryz.func246,Tryz.ntmps246
 go_wp2_with fail
 refine(qex (K.later (boxed (jcc _ _) _)) H.out).mono ?_;rintro e t ⟨rfl,v⟩;replace c0:=cell_later v c0;replace c1:=cell_later v c1;replace c2:=cell_later v c2;replace c3:=cell_later v c3;replace N:=cell_later v N;replace O:=cell_later v O;replace Q:=cell_later v Q;replace R:=cell_later v R;replace D:=cell_later v D;have hbw:=qa (boxed (jcc _ _) _) v;replace K:=K.later hbw;clear v;have hlt:w.heap.size<t.heap.size:=jcr _ _ c0;have T:=hd1 hlt
 go_wp2_with fail
 refine(qct t.heap.size t.heap.size 1 (qft 116) (t.heap.size+1) 0 4 [d,f,wall,j] _ ((Own.one t t.heap.size _ (by omega) (by omega) (jcd _)).alloc _) (by simp;omega) (by omega) ?_ ?_ (by rw[qcx];simp)).mono ?_
 ·intro i hi
  have s:i=0\/i=1\/i=2\/i=3:=by simp at hi;omega
  rcases s with rfl|rfl|rfl|rfl<;>go_simp
 ·intro i hi
  have s:i=0\/i=1\/i=2\/i=3:=by simp at hi;omega
  obtain⟨V,W,q2,q3⟩:=TS.out;rcases s with rfl|rfl|rfl|rfl
  ·exact⟨V.1,Int.le_trans V.2 (by decide)⟩
  ·exact⟨Int.le_trans (by decide) W.1,W.2⟩
  ·exact q2
  exact q3
 rintro e w2 ⟨S1,g1,cap1,rfl,hS1,O1,e1,X⟩;have HS1:=hd1 hS1;have y:=(boxed (boxed (jcc _ _) _) _).trans (X.below (jcd _) (by simp;omega));have HG:=hd1 O1.base
 have hz1:S1.size<=25:=by rw[HS1.out];exact qj7 (qft 116) [d,f,wall,j]
 clear hS1 X e1;replace N:=cell_later y N;replace O:=cell_later y O;replace Q:=cell_later y Q;replace R:=cell_later y R;replace D:=cell_later y D;clear c0 c1 c2 c3
 go_wp2_with fail
 refine(qct t.heap.size g1 cap1 S1 w.heap.size 4 4 [m,o,q,r] w2 O1 y.size (by have:=HG.out;have:=T.out;omega) ?_ ?_ ?_).mono ?_
 ·intro i hi
  have s:i=0\/i=1\/i=2\/i=3:=by simp at hi;omega
  rcases s with rfl|rfl|rfl|rfl
  ·exact N
  ·exact O
  ·exact Q
  exact R
 ·intro i hi
  have s:i=0\/i=1\/i=2\/i=3:=by simp at hi;omega
  obtain⟨V,W,q2,q3⟩:=TD.out;rcases s with rfl|rfl|rfl|rfl
  ·exact V
  ·exact W
  ·exact q2
  exact q3
 ·exact jcn (Nat.add_le_add_right hz1 _) (by simp)
 rintro e w3 ⟨S2,g2,cap2,rfl,hS2,O2,e2,Y⟩;have HS2:=hd1 hS2;have Z:=y.trans (Y.below HG.out y.size)
 have hz2:S2.size<=49:=by rw[HS2.out];exact jcn (qj7 S1 [m,o,q,r]) (Nat.add_le_add_right hz1 24)
 have HG2:=hd1 O2.base;replace D:w3.cell? (AD w.heap.size 8)=some (.slice a l.length cap):=(Y.below (B:=t.heap.size) HG.out y.size).cell (p:=AD w.heap.size 8) T.out▸D;clear hS2 Y e2 y N O Q R
 go_wp2_with fail
 refine(qct t.heap.size g2 cap2 S2 w3.heap.size 0 1 [(l.length:Int)] _ (O2.alloc _) (by have:=Z.size;simp;omega) (by have:=O2.lt;omega) ?_ ?_ ?_).mono ?_
 ·intro i hi
  obtain rfl:i=0:=by simpa using hi
  go_simp
 ·intro i hi
  obtain rfl:i=0:=by simpa using hi
  have:=HLEN.out;show 0<=(l.length:Int)/\(l.length:Int)<=1099511627776;omega
 ·exact jcn (Nat.add_le_add_right hz2 _) (by simp)
 rintro e w4 ⟨S3,g3,cap3,rfl,hS3,O3,e3,y3⟩
 have HS3:Hid (S3=qnh d f wall j m o q r l.length):=by show S3=_;rw[hS3,HS2.out,HS1.out];rfl
 have hb34:=((jcc _ _).alloc Z.size _).trans (y3.below HG2.out (by have:=Z.size;simp;omega));have hb4:=Z.trans hb34;replace D:w4.cell? (AD w.heap.size 8)=some (.slice a l.length cap):=hb34.cell (p:=AD w.heap.size 8) T.out▸D
 obtain⟨b,off,rfl,C⟩:∃b off,a=some (AD b off)/\qbo t b off l:=by
  rcases K.held with h0|h0
  ·have:=HLEN.out;rw[h0]at this;simp at this
  exact h0
 have hcap:=K.cap;have hlc:=K.len;clear K hS3 y3 e3 hb34 O2 hz2 HG2 HG O1 hz1 Z
 go_wp2_with fail
 clear D
 go_loopw [4,39] (λbv i wr=>∃(k:Nat) (z:Int) (S':ByteArray) (g' cap':Nat),k<=l.length/\z=k/\i=U z/\bv=.slice (PT g') S'.size cap'/\S'=wrS (qnh d f wall j m o q r l.length) (l.take k)/\Own wr t.heap.size g' cap' S'/\Bw t wr) (λ_ i _=>l.length-(intOf i).toNat)
 case atStart=>exact⟨0,0,S3,g3,cap3,by omega,rfl,rfl,rfl,HS3.out,O3,hb4⟩
 clear O3 hb4;obtain⟨k,z,F,g5,cap5,hk,hz,rfl,rfl,hS5,G,u⟩:=hrel;have HS5:=hd1 hS5;clear hS5
 have hsz:F.size<=55+25*k:=by
  rw[HS5.out];exact jcn (qor hall.out k hk) (Nat.add_le_add_right (qos _ _ _ _ _ _ _ _ _) _)
 have hlen:=HLEN.out;by_cases hlt2:k<l.length
 ·obtain⟨x0,x1,x2⟩:=(C.later u) k hlt2
  have h1:z<(l.length:Int):=by omega
  have h2:z.toNat=k:=by omega
  have h3:0<=z:=by omega
  have HZ:=hd1 hz;clear hz;have hkey:=qoy (hall.out k hlt2);have hsize:=qmq (hall.out k hlt2);obtain⟨⟨key,data,gone⟩,hx⟩:∃x,qa7 l k=x:=⟨_,rfl⟩;rw[hx]at x0 x1 x2 hkey hsize;have HX:=hd1 hx;clear hx;simp only at x0 x1 x2 hkey hsize;obtain⟨V,W⟩:=hkey
  have E:Hid (∀I,I=qkt F [key,if gone then 1 else 0,(data.size:Int)]->I++data=wrS (qnh d f wall j m o q r l.length) (l.take (k+1))):=λI h6=>by
   rw[h6,q85,qu5 hlt2,HX.out,HS5.out]
  obtain⟨J,hgi⟩:∃J:Int,J=if gone then 1 else 0:=⟨_,rfl⟩
  rw[<-hgi]at E
  have Hgi:Hid (0<=J/\J<=1):=by
   show 0<=J/\J<=1;rw[hgi]
   cases gone<;>decide
  have X:(wr.alloc (.cells #[U key,.string data,.bool gone] 100)).cell? (AD wr.heap.size 1)=some (.string data):=by go_simp
  have y1':((wr.alloc (.cells #[U key,.string data,.bool gone] 100)).alloc (.cells #[U key,U J,U (data.size:Int)] 3)).cell? (AD wr.heap.size 1)=some (.string data):=by go_simp
  cases gone
  ·obtain rfl:J=0:=hgi
   go_wp2_with fail
   refine(qct t.heap.size g5 cap5 F (wr.heap.size+1) 0 3 [key,0,(data.size:Int)] _ ((G.alloc _).alloc _) (by have:=u.size;simp;omega) (by have:=G.lt;omega) ?_ ?_ ?_).mono ?_
   ·intro i hi
    have s:i=0\/i=1\/i=2:=by simp at hi;omega
    rcases s with rfl|rfl|rfl<;>go_simp
   ·intro i hi
    have s:i=0\/i=1\/i=2:=by simp at hi;omega
    rcases s with rfl|rfl|rfl
    ·show 0<=key/\key<=1099511627776;omega
    ·show (0:Int)<=0/\(0:Int)<=1099511627776
     decide
    show 0<=(data.size:Int)/\(data.size:Int)<=1099511627776;omega
   ·simp;omega
   rintro e w6 ⟨I,g6,cap6,rfl,hS6,O6,e6,L⟩;have HS6:=hd1 hS6
   have hz6:I.size<=F.size+18:=by rw[HS6.out];exact qj7 F [key,0,(data.size:Int)]
   have M:=(u.trans (((jcc _ _).alloc u.size _).alloc (by have:=u.size;simp;omega) _)).trans (L.below G.base (by have:=u.size;simp;omega));have Y:=L.cell y1' (by have:=G.lt;show wr.heap.size≠g5;omega);clear hS6 L e6 X y1'
   go_wp2_with (at_builtin;refine qbn rfl (.tmp 54) (.tmp 56) 30 9 5 rfl Tryz.underlying30 qtv rfl O6 data _ rfl (Src.ofString _ Tryz.underlying9 data) (by omega) M.size ?_;intro S7 g7 cap7 w7 hS7 O7 e7 y7)
   go_roundw
   case rel=>exact⟨k+1,z+1,S7,g7,cap7,by omega,by have:=HZ.out;omega,by go_num,rfl,by rw[hS7.out];exact E.out I HS6.out,O7,M.trans (y7.below O6.base M.size)⟩
   simp[intOf];omega
  obtain rfl:J=1:=hgi
  go_wp2_with fail
  refine(qct t.heap.size g5 cap5 F (wr.heap.size+1) 0 3 [key,1,(data.size:Int)] _ ((G.alloc _).alloc _) (by have:=u.size;simp;omega) (by have:=G.lt;omega) ?_ ?_ ?_).mono ?_
  ·intro i hi
   have s:i=0\/i=1\/i=2:=by simp at hi;omega
   rcases s with rfl|rfl|rfl<;>go_simp
  ·intro i hi
   have s:i=0\/i=1\/i=2:=by simp at hi;omega
   rcases s with rfl|rfl|rfl
   ·show 0<=key/\key<=1099511627776;omega
   ·show (0:Int)<=1/\(1:Int)<=1099511627776
    decide
   show 0<=(data.size:Int)/\(data.size:Int)<=1099511627776;omega
  ·simp;omega
  rintro e w6 ⟨I,g6,cap6,rfl,hS6,O6,e6,L⟩;have HS6:=hd1 hS6
  have hz6:I.size<=F.size+18:=by rw[HS6.out];exact qj7 F [key,1,(data.size:Int)]
  have M:=(u.trans (((jcc _ _).alloc u.size _).alloc (by have:=u.size;simp;omega) _)).trans (L.below G.base (by have:=u.size;simp;omega));have Y:=L.cell y1' (by have:=G.lt;show wr.heap.size≠g5;omega);clear hS6 L e6 X y1'
  go_wp2_with (at_builtin;refine qbn rfl (.tmp 54) (.tmp 56) 30 9 5 rfl Tryz.underlying30 qtv rfl O6 data _ rfl (Src.ofString _ Tryz.underlying9 data) (by omega) M.size ?_;intro S7 g7 cap7 w7 hS7 O7 e7 y7)
  go_roundw
  case rel=>exact⟨k+1,z+1,S7,g7,cap7,by omega,by have:=HZ.out;omega,by go_num,rfl,by rw[hS7.out];exact E.out I HS6.out,O7,M.trans (y7.below O6.base M.size)⟩
  simp[intOf];omega
 have e:k=l.length:=by omega
 go_wp2_with fail
 go_ret2;exact⟨F,g5,cap5,rfl,by rw[HS5.out,e,jc9];rfl,G.mono (by have:=T.out;omega),hbw.trans (u.mono (by have:=T.out;omega))⟩
end
section
open Go.RowKit
theorem q17 (a a0 a1 a2 a3:Int) (w:World) (h:inB a 0 3=true) (p:jb a0 a1 a2 a3=true):
 Ca 142 #[U a,.agg #[U a0,U a1,U a2,U a3]] w λe w'=>
  ∃S g cap,e=.returned (.tuple #[.slice (PT g) S.size cap,.nilIface])/\S=q1e a a0 a1 a2 a3/\Own w' w.heap.size g cap S/\Bw w w':=by
 have H:=hd1 h;have G:=hd1 p;have t:=jk.1 h;have q:=p;simp only[jb,jct,qdz]at q;have I:=hd1 q;have J:=hd1 t;clear h p q t;have X:=λ(w:World) (C:Array Value) (n c:Nat)=>Lib.run_convert_bytes_const (P:=Tryz.prog) w 30 5 C n c Tryz.underlying30 Tryz.underlying5;obtain⟨b,d,f,j,_,_,_,_⟩:=qo.new w 77 a0 a1 a2 a3;go_enter Tryz.func142,Tryz.ntmps142
 go_wp2_with fail
 refine(qhv H.out _).mono ?_;rintro e Y ⟨rfl,k⟩;replace b:=cell_later k b;replace d:=cell_later k d;replace f:=cell_later k f;replace j:=cell_later k j
 go_wp2_with fail
 refine(qh7 G.out _).mono ?_;rintro e w2 ⟨rfl,l⟩;replace b:=cell_later l b;replace d:=cell_later l d;replace f:=cell_later l f;replace j:=cell_later l j;have u:w.heap.size<w2.heap.size:=jcr _ _ b;have o:=qa (qa (boxed (jcc _ _) _) k) l;clear k l;have r:=hd1 u;clear u
 go_wp2_with fail
 have v:((w2.alloc (.cells #[.int .u8 97] 5 (1,2))).alloc (.cells #[U a] 3)).cell? (AD (w2.heap.size+1) 0)=some (U a):=by go_simp
 refine(qct w2.heap.size w2.heap.size 1 (qft 97) (w2.heap.size+1) 0 1 [a] _ ((Own.one w2 w2.heap.size _ (by omega) (by omega) (jcd _)).alloc _) (by simp;omega) (by omega) ?_ ?_ (by rw[qcx];simp)).mono ?_
 ·intro i hi
  obtain rfl:i=0:=by simpa using hi
  exact v
 ·intro i hi
  obtain rfl:i=0:=by simpa using hi
  show 0<=a/\a<=1099511627776;have:=J.out;omega
 rintro e K ⟨x,L,M,rfl,y,z,N,B⟩;have D:=hd1 y;have m:=(boxed (boxed (jcc _ _) _) _).trans (B.below (jcd _) (by simp;omega));have E:=hd1 z.base;clear y v B N;replace b:=cell_later m b;replace d:=cell_later m d;replace f:=cell_later m f;replace j:=cell_later m j;replace o:=qa o m
 go_wp2_with fail
 refine(qct w2.heap.size L M x w.heap.size 0 4 [a0,a1,a2,a3] K z m.size (by have:=E.out;have:=r.out;omega) ?_ ?_ ?_).mono ?_
 ·intro i hi
  have s:i=0\/i=1\/i=2\/i=3:=by simp at hi;omega
  rcases s with rfl|rfl|rfl|rfl
  ·exact b
  ·exact d
  ·exact f
  exact j
 ·intro i hi
  have s:i=0\/i=1\/i=2\/i=3:=by simp at hi;omega
  have:=I.out;rcases s with rfl|rfl|rfl|rfl
  ·exact this.1.1.1
  ·exact this.1.1.2
  ·exact this.1.2
  exact this.2
 ·have:x.size<=7:=by
   rw[D.out];have:=qiz (qft 97) [a] 1 (jcd _);simpa[qcx]using this
  simp;omega
 rintro e Z ⟨O,Q,R,rfl,F,T,e2,V⟩;have W:=hd1 F;clear F
 go_wp2_with fail
 go_ret2;refine⟨O,Q,R,rfl,?_,T.mono (by have:=r.out;omega),o.trans (V.below (by have:=E.out;have:=r.out;omega) o.size)⟩;rw[W.out,D.out];rfl
end
section
open Go.RowKit
theorem qr6 (S:ByteArray) (j:Nat) (u:UInt8) (h:(toL S)[j]?=some u):(byteCells S)[j]?=some (.int .u8 u.toNat):=by
 unfold byteCells;rw[jcv];show ((toL S)[j]?).map _=_;rw[h];rfl
variable {w:World} {B g:Nat} {S:ByteArray}
theorem Own.bytes {cap:Nat} (h:Own w B g cap S) (r:Nat):qa5 w w.heap.size (PT g) ((toL S).take r):=by
 refine .inr ⟨g,0,rfl,h.lt,λj u a=>?_⟩;rw[Nat.zero_add];refine h.have_ j _ (qr6 S j u ?_);rw[List.getElem?_take]at a;split at a
 ·exact a
 cases a
theorem Own.all {cap:Nat} (h:Own w B g cap S):qa5 w w.heap.size (PT g) (toL S):=by
 have:=h.bytes (toL S).length
 rwa [jc9]at this
variable {L:List UInt8}
theorem qy2 {x:TxV} (d:ql3 L x) (a:Option Addr) (b c:Nat) (h:L.length=b) (w:World) (i:qa5 w w.heap.size a L) (j:b<=c) (k:b<=1000000):
 Ca 209 #[.slice a b c] w λe w'=>∃a2 f,e=.returned (.tuple #[.agg (List.toArray (T9 x.site x.seq x.wall x.count x.d0 x.d1 x.d2 x.d3 a2 x.l.length f)),.nilIface])/\qr w' a2 f x.l/\Bw w w':=by
 subst h;refine(qq5 a L c w i j k).mono λe w' m=>?_;rcases m with ⟨⟨y,n,o,p,q,r⟩|⟨s,_⟩,t⟩
 ·obtain rfl:=q6h d p;exact⟨n,o,r,q,t⟩
 exact absurd d (s x)
theorem q08 (f:∀x,¬ql3 L x) (a:Option Addr) (b c:Nat) (h:L.length=b) (w:World) (i:qa5 w w.heap.size a L) (j:b<=c) (k:b<=1000000):
 Ca 209 #[.slice a b c] w (Rn (.tuple #[.agg ZA,.iface 26 (U 3)]) w):=by
 subst h;refine(qq5 a L c w i j k).mono λe w' l=>?_;rcases l with ⟨⟨y,o,p,m,q,d⟩|⟨r,d⟩,n⟩
 ·exact absurd m (f y)
 exact⟨d,n⟩
theorem qws {x:qho} (d:qdj L x) (a:Option Addr) (b c:Nat) (f:L.length=b) (w:World) (h:qa5 w w.heap.size a L) (i:b<=c) (j:b<=1000000):
 Ca 211 #[.slice a b c] w (Rn (.tuple #[U x.site,.agg #[U x.a0,U x.a1,U x.a2,U x.a3],.nilIface]) w):=by
 subst f;refine(qxc a L c w h i j).mono λe w' k=>?_;rcases k with ⟨⟨y,l,m⟩|⟨n,_⟩,o⟩
 ·obtain rfl:=qwl d l;exact⟨m,o⟩
 exact absurd d (n x)
theorem qvb {a a0 a1 a2 a3:Int} (h:qho.ok ⟨a,a0,a1,a2,a3⟩=true) (w:World):
 Ca 142 #[U a,.agg #[U a0,U a1,U a2,U a3]] w λe w'=>∃S g b,e=.returned (.tuple #[.slice (PT g) S.size b,.nilIface])/\(qdj (toL S) ⟨a,a0,a1,a2,a3⟩/\0<S.size)/\S.size<=1000000/\Own w' w.heap.size g b S/\Bw w w':=by
 have d:inB a 0 3=true/\jb a0 a1 a2 a3=true:=by simpa[qho.ok]using h
 refine(q17 a a0 a1 a2 a3 w d.1 d.2).mono λe w' ⟨S,g,b,f,c,O,i⟩=>⟨S,g,b,f,⟨⟨h,by rw[c];rfl⟩,?_⟩,?_,O,i⟩
 ·rw[c,<-yh,qhy];simp[q1a]
 rw[c];have j:=vo 5 a;have k:=vo 5 a0;have l:=vo 5 a1;have m:=vo 5 a2;have n:=vo 5 a3;have z:(⟨#[97]⟩:ByteArray).size=1:=rfl;simp only[q1e,jc4];omega
theorem qw5 {b c wall d f i j k:Int} {a:Option Addr} {cap:Nat} {l:List Wr} (p:qr w a cap l) (h:jt b c wall d f i j k l=true):
 Ca 246 #[.agg (List.toArray (T9 b c wall d f i j k a l.length cap))] w λe w'=>∃S g m,e=.returned (.tuple #[.slice (PT g) S.size m,.nilIface])/\(ql3 (toL S) ⟨b,c,wall,d,f,i,j,k,l⟩/\0<S.size)/\S.size<=1000000/\Own w' w.heap.size g m S/\Bw w w':=by
 refine(q6b b c wall d f i j k a cap l w p h).mono λe w' ⟨S,g,m,q,n,O,r⟩=>⟨S,g,m,q,⟨⟨h,by rw[n];rfl⟩,?_⟩,?_,O,r⟩
 ·rw[n,<-yh,qkb];simp[qrk]
 have o:=(qlw (x:=⟨b,c,wall,d,f,i,j,k,l⟩) h).2.2.2.2.2.2.2.2;have t:=qjz o;simp only at t;have u:=qor (s:=qnh b c wall d f i j k l.length) (qkl o) l.length (jcd _);have v:=qos b c wall d f i j k l.length;rw[jc9]at u;rw[n];unfold txS;omega
end
section
open Go.RowKit
theorem qpd {x:Int} (a:0<=x) (c:x<=1099511627776):wrap64 (x+1)=x+1:=by
 unfold wrap64;omega
variable {W:World} {b:Nat}
theorem qiu {k:Nat} (h:k≠b) (x0 x1 x2 x3 a c d e:Int) (v:Value):(js W b x0 x1 x2 x3 a c d e v).heap[k]?=W.heap[k]?:=
 (jce _ _ _ _ h).trans ((jce _ _ _ _ h).trans ((jce _ _ _ _ h).trans ((jce _ _ _ _ h).trans ((jce _ _ _ _ h).trans ((jce _ _ _ _ h).trans ((jce _ _ _ _ h).trans ((jce _ _ _ _ h).trans (jce _ _ _ _ h))))))))
variable {w:World}
theorem qjn {g c:Nat} {ws:List Wr} (h:w.ownsRow 0 100 3 (.slice (PT g) (0+ws.length) c) (0+ws.length) ([]++qcf ws)):qr w (PT g) c ws:=by
 rw[Nat.zero_add,jda]at h;obtain⟨a,f,e,d⟩:=qbg h;injection e with e1 e2 e3;subst e1 e3;exact d
variable {F:Nat->Prop}
theorem qbh {p:Addr} (h:qc F w W) (d:w.heap.size<=p.block) (v:Value):qc F w (W.setCell p v):=
 ⟨h.os,h.tape,h.output,by simpa[World.setCell]using h.size,λk a c=>(jce _ _ _ _ (by omega)).trans (h.block k a c)⟩
theorem q2r (h:qc F w W) (a:w.heap.size<=b) (x0 x1 x2 x3 c d e f:Int) (v:Value):qc F w (js W b x0 x1 x2 x3 c d e f v):=
 qbh (qbh (qbh (qbh (qbh (qbh (qbh (qbh (qbh h a _) a _) a _) a _) a _) a _) a _) a _) a _
end
section
open Go.RowKit
theorem qut (l:List TxM):(zw l).length=l.length*9:=by
 induction l with
 |nil=>rfl
 |cons x l ih=>
  show (txC x++zw l).length=_;rw[jcl,ih];simp[txC];omega
theorem q51 (l:List TxM):∀u∈zw l,u.oneCell'=true:=by
 intro u a;obtain⟨x,_,b⟩:=List.mem_flatMap.1 a;exact qih x u b
theorem quv:∀(l:List TxM) (j:Nat) (u:Value),(zw l)[j]?=some u->∃m,l[j/9]?=some m/\(txC m)[j%9]?=some u
 |[],j,u,h=>by simp[zw]at h
 |x::l,j,u,h=>by
  have e:zw (x::l)=txC x++zw l:=rfl;rw[e]at h;have a:(txC x).length=9:=rfl;by_cases b:j<9
  ·rw[jc3 (by rw[a];exact b)]at h;exact⟨x,by rw[Nat.div_eq_of_lt b];rfl,by rw[Nat.mod_eq_of_lt b];exact h⟩
  rw[jc0 (by rw[a];omega),a]at h;obtain⟨m,d,f⟩:=quv l (j-9) u h;refine⟨m,?_,?_⟩
  ·rw[show j/9=(j-9)/9+1 by omega];simpa using d
  rw[show j%9=(j-9)%9 by omega];exact f
variable {l:List TxM}
theorem q5c {w:World} {a b:Nat} (h:∀i m r u,l[i]?=some m->(txC m)[r]?=some u->w.cell? (AD a (b+(i*9+r)))=some u):∀j u,(zw l)[j]?=some u->w.cell? (((AD a b):Addr).add j)=some u:=λj u d=>by
 obtain⟨m,e,f⟩:=quv l j u d
 have k:((AD a b):Addr).add j=(AD a (b+j)):=by unfold Addr.add;split<;>simp_all
 rw[k];have:=h (j/9) m (j%9) u e f;rw[show j/9*9+j%9=j by omega]at this;exact this
theorem qnv (w:World) (a:TypeId) (g n cap c:Nat) (b:n<=cap):(Builtin.append_ #[80,80] a #[.slice (PT g) n cap,.slice none 0 c]).run Tryz.prog w=.ok (.slice (PT g) n cap) w:=by
 simp[Builtin.append_,go_sem,Builtin.lenOf,Builtin.firstCells,b]
variable {g n c:Nat} {xs:List Value}
theorem qqd (w:World) (f:TypeId) {cap:Nat} (b:w.ownsRow 0 102 9 (.slice (PT g) n cap) n xs) {a:Option Addr} (m:qdy w a c l) (E:n+l.length<=2000):
 ∃g' d w',(Builtin.append_ #[80,80] f #[.slice (PT g) n cap,.slice a l.length c]).run Tryz.prog w=.ok (.slice (PT g') (n+l.length) d) w'/\
  w'.ownsRow 0 102 9 (.slice (PT g') (n+l.length) d) (n+l.length) (xs++zw l)/\w.grownBy w' (some g)/\(g'=g\/g'=w.heap.size)/\g'<w'.heap.size:=by
 obtain⟨o,hi,p,q,r⟩:=info_parts qpi;have s:=(b.lt g (by simp[Value.ownBlock])).2
 have t:n<=cap:=by
  rcases b.2 with ⟨h,_⟩|⟨F,G,cur,e,_,_,i,_⟩
  ·cases h
  injection e with _ _ e3;rw[e3];exact i
 cases a with
 |none=>
  have v:l=[]:=by
   rcases m.held with h|⟨_,_,h,_⟩
   ·exact h
   cases h
  subst v;refine⟨g,cap,w,qnv w f g n cap c t,?_,⟨rfl,rfl,rfl,jcd _,λ_ _ _=>rfl⟩,.inl rfl,s⟩;show w.ownsRow 0 _ 9 _ n (xs++[]);rw[jdx];exact b
 |some ad=>
  have x:∀j u,(zw l)[j]?=some u->w.cell? (ad.add j)=some u:=by
   rcases m.held with h|⟨H,I,h,y⟩
   ·subst h;intro j u z;simp[zw]at z
   injection h with h;subst h;exact q5c y
  obtain⟨v',w',B,k,i,C,D⟩:=run_append_own_at (P:=Tryz.prog) w 0 80 f 102 o (.agg ZA) 9 88 Tryz.underlying80 hi p q r rfl (by decide) (.slice (PT g) n cap) n xs b ad l.length c (zw l) (qut l) x (q51 l) (by simp only[maxLen];omega) (by omega) (jcw _);rcases k.2 with ⟨e,_⟩|⟨g',d,cur,rfl,_,_⟩
  ·have:=(C.1 e).1;cases this
  refine⟨g',d,w',B,k,i,?_,(k.lt g' (by simp[Value.ownBlock])).2⟩;rcases D with h|h
  ·exact .inl (by simpa[Value.ownBlock]using h)
  exact .inr (by simpa[Value.ownBlock]using h)
theorem vt {d:Array Oper} {o:Oper} {a:Act} {K:Act->World->Prop} {Q:Exit->Act->World->Prop} {E:Prop} (w:World) (e:o.guard=none) (s x:Operand) (f:o.op=.call {callee:=.builtin .append,args:=#[s,x],argTypes:=#[80,80]})
 {cap:Nat} (i:a.eval s=.slice (PT g) n cap) (j:w.ownsRow 0 102 9 (.slice (PT g) n cap) n xs) {sa:Option Addr} (k:a.eval x=.slice sa l.length c) (m:qdy w sa c l) (p:n+l.length<=2000)
 (h:∀g' b w',w'.ownsRow 0 102 9 (.slice (PT g') (n+l.length) b) (n+l.length) (xs++zw l)->w.grownBy w' (some g)->(g'=g\/g'=w.heap.size)->g'<w'.heap.size->K (a.put o.dst (.slice (PT g') (n+l.length) b)) w'):
 if Region.wanted o (yielded d a.tmps)=true then Oper.wp Tryz.prog o a w K Q else E:=by
 have q:Region.wanted o (yielded d a.tmps)=true:=by simp[Region.wanted,e]
 rw[if_pos q];obtain⟨g',b,w',r,t,u,v,y⟩:=qqd w o.type j m p;unfold Oper.wp execOp;simp only[f,resolve,invoke,builtin,Sem.run_bind,Sem.run_pure,Result.andThen_ok,List.map_toArray,List.map_cons,List.map_nil,i,k,r];exact h g' b w' t u v y
end
section
open Go.RowKit
theorem qh4 (w:World) {n:Nat} (T:TypeId) (a:w.heap.size=n):(w.alloc (.cells #[] T)).ownsRow 0 T 9 (.slice (PT n) 0 0) 0 []:=by
 subst a;exact⟨rfl,.inr ⟨w.heap.size,0,#[],rfl,jcw _,heap_alloc_new w (.cells #[] T),jcd _,by decide,rfl,rfl⟩⟩
variable {w:World}
theorem qdy.one {M:Nat} {m:TxM} (h:qd w M (txC m)):qdy w (PT M) 1 [m]:=by
 refine⟨jcd _,by omega,.inr ⟨M,0,rfl,λi x r u hi a=>?_⟩⟩
 have b:i=0:=by
  have:=(jck.1 hi).1;simp at this;exact this
 subst b;simp at hi;subst hi;simpa using h.cell r u a
variable {wb c:Nat} {l:List TxM}
theorem qdy.take {b:Nat} (h:qdy w (some (AD wb b)) c l) (k:Nat) (o:k<=l.length):qdy w (some (AD wb b)) c (l.take k):=by
 refine⟨by rw[jc5];have:=h.len;omega,h.cap,?_⟩;rcases h.held with d|⟨f,g,e,j⟩
 ·exact .inl (by rw[d];simp)
 refine .inr ⟨f,g,e,λi m r u a n=>j i m r u ?_ n⟩;rw[List.getElem?_take]at a;split at a
 ·exact a
 cases a
theorem qdy.drop {a:Nat} (h:qdy w (some (AD wb a)) c l) (k:Nat) (j:k<=l.length):qdy w (some (AD wb (a+k*9))) (c-k) (l.drop k):=by
 refine⟨by rw[jdt];have:=h.len;omega,by have:=h.cap;omega,?_⟩;rcases h.held with d|⟨n,o,e,f⟩
 ·exact .inl (by rw[d];simp)
 injection e with e;injection e with e1 e2;subst e1 e2;refine .inr ⟨_,_,rfl,λi m r u b g=>?_⟩;rw[List.getElem?_drop]at b;have:=f (k+i) m r u b g;rw[show a+k*9+(i*9+r)=a+((k+i)*9+r) by omega];exact this
theorem qjs (l a:List TxM):zw (l++a)=zw l++zw a:=by simp[zw]
end
section
open Go.RowKit
structure V4 where
 v0:Int
 v1:Int
 v2:Int
 v3:Int
def qj (S:qe):Nat->V4
 |0=>⟨S.a0,S.a1,S.a2,S.a3⟩
 |k+1=>if (k:Int)=S.id then qj S k else ⟨qm (qj S k).v0 (S.oth (k*4)),qm (qj S k).v1 (S.oth (k*4+1)),qm (qj S k).v2 (S.oth (k*4+2)),qm (qj S k).v3 (S.oth (k*4+3))⟩
theorem q27 {S:qe} {lv wv sv:Value} {k:Nat} (a:k<4):(vz S lv wv sv)[10+k*4]?=some (U (S.oth (k*4)))/\(vz S lv wv sv)[10+k*4+1]?=some (U (S.oth (k*4+1)))/\(vz S lv wv sv)[10+k*4+2]?=some (U (S.oth (k*4+2)))/\(vz S lv wv sv)[10+k*4+3]?=some (U (S.oth (k*4+3))):=by
 match k,a with
 |0,_=>exact⟨rfl,rfl,rfl,rfl⟩
 |1,_=>exact⟨rfl,rfl,rfl,rfl⟩
 |2,_=>exact⟨rfl,rfl,rfl,rfl⟩
 |3,_=>exact⟨rfl,rfl,rfl,rfl⟩
theorem qj9 {w W:World} {b:Nat} (h:Bw w W) (a:w.heap.size<=b) (x0 x1 x2 x3:Int):Bw w ((((W.setCell (AD b 0) (U x0)).setCell (AD b 1) (U x1)).setCell (AD b 2) (U x2)).setCell (AD b 3) (U x3)):=
 (((h.setCell a _).setCell a _).setCell a _).setCell a _
structure StM (w:World) (S:qe) (k:Nat) (wr:World):Prop where
 r:qo wr w.heap.size 0 0 0 0
 v:qo wr (w.heap.size+1) (qj S k).v0 (qj S k).v1 (qj S k).v2 (qj S k).v3
 b:Bw w wr
end
section
open Go.RowKit
def jw (n:Int):Nat:=min 4 n.toNat
end
section
open Go.RowKit
def qlv (a0 a1 a2 a3:Int) (l:List Hd) (k:Nat):List Value:=qej a0 a1 a2 a3 l k++List.replicate (8-k) (.string ⟨#[]⟩)
theorem qij (a0 a1 a2 a3:Int) (l:List Hd) (k:Nat):(qej a0 a1 a2 a3 l k).length=k:=by simp[qej]
variable {a0 a1 a2 a3:Int} {l:List Hd} {k:Nat}
theorem q38 (a:k<8):(qlv a0 a1 a2 a3 l k).set k (.string (qdf a0 a1 a2 a3 l k))=qlv a0 a1 a2 a3 l (k+1):=by
 unfold qlv;rw[List.set_append_right _ _ (by rw[qij];omega),qij,Nat.sub_self,qi3,show 8-k=8-(k+1)+1 by omega,List.replicate_succ,List.set_cons_zero,jcy];rfl
theorem q25 (a:k<8) (h:qdf a0 a1 a2 a3 l k=⟨#[]⟩):qlv a0 a1 a2 a3 l k=qlv a0 a1 a2 a3 l (k+1):=by
 unfold qlv;rw[qi3,h,show 8-k=8-(k+1)+1 by omega,List.replicate_succ,jcy];rfl
end
section
open Go.RowKit
def qmf (Ls:Nat->List Ver):Nat->Nat
 |0=>0
 |k+1=>qmf Ls k+(Ls k).length
theorem qv1 (a:Nat->List Ver):∀{k m:Nat},k<=m->qmf a k<=qmf a m
 |k,0,h=>by obtain rfl:k=0:=by omega
            exact jcd _
 |k,m+1,h=>by
  rcases jc7 k (m+1)with b|b
  ·exact jcn (qv1 a (by omega)) (Nat.le_add_right _ _)
  obtain rfl:k=m+1:=by omega
  exact jcd _
theorem q4n (x:Nat->Value) {k:Nat} (a:k<8) {z:Int} (b:z=k) (w:World):(Instr.index 216 (.agg #[x 0,x 1,x 2,x 3,x 4,x 5,x 6,x 7]) (U z)).run Tryz.prog w=.ok (x k) w:=by
 subst b
 rcases q6q a with rfl|rfl|rfl|rfl|rfl|rfl|rfl|rfl<;>kernel_rfl
end
section
open Go.RowKit
theorem q2y {b g:Nat} {F:Nat->Prop} {l:List Hd} (w:World) (s:qir w b g F l) (L:l.length<=1000):
 Ca 218 #[.pointer (some (AD b g))] w (Rn (U l.length) w):=by
 obtain⟨j,d,R,t,M⟩:=id s;have u:(w).cell? (AD b g)=some (j 0):=R.cell (k:=0) (by omega);have v:=R.cell (k:=1) (by omega);have x:=R.cell (k:=2) (by omega);have B:=R.cell (k:=3) (by omega);have C:=R.cell (k:=4) (by omega);have D:=R.cell (k:=5) (by omega);have E:=R.cell (k:=6) (by omega);have G:=R.cell (k:=7) (by omega)
 have m:qmf d 8=l.length:=by
  have:=t.count;simp only[qmf];omega
 have n:=hd1 m;clear m;go_enter Tryz.func218,Tryz.ntmps218
 go_wp2_with fail
 clear u v x B C D E G
 go_loopw [3,10] (λH iv wr=>∃(k:Nat) (z y:Int),k<=8/\z=k/\y=qmf d k/\iv=U z/\H=U y/\wr=w) (λ_ i _=>8-(intOf i).toNat)
 case atStart=>exact⟨0,0,0,by omega,rfl,rfl,rfl,rfl,rfl⟩
 obtain⟨k,z,y,N,f,h,rfl,rfl,rfl⟩:=hrel;have o:=hd1 h;have p:=hd1 f;by_cases q:k<8
 ·have r:=qv1 d (show k+1<=8 by omega);rw[n.out]at r;have I:qmf d (k+1)=qmf d k+(d k).length:=rfl
  have J:z<8:=by omega
  have O:0<=z:=by omega
  obtain⟨a,c,e,_⟩:=qfo (R.own k q);have K:=q4n j q f;rw[e]at K
  have P: -9223372036854775808<=y+((d k).length:Int):=by omega
  have Q:y+((d k).length:Int)<=9223372036854775807:=by omega
  clear f h I r
  go_wp2_with fail
  go_roundw
  case rel=>exact⟨k+1,z+1,y+((d k).length:Int),by omega,by have:=p.out;omega,by have:=o.out;simp only[qmf];omega,by go_num,by go_num,by first|rfl|trivial⟩
  simp[intOf];have:=p.out;omega
 obtain rfl:k=8:=by omega
 have J:¬z<8:=by omega
 clear f h
 go_wp2_with fail
 go_ret;exact⟨by rw[o.out,n.out];rfl,jcc _ _⟩
end
section
open Go.RowKit
def qk7 (a0 a1 a2 a3:Int) (L:List Ver):List Ver:=L.filter λv=>!qhu a0 a1 a2 a3 ((qdi a0 a1 a2 a3 L).getD jq) v
end
section
open Go.RowKit
structure qhf (w0:World) (b so:Nat) (vs:Nat->Value) (Ls:Nat->List Ver) (a0 a1 a2 a3:Int) (k:Nat) (vs':Nat->Value) (Ls':Nat->List Ver) (wr:World):Prop where
 raw:qi0 wr b so vs' Ls'
 done:∀i,i<k->Ls' i=qk7 a0 a1 a2 a3 (Ls i)
 rest:∀i,k<=i->Ls' i=Ls i/\vs' i=vs i
 foot:∀j,qfu b vs' j->qfu b vs j
 touch:qc (qfu b vs) w0 wr
 cells:qfy b so w0 wr
variable {w0 wr:World} {b so k:Nat} {vs:Nat->Value} {Ls:Nat->List Ver} {a0 a1 a2 a3:Int}
theorem qhf.later {w':World} {c:Nat->Value} {d:Nat->List Ver} (h:qhf w0 b so vs Ls a0 a1 a2 a3 k c d wr) (a:Bw wr w'):qhf w0 b so vs Ls a0 a1 a2 a3 k c d w':=
 ⟨h.raw.later a,h.done,h.rest,h.foot,h.touch.trans (qc.ofBelow a),h.cells.trans (qfy.ofBlock (a.block b h.raw.box.lt))⟩
theorem qhf.next {n:World} {c:Nat->Value} {o:Nat->List Ver} (h:qhf w0 b so vs Ls a0 a1 a2 a3 k c o wr) (p:k<8) {v':Value}
 (f:qoa wr (c k) (qk7 a0 a1 a2 a3 (Ls k)) v' n):qhf w0 b so vs Ls a0 a1 a2 a3 (k+1) (upd c k v') (upd o k (qk7 a0 a1 a2 a3 (Ls k))) (n.setCell (AD b (so+k)) v'):=by
 have q:qbr (qk7 a0 a1 a2 a3 (Ls k)):=by
  have:=h.raw.sorted k p;rw[(h.rest k (jcd _)).1]at this;exact qqz this _
 have m:=h.raw.change p (v':=v') (L':=qk7 a0 a1 a2 a3 (Ls k)) (qc.grown f.2.1 (λj a=>a)) f.1 (λg e=>.inl (by rw[f.2.2]at e;exact e)) q
 have r:∀j,qfu b (upd c k v') j->qfu b c j:=λj a=>by
  rcases a with rfl|⟨i,hi,e⟩
  ·exact .inl rfl
  by_cases d:i=k
  ·subst d;rw[qde,f.2.2]at e;exact .inr ⟨i,hi,e⟩
  rw[qax _ _ d]at e;exact .inr ⟨i,hi,e⟩
 refine⟨m.1,λi hi=>?_,λi hi=>?_,λj a=>h.foot j (r j a),?_,h.cells.trans m.2.2.2⟩
 ·by_cases d:i=k
  ·subst d;rw[qde]
  rw[qax _ _ d];exact h.done i (by omega)
 ·rw[qax _ _ (by omega),qax _ _ (by omega)];exact h.rest i (by omega)
 have t:=m.2.1;exact h.touch.trans ⟨t.os,t.tape,t.output,t.size,λj a s=>t.block j a (λe=>s (h.foot j e))⟩
variable {F:Nat->Prop} {l:List Hd}
theorem qhf.post {a:Nat->Value} {g:Nat->List Ver} (h:qhf w0 b so vs Ls a0 a1 a2 a3 8 a g wr) (R:qi0 w0 b so vs Ls) (c:qbp Ls l) (i:∀k,F k↔qfu b vs k) (m:qfk l):qf8 w0 b so F (qcr a0 a1 a2 a3 l) wr:=by
 refine⟨qfu b a,⟨a,g,h.raw,⟨λk d=>?_,λx n=>c.keys x (jdq.1 n).1⟩,λ_=>jdl⟩,λj f=>.inl ((i j).2 (h.foot j f)),⟨h.touch.os,h.touch.tape,h.touch.output,h.touch.size,λj f o=>h.touch.block j f (λe=>o ((i j).2 e))⟩,h.cells⟩;rw[h.done k d];exact q32 (c.perm k d) (c.qlast R m d a0 a1 a2 a3)
theorem qyf (a0 a1 a2 a3:Int) (w:World) (hS:qir w b so F l) (hl:l.length<=1000) (X:qfk l) (H:∀h∈l,qau h.v=true):
 Ca 221 #[.pointer (some (AD b so)),.agg #[U a0,U a1,U a2,U a3]] w λe w'=>e=.returned (.tuple #[])/\qf8 w b so F (qcr a0 a1 a2 a3 l) w':=by
 obtain⟨vs,Ls,R,I,hF⟩:=id hS;have f:=qd.new (w:=w) (T:=77) [U a0,U a1,U a2,U a3] rfl;have t:=boxed (jcc _ w) (.cells #[U a0,U a1,U a2,U a3] 77);have o:=R.later t;have J:qhf w b so vs Ls a0 a1 a2 a3 0 vs Ls (w.alloc (.cells #[U a0,U a1,U a2,U a3] 77)):=⟨o,λi hi=>by omega,λi _=>⟨rfl,rfl⟩,λj hj=>hj,qc.ofBelow t,qfy.ofBlock (t.block b R.box.lt)⟩;have k0:(w.alloc (.cells #[U a0,U a1,U a2,U a3] 77)).cell? (AD b so)=some (vs 0):=o.cell (k:=0) (by omega);have k1:=o.cell (k:=1) (by omega);have k2:=o.cell (k:=2) (by omega);have k3:=o.cell (k:=3) (by omega);have k4:=o.cell (k:=4) (by omega);have k5:=o.cell (k:=5) (by omega);have k6:=o.cell (k:=6) (by omega);have k7:=o.cell (k:=7) (by omega);have HA:=hd1 X;have HO:=hd1 H;have Y:∀k,k<8->(Ls k).length<=1000:=λk u=>jcn (I.len u) hl;have Z:=hd1 Y;have aa:Hid (∀k,k<8->∀v∈Ls k,0<=v.site/\v.site<=3):=λk u=>I.sites H u;clear X H Y o;go_enter Tryz.func221,Tryz.ntmps221
 go_wp2_with fail
 clear k0 k1 k2 k3 k4 k5 k6 k7;obtain⟨W,ab⟩:∃W,w.alloc (.cells #[U a0,U a1,U a2,U a3] 77)=W:=⟨_,rfl⟩;rw[ab]at f J ⊢;clear ab t
 go_loopw [12] (λiv wr=>∃(k:Nat) (z:Int) (K:Nat->Value) (ac:Nat->List Ver),k<=8/\z=k/\iv=U z/\Hid (qhf w b so vs Ls a0 a1 a2 a3 k K ac wr)/\qd wr w.heap.size [U a0,U a1,U a2,U a3]) (λi _=>8-(intOf i).toNat)
 case atStart=>exact⟨0,0,vs,Ls,by omega,rfl,rfl,J,f⟩
 clear J f;obtain⟨k,z,K,ac,u,x,rfl,s,f⟩:=hrel;have HZ:=hd1 x;by_cases m:k<8
 ·have h1:z<8:=by omega
  have h3:0<=z:=by omega
  have h2:z.toNat=k:=by omega
  obtain⟨a,c,e,hV⟩:=qfo (R.own k m);have ix:=q4n vs m x;rw[e]at ix;obtain⟨c0,c1,c2,c3⟩:=f.c4
  have p:wr.ownsRow 0 130 6 (.slice a (Ls k).length c) (Ls k).length (ja (Ls k)):=by
   have:=s.out.raw.own k m;rw[(s.out.rest k (jcd _)).1,(s.out.rest k (jcd _)).2,e]at this;exact this
  have hVr:qs5 wr a c (Ls k):=by
   obtain⟨a',c',e',h'⟩:=qfo p;injection e' with L e2 e3;subst L e3;exact h'
  obtain⟨d,M⟩:∃d,(qdi a0 a1 a2 a3 (Ls k)).getD jq=d:=⟨_,rfl⟩;obtain⟨sb,hsb⟩:∃sb,qga (qdi a0 a1 a2 a3 (Ls k))=sb:=⟨_,rfl⟩;have N:=qwf a0 a1 a2 a3 wr hVr (aa.out k m) (Z.out k m);rw[qjl,M,hsb]at N;have ST:=hd1 M;have y:=hd1 e;clear x M hsb hV hVr e
  go_wp2_with fail
  refine N.mono ?_;rintro e q ⟨rfl,B⟩;replace f:=f.later B;replace p:=qgp p B;have n:=hd1 (s.out.later B);clear N s c0 c1 c2 c3 B;rw[show (qh d).toArray=#[U d.wall,U d.count,U d.site,U d.seq,.string d.data,.bool d.gone]from rfl];have C:=boxed (jcc _ q) (.cells #[U d.wall,U d.count,U d.site,U d.seq,.string d.data,.bool d.gone] 130);have D:=qd.new (w:=q) (T:=130) (qh d) rfl;change qd (q.alloc (.cells #[U d.wall,U d.count,U d.site,U d.seq,.string d.data,.bool d.gone] 130)) q.heap.size (qh d)at D;replace f:=f.later C;replace p:=qgp p C;replace n:=n.out.later C;have O:=λg hg=>((R.own k m).lt g (by rw[y.out];exact hg)).2;have hsz:=n.touch.size;obtain⟨r,P⟩:∃r,q.alloc (.cells #[U d.wall,U d.count,U d.site,U d.seq,.string d.data,.bool d.gone] 130)=r:=⟨_,rfl⟩;rw[P]at D f p n
  have L:r.heap.size=q.heap.size+1:=by rw[<-P];simp
  have hw1:w.heap.size<=q.heap.size:=by rw[P]at hsz;have:=f.lt;omega
  have S2:=hd1 (n.later (jcc _ r).drew);have DE:=hd1 (qyk r.drew p (aa.out k m) (Z.out k m) f.drew D.drew (λh=>by have:=O _ h;omega) (λh=>by have:=O _ h;omega));have qdb:=n.raw.cell m;rw[(n.rest k (jcd _)).2,y.out]at qdb;have bfree:=n.raw.free m;have hap:=n.raw.apart k m;rw[(n.rest k (jcd _)).2,y.out]at hap;have hbl:=n.raw.box.lt;clear p D C n hsz L
  go_wp2_with fail
  go_region_law (
   refine je rfl 261 #[.slice a (Ls k).length c,.func (.func 262) #[] #[PP w.heap.size,PP q.heap.size]] (by go_simp) DE.out ?_;rintro e E ⟨v',rfl,G⟩;refine⟨_,rfl,?_⟩;have HD:=hd1 G;have Q:=G.2.1.block b hbl (λe=>hap e.symm)
   have c8:E.cell? (AD b (so+k))=some (.slice a (Ls k).length c):=by rw[jch (w:=r.drew) Q];exact qdb
   have f8:E.frozen? (AD b (so+k))=false:=by rw[jcp (w:=r.drew) Q];exact bfree
   obtain⟨S,V,hv9,_⟩:=qfo G.1;subst hv9
   clear G Q)
  all_goals
   have HD2:qoa r.drew (K k) (qk7 a0 a1 a2 a3 (Ls k)) (.slice S ((Ls k).filter λv=>!qhu a0 a1 a2 a3 d v).length V) E:=by
        rw[(S2.out.rest k (jcd _)).2,y.out];unfold qk7;rw[ST.out];exact HD.out
   have SN:=hd1 (S2.out.next m HD2)
   have hwb:w.heap.size≠b:=by have:=R.box.lt;omega
   have RA8:=f.drew.grown HD.out.2.1 (λe=>by have:=O _ e.symm;omega);have RA9:=RA8.far (AD b (so+k)) (.slice S ((Ls k).filter λv=>!qhu a0 a1 a2 a3 d v).length V) (Ne.symm hwb);obtain⟨W9,hW9⟩:∃W9,E.setCell (AD b (so+k)) (.slice S ((Ls k).filter λv=>!qhu a0 a1 a2 a3 d v).length V)=W9:=⟨_,rfl⟩;rw[hW9]at SN RA9 ⊢;clear hW9 HD2 RA8 c8 f8
   go_wp2_with fail
   go_roundw
   case rel=>exact⟨k+1,z+1,_,_,by omega,by have:=HZ.out;omega,by go_num,SN,RA9⟩
   simp[intOf];have:=HZ.out;omega
 obtain rfl:k=8:=by omega
 have h1:¬z<8:=by omega
 clear x
 go_wp2_with fail
 go_end0;exact⟨rfl,s.out.post R I hF HA.out⟩
end
section
open Go.RowKit
def q7o (o:Oper):Option Nat:=match o.op with
 |.call c=>match c.callee with
  |.value (.func n)=>some n
  |_=>none
 |_=>none
theorem qah {P:Program} {b:Array Oper} {o:Oper} {a:Act} {w:World} {K:Act->World->Prop} {Q:Exit->Act->World->Prop} {E:Prop} (c:o.guard=none) (f:FuncId) (_hf:q7o o=some f) (args:Array Value)
 (d:(execOp a.eval o).run P w=.ok (.enter f args) w) {R:Ending->World->Prop} (h:Calls P f args w R) (g:∀e w',R e w'->∃v,e=.returned v/\K (a.put o.dst v) w'):
 if Region.wanted o (yielded b a.tmps)=true then Oper.wp P o a w K Q else E:=je c f args d h g
end
section
open Tryz Go.Shelf
def jec:Go.Shelf.Ren:=⟨λ|169=>13|n=>n,λ|70=>29|9=>9|0=>0|72=>32|37=>30|127=>66|3=>3|5=>5|n=>n,λ|n=>n⟩
theorem je5:Go.Proofs.Lays.n169 prog jec:=by constructor<;>intros<;>kernel_rfl
theorem jd8:Builder.Extra prog jec:={
 sizeBuilder:=by kernel_rfl
 liesBuilder:=by kernel_rfl
 t5:=underlying5
 a5:=Tryz.isAgg5
 z5:=Tryz.sizeOf5
 v5:=Tryz.zeroValue5
 infoByte:=by kernel_rfl
 cellsByte:=by kernel_rfl
 sizeByte:=by kernel_rfl
 neB5:=by decide}
open Go.RowKit in
def jeb:Go.Shelf.Ren:=⟨λ|156=>42|165=>90|166=>10|169=>13|240=>24|241=>131|276=>69|277=>184|n=>n,λ|31=>42|9=>9|3=>3|4=>4|0=>0|20=>20|72=>32|76=>38|70=>29|37=>30|75=>37|127=>66|164=>117|5=>5|80=>41|n=>n,λ|n=>n⟩
theorem je4:Go.Proofs.Lays.n156 prog jeb:=by constructor<;>intros<;>kernel_rfl
theorem jd9:Builder.Extra prog jeb:={
 sizeBuilder:=by kernel_rfl
 liesBuilder:=by kernel_rfl
 t5:=underlying5
 a5:=Tryz.isAgg5
 z5:=Tryz.sizeOf5
 v5:=Tryz.zeroValue5
 infoByte:=by kernel_rfl
 cellsByte:=by kernel_rfl
 sizeByte:=by kernel_rfl
 neB5:=by decide}
open Go.RowKit in
theorem jd1 (a o c:Nat) (xs:List ByteArray) (b:ByteArray) (w:World) (d:∀(j:Nat) x,xs[j]?=some x->w.cell? (AD a (o+j))=some (.string x)) (f:a<w.heap.size) (g:xs.length<=140737488355328) (h:xs.length<=c) (i:(Lib.join (xs.map (·.data.toList)) b.data.toList).length<=140737488355328):
 Ca 42 #[.slice (some (AD a o)) xs.length c,.string b] w λe w'=>e=.returned (.string ⟨(Lib.join (xs.map (·.data.toList)) b.data.toList).toArray⟩)/\Bw w w':=Any.strings_Join je4 jd9 a o c xs b w d f g h i
def jeg:Go.Shelf.Ren:=⟨λ|171=>18|243=>45|246=>93|283=>134|284=>135|285=>136|286=>137|129=>195|317=>196|318=>197|319=>198|320=>199|337=>238|338=>239|n=>n,λ|3=>3|9=>9|2=>2|4=>4|171=>191|0=>0|53=>192|37=>30|5=>5|173=>195|212=>252|51=>250|20=>20|213=>253|46=>190|232=>329|233=>330|n=>n,λ|17=>2|18=>8|19=>9|n=>n⟩
theorem jex:Go.Proofs.LaysM.n171 prog jeg:=by constructor<;>intros<;>first|kernel_rfl|(constructor<;>intros<;>first|kernel_rfl|(constructor<;>intros<;>kernel_rfl))
open Go.RowKit Go.Sort Go.Lib in
theorem jej (n:Int) (a: -9223372036854775808<=n) (b:n<=9223372036854775807) (w:World) (c:Lib.TabIs prog w "internal/strconv.uint64pow10" .u64 Lib.pow10Tab):
 Ca 18 #[U n] w λe w'=>e=.returned (.string ⟨(Lib.itoa n).toArray⟩)/\∃k os,w'=grow (w.drewN k) os:=Any.strconv_Itoa jex n a b w c
def jei:Go.Shelf.Ren:=⟨λ|173=>76|246=>93|283=>134|284=>135|285=>136|286=>137|129=>195|317=>196|318=>197|319=>198|320=>199|337=>238|338=>239|n=>n,λ|2=>2|3=>3|9=>9|4=>4|171=>191|0=>0|53=>192|37=>30|5=>5|173=>195|212=>252|51=>250|20=>20|213=>253|46=>190|232=>329|233=>330|n=>n,λ|17=>2|18=>8|19=>9|n=>n⟩
theorem jew:Go.Proofs.LaysM.n173 prog jei:=by constructor<;>intros<;>first|kernel_rfl|(constructor<;>intros<;>first|kernel_rfl|(constructor<;>intros<;>kernel_rfl))
open Go.RowKit Go.Sort Go.Lib in
theorem jd5 (n:Int) (a: -9223372036854775808<=n) (b:n<=9223372036854775807) (w:World) (c:Lib.TabIs prog w "internal/strconv.uint64pow10" .u64 Lib.pow10Tab):
 Ca 76 #[U n,U 10] w λe w'=>e=.returned (.string ⟨(Lib.itoa n).toArray⟩)/\∃k os,w'=grow (w.drewN k) os:=Any.strconv_FormatInt_10 jew n a b w c
def jel:Go.Shelf.Ren:=⟨λ|174=>75|247=>125|245=>126|287=>172|279=>173|280=>174|281=>175|282=>176|321=>228|322=>229|316=>230|171=>18|205=>231|243=>45|246=>93|283=>134|284=>135|285=>136|286=>137|129=>195|317=>196|318=>197|319=>198|320=>199|337=>238|338=>239|n=>n,λ|9=>9|3=>3|2=>2|75=>37|85=>123|4=>4|167=>227|5=>5|53=>192|175=>228|46=>190|168=>230|37=>30|0=>0|210=>287|21=>21|127=>66|145=>326|143=>324|171=>191|173=>195|212=>252|51=>250|20=>20|213=>253|232=>329|233=>330|80=>41|n=>n,λ|15=>6|16=>7|17=>2|18=>8|19=>9|n=>n⟩
theorem jed:Go.Proofs.LaysC.n174 prog jel:=by constructor<;>intros<;>first|kernel_rfl|(constructor<;>intros<;>first|kernel_rfl|(constructor<;>intros<;>kernel_rfl))
open Go.RowKit in
theorem jd2 (s:ByteArray) (a:s.size<=9223372036854775806) (v:Int) (h:Lib.parseIntB 64 s.data.toList=.ok v) (w:World):
 Ca 75 #[.string s,U 10,U 64] w λe w'=>e=.returned (.tuple #[U v,.nilIface])/\(w'=w\/∃t,w'=Lib.bytesWorld w 5 t):=Any.strconv_ParseInt_10_at64_ok jed s a v h w
open Go.RowKit in
theorem jeh (s:ByteArray) (f:s.size<=281474976710656) (g:∀v,Lib.parseIntB 64 s.data.toList≠.ok v) (w:World) (a:∃t p,w.cell? (AD 6 0)=some (.iface t p)) (b:∃t p,w.cell? (AD 7 0)=some (.iface t p)):
 Ca 75 #[.string s,U 10,U 64] w λe w'=>∃n N,e=.returned (.tuple #[U n,.iface 230 (PP N)])/\Bw w w':=by
 obtain⟨_,_,a⟩:=a;obtain⟨_,_,b⟩:=b;cases hp:Lib.parseIntB 64 s.data.toList
 ·exact absurd hp (g _)
 ·exact(Any.strconv_ParseInt_10_at64_syntax jed s f hp _ w a (.inr ⟨_,_,rfl⟩)).mono λe w' ⟨N,c,_,_,d⟩=>⟨_,N,c,d⟩
 exact(Any.strconv_ParseInt_10_at64_range jed s f hp _ w b (.inr ⟨_,_,rfl⟩)).mono λe w' ⟨N,c,_,_,d⟩=>⟨_,N,c,d⟩
def jeo:Go.Shelf.Ren:=⟨λ|145=>23|220=>68|219=>121|217=>167|225=>168|224=>169|267=>170|266=>226|314=>227|n=>n,λ|9=>9|4=>4|59=>61|3=>3|5=>5|46=>190|146=>279|51=>250|n=>n,λ|1=>1|n=>n⟩
theorem je0:Go.Proofs.Lays.n145 prog jeo:=by constructor<;>intros<;>kernel_rfl
open Go.RowKit Go.Lib in
theorem jer (s a:ByteArray) (m:Int) (w:World) (b:s.size<4294967281) (c:w.cell? (AD 1 0)=some (U m)):
 Ca 23 #[.string s,.string a] w λe w'=>e=.returned (.tuple #[.string ⟨(Lib.cut s.data.toList a.data.toList).1.toArray⟩,.string ⟨(Lib.cut s.data.toList a.data.toList).2.1.toArray⟩,.bool (Lib.cut s.data.toList a.data.toList).2.2])/\∃n,w'=w.drewN n:=Any.strings_Cut je0 s a m w b c
def jeq:Go.Shelf.Ren:=⟨λ|102=>22|209=>67|207=>120|n=>n,λ|9=>9|4=>4|3=>3|n=>n,λ|n=>n⟩
theorem je1:Go.Proofs.Lays.n102 prog jeq:=by constructor<;>intros<;>kernel_rfl
open Go.RowKit Go.Lib in
theorem jd7 (s p:ByteArray) (w:World) (a:s.size<=9223372036854775807):
 Ca 22 #[.string s,.string p] w λe w'=>e=.returned (.string ⟨(Lib.trimSuffix s.data.toList p.data.toList).toArray⟩)/\w'=w:=Any.strings_TrimSuffix je1 s p w a
def jep:Go.Shelf.Ren:=⟨λ|229=>70|n=>n,λ|9=>9|40=>120|31=>42|152=>173|3=>3|0=>0|4=>4|21=>21|154=>175|n=>n,λ|n=>n⟩
theorem je3:Go.Proofs.Lays.n229 prog jep:=by constructor<;>intros<;>kernel_rfl
open Go.RowKit Go.Lib in
theorem jd4 (g:Nat) (lb:Array Value) (a:∀args w,(callFunc g args).run prog w=.ok (.enter g args) w) (p:Nat->Bool) (s:ByteArray) (w:World) (b:s.size<=4294967296) (c:PredAtRunes prog g lb p w):
 Ca 70 #[.string s,.func (.func g) #[] lb] w λe w'=>∃A,e=.returned (.slice (PT A) (Lib.goFieldsP p s).length (Lib.goFieldsP p s).length)/\w.heap.size<=A/\
  w'.ownsRow w.heap.size 9 1 (.slice (PT A) (Lib.goFieldsP p s).length (Lib.goFieldsP p s).length) (Lib.goFieldsP p s).length ((Lib.goFieldsP p s).map Value.string)/\Bw w w':=Any.strings_FieldsFunc_runes je3 g lb a p s w b c (by kernel_rfl) (by kernel_rfl)
end
section
open Go.RowKit
theorem qgy (n lo hi:Int) (w:World):
 Ca 28 #[U n,U lo,U hi] w λe w'=>e=.returned (.bool (inB n lo hi))/\w'=w:=by
 by_cases a:lo<=n
 ·by_cases b:n<=hi
  ·have e:inB n lo hi=true:=by simp[inB,a,b]
   rw[e];go_enter Tryz.func28,Tryz.ntmps28
   go_wp2
   go_ret;exact⟨rfl,rfl⟩
  have e:inB n lo hi=false:=by simp[inB,b]
  rw[e];go_enter Tryz.func28,Tryz.ntmps28
  go_wp2
  go_ret;exact⟨rfl,rfl⟩
 have e:inB n lo hi=false:=by simp[inB,a]
 rw[e];go_enter Tryz.func28,Tryz.ntmps28
 go_wp2
 go_ret;exact⟨rfl,rfl⟩
theorem vj {n lo hi:Int} {v:Bool} (h:inB n lo hi=v) (w:World):
 Ca 28 #[U n,U lo,U hi] w (Rn (.bool v) w):=by
 subst h;exact(qgy n lo hi w).mono λe w' ⟨a,b⟩=>⟨a,by rw[b];exact jcc _ _⟩
theorem qbk (n:Int) (w:World):
 Ca 28 #[U n,U 0,U 1099511627776] w λe w'=>e=.returned (.bool (qi n))/\w'=w:=qgy n 0 1099511627776 w
end
open Go.RowKit
theorem qcz (x c:Int) (w:World):
 Ca 180 #[.agg #[U x,U c]] w (Rn (.bool (qi x&&qi c)) w):=by
 by_cases h:qi x=true
 ·rw[h];go_enter Tryz.func180,Tryz.ntmps180
  go_wp2_with (go_at_call 28;refine(qbk _ _).mono ?_;rintro e w' ⟨rfl,rfl⟩)
  go_ret;exact⟨by simp,boxed (jcc _ _) _⟩
 have a:qi x=false:=by simpa using h
 rw[a];go_enter Tryz.func180,Tryz.ntmps180
 go_wp2_with (go_at_call 28;refine(qbk _ _).mono ?_;rintro e w' ⟨rfl,rfl⟩)
 go_ret;exact⟨by simp,boxed (jcc _ _) _⟩
theorem qg5 {x c:Int} {v:Bool} (h:(qi x&&qi c)=v) (w:World):
 Ca 180 #[.agg #[U x,U c]] w (Rn (.bool v) w):=by
 subst h;exact qcz x c w
end Go.Proofs.YtoanjdndmlffdaaGreatDoor
