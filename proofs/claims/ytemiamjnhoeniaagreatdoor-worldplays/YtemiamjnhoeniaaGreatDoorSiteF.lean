import Derived.Test.YtemiamjnhoeniaaGreatDoorSiteE
set_option maxHeartbeats 8000000
set_option maxRecDepth 100000
namespace Go.Proofs.YtemiamjnhoeniaaGreatDoor
open Go.RowKit
section
open Go.Value Go.IntKind
variable {sb so:Nat} {a:Option Addr} {l:List Hd}
theorem qqt {cap:Nat} (key a0 a1 a2 a3:Int) (w:World) (hS:w.cell? ⟨sb,so,none⟩=some (.slice a l.length cap)) (hC:q44 w a cap l) (hok:∀h∈l,qdm h.v=true) (hl:l.length<=1000000):
 Calls Tryz.prog 98 #[.pointer (some ⟨sb,so,none⟩),int i64 key,.agg #[int i64 a0,int i64 a1,int i64 a2,int i64 a3]] w λe w'=>
  e=.returned (.tuple #[.agg (qdz (qct key a0 a1 a2 a3 l)).toArray,.bool (qit (qct key a0 a1 a2 a3 l))])/\Below w.heap.size w w':=by
 have hne:=Later.one;have HOK:Hid (∀h∈l,qdm h.v=true):=hok;clear hok;have y:=((qbe.new w 47 a0 a1 a2 a3).boxed (.cells #[int i64 0,int i64 0,int i64 0,int i64 0,.string ⟨#[]⟩,.bool false] 130)).boxed (.cells #[int i64 0,int i64 0,int i64 0,int i64 0,.string ⟨#[]⟩,.bool false] 130);have d:=(qag.new (w:=w.alloc (.cells #[int i64 a0,int i64 a1,int i64 a2,int i64 a3] 47)) (T:=130) (n:=w.heap.size+1) [int i64 0,int i64 0,int i64 0,int i64 0,.string ⟨#[]⟩,.bool false] (by simp)).boxed (.cells #[int i64 0,int i64 0,int i64 0,int i64 0,.string ⟨#[]⟩,.bool false] 130);have c:=qag.new (w:=(w.alloc (.cells #[int i64 a0,int i64 a1,int i64 a2,int i64 a3] 47)).alloc (.cells #[int i64 0,int i64 0,int i64 0,int i64 0,.string ⟨#[]⟩,.bool false] 130)) (T:=130) (n:=w.heap.size+1+1) [int i64 0,int i64 0,int i64 0,int i64 0,.string ⟨#[]⟩,.bool false] (by simp);have hb:=boxed (boxed (boxed (Below.refl _ w) (.cells #[int i64 a0,int i64 a1,int i64 a2,int i64 a3] 47)) (.cells #[int i64 0,int i64 0,int i64 0,int i64 0,.string ⟨#[]⟩,.bool false] 130)) (.cells #[int i64 0,int i64 0,int i64 0,int i64 0,.string ⟨#[]⟩,.bool false] 130);have s0:=cell_later hb hS;clear hS;go_enter Tryz.func98,Tryz.ntmps98
 go_wp2_with fail
 obtain⟨W,hWW⟩:∃W,(((w.alloc (.cells #[int i64 a0,int i64 a1,int i64 a2,int i64 a3] 47)).alloc (.cells #[int i64 0,int i64 0,int i64 0,int i64 0,.string ⟨#[]⟩,.bool false] 130)).alloc (.cells #[int i64 0,int i64 0,int i64 0,int i64 0,.string ⟨#[]⟩,.bool false] 130))=W:=⟨_,rfl⟩;have V:qag (((w.alloc (.cells #[int i64 a0,int i64 a1,int i64 a2,int i64 a3] 47)).alloc (.cells #[int i64 0,int i64 0,int i64 0,int i64 0,.string ⟨#[]⟩,.bool false] 130)).alloc (.cells #[int i64 0,int i64 0,int i64 0,int i64 0,.string ⟨#[]⟩,.bool false] 130)) (w.heap.size+1+1) (qdz (qct key a0 a1 a2 a3 (l.take 0))):=c;rw[hWW]at y d V hb ⊢;clear hWW c s0
 go_loopw [9,17] (λsv iv wr=>∃(k:Nat) (z:Int),k<=l.length/\z=k/\iv=int i64 z/\sv=.bool (qit (qct key a0 a1 a2 a3 (l.take k)))/\qag wr (w.heap.size+1+1) (qdz (qct key a0 a1 a2 a3 (l.take k)))/\qag wr (w.heap.size+1) (qah qcj)/\qbe wr w.heap.size a0 a1 a2 a3/\Below w.heap.size w wr) (λ_ i _=>l.length-(intOf i).toNat)
 case atStart=>exact⟨0,0,by omega,rfl,rfl,rfl,V,d,y,hb⟩
 case round=>
  clear V d y hb;obtain⟨k,z,hk,hz,rfl,rfl,c,d,y,hb⟩:=hrel;by_cases E:k<l.length
  ·have h1:z<(l.length:Int):=by omega
   have h2:z.toNat=k:=by omega
   have h3:0<=z:=by omega
   have O:Hid (z=k):=hz;clear hz
   obtain⟨b,H,rfl,hcc⟩:∃b H,a=some ⟨b,H,none⟩/\∀i r u,i<l.length->(hdL (qfh l i))[r]?=some u->w.cell? ⟨b,H+(i*7+r),none⟩=some u:=by
        rcases hC.held with X|X
        ·rw[X]at E;simp at E
        ·exact X
   have K:Hid (∀i r u,i<l.length->(hdL (qfh l i))[r]?=some u->w.cell? ⟨b,H+(i*7+r),none⟩=some u):=hcc;clear hcc;obtain⟨D,J⟩:∃D,qct key a0 a1 a2 a3 (l.take k)=D:=⟨_,rfl⟩;rw[J]at c ⊢;have L:Hid (qct key a0 a1 a2 a3 (l.take k)=D):=J;clear J;obtain⟨⟨C,⟨wl,o,st,m,q,s⟩⟩,I⟩:∃x,qfh l k=x:=⟨_,rfl⟩;have M:Hid (qfh l k=⟨C,⟨wl,o,st,m,q,s⟩⟩):=I;have x0:wr.cell? ⟨b,H+k*7,none⟩=some (int i64 C):=cell_later hb (K.out k 0 _ E (by rw[I];rfl));have x1:wr.cell? ⟨b,H+k*7+1,none⟩=some (int i64 wl):=cell_later hb (K.out k 1 _ E (by rw[I];rfl));have x2:wr.cell? ⟨b,H+k*7+2,none⟩=some (int i64 o):=cell_later hb (K.out k 2 _ E (by rw[I];rfl));have x3:wr.cell? ⟨b,H+k*7+3,none⟩=some (int i64 st):=cell_later hb (K.out k 3 _ E (by rw[I];rfl));have x4:wr.cell? ⟨b,H+k*7+4,none⟩=some (int i64 m):=cell_later hb (K.out k 4 _ E (by rw[I];rfl));have x5:wr.cell? ⟨b,H+k*7+5,none⟩=some (.string q):=cell_later hb (K.out k 5 _ E (by rw[I];rfl));have x6:wr.cell? ⟨b,H+k*7+6,none⟩=some (.bool s):=cell_later hb (K.out k 6 _ E (by rw[I];rfl));clear I;have Y:=qkk (HOK.out (qfh l k) (by simp only[qfh,List.getD,List.getElem?_eq_getElem E,Option.getD_some];exact List.getElem_mem E));rw[M.out]at Y;simp only at Y;obtain⟨t0,t1⟩:=Y
   have t2:st<4:=by omega
   have hat:=Later.cell (cell_later (boxed (Below.refl _ wr) (.cells #[int i64 C,int i64 wl,int i64 o,int i64 st,int i64 m,.string q,.bool s] 204)) (qmv y t0 t1));replace c:=c.boxed (.cells #[int i64 C,int i64 wl,int i64 o,int i64 st,int i64 m,.string q,.bool s] 204);replace d:=d.boxed (.cells #[int i64 C,int i64 wl,int i64 o,int i64 st,int i64 m,.string q,.bool s] 204);replace y:=y.boxed (.cells #[int i64 C,int i64 wl,int i64 o,int i64 st,int i64 m,.string q,.bool s] 204);replace hb:=boxed hb (.cells #[int i64 C,int i64 wl,int i64 o,int i64 st,int i64 m,.string q,.bool s] 204);have G:=qag.new (w:=wr) (T:=204) [int i64 C,int i64 wl,int i64 o,int i64 st,int i64 m,.string q,.bool s] rfl;have w0:=Later.cell (G.cell 0 _ rfl);have w1:=Later.cell (G.cell 1 _ rfl);have w2:=Later.cell (G.cell 2 _ rfl);have w3:=Later.cell (G.cell 3 _ rfl);have w4:=Later.cell (G.cell 4 _ rfl);have P:=Later.cell (G.cell 5 _ rfl);have w6:=Later.cell (G.cell 6 _ rfl);by_cases N:C=key
   ·have ek:(C==key)=true:=by simp[N]
    have S:Hid (C=key):=N;clear N;cases hh:qij a0 a1 a2 a3 ⟨wl,o,st,m,q,s⟩
    ·have dh:decide (m<=qao st a0 a1 a2 a3)=false:=hh;have U:Hid (qij a0 a1 a2 a3 ⟨wl,o,st,m,q,s⟩=false):=hh;clear hh
     go_wp2_with fail
     refine qaa (by kernel_rfl) (by kernel_rfl) ?_
     repeat (go_big_quiet_step (fail))
     refine wpQuiet_nil ?_;rintro P ⟨⟨_,g⟩,rfl⟩;replace c:=c.later g;replace d:=d.later g;replace y:=y.later g;replace hb:=qac hb g;have B:=λj v (h:(hdL ⟨C,⟨wl,o,st,m,q,s⟩⟩)[j]?=some v)=>cell_later g (G.cell j v h)
     have F:Hid (qct key a0 a1 a2 a3 (l.take (k+1))=D):=by show qct key a0 a1 a2 a3 (l.take (k+1))=D;rw[qgl E,L.out,M.out];exact qez (λx=>by have:=x.2.1;rw[U.out]at this;cases this)
     clear g B
     go_wp2_with fail
     go_roundw
     case rel=>exact⟨k+1,z+1,by omega,by have:=O.out;omega,by go_num,by rw[F.out],by rw[F.out];exact c,d,y,hb⟩
     case measure=>simp[intOf];omega
    ·have dh:decide (m<=qao st a0 a1 a2 a3)=true:=hh;have U:Hid (qij a0 a1 a2 a3 ⟨wl,o,st,m,q,s⟩=true):=hh;clear hh;cases D with
     |none=>
      have sn:qit none=false:=rfl
      go_wp2_with fail
      refine qaa (by kernel_rfl) (by kernel_rfl) ?_
      repeat (go_big_quiet_step (fail))
      refine wpQuiet_nil ?_;rintro P ⟨⟨_,g⟩,rfl⟩;replace c:=c.later g;replace d:=d.later g;replace y:=y.later g;replace hb:=qac hb g;have B:=λj v (h:(hdL ⟨C,⟨wl,o,st,m,q,s⟩⟩)[j]?=some v)=>cell_later g (G.cell j v h)
      have F:Hid (qct key a0 a1 a2 a3 (l.take (k+1))=some ⟨wl,o,st,m,q,s⟩):=by show qct key a0 a1 a2 a3 (l.take (k+1))=_;rw[qgl E,L.out,M.out];exact qgg ⟨S.out,U.out,rfl⟩
      have y1:=B 1 _ rfl;have y2:=B 2 _ rfl;have y3:=B 3 _ rfl;have y4:=B 4 _ rfl;have y5:=B 5 _ rfl;have y6:=B 6 _ rfl;have b0:=c.cell 0 _ rfl;have p0:=c.free 0 (by simp[qdz,qah]);have b1:=c.cell 1 _ rfl;have p1:=c.free 1 (by simp[qdz,qah]);have b2:=c.cell 2 _ rfl;have p2:=c.free 2 (by simp[qdz,qah]);have b3:=c.cell 3 _ rfl;have p3:=c.free 3 (by simp[qdz,qah]);have b4:=c.cell 4 _ rfl;have p4:=c.free 4 (by simp[qdz,qah]);have b5:=c.cell 5 _ rfl;have p5:=c.free 5 (by simp[qdz,qah]);have Z:=((((((c.set 0 (int i64 wl) (by simp[qdz,qah])).set 1 (int i64 o) (by simp[qdz,qah])).set 2 (int i64 st) (by simp[qdz,qah])).set 3 (int i64 m) (by simp[qdz,qah])).set 4 (.string q) (by simp[qdz,qah])).set 5 (.bool s) (by simp[qdz,qah]));have Q:=((((((hb.setCell (p:=⟨w.heap.size+1+1,0,none⟩) (by show w.heap.size<=w.heap.size+1+1;omega) (int i64 wl)).setCell (p:=⟨w.heap.size+1+1,1,none⟩) (by show w.heap.size<=w.heap.size+1+1;omega) (int i64 o)).setCell (p:=⟨w.heap.size+1+1,2,none⟩) (by show w.heap.size<=w.heap.size+1+1;omega) (int i64 st)).setCell (p:=⟨w.heap.size+1+1,3,none⟩) (by show w.heap.size<=w.heap.size+1+1;omega) (int i64 m)).setCell (p:=⟨w.heap.size+1+1,4,none⟩) (by show w.heap.size<=w.heap.size+1+1;omega) (.string q)).setCell (p:=⟨w.heap.size+1+1,5,none⟩) (by show w.heap.size<=w.heap.size+1+1;omega) (.bool s));have aa:=((((((d.far ⟨w.heap.size+1+1,0,none⟩ (int i64 wl) (by show w.heap.size+1+1≠w.heap.size+1;omega)).far ⟨w.heap.size+1+1,1,none⟩ (int i64 o) (by show w.heap.size+1+1≠w.heap.size+1;omega)).far ⟨w.heap.size+1+1,2,none⟩ (int i64 st) (by show w.heap.size+1+1≠w.heap.size+1;omega)).far ⟨w.heap.size+1+1,3,none⟩ (int i64 m) (by show w.heap.size+1+1≠w.heap.size+1;omega)).far ⟨w.heap.size+1+1,4,none⟩ (.string q) (by show w.heap.size+1+1≠w.heap.size+1;omega)).far ⟨w.heap.size+1+1,5,none⟩ (.bool s) (by show w.heap.size+1+1≠w.heap.size+1;omega));have ab:=((((((y.far ⟨w.heap.size+1+1,0,none⟩ (int i64 wl) (by show w.heap.size+1+1≠w.heap.size;omega)).far ⟨w.heap.size+1+1,1,none⟩ (int i64 o) (by show w.heap.size+1+1≠w.heap.size;omega)).far ⟨w.heap.size+1+1,2,none⟩ (int i64 st) (by show w.heap.size+1+1≠w.heap.size;omega)).far ⟨w.heap.size+1+1,3,none⟩ (int i64 m) (by show w.heap.size+1+1≠w.heap.size;omega)).far ⟨w.heap.size+1+1,4,none⟩ (.string q) (by show w.heap.size+1+1≠w.heap.size;omega)).far ⟨w.heap.size+1+1,5,none⟩ (.bool s) (by show w.heap.size+1+1≠w.heap.size;omega))
      clear g B hb d y c
      go_wp2_with fail
      go_roundw
      case rel=>exact⟨k+1,z+1,by omega,by have:=O.out;omega,by go_num,by rw[F.out];rfl,by rw[F.out];exact Z,aa,ab,Q⟩
      case measure=>simp[intOf];omega
     |some bv=>
      have sn:qit (some bv)=true:=rfl;have v0:=Later.cell (c.cell 0 _ rfl);have v1:=Later.cell (c.cell 1 _ rfl);have v2:=Later.cell (c.cell 2 _ rfl);have v3:=Later.cell (c.cell 3 _ rfl);have v4:=Later.cell (c.cell 4 _ rfl);have v5:=Later.cell (c.cell 5 _ rfl);cases hbf:qaj bv ⟨wl,o,st,m,q,s⟩
      ·have R:Hid (qaj bv ⟨wl,o,st,m,q,s⟩=false):=hbf;clear hbf
       go_wp2_with fail
       refine qaa (by kernel_rfl) (by kernel_rfl) ?_
       repeat (go_big_quiet_step ((go_at_call 125;with_reducible exact qab (qk1 R.out _))))
       refine wpQuiet_nil ?_;rintro P ⟨⟨_,g⟩,rfl⟩;replace c:=c.later g;replace d:=d.later g;replace y:=y.later g;replace hb:=qac hb g;have B:=λj v (h:(hdL ⟨C,⟨wl,o,st,m,q,s⟩⟩)[j]?=some v)=>cell_later g (G.cell j v h)
       have F:Hid (qct key a0 a1 a2 a3 (l.take (k+1))=some bv):=by show qct key a0 a1 a2 a3 (l.take (k+1))=some bv;rw[qgl E,L.out,M.out];exact qez (λx=>by have:=x.2.2;simp only[R.out]at this;cases this)
       clear g B
       go_wp2_with fail
       go_roundw
       case rel=>exact⟨k+1,z+1,by omega,by have:=O.out;omega,by go_num,by rw[F.out],by rw[F.out];exact c,d,y,hb⟩
       case measure=>simp[intOf];omega
      ·have R:Hid (qaj bv ⟨wl,o,st,m,q,s⟩=true):=hbf;clear hbf
       go_wp2_with fail
       refine qaa (by kernel_rfl) (by kernel_rfl) ?_
       repeat (go_big_quiet_step ((go_at_call 125;with_reducible exact qab (qk1 R.out _))))
       refine wpQuiet_nil ?_;rintro P ⟨⟨_,g⟩,rfl⟩;replace c:=c.later g;replace d:=d.later g;replace y:=y.later g;replace hb:=qac hb g;have B:=λj v (h:(hdL ⟨C,⟨wl,o,st,m,q,s⟩⟩)[j]?=some v)=>cell_later g (G.cell j v h)
       have F:Hid (qct key a0 a1 a2 a3 (l.take (k+1))=some ⟨wl,o,st,m,q,s⟩):=by show qct key a0 a1 a2 a3 (l.take (k+1))=_;rw[qgl E,L.out,M.out];exact qgg ⟨S.out,U.out,R.out⟩
       have y1:=B 1 _ rfl;have y2:=B 2 _ rfl;have y3:=B 3 _ rfl;have y4:=B 4 _ rfl;have y5:=B 5 _ rfl;have y6:=B 6 _ rfl;have b0:=c.cell 0 _ rfl;have p0:=c.free 0 (by simp[qdz,qah]);have b1:=c.cell 1 _ rfl;have p1:=c.free 1 (by simp[qdz,qah]);have b2:=c.cell 2 _ rfl;have p2:=c.free 2 (by simp[qdz,qah]);have b3:=c.cell 3 _ rfl;have p3:=c.free 3 (by simp[qdz,qah]);have b4:=c.cell 4 _ rfl;have p4:=c.free 4 (by simp[qdz,qah]);have b5:=c.cell 5 _ rfl;have p5:=c.free 5 (by simp[qdz,qah]);have Z:=((((((c.set 0 (int i64 wl) (by simp[qdz,qah])).set 1 (int i64 o) (by simp[qdz,qah])).set 2 (int i64 st) (by simp[qdz,qah])).set 3 (int i64 m) (by simp[qdz,qah])).set 4 (.string q) (by simp[qdz,qah])).set 5 (.bool s) (by simp[qdz,qah]));have Q:=((((((hb.setCell (p:=⟨w.heap.size+1+1,0,none⟩) (by show w.heap.size<=w.heap.size+1+1;omega) (int i64 wl)).setCell (p:=⟨w.heap.size+1+1,1,none⟩) (by show w.heap.size<=w.heap.size+1+1;omega) (int i64 o)).setCell (p:=⟨w.heap.size+1+1,2,none⟩) (by show w.heap.size<=w.heap.size+1+1;omega) (int i64 st)).setCell (p:=⟨w.heap.size+1+1,3,none⟩) (by show w.heap.size<=w.heap.size+1+1;omega) (int i64 m)).setCell (p:=⟨w.heap.size+1+1,4,none⟩) (by show w.heap.size<=w.heap.size+1+1;omega) (.string q)).setCell (p:=⟨w.heap.size+1+1,5,none⟩) (by show w.heap.size<=w.heap.size+1+1;omega) (.bool s));have aa:=((((((d.far ⟨w.heap.size+1+1,0,none⟩ (int i64 wl) (by show w.heap.size+1+1≠w.heap.size+1;omega)).far ⟨w.heap.size+1+1,1,none⟩ (int i64 o) (by show w.heap.size+1+1≠w.heap.size+1;omega)).far ⟨w.heap.size+1+1,2,none⟩ (int i64 st) (by show w.heap.size+1+1≠w.heap.size+1;omega)).far ⟨w.heap.size+1+1,3,none⟩ (int i64 m) (by show w.heap.size+1+1≠w.heap.size+1;omega)).far ⟨w.heap.size+1+1,4,none⟩ (.string q) (by show w.heap.size+1+1≠w.heap.size+1;omega)).far ⟨w.heap.size+1+1,5,none⟩ (.bool s) (by show w.heap.size+1+1≠w.heap.size+1;omega));have ab:=((((((y.far ⟨w.heap.size+1+1,0,none⟩ (int i64 wl) (by show w.heap.size+1+1≠w.heap.size;omega)).far ⟨w.heap.size+1+1,1,none⟩ (int i64 o) (by show w.heap.size+1+1≠w.heap.size;omega)).far ⟨w.heap.size+1+1,2,none⟩ (int i64 st) (by show w.heap.size+1+1≠w.heap.size;omega)).far ⟨w.heap.size+1+1,3,none⟩ (int i64 m) (by show w.heap.size+1+1≠w.heap.size;omega)).far ⟨w.heap.size+1+1,4,none⟩ (.string q) (by show w.heap.size+1+1≠w.heap.size;omega)).far ⟨w.heap.size+1+1,5,none⟩ (.bool s) (by show w.heap.size+1+1≠w.heap.size;omega))
       clear g B hb d y c
       go_wp2_with fail
       go_roundw
       case rel=>exact⟨k+1,z+1,by omega,by have:=O.out;omega,by go_num,by rw[F.out];rfl,by rw[F.out];exact Z,aa,ab,Q⟩
       case measure=>simp[intOf];omega
   ·have ek:(C==key)=false:=beq_eq_false_iff_ne.2 N;have S:Hid (¬C=key):=N;clear N
    go_wp2_with fail
    refine qaa (by kernel_rfl) (by kernel_rfl) ?_
    repeat (go_big_quiet_step (fail))
    refine wpQuiet_nil ?_;rintro P ⟨⟨_,g⟩,rfl⟩;replace c:=c.later g;replace d:=d.later g;replace y:=y.later g;replace hb:=qac hb g;have B:=λj v (h:(hdL ⟨C,⟨wl,o,st,m,q,s⟩⟩)[j]?=some v)=>cell_later g (G.cell j v h)
    have F:Hid (qct key a0 a1 a2 a3 (l.take (k+1))=D):=by show qct key a0 a1 a2 a3 (l.take (k+1))=D;rw[qgl E,L.out,M.out];exact qez (λx=>S.out x.1)
    clear g B
    go_wp2_with fail
    go_roundw
    case rel=>exact⟨k+1,z+1,by omega,by have:=O.out;omega,by go_num,by rw[F.out],by rw[F.out];exact c,d,y,hb⟩
    case measure=>simp[intOf];omega
  ·have e:k=l.length:=by omega
   obtain⟨D,J⟩:∃D,qct key a0 a1 a2 a3 (l.take k)=D:=⟨_,rfl⟩
   have L:Hid (qct key a0 a1 a2 a3 l=D):=by show qct key a0 a1 a2 a3 l=D;rw[<-J,e,List.take_length]
   rw[J,qjn]at c;rw[J];clear J e;obtain⟨v,hv⟩:∃v,D.getD qcj=v:=⟨_,rfl⟩;rw[hv]at c;have HV:Hid (D.getD qcj=v):=hv;clear hv;obtain⟨sv,hsv⟩:∃sv,qit D=sv:=⟨_,rfl⟩;rw[hsv];have HSV:Hid (qit D=sv):=hsv;clear hsv;have b0:=c.cell 0 _ rfl;have r0:=d.cell 0 _ rfl;have p0:=d.free 0 (by simp[qah]);have b1:=c.cell 1 _ rfl;have r1:=d.cell 1 _ rfl;have p1:=d.free 1 (by simp[qah]);have b2:=c.cell 2 _ rfl;have r2:=d.cell 2 _ rfl;have p2:=d.free 2 (by simp[qah]);have b3:=c.cell 3 _ rfl;have r3:=d.cell 3 _ rfl;have p3:=d.free 3 (by simp[qah]);have b4:=c.cell 4 _ rfl;have r4:=d.cell 4 _ rfl;have p4:=d.free 4 (by simp[qah]);have b5:=c.cell 5 _ rfl;have r5:=d.cell 5 _ rfl;have p5:=d.free 5 (by simp[qah]);have RZ:=((((((d.set 0 (int i64 v.wall) (by simp[qah])).set 1 (int i64 v.count) (by simp[qah])).set 2 (int i64 v.site) (by simp[qah])).set 3 (int i64 v.seq) (by simp[qah])).set 4 (.string v.data) (by simp[qah])).set 5 (.bool v.gone) (by simp[qah]));have Q:=((((((hb.setCell (p:=⟨w.heap.size+1,0,none⟩) (by show w.heap.size<=w.heap.size+1;omega) (int i64 v.wall)).setCell (p:=⟨w.heap.size+1,1,none⟩) (by show w.heap.size<=w.heap.size+1;omega) (int i64 v.count)).setCell (p:=⟨w.heap.size+1,2,none⟩) (by show w.heap.size<=w.heap.size+1;omega) (int i64 v.site)).setCell (p:=⟨w.heap.size+1,3,none⟩) (by show w.heap.size<=w.heap.size+1;omega) (int i64 v.seq)).setCell (p:=⟨w.heap.size+1,4,none⟩) (by show w.heap.size<=w.heap.size+1;omega) (.string v.data)).setCell (p:=⟨w.heap.size+1,5,none⟩) (by show w.heap.size<=w.heap.size+1;omega) (.bool v.gone));clear c d y hb
   go_wp2_with fail
   refine bodyPost_ret (qqh (v:=v) RZ rfl rfl) rfl ⟨?_,Q⟩;rw[L.out,qjn,HV.out,HSV.out]
theorem qp7 {cap:Nat} (key a0 a1 a2 a3:Int) (w:World) (L:w.cell? ⟨sb,so,none⟩=some (.slice a l.length cap)) (M:q44 w a cap l) (N:∀h∈l,qdm h.v=true) (P:l.length<=1000000):
 Calls Tryz.prog 59 #[.pointer (some ⟨sb,so,none⟩),int i64 key,.agg #[int i64 a0,int i64 a1,int i64 a2,int i64 a3]] w λe w'=>
  e=.returned (.tuple #[.agg (qah (qdf key a0 a1 a2 a3 l).1).toArray,int i64 (qdf key a0 a1 a2 a3 l).2])/\Below w.heap.size w w':=by
 have Q:Hid (∀h∈l,qdm h.v=true):=N;clear N;have m:=(qbe.new w 47 a0 a1 a2 a3).boxed (.cells #[int i64 0,int i64 0,int i64 0,int i64 0,.string ⟨#[]⟩,.bool false] 130);have b:qag ((w.alloc (.cells #[int i64 a0,int i64 a1,int i64 a2,int i64 a3] 47)).alloc (.cells #[int i64 0,int i64 0,int i64 0,int i64 0,.string ⟨#[]⟩,.bool false] 130)) (w.heap.size+1) (qah qcj):=qag.new (w:=w.alloc (.cells #[int i64 a0,int i64 a1,int i64 a2,int i64 a3] 47)) (T:=130) (n:=w.heap.size+1) [int i64 0,int i64 0,int i64 0,int i64 0,.string ⟨#[]⟩,.bool false] (by simp);have hb:=boxed (boxed (Below.refl _ w) (.cells #[int i64 a0,int i64 a1,int i64 a2,int i64 a3] 47)) (.cells #[int i64 0,int i64 0,int i64 0,int i64 0,.string ⟨#[]⟩,.bool false] 130);have s0:=cell_later hb L;have x:=M.later hb;clear L M;cases hk:inB key 0 7
 ·have o:Hid (qdf key a0 a1 a2 a3 l=(qcj,2)):=by show qdf key a0 a1 a2 a3 l=(qcj,2);unfold qdf;rw[hk];rfl
  have z:Hid (inB key 0 7=false):=hk;clear hk;go_enter Tryz.func59,Tryz.ntmps59
  go_wp2_with fail
  refine(qa1 z.out _).mono ?_;rintro e R ⟨rfl,c⟩;replace b:=b.later c;replace hb:=qac hb c;clear c m s0 x;have B:=b.cell 0 _ rfl;have p0:=b.free 0 (by simp[qah]);have C:=b.cell 1 _ rfl;have p1:=b.free 1 (by simp[qah]);have D:=b.cell 2 _ rfl;have p2:=b.free 2 (by simp[qah]);have E:=b.cell 3 _ rfl;have p3:=b.free 3 (by simp[qah]);have F:=b.cell 4 _ rfl;have G:=b.free 4 (by simp[qah]);have H:=b.cell 5 _ rfl;have I:=b.free 5 (by simp[qah]);have q:=((((((b.set 0 (int i64 0) (by simp[qah])).set 1 (int i64 0) (by simp[qah])).set 2 (int i64 0) (by simp[qah])).set 3 (int i64 0) (by simp[qah])).set 4 (.string ⟨#[]⟩) (by simp[qah])).set 5 (.bool false) (by simp[qah]));have r:=((((((hb.setCell (p:=⟨w.heap.size+1,0,none⟩) (by show w.heap.size<=w.heap.size+1;omega) (int i64 0)).setCell (p:=⟨w.heap.size+1,1,none⟩) (by show w.heap.size<=w.heap.size+1;omega) (int i64 0)).setCell (p:=⟨w.heap.size+1,2,none⟩) (by show w.heap.size<=w.heap.size+1;omega) (int i64 0)).setCell (p:=⟨w.heap.size+1,3,none⟩) (by show w.heap.size<=w.heap.size+1;omega) (int i64 0)).setCell (p:=⟨w.heap.size+1,4,none⟩) (by show w.heap.size<=w.heap.size+1;omega) (.string ⟨#[]⟩)).setCell (p:=⟨w.heap.size+1,5,none⟩) (by show w.heap.size<=w.heap.size+1;omega) (.bool false))
  go_wp2_with fail
  refine bodyPost_ret (qfo (v:=qcj) q rfl rfl) rfl ⟨?_,r⟩;rw[o.out]
 ·have z:Hid (inB key 0 7=true):=hk
  have O:Hid (qdf key a0 a1 a2 a3 l=qqv (qct key a0 a1 a2 a3 l)):=by show qdf key a0 a1 a2 a3 l=_;unfold qdf;rw[hk];rfl
  clear hk;go_enter Tryz.func59,Tryz.ntmps59
  go_wp2_with fail
  refine(qa1 z.out _).mono ?_;rintro e R ⟨rfl,c⟩;replace b:=b.later c;replace m:=m.later c;replace hb:=qac hb c;replace s0:=cell_later c s0;replace x:=x.later c;clear c;have c0:=m.c0;have c1:=m.c1;have c2:=m.c2;have c3:=m.c3
  go_wp2_with fail
  refine(qqt key a0 a1 a2 a3 _ s0 x Q.out P).mono ?_;rintro e w2 ⟨rfl,u⟩;clear c0 c1 c2 c3 m s0 x;obtain⟨y,J⟩:∃y,qct key a0 a1 a2 a3 l=y:=⟨_,rfl⟩
  have K:Hid (qdf key a0 a1 a2 a3 l=qqv y):=by show qdf key a0 a1 a2 a3 l=_;rw[O.out,J]
  rw[J,qjn];clear J O;cases y with
  |none=>
   have o:Hid (qdf key a0 a1 a2 a3 l=(qcj,8)):=K.out;have S:qit none=false:=rfl;show _;rw[show qah ((none:Option Ver).getD qcj)=[int i64 0,int i64 0,int i64 0,int i64 0,.string ⟨#[]⟩,.bool false]from rfl];replace b:=(b.later u).boxed (.cells #[int i64 0,int i64 0,int i64 0,int i64 0,.string ⟨#[]⟩,.bool false] 130);replace hb:=boxed (qac hb u) (.cells #[int i64 0,int i64 0,int i64 0,int i64 0,.string ⟨#[]⟩,.bool false] 130);clear u;have B:=b.cell 0 _ rfl;have p0:=b.free 0 (by simp[qah]);have C:=b.cell 1 _ rfl;have p1:=b.free 1 (by simp[qah]);have D:=b.cell 2 _ rfl;have p2:=b.free 2 (by simp[qah]);have E:=b.cell 3 _ rfl;have p3:=b.free 3 (by simp[qah]);have F:=b.cell 4 _ rfl;have G:=b.free 4 (by simp[qah]);have H:=b.cell 5 _ rfl;have I:=b.free 5 (by simp[qah]);have q:=((((((b.set 0 (int i64 0) (by simp[qah])).set 1 (int i64 0) (by simp[qah])).set 2 (int i64 0) (by simp[qah])).set 3 (int i64 0) (by simp[qah])).set 4 (.string ⟨#[]⟩) (by simp[qah])).set 5 (.bool false) (by simp[qah]));have r:=((((((hb.setCell (p:=⟨w.heap.size+1,0,none⟩) (by show w.heap.size<=w.heap.size+1;omega) (int i64 0)).setCell (p:=⟨w.heap.size+1,1,none⟩) (by show w.heap.size<=w.heap.size+1;omega) (int i64 0)).setCell (p:=⟨w.heap.size+1,2,none⟩) (by show w.heap.size<=w.heap.size+1;omega) (int i64 0)).setCell (p:=⟨w.heap.size+1,3,none⟩) (by show w.heap.size<=w.heap.size+1;omega) (int i64 0)).setCell (p:=⟨w.heap.size+1,4,none⟩) (by show w.heap.size<=w.heap.size+1;omega) (.string ⟨#[]⟩)).setCell (p:=⟨w.heap.size+1,5,none⟩) (by show w.heap.size<=w.heap.size+1;omega) (.bool false))
   go_wp2_with fail
   refine bodyPost_ret (qfo (v:=qcj) q rfl rfl) rfl ⟨?_,r⟩;rw[o.out]
  |some v=>
   obtain⟨d,g,i,j,k,s⟩:=v;have S:qit (some (⟨d,g,i,j,k,s⟩:Ver))=true:=rfl;rw[show qah ((some (⟨d,g,i,j,k,s⟩:Ver)).getD qcj)=[int i64 d,int i64 g,int i64 i,int i64 j,.string k,.bool s]from rfl];replace b:=(b.later u).boxed (.cells #[int i64 d,int i64 g,int i64 i,int i64 j,.string k,.bool s] 130);have U:=qag.new (w:=w2) (T:=130) [int i64 d,int i64 g,int i64 i,int i64 j,.string k,.bool s] rfl;replace hb:=boxed (qac hb u) (.cells #[int i64 d,int i64 g,int i64 i,int i64 j,.string k,.bool s] 130);clear u;obtain⟨V,W,X,Y,Z,b5⟩:=U.c6;cases s
   ·have o:Hid (qdf key a0 a1 a2 a3 l=(⟨d,g,i,j,k,false⟩,0)):=K.out;have B:=b.cell 0 _ rfl;have p0:=b.free 0 (by simp[qah]);have C:=b.cell 1 _ rfl;have p1:=b.free 1 (by simp[qah]);have D:=b.cell 2 _ rfl;have p2:=b.free 2 (by simp[qah]);have E:=b.cell 3 _ rfl;have p3:=b.free 3 (by simp[qah]);have F:=b.cell 4 _ rfl;have G:=b.free 4 (by simp[qah]);have H:=b.cell 5 _ rfl;have I:=b.free 5 (by simp[qah]);have q:=((((((b.set 0 (int i64 d) (by simp[qah])).set 1 (int i64 g) (by simp[qah])).set 2 (int i64 i) (by simp[qah])).set 3 (int i64 j) (by simp[qah])).set 4 (.string k) (by simp[qah])).set 5 (.bool false) (by simp[qah]));have r:=((((((hb.setCell (p:=⟨w.heap.size+1,0,none⟩) (by show w.heap.size<=w.heap.size+1;omega) (int i64 d)).setCell (p:=⟨w.heap.size+1,1,none⟩) (by show w.heap.size<=w.heap.size+1;omega) (int i64 g)).setCell (p:=⟨w.heap.size+1,2,none⟩) (by show w.heap.size<=w.heap.size+1;omega) (int i64 i)).setCell (p:=⟨w.heap.size+1,3,none⟩) (by show w.heap.size<=w.heap.size+1;omega) (int i64 j)).setCell (p:=⟨w.heap.size+1,4,none⟩) (by show w.heap.size<=w.heap.size+1;omega) (.string k)).setCell (p:=⟨w.heap.size+1,5,none⟩) (by show w.heap.size<=w.heap.size+1;omega) (.bool false))
    go_wp2_with fail
    refine bodyPost_ret (qfo (v:=⟨d,g,i,j,k,false⟩) q rfl rfl) rfl ⟨?_,r⟩;rw[o.out]
   ·have o:Hid (qdf key a0 a1 a2 a3 l=(qcj,8)):=K.out;have B:=b.cell 0 _ rfl;have p0:=b.free 0 (by simp[qah]);have C:=b.cell 1 _ rfl;have p1:=b.free 1 (by simp[qah]);have D:=b.cell 2 _ rfl;have p2:=b.free 2 (by simp[qah]);have E:=b.cell 3 _ rfl;have p3:=b.free 3 (by simp[qah]);have F:=b.cell 4 _ rfl;have G:=b.free 4 (by simp[qah]);have H:=b.cell 5 _ rfl;have I:=b.free 5 (by simp[qah]);have q:=((((((b.set 0 (int i64 0) (by simp[qah])).set 1 (int i64 0) (by simp[qah])).set 2 (int i64 0) (by simp[qah])).set 3 (int i64 0) (by simp[qah])).set 4 (.string ⟨#[]⟩) (by simp[qah])).set 5 (.bool false) (by simp[qah]));have r:=((((((hb.setCell (p:=⟨w.heap.size+1,0,none⟩) (by show w.heap.size<=w.heap.size+1;omega) (int i64 0)).setCell (p:=⟨w.heap.size+1,1,none⟩) (by show w.heap.size<=w.heap.size+1;omega) (int i64 0)).setCell (p:=⟨w.heap.size+1,2,none⟩) (by show w.heap.size<=w.heap.size+1;omega) (int i64 0)).setCell (p:=⟨w.heap.size+1,3,none⟩) (by show w.heap.size<=w.heap.size+1;omega) (int i64 0)).setCell (p:=⟨w.heap.size+1,4,none⟩) (by show w.heap.size<=w.heap.size+1;omega) (.string ⟨#[]⟩)).setCell (p:=⟨w.heap.size+1,5,none⟩) (by show w.heap.size<=w.heap.size+1;omega) (.bool false))
    go_wp2_with fail
    refine bodyPost_ret (qfo (v:=qcj) q rfl rfl) rfl ⟨?_,r⟩;rw[o.out]
end
theorem qjt:(Tryz.prog.info? 204).map (λi=>(i.zero,i.size,i.bytes))=some (some (.agg #[.int .i64 0,.int .i64 0,.int .i64 0,.int .i64 0,.int .i64 0,.string ⟨#[]⟩,.bool false]),7,64):=by kernel_rfl
section
open Go.Value Go.IntKind
structure qg4 (w:World) (sb so:Nat) (v:Value) (l:List Hd):Prop where
 box:qgt w sb so v
 own:w.ownsRow 0 204 7 v l.length (qp8 l)
 apart:v.ownBlock≠some sb
 ok:∀h∈l,qdm h.v=true
def qfz (w:World) (sb so:Nat) (v:Value) (l':List Hd) (w':World):Prop:=
 ∃v',qg4 w' sb so v' l'/\(∀k,v'.ownBlock=some k->v.ownBlock=some k\/w.heap.size<=k)/\qae (q1l sb v) w w'/\qfm sb so w w'
variable {w w':World} {sb so:Nat} {v:Value} {l:List Hd}
theorem qg4.later (h:qg4 w sb so v l) (hb:Below w.heap.size w w'):qg4 w' sb so v l:=⟨h.box.later hb,qey h.own hb,h.apart,h.ok⟩
theorem qfz.same (h:qg4 w sb so v l) (hb:Below w.heap.size w w'):qfz w sb so v l w':=
 ⟨v,h.later hb,λ_ a=>.inl a,qae.ofBelow hb,qfm.ofBlock (hb.block sb h.box.lt)⟩
variable {sv:Value}
theorem quo {key:Int} (h:inB key 0 7=false) (v:Ver) (w:World) (b:qg4 w sb so sv l):
 Calls Tryz.prog 141 #[.pointer (some ⟨sb,so,none⟩),int i64 key,.agg #[int i64 v.wall,int i64 v.count,int i64 v.site,int i64 v.seq,.string v.data,.bool v.gone]] w λe w'=>e=.returned (int i64 (qgs l key v))/\qfz w sb so sv (qfd l key v) w':=by
 have e:qgs l key v=2:=by unfold qgs;rw[h];rfl
 have a:qfd l key v=l:=by unfold qfd;rw[e];rfl
 rw[e,a];have H:Hid _:=h;clear h e a;go_enter Tryz.func141,Tryz.ntmps141
 go_wp2_with fail
 refine(qa1 H.out _).mono ?_;rintro e d ⟨rfl,c⟩
 go_wp2_with fail
 go_ret;exact⟨rfl,qfz.same b (qac (boxed (Below.refl _ _) _) c)⟩
theorem q02 {key:Int} (h:inB key 0 7=true) (v:Ver) (a:qdm v=false) (w:World) (b:qg4 w sb so sv l):
 Calls Tryz.prog 141 #[.pointer (some ⟨sb,so,none⟩),int i64 key,.agg #[int i64 v.wall,int i64 v.count,int i64 v.site,int i64 v.seq,.string v.data,.bool v.gone]] w λe w'=>e=.returned (int i64 (qgs l key v))/\qfz w sb so sv (qfd l key v) w':=by
 have e:qgs l key v=1:=by unfold qgs;rw[h,a];rfl
 have r:qfd l key v=l:=by unfold qfd;rw[e];rfl
 rw[e,r];have H:Hid _:=h;clear h e r;obtain⟨wl,j,st,k,c,m⟩:=v;have R:=qag.new (w:=w) (T:=130) [int i64 wl,int i64 j,int i64 st,int i64 k,.string c,.bool m] rfl;have hb:=boxed (Below.refl _ w) (.cells #[int i64 wl,int i64 j,int i64 st,int i64 k,.string c,.bool m] 130);go_enter Tryz.func141,Tryz.ntmps141
 go_wp2_with fail
 refine(qa1 H.out _).mono ?_;rintro e y ⟨rfl,n⟩;replace R:=R.later n;replace hb:=qac hb n;clear n;have c0:=R.cell 0 _ rfl;have c1:=R.cell 1 _ rfl;cases p1:(qai wl&&qai j)
 ·have o:Hid _:=p1;clear p1
  go_wp2_with fail
  refine(qa8 o.out _).mono ?_;rintro e w2 ⟨rfl,d⟩;replace hb:=qac hb d
  go_wp2_with fail
  go_ret;exact⟨rfl,qfz.same b hb⟩
 ·have o:Hid _:=p1
  go_wp2_with fail
  refine(qa8 o.out _).mono ?_;rintro e w2 ⟨rfl,d⟩;replace R:=R.later d;replace hb:=qac hb d;clear d c0 c1;have c2:=R.cell 2 _ rfl;cases p2:inB st 0 3
  ·have p:Hid _:=p2;clear p1 p2
   go_wp2_with fail
   refine(qa1 p.out _).mono ?_;rintro e u ⟨rfl,g⟩;replace hb:=qac hb g
   go_wp2_with fail
   go_ret;exact⟨rfl,qfz.same b hb⟩
  ·have p:Hid _:=p2
   go_wp2_with fail
   refine(qa1 p.out _).mono ?_;rintro e u ⟨rfl,g⟩;replace R:=R.later g;replace hb:=qac hb g;clear g c2;have c3:=R.cell 3 _ rfl;cases p3:inB k 1 1099511627776
   ·have q:Hid _:=p3;clear p1 p2 p3
    go_wp2_with fail
    refine(qa1 q.out _).mono ?_;rintro e x ⟨rfl,i⟩;replace hb:=qac hb i
    go_wp2_with fail
    go_ret;exact⟨rfl,qfz.same b hb⟩
   ·have q:Hid _:=p3
    go_wp2_with fail
    refine(qa1 q.out _).mono ?_;rintro e x ⟨rfl,i⟩;replace R:=R.later i;replace hb:=qac hb i;clear i c3;have z:=R.cell 4 _ rfl;have B:=R.cell 5 _ rfl;by_cases C:12<(c.size:Int)
    ·clear p1 p2 p3
     go_wp2_with fail
     go_ret;exact⟨rfl,qfz.same b hb⟩
    ·have s:decide ((c.size:Int)<=12)=true:=decide_eq_true (by omega);cases m
     ·simp only[qdm,p1,p2,p3,s,Bool.and_self,Bool.false_and,Bool.not_false]at a;cases a
     ·cases he:c.toList.isEmpty
      ·clear p1 p2 p3
       go_wp2_with fail
       go_ret;exact⟨rfl,qfz.same b hb⟩
      ·simp only[qdm,p1,p2,p3,s,he,Bool.and_self,Bool.not_true,Bool.and_false,Bool.not_false]at a;cases a
end
section
open Go.Value Go.IntKind
variable {sb so:Nat} {sv:Value} {l:List Hd}
theorem q4p {key:Int} (h:inB key 0 7=true) (v:Ver) (hv:qdm v=true) (w:World) (C:qg4 w sb so sv l) (hl:l.length<=1000):
 Calls Tryz.prog 141 #[.pointer (some ⟨sb,so,none⟩),int i64 key,.agg #[int i64 v.wall,int i64 v.count,int i64 v.site,int i64 v.seq,.string v.data,.bool v.gone]] w λe w'=>e=.returned (int i64 (qgs l key v))/\qfz w sb so sv (qfd l key v) w':=by
 have he:=qum;have H:Hid _:=h;have HV:Hid _:=hv;clear h;obtain⟨wl,c,st,m,d,gn⟩:=v;have hp:=hv;simp only[qdm,Bool.and_eq_true]at hp;obtain⟨⟨⟨⟨p1,p2⟩,p3⟩,p4⟩,p5⟩:=hp
 have P1:Hid ((qai wl&&qai c)=true):=by show (qai wl&&qai c)=true;rw[p1.1,p1.2];rfl
 have P2:Hid _:=p2;have P3:Hid _:=p3
 have hdt:¬12<(d.size:Int):=by have:=of_decide_eq_true p4;omega
 have P5:Hid _:=p5;clear p1 p2 p3 p4 p5 hv;have R:=qag.new (w:=w) (T:=130) [int i64 wl,int i64 c,int i64 st,int i64 m,.string d,.bool gn] rfl;have hb:=boxed (Below.refl _ w) (.cells #[int i64 wl,int i64 c,int i64 st,int i64 m,.string d,.bool gn] 130);go_enter Tryz.func141,Tryz.ntmps141
 go_wp2_with fail
 refine(qa1 H.out _).mono ?_;rintro e w1 ⟨rfl,hb1⟩;replace R:=R.later hb1;replace hb:=qac hb hb1;have c0:=R.cell 0 _ rfl;have c1:=R.cell 1 _ rfl
 go_wp2_with fail
 refine(qa8 P1.out _).mono ?_;rintro e w2 ⟨rfl,hb2⟩;replace R:=R.later hb2;replace hb:=qac hb hb2;clear hb1 hb2 c0 c1;have c2:=R.cell 2 _ rfl
 go_wp2_with fail
 refine(qa1 P2.out _).mono ?_;rintro e w3 ⟨rfl,hb3⟩;replace R:=R.later hb3;replace hb:=qac hb hb3;clear hb3 c2;have c3:=R.cell 3 _ rfl
 go_wp2_with fail
 refine(qa1 P3.out _).mono ?_;rintro e w4 ⟨rfl,hb4⟩;replace R:=R.later hb4;replace hb:=qac hb hb4;clear hb4 c3;have c4:=R.cell 4 _ rfl;have c5:=R.cell 5 _ rfl;cases gn
 ·skip;obtain⟨a,cap,rfl,hH⟩:=qh6 C.own;have L:=hH.later hb;have box4:=C.box.later hb;have s0:w4.cell? ⟨sb,so,none⟩=some (.slice a l.length cap):=box4.cell
  go_wp2_with fail
  clear s0 box4
  go_loopw [48] (λiv wr=>∃(k:Nat) (z:Int),k<=l.length/\z=k/\iv=int i64 z/\(∀j,j<k->qd8 key ⟨wl,c,st,m,d,false⟩ (qfh l j)=false)/\qag wr w.heap.size [int i64 wl,int i64 c,int i64 st,int i64 m,.string d,.bool false]/\Below w.heap.size w wr) (λi _=>l.length-(intOf i).toNat)
  case atStart=>exact⟨0,0,by omega,rfl,rfl,λj Q=>by omega,R,hb⟩
  case round=>
   clear R hb L;obtain⟨k,z,M,S,rfl,hnt,R,hb⟩:=hrel;have N:Hid _:=hnt;clear hnt;have U:Hid _:=S;have L:=hH.later hb;by_cases o:k<l.length
   ·have h1:z<(l.length:Int):=by omega
    have h2:z.toNat=k:=by omega
    have h3:0<=z:=by omega
    clear S
    obtain⟨b,p,rfl,q⟩:∃b p,a=some ⟨b,p,none⟩/\∀i r u,i<l.length->(hdL (qfh l i))[r]?=some u->wr.cell? ⟨b,p+(i*7+r),none⟩=some u:=by
     rcases L.held with V|V
     ·rw[V]at o;simp at o
     ·exact V
    obtain⟨⟨D,⟨E,F,G,W,X,Y⟩⟩,n⟩:∃x,qfh l k=x:=⟨_,rfl⟩;have x0:wr.cell? ⟨b,p+k*7,none⟩=some (int i64 D):=q k 0 _ o (by rw[n];rfl);have x1:wr.cell? ⟨b,p+k*7+1,none⟩=some (int i64 E):=q k 1 _ o (by rw[n];rfl);have x2:wr.cell? ⟨b,p+k*7+2,none⟩=some (int i64 F):=q k 2 _ o (by rw[n];rfl);have x3:wr.cell? ⟨b,p+k*7+3,none⟩=some (int i64 G):=q k 3 _ o (by rw[n];rfl);have x4:wr.cell? ⟨b,p+k*7+4,none⟩=some (int i64 W):=q k 4 _ o (by rw[n];rfl);have x5:wr.cell? ⟨b,p+k*7+5,none⟩=some (.string X):=q k 5 _ o (by rw[n];rfl);have x6:wr.cell? ⟨b,p+k*7+6,none⟩=some (.bool Y):=q k 6 _ o (by rw[n];rfl);have HX:Hid _:=n;clear n q L
    have O:Hid (qd8 key ⟨wl,c,st,m,d,false⟩ (qfh l k)=((D==key)&&qko E F wl c&&(G==st))):=by
     show qd8 key ⟨wl,c,st,m,d,false⟩ (qfh l k)=_;rw[HX.out];simp only[qd8,qko];rw[Bool.eq_iff_iff];simp
    have B:=R.boxed (.cells #[int i64 D,int i64 E,int i64 F,int i64 G,int i64 W,.string X,.bool Y] 204);have P:=boxed hb (.cells #[int i64 D,int i64 E,int i64 F,int i64 G,int i64 W,.string X,.bool Y] 204);have c0:=B.cell 0 _ rfl;have c1:=B.cell 1 _ rfl;have c2:=B.cell 2 _ rfl;cases e1:(D==key)
    ·have I:Hid (∀j,j<k+1->qd8 key ⟨wl,c,st,m,d,false⟩ (qfh l j)=false):=λj Q=>by
      rcases Nat.lt_or_ge j k with g|g
      ·exact N.out j g
      ·obtain rfl:j=k:=by omega
       rw[O.out,e1];rfl
     go_wp2_with fail
     go_roundw
     case rel=>exact⟨k+1,z+1,by omega,by have:=U.out;omega,by go_num,I.out,B,P⟩
     case measure=>simp[intOf];omega
    ·cases e2:qko E F wl c
     ·have I:Hid (∀j,j<k+1->qd8 key ⟨wl,c,st,m,d,false⟩ (qfh l j)=false):=λj Q=>by
       rcases Nat.lt_or_ge j k with g|g
       ·exact N.out j g
       ·obtain rfl:j=k:=by omega
        rw[O.out,e1,e2];rfl
      go_wp2_with fail
      go_roundw
      case rel=>exact⟨k+1,z+1,by omega,by have:=U.out;omega,by go_num,I.out,B,P⟩
      case measure=>simp[intOf];omega
     ·cases e3:(G==st)
      ·have I:Hid (∀j,j<k+1->qd8 key ⟨wl,c,st,m,d,false⟩ (qfh l j)=false):=λj Q=>by
           rcases Nat.lt_or_ge j k with g|g
           ·exact N.out j g
           ·obtain rfl:j=k:=by omega
            rw[O.out,e1,e2,e3];rfl
       go_wp2_with fail
       go_roundw
       case rel=>exact⟨k+1,z+1,by omega,by have:=U.out;omega,by go_num,I.out,B,P⟩
       case measure=>simp[intOf];omega
      ·have J:Hid (qgs l key ⟨wl,c,st,m,d,false⟩=9):=by
           have tt:qd8 key ⟨wl,c,st,m,d,false⟩ (qfh l k)=true:=by rw[O.out,e1,e2,e3];rfl
           have Z:l.any (qd8 key ⟨wl,c,st,m,d,false⟩)=true:=List.any_eq_true.2 ⟨qfh l k,by simp only[qfh,List.getD,List.getElem?_eq_getElem o,Option.getD_some];exact List.getElem_mem o,tt⟩;show qgs l key ⟨wl,c,st,m,d,false⟩=9;unfold qgs;rw[H.out,HV.out,Z];rfl
       have PL:Hid (qfd l key ⟨wl,c,st,m,d,false⟩=l):=by show qfd l key ⟨wl,c,st,m,d,false⟩=l;unfold qfd;rw[J.out];rfl
       go_wp2_with fail
       go_ret;exact⟨by rw[J.out];rfl,by rw[PL.out];exact qfz.same C P⟩
   ·have h4:¬z<(l.length:Int):=by omega
    have J:Hid (qgs l key ⟨wl,c,st,m,d,false⟩=0):=by
     have Z:l.any (qd8 key ⟨wl,c,st,m,d,false⟩)=false:=by
      rw[List.any_eq_false];intro x n;obtain⟨i,hi,rfl⟩:=List.mem_iff_getElem.1 n;have e:=N.out i (by omega);simp only[qfh,List.getD,List.getElem?_eq_getElem hi,Option.getD_some]at e;simp[e]
     show qgs l key ⟨wl,c,st,m,d,false⟩=0;unfold qgs;rw[H.out,HV.out,Z];rfl
    have PL:Hid (qfd l key ⟨wl,c,st,m,d,false⟩=l++[⟨key,⟨wl,c,st,m,d,false⟩⟩]):=by show qfd l key ⟨wl,c,st,m,d,false⟩=_;unfold qfd;rw[J.out];rfl
    clear S;have s:=C.later hb;have s0:wr.cell? ⟨sb,so,none⟩=some (.slice a l.length cap):=s.box.cell;have s1:wr.frozen? ⟨sb,so,none⟩=false:=s.box.free;have hsb:sb<wr.heap.size:=s.box.lt;obtain⟨c0,c1,c2,c3,c4,c5⟩:=R.c6;have ownd:wr.drew.ownsRow 0 204 7 (.slice a l.length cap) l.length (qp8 l):=s.own;obtain⟨i0,hi,hz0,hz1,hz2⟩:=info_parts qjt
    go_wp2_with fail
    go_region_law (refine step_append_lies _ rfl (.tmp 77) (.tmp 81) 54 rfl 0 204 i0 (.agg #[int i64 0,int i64 0,int i64 0,int i64 0,int i64 0,.string ⟨#[]⟩,.bool false]) 7 64 Tryz.underlying54 hi hz0 hz1 hz2 rfl (by decide) (.slice a l.length cap) l.length (qp8 l) (by simp[Act.eval]) (ownd.alloc _) ⟨wr.heap.size,0,none⟩ 1 1 (hdL ⟨key,⟨wl,c,st,m,d,false⟩⟩) (by simp[Act.eval]) rfl (World.news_of_block (heap_alloc_new wr.drew (.cells #[int i64 key,int i64 wl,int i64 c,int i64 st,int i64 m,.string d,.bool false] 204))) (by intro u hu;simp[hdL]at hu;rcases hu with rfl|rfl|rfl|rfl|rfl|rfl|rfl<;>rfl) (by decide) (by simp only[maxLen];omega) (by omega) (by simp) _ rfl ?_
                   intro g K y ownE grE egE ltE;have BE:=((s.box.drew).boxed (.cells #[int i64 key,int i64 wl,int i64 c,int i64 st,int i64 m,.string d,.bool false] 204)).grown grE (λe=>s.apart e.symm);have s0E:y.cell? ⟨sb,so,none⟩=some (.slice a l.length cap):=BE.cell
                   have s1E:y.frozen? ⟨sb,so,none⟩=false:=BE.free)
    all_goals
     have BZ:=BE.set (.slice (some ⟨g,0,none⟩) (l.length+1) K)
     have gne:g≠sb:=by
      rcases egE with e|e
      ·intro h;rw[h]at e;exact s.apart e
      ·simp at e;omega
     have gnew:(Value.slice a l.length cap).ownBlock=some g\/w.heap.size<=g:=by
      rcases egE with e|e
      ·exact .inl e
      ·right
       have:=hb.size;simp at e;omega
     have ownZ:=ownE.kept (row:=some sb) (qhz sb so y (.slice (some ⟨g,0,none⟩) (l.length+1) K)) (.inr (λe=>gne (by simpa[Value.ownBlock]using e)))
     have TZ:qae (q1l sb (.slice a l.length cap)) w (y.setCell ⟨sb,so,none⟩ (.slice (some ⟨g,0,none⟩) (l.length+1) K)):=
      (((qae.ofBelow hb).trans (qae.ofBelow (boxed ((Below.refl _ wr).drew) (.cells #[int i64 key,int i64 wl,int i64 c,int i64 st,int i64 m,.string d,.bool false] 204)))).trans (qae.grown grE (λk M=>.inr M))).trans (qae.setCell y ⟨sb,so,none⟩ _ (.inl rfl))
     have RZ:qfm sb so w (y.setCell ⟨sb,so,none⟩ (.slice (some ⟨g,0,none⟩) (l.length+1) K)):=
      (((qfm.ofBlock (hb.block sb C.box.lt)).trans (qfm.ofBlock (w:=wr) (Below.heap_alloc wr.drew _ sb hsb))).trans (qfm.ofBlock (grE.block sb (by simp;omega) (λe=>s.apart e.symm)))).trans (qfm.set sb so y _)
     have FIN:Hid (qfz w sb so (.slice a l.length cap) (l++[⟨key,⟨wl,c,st,m,d,false⟩⟩]) (y.setCell ⟨sb,so,none⟩ (.slice (some ⟨g,0,none⟩) (l.length+1) K))):=
      ⟨_,⟨BZ,by rw[qhy,List.length_append];exact ownZ,λe=>gne (by simpa[Value.ownBlock]using e),λx n=>by
        rcases List.mem_append.1 n with h|h
        ·exact C.ok x h
        ·obtain rfl:=List.mem_singleton.1 h
         exact HV.out⟩,λk M=>by
        have e:g=k:=by simpa[Value.ownBlock]using M
        rw[<-e]
        exact gnew,TZ,RZ⟩
     clear BZ ownZ TZ gnew gne
     go_wp2_with fail
     go_ret;exact⟨by rw[J.out];rfl,by rw[PL.out];exact FIN.out⟩
 ·have em:d.toList.isEmpty=true:=by
   have:=P5.out;cases n:d.toList.isEmpty
   ·rw[n]at this;cases this
   ·rfl
  obtain⟨a,cap,rfl,hH⟩:=qh6 C.own;have L:=hH.later hb;have box4:=C.box.later hb;have s0:w4.cell? ⟨sb,so,none⟩=some (.slice a l.length cap):=box4.cell
  go_wp2_with fail
  clear s0 box4
  go_loopw [48] (λiv wr=>∃(k:Nat) (z:Int),k<=l.length/\z=k/\iv=int i64 z/\(∀j,j<k->qd8 key ⟨wl,c,st,m,d,true⟩ (qfh l j)=false)/\qag wr w.heap.size [int i64 wl,int i64 c,int i64 st,int i64 m,.string d,.bool true]/\Below w.heap.size w wr) (λi _=>l.length-(intOf i).toNat)
  case atStart=>exact⟨0,0,by omega,rfl,rfl,λj Q=>by omega,R,hb⟩
  case round=>
   clear R hb L;obtain⟨k,z,M,S,rfl,hnt,R,hb⟩:=hrel;have N:Hid _:=hnt;clear hnt;have U:Hid _:=S;have L:=hH.later hb;by_cases o:k<l.length
   ·have h1:z<(l.length:Int):=by omega
    have h2:z.toNat=k:=by omega
    have h3:0<=z:=by omega
    clear S
    obtain⟨b,p,rfl,q⟩:∃b p,a=some ⟨b,p,none⟩/\∀i r u,i<l.length->(hdL (qfh l i))[r]?=some u->wr.cell? ⟨b,p+(i*7+r),none⟩=some u:=by
     rcases L.held with V|V
     ·rw[V]at o;simp at o
     ·exact V
    obtain⟨⟨D,⟨E,F,G,W,X,Y⟩⟩,n⟩:∃x,qfh l k=x:=⟨_,rfl⟩;have x0:wr.cell? ⟨b,p+k*7,none⟩=some (int i64 D):=q k 0 _ o (by rw[n];rfl);have x1:wr.cell? ⟨b,p+k*7+1,none⟩=some (int i64 E):=q k 1 _ o (by rw[n];rfl);have x2:wr.cell? ⟨b,p+k*7+2,none⟩=some (int i64 F):=q k 2 _ o (by rw[n];rfl);have x3:wr.cell? ⟨b,p+k*7+3,none⟩=some (int i64 G):=q k 3 _ o (by rw[n];rfl);have x4:wr.cell? ⟨b,p+k*7+4,none⟩=some (int i64 W):=q k 4 _ o (by rw[n];rfl);have x5:wr.cell? ⟨b,p+k*7+5,none⟩=some (.string X):=q k 5 _ o (by rw[n];rfl);have x6:wr.cell? ⟨b,p+k*7+6,none⟩=some (.bool Y):=q k 6 _ o (by rw[n];rfl);have HX:Hid _:=n;clear n q L
    have O:Hid (qd8 key ⟨wl,c,st,m,d,true⟩ (qfh l k)=((D==key)&&qko E F wl c&&(G==st))):=by
     show qd8 key ⟨wl,c,st,m,d,true⟩ (qfh l k)=_;rw[HX.out];simp only[qd8,qko];rw[Bool.eq_iff_iff];simp
    have B:=R.boxed (.cells #[int i64 D,int i64 E,int i64 F,int i64 G,int i64 W,.string X,.bool Y] 204);have P:=boxed hb (.cells #[int i64 D,int i64 E,int i64 F,int i64 G,int i64 W,.string X,.bool Y] 204);have c0:=B.cell 0 _ rfl;have c1:=B.cell 1 _ rfl;have c2:=B.cell 2 _ rfl;cases e1:(D==key)
    ·have I:Hid (∀j,j<k+1->qd8 key ⟨wl,c,st,m,d,true⟩ (qfh l j)=false):=λj Q=>by
         rcases Nat.lt_or_ge j k with g|g
         ·exact N.out j g
         ·obtain rfl:j=k:=by omega
          rw[O.out,e1];rfl
     go_wp2_with fail
     go_roundw
     case rel=>exact⟨k+1,z+1,by omega,by have:=U.out;omega,by go_num,I.out,B,P⟩
     case measure=>simp[intOf];omega
    ·cases e2:qko E F wl c
     ·have I:Hid (∀j,j<k+1->qd8 key ⟨wl,c,st,m,d,true⟩ (qfh l j)=false):=λj Q=>by
          rcases Nat.lt_or_ge j k with g|g
          ·exact N.out j g
          ·obtain rfl:j=k:=by omega
           rw[O.out,e1,e2];rfl
      go_wp2_with fail
      go_roundw
      case rel=>exact⟨k+1,z+1,by omega,by have:=U.out;omega,by go_num,I.out,B,P⟩
      case measure=>simp[intOf];omega
     ·cases e3:(G==st)
      ·have I:Hid (∀j,j<k+1->qd8 key ⟨wl,c,st,m,d,true⟩ (qfh l j)=false):=λj Q=>by
           rcases Nat.lt_or_ge j k with g|g
           ·exact N.out j g
           ·obtain rfl:j=k:=by omega
            rw[O.out,e1,e2,e3];rfl
       go_wp2_with fail
       go_roundw
       case rel=>exact⟨k+1,z+1,by omega,by have:=U.out;omega,by go_num,I.out,B,P⟩
       case measure=>simp[intOf];omega
      ·have J:Hid (qgs l key ⟨wl,c,st,m,d,true⟩=9):=by
           have tt:qd8 key ⟨wl,c,st,m,d,true⟩ (qfh l k)=true:=by rw[O.out,e1,e2,e3];rfl
           have Z:l.any (qd8 key ⟨wl,c,st,m,d,true⟩)=true:=List.any_eq_true.2 ⟨qfh l k,by simp only[qfh,List.getD,List.getElem?_eq_getElem o,Option.getD_some];exact List.getElem_mem o,tt⟩;show qgs l key ⟨wl,c,st,m,d,true⟩=9;unfold qgs;rw[H.out,HV.out,Z];rfl
       have PL:Hid (qfd l key ⟨wl,c,st,m,d,true⟩=l):=by show qfd l key ⟨wl,c,st,m,d,true⟩=l;unfold qfd;rw[J.out];rfl
       go_wp2_with fail
       go_ret;exact⟨by rw[J.out];rfl,by rw[PL.out];exact qfz.same C P⟩
   ·have h4:¬z<(l.length:Int):=by omega
    have J:Hid (qgs l key ⟨wl,c,st,m,d,true⟩=0):=by
     have Z:l.any (qd8 key ⟨wl,c,st,m,d,true⟩)=false:=by
         rw[List.any_eq_false];intro x n;obtain⟨i,hi,rfl⟩:=List.mem_iff_getElem.1 n;have e:=N.out i (by omega);simp only[qfh,List.getD,List.getElem?_eq_getElem hi,Option.getD_some]at e;simp[e]
     show qgs l key ⟨wl,c,st,m,d,true⟩=0;unfold qgs;rw[H.out,HV.out,Z];rfl
    have PL:Hid (qfd l key ⟨wl,c,st,m,d,true⟩=l++[⟨key,⟨wl,c,st,m,d,true⟩⟩]):=by show qfd l key ⟨wl,c,st,m,d,true⟩=_;unfold qfd;rw[J.out];rfl
    clear S;have s:=C.later hb;have s0:wr.cell? ⟨sb,so,none⟩=some (.slice a l.length cap):=s.box.cell;have s1:wr.frozen? ⟨sb,so,none⟩=false:=s.box.free;have hsb:sb<wr.heap.size:=s.box.lt;obtain⟨c0,c1,c2,c3,c4,c5⟩:=R.c6;have ownd:wr.drew.ownsRow 0 204 7 (.slice a l.length cap) l.length (qp8 l):=s.own;obtain⟨i0,hi,hz0,hz1,hz2⟩:=info_parts qjt
    go_wp2_with fail
    go_region_law (refine step_append_lies _ rfl (.tmp 77) (.tmp 81) 54 rfl 0 204 i0 (.agg #[int i64 0,int i64 0,int i64 0,int i64 0,int i64 0,.string ⟨#[]⟩,.bool false]) 7 64 Tryz.underlying54 hi hz0 hz1 hz2 rfl (by decide) (.slice a l.length cap) l.length (qp8 l) (by simp[Act.eval]) (ownd.alloc _) ⟨wr.heap.size,0,none⟩ 1 1 (hdL ⟨key,⟨wl,c,st,m,d,true⟩⟩) (by simp[Act.eval]) rfl (World.news_of_block (heap_alloc_new wr.drew (.cells #[int i64 key,int i64 wl,int i64 c,int i64 st,int i64 m,.string d,.bool true] 204))) (by intro u hu;simp[hdL]at hu;rcases hu with rfl|rfl|rfl|rfl|rfl|rfl|rfl<;>rfl) (by decide) (by simp only[maxLen];omega) (by omega) (by simp) _ rfl ?_
                   intro g K y ownE grE egE ltE;have BE:=((s.box.drew).boxed (.cells #[int i64 key,int i64 wl,int i64 c,int i64 st,int i64 m,.string d,.bool true] 204)).grown grE (λe=>s.apart e.symm);have s0E:y.cell? ⟨sb,so,none⟩=some (.slice a l.length cap):=BE.cell
                   have s1E:y.frozen? ⟨sb,so,none⟩=false:=BE.free)
    all_goals
     have BZ:=BE.set (.slice (some ⟨g,0,none⟩) (l.length+1) K)
     have gne:g≠sb:=by
         rcases egE with e|e
         ·intro h;rw[h]at e;exact s.apart e
         ·simp at e;omega
     have gnew:(Value.slice a l.length cap).ownBlock=some g\/w.heap.size<=g:=by
         rcases egE with e|e
         ·exact .inl e
         ·right
          have:=hb.size;simp at e;omega
     have ownZ:=ownE.kept (row:=some sb) (qhz sb so y (.slice (some ⟨g,0,none⟩) (l.length+1) K)) (.inr (λe=>gne (by simpa[Value.ownBlock]using e)))
     have TZ:qae (q1l sb (.slice a l.length cap)) w (y.setCell ⟨sb,so,none⟩ (.slice (some ⟨g,0,none⟩) (l.length+1) K)):=
         (((qae.ofBelow hb).trans (qae.ofBelow (boxed ((Below.refl _ wr).drew) (.cells #[int i64 key,int i64 wl,int i64 c,int i64 st,int i64 m,.string d,.bool true] 204)))).trans (qae.grown grE (λk M=>.inr M))).trans (qae.setCell y ⟨sb,so,none⟩ _ (.inl rfl))
     have RZ:qfm sb so w (y.setCell ⟨sb,so,none⟩ (.slice (some ⟨g,0,none⟩) (l.length+1) K)):=
         (((qfm.ofBlock (hb.block sb C.box.lt)).trans (qfm.ofBlock (w:=wr) (Below.heap_alloc wr.drew _ sb hsb))).trans (qfm.ofBlock (grE.block sb (by simp;omega) (λe=>s.apart e.symm)))).trans (qfm.set sb so y _)
     have FIN:Hid (qfz w sb so (.slice a l.length cap) (l++[⟨key,⟨wl,c,st,m,d,true⟩⟩]) (y.setCell ⟨sb,so,none⟩ (.slice (some ⟨g,0,none⟩) (l.length+1) K))):=
         ⟨_,⟨BZ,by rw[qhy,List.length_append];exact ownZ,λe=>gne (by simpa[Value.ownBlock]using e),λx n=>by
           rcases List.mem_append.1 n with h|h
           ·exact C.ok x h
           ·obtain rfl:=List.mem_singleton.1 h
            exact HV.out⟩,λk M=>by
           have e:g=k:=by simpa[Value.ownBlock]using M
           rw[<-e]
           exact gnew,TZ,RZ⟩
     clear BZ ownZ TZ gnew gne
     go_wp2_with fail
     go_ret;exact⟨by rw[J.out];rfl,by rw[PL.out];exact FIN.out⟩
theorem q2j (key:Int) (v:Ver) (w:World) (a:qg4 w sb so sv l) (b:l.length<=1000):
 Calls Tryz.prog 141 #[.pointer (some ⟨sb,so,none⟩),int i64 key,.agg #[int i64 v.wall,int i64 v.count,int i64 v.site,int i64 v.seq,.string v.data,.bool v.gone]] w λe w'=>e=.returned (int i64 (qgs l key v))/\qfz w sb so sv (qfd l key v) w':=by
 cases h:inB key 0 7
 ·exact quo h v w a
 ·cases hv:qdm v
  ·exact q02 h v hv w a
  ·exact q4p h v hv w a b
end
section
structure qc6 (w:World) (b:Nat) (lv wv sv:Value) (S:qaf) (log waits:List TxM):Prop where
 box:qag w b (qcf S lv wv sv)
 rlog:w.ownsRow 0 80 9 lv log.length (qef log)
 rwait:w.ownsRow 0 80 9 wv waits.length (qef waits)
 own:w.ownsRow 0 204 7 sv S.l.length (qp8 S.l)
 ok:∀h∈S.l,qdm h.v=true
 nl:lv.ownBlock≠some b
 nw:wv.ownBlock≠some b
 ns:sv.ownBlock≠some b
 lw:∀k,lv.ownBlock=some k->wv.ownBlock≠some k
 ls:∀k,lv.ownBlock=some k->sv.ownBlock≠some k
 ws:∀k,wv.ownBlock=some k->sv.ownBlock≠some k
 hold:∀m∈log++waits,qat w m.wa m.wc m.t.ws/\∀k,m.blk k->¬qap b lv wv sv k
variable {w:World} {b:Nat} {lv wv sv:Value} {S:qaf}
theorem qc6.lt {log waits:List TxM} (h:qc6 w b lv wv sv S log waits):∀k,qap b lv wv sv k->k<w.heap.size:=λk a=>by
 rcases a with rfl|a|a|a
 ·exact h.box.lt
 ·exact(h.rlog.lt k a).2
 ·exact(h.rwait.lt k a).2
 ·exact(h.own.lt k a).2
variable {w':World}
theorem qc6.kept {log waits:List TxM} (h:qc6 w b lv wv sv S log waits) (a:∀k,k<w.heap.size->w'.heap[k]?=w.heap[k]?) (d:w.heap.size<=w'.heap.size):qc6 w' b lv wv sv S log waits:=
 ⟨h.box.kept (a b h.box.lt) d,qad h.rlog (λk e=>a k (h.rlog.lt k e).2),qad h.rwait (λk e=>a k (h.rwait.lt k e).2),qad h.own (λk e=>a k (h.own.lt k e).2),h.ok,h.nl,h.nw,h.ns,h.lw,h.ls,h.ws,
   λm c=>⟨(h.hold m c).1.kept (λk e=>a k ((h.hold m c).1.blk_lt k e)),(h.hold m c).2⟩⟩
theorem qc6.later {log waits:List TxM} (h:qc6 w b lv wv sv S log waits) (hb:Below w.heap.size w w'):qc6 w' b lv wv sv S log waits:=h.kept hb.block hb.size
theorem qc6.st {log waits:List TxM} (h:qc6 w b lv wv sv S log waits):qg4 w b 9 sv S.l:=⟨⟨h.box.cell 9 _ rfl,h.box.free 9 (by simp[qcf]),h.box.lt⟩,h.own,h.ns,h.ok⟩
theorem qc6.store {log waits:List TxM} {q:List Hd} (h:qc6 w b lv wv sv S log waits) (y:qfz w b 9 sv q w'):
 ∃d,qc6 w' b lv wv d {S with l:=q} log waits/\(∀k,qap b lv wv d k->qap b lv wv sv k\/w.heap.size<=k)/\qae (qap b lv wv sv) w w':=by
 obtain⟨d,st,o,f,r⟩:=y
 have i:∀k,k<w.heap.size->k≠b->sv.ownBlock≠some k->w'.heap[k]?=w.heap[k]?:=λk c a z=>f.block k c (λe=>by
  rcases e with e|e
  ·exact a e
  ·exact z e)
 have A:∀k,lv.ownBlock=some k->w'.heap[k]?=w.heap[k]?:=λk e=>i k (h.rlog.lt k e).2 (λx=>h.nl (by rw[<-x];exact e)) (h.ls k e);have B:∀k,wv.ownBlock=some k->w'.heap[k]?=w.heap[k]?:=λk e=>i k (h.rwait.lt k e).2 (λx=>h.nw (by rw[<-x];exact e)) (h.ws k e)
 have s:∀k,qap b lv wv d k->qap b lv wv sv k\/w.heap.size<=k:=λk c=>by
  rcases c with c|c|c|c
  ·exact .inl (.inl c)
  ·exact .inl (.inr (.inl c))
  ·exact .inl (.inr (.inr (.inl c)))
  ·rcases o k c with a|a
   ·exact .inl (.inr (.inr (.inr a)))
   ·exact .inr a
 refine⟨d,⟨⟨λj v t=>?_,λj C=>?_,st.box.lt⟩,qad h.rlog A,qad h.rwait B,st.own,st.ok,h.nl,h.nw,st.apart,h.lw,λk e=>?_,λk e=>?_,λm g=>⟨(h.hold m g).1.kept (λk e=>?_),λk e n=>?_⟩⟩,s,⟨f.os,f.tape,f.output,f.size,λk c n=>i k c (λe=>n (.inl e)) (λe=>n (.inr (.inr (.inr e))))⟩⟩
 ·by_cases e:j=9
  ·subst e
   have D:v=d:=by simpa[qcf]using t.symm
   rw[D];exact st.box.cell
  ·rw[(r j e).1];refine h.box.cell j v ?_;rw[<-t];unfold qcf
   match j,e with
   |0,_=>rfl
   |1,_=>rfl
   |2,_=>rfl
   |3,_=>rfl
   |4,_=>rfl
   |5,_=>rfl
   |6,_=>rfl
   |7,_=>rfl
   |8,_=>rfl
   |j+10,_=>rfl
 ·by_cases e:j=9
  ·subst e;exact st.box.free
  ·rw[(r j e).2];exact h.box.free j C
 ·intro p;rcases o k p with a|a
  ·exact h.ls k e a
  ·have:=(h.rlog.lt k e).2;omega
 ·intro p;rcases o k p with a|a
  ·exact h.ws k e a
  ·have:=(h.rwait.lt k e).2;omega
 ·have lt:=(h.hold m g).1.blk_lt k e;have u:=(h.hold m g).2 k e;exact i k lt (λx=>u (.inl x)) (λx=>u (.inr (.inr (.inr x))))
 ·rcases s k n with a|a
  ·exact(h.hold m g).2 k e a
  ·have:=(h.hold m g).1.blk_lt k e;omega
end
section
structure qmt (w0:World) (b:Nat) (lv wv sv:Value) (S:qaf) (log waits:List TxM) (m:TxM) (k:Nat) (sv':Value) (wr:World):Prop where
 mem:qc6 wr b lv wv sv' {S with l:=qfl m.t (m.t.ws.take k) S.l} log waits
 box:qag wr w0.heap.size (txC m)
 far:¬qap b lv wv sv' w0.heap.size
 foot:∀j,qap b lv wv sv' j->qap b lv wv sv j\/w0.heap.size<=j
 touch:qae (qap b lv wv sv) w0 wr
variable {w0 wr w':World} {b k:Nat} {lv wv sv:Value} {S:qaf} {m:TxM}
theorem qmt.later {log waits:List TxM} {a:Value} (h:qmt w0 b lv wv sv S log waits m k a wr) (hb:Below wr.heap.size wr w'):qmt w0 b lv wv sv S log waits m k a w':=
 ⟨h.mem.later hb,h.box.later hb,h.far,h.foot,h.touch.trans (qae.ofBelow hb)⟩
theorem qmt.put {log waits:List TxM} {e:Value} (h:qmt w0 b lv wv sv S log waits m k e wr) (i:k<m.t.ws.length)
 (n:qfz wr b 9 e (qfd (qfl m.t (m.t.ws.take k) S.l) (qff m.t.ws k).key (qrg m.t (qff m.t.ws k))) w'):∃c,qmt w0 b lv wv sv S log waits m (k+1) c w':=by
 obtain⟨c,o,f,d⟩:=h.mem.store n;refine⟨c,by rw[qof i];exact o,h.box.kept (d.block _ h.box.lt h.far) d.size,λp=>?_,λj q=>?_,h.touch.more d h.foot⟩
 ·rcases f _ p with a|a
  ·exact h.far a
  ·have:=h.box.lt;omega
 ·rcases f j q with a|a
  ·exact h.foot j a
  ·exact .inr (by have:=h.touch.size;omega)
theorem qmt.outside {log waits:List TxM} {c:Value} {d:Nat} {xs:List Value} {f:List Hd} (h:qmt w0 b lv wv sv S log waits m k c wr)
 (i:qfz wr b 9 c f w') (e:qag wr d xs) (j:¬qap b lv wv c d):ApB w0.heap.size d (txC m) xs w':=by
 obtain⟨l,n,o,a⟩:=h.mem.store i;exact⟨h.box.kept (a.block _ h.box.lt h.far) a.size,e.kept (a.block _ e.lt j) a.size⟩
variable {w:World}
theorem qc6.cells {S':qaf} {log waits:List TxM} (h:qc6 w b lv wv sv S log waits) (a:∀k,k≠b->w'.heap[k]?=w.heap[k]?) (f:qag w' b (qcf S' lv wv sv)) (d:S'.l=S.l):qc6 w' b lv wv sv S' log waits:=
 ⟨f,qad h.rlog (λk e=>a k (λx=>h.nl (by rw[<-x];exact e))),qad h.rwait (λk e=>a k (λx=>h.nw (by rw[<-x];exact e))),by rw[d];exact qad h.own (λk e=>a k (λx=>h.ns (by rw[<-x];exact e))),by rw[d];exact h.ok,h.nl,h.nw,h.ns,h.lw,h.ls,h.ws,
   λm c=>⟨(h.hold m c).1.kept (λk e=>a k (λx=>(h.hold m c).2 k e (.inl x))),(h.hold m c).2⟩⟩
variable {s:Int}
theorem qc6.seq {log waits:List TxM} (h:qc6 w b lv wv sv S log waits) (x:Int) (d:0<=s) (e:s<=3):
 qc6 (w.setCell ⟨b,1+s.toNat,none⟩ (.int .i64 x)) b lv wv sv {S with a0:=qf8 s x S.a0,a1:=qf7 s x S.a1,a2:=qgf s x S.a2,a3:=qf5 s x S.a3} log waits:=by
 refine h.cells (λk a=>Below.heap_setCell _ _ _ _ a) ?_ rfl;have R:=h.box.set (1+s.toNat) (.int .i64 x) (by simp[qcf];omega)
 have c:s=0\/s=1\/s=2\/s=3:=by omega
 rcases c with rfl|rfl|rfl|rfl<;>exact R
theorem qc6.last {log waits:List TxM} (h:qc6 w b lv wv sv S log waits) (x y:Int):
 qc6 ((w.setCell ⟨b,5,none⟩ (.int .i64 x)).setCell ⟨b,6,none⟩ (.int .i64 y)) b lv wv sv {S with lw:=x,lc:=y} log waits:=
 h.cells (λk a=>(Below.heap_setCell _ _ _ _ a).trans (Below.heap_setCell _ _ _ _ a)) ((h.box.set 5 _ (by simp[qcf])).set 6 _ (by simp[qcf])) rfl
variable {wE:World} {g:Nat}
theorem qc6.append {log waits:List TxM} (h:qc6 w b lv wv sv S log waits) (m:TxM) (q:qat w m.wa m.wc m.t.ws/\∀k,m.blk k->¬qap b lv wv sv k) {f:Nat} (gr:w.grownBy wE lv.ownBlock)
 (r:wE.ownsRow 0 80 9 (.slice (some ⟨g,0,none⟩) (log.length+1) f) (log.length+1) (qef log++txC m)) (l:lv.ownBlock=some g\/w.heap.size<=g):
 qc6 (wE.setCell ⟨b,7,none⟩ (.slice (some ⟨g,0,none⟩) (log.length+1) f)) b (.slice (some ⟨g,0,none⟩) (log.length+1) f) wv sv S (log++[m]) waits/\(∀k,qap b (.slice (some ⟨g,0,none⟩) (log.length+1) f) wv sv k->qap b lv wv sv k\/w.heap.size<=k)/\
  qae (qap b lv wv sv) w (wE.setCell ⟨b,7,none⟩ (.slice (some ⟨g,0,none⟩) (log.length+1) f)):=by
 have n:∀k,k<w.heap.size->k≠b->lv.ownBlock≠some k->(wE.setCell ⟨b,7,none⟩ (.slice (some ⟨g,0,none⟩) (log.length+1) f)).heap[k]?=w.heap[k]?:=λk c a j=>
  (Below.heap_setCell _ _ _ _ a).trans (gr.block k c (λe=>j e.symm))
 have o:g≠b:=λe=>by
  rcases l with a|a
  ·exact h.nl (by rw[<-e];exact a)
  ·have:=h.box.lt;omega
 have gk:∀k,(Value.slice (some ⟨g,0,none⟩) (log.length+1) f).ownBlock=some k->g=k:=λk c=>by simpa[Value.ownBlock]using c
 have p:∀k,qap b (.slice (some ⟨g,0,none⟩) (log.length+1) f) wv sv k->qap b lv wv sv k\/w.heap.size<=k:=λk c=>by
  rcases c with c|c|c
  ·exact .inl (.inl c)
  ·obtain rfl:=gk k c;rcases l with a|a
   ·exact .inl (.inr (.inl a))
   ·exact .inr a
  ·exact .inl (.inr (.inr c))
 have hold:∀d:TxM,(qat w d.wa d.wc d.t.ws/\∀k,d.blk k->¬qap b lv wv sv k)->qat (wE.setCell ⟨b,7,none⟩ (.slice (some ⟨g,0,none⟩) (log.length+1) f)) d.wa d.wc d.t.ws/\∀k,d.blk k->¬qap b (.slice (some ⟨g,0,none⟩) (log.length+1) f) wv sv k:=λd i=>
  ⟨i.1.kept (λk e=>n k (i.1.blk_lt k e) (λx=>i.2 k e (.inl x)) (λx=>i.2 k e (.inr (.inl x)))),λk e u=>by
    rcases p k u with a|a
    ·exact i.2 k e a
    ·have:=i.1.blk_lt k e
     omega⟩
 refine⟨⟨(h.box.grown gr (λe=>h.nl e.symm)).set 7 _ (by simp[qcf]),?_,qad h.rwait (λk e=>n k (h.rwait.lt k e).2 (λx=>h.nw (by rw[<-x];exact e)) (λx=>h.lw k x e)),qad h.own (λk e=>n k (h.own.lt k e).2 (λx=>h.ns (by rw[<-x];exact e)) (λx=>h.ls k x e)),h.ok,λe=>o (gk b e),h.nw,h.ns,
  λk e=>?_,λk e=>?_,h.ws,λd i=>hold d ?_⟩,p,?_⟩
 ·have:=r.kept (row:=some b) (qhz b 7 wE (.slice (some ⟨g,0,none⟩) (log.length+1) f)) (.inr (λe=>o (gk b e)));rw[qjy,List.length_append];exact this
 ·obtain rfl:=gk k e;rcases l with a|a
  ·exact h.lw _ a
  ·intro x;have:=(h.rwait.lt _ x).2;omega
 ·obtain rfl:=gk k e;rcases l with a|a
  ·exact h.ls _ a
  ·intro x;have:=(h.own.lt _ x).2;omega
 ·rcases List.mem_append.1 i with a|a
  ·rcases List.mem_append.1 a with j|j
   ·exact h.hold d (List.mem_append.2 (.inl j))
   ·obtain rfl:=List.mem_singleton.1 j;exact q
  ·exact h.hold d (List.mem_append.2 (.inr a))
 ·exact(qae.grown gr (λk c=>.inr (.inl c))).trans (qae.setCell wE ⟨b,7,none⟩ _ (.inl rfl))
structure ApE (w0:World) (b:Nat) (lv wv sv:Value) (S:qaf) (log waits:List TxM) (m:TxM) (sv':Value) (wr:World):Prop where
 mem:qc6 wr b lv wv sv' S log waits
 box:qag wr w0.heap.size (txC m)
 far:¬qap b lv wv sv' w0.heap.size
 foot:∀j,qap b lv wv sv' j->qap b lv wv sv j\/w0.heap.size<=j
 touch:qae (qap b lv wv sv) w0 wr
theorem ApE.later {log waits:List TxM} {a:Value} (h:ApE w0 b lv wv sv S log waits m a wr) (hb:Below wr.heap.size wr w'):ApE w0 b lv wv sv S log waits m a w':=
 ⟨h.mem.later hb,h.box.later hb,h.far,h.foot,h.touch.trans (qae.ofBelow hb)⟩
theorem ApE.seq {log waits:List TxM} {a:Value} (h:ApE w0 b lv wv sv S log waits m a wr) (x:Int) (c:0<=s) (d:s<=3):
 ApE w0 b lv wv sv {S with a0:=qf8 s x S.a0,a1:=qf7 s x S.a1,a2:=qgf s x S.a2,a3:=qf5 s x S.a3} log waits m a (wr.setCell ⟨b,1+s.toNat,none⟩ (.int .i64 x)):=
 ⟨h.mem.seq x c d,h.box.far _ _ (λe=>h.far (.inl e.symm)),h.far,h.foot,h.touch.trans (qae.setCell wr ⟨b,1+s.toNat,none⟩ _ (.inl rfl))⟩
theorem ApE.last {log waits:List TxM} {a:Value} (h:ApE w0 b lv wv sv S log waits m a wr) (x y:Int):
 ApE w0 b lv wv sv {S with lw:=x,lc:=y} log waits m a ((wr.setCell ⟨b,5,none⟩ (.int .i64 x)).setCell ⟨b,6,none⟩ (.int .i64 y)):=
 ⟨h.mem.last x y,(h.box.far _ _ (λe=>h.far (.inl e.symm))).far _ _ (λe=>h.far (.inl e.symm)),h.far,h.foot,(h.touch.trans (qae.setCell wr ⟨b,5,none⟩ _ (.inl rfl))).trans (qae.setCell _ ⟨b,6,none⟩ _ (.inl rfl))⟩
theorem ApE.append {log waits:List TxM} {l:Value} (h:ApE w0 b lv wv sv S log waits m l wr) (a:qat w0 m.wa m.wc m.t.ws/\∀k,m.blk k->¬qap b lv wv sv k) {d:Nat} (gr:wr.grownBy wE lv.ownBlock)
 (n:wE.ownsRow 0 80 9 (.slice (some ⟨g,0,none⟩) (log.length+1) d) (log.length+1) (qef log++txC m)) (o:lv.ownBlock=some g\/wr.heap.size<=g):
 ∃f i,qc6 (wE.setCell ⟨b,7,none⟩ (.slice (some ⟨g,0,none⟩) (log.length+1) d)) b f wv i S (log++[m]) waits/\(∀k,qap b f wv i k->qap b lv wv sv k\/w0.heap.size<=k)/\qae (qap b lv wv sv) w0 (wE.setCell ⟨b,7,none⟩ (.slice (some ⟨g,0,none⟩) (log.length+1) d)):=by
 obtain⟨c,p,q⟩:=h.mem.append m ⟨a.1.kept (λk e=>h.touch.block k (a.1.blk_lt k e) (a.2 k e)),λk e r=>by
  rcases h.foot k r with c|c
  ·exact a.2 k e c
  ·have:=a.1.blk_lt k e
   omega⟩ gr n o
 refine⟨_,_,c,λk u=>?_,h.touch.more q h.foot⟩;rcases p k u with j|j
 ·exact h.foot k j
 ·exact .inr (by have:=h.touch.size;omega)
end
section
open Go.Value Go.IntKind
theorem qi0 {b:Nat} {lv wv sv:Value} {S:qaf} {log waits:List TxM} (m:TxM) (w:World) (h:qc6 w b lv wv sv S log waits) (L:qat w m.wa m.wc m.t.ws/\∀k,m.blk k->¬qap b lv wv sv k) (hs0:0<=m.t.site) (hs1:m.t.site<=3) (hl:S.l.length+m.t.ws.length<=1000) (hlog:log.length<=1000):
 Calls Tryz.prog 116 #[.pointer (some ⟨b,0,none⟩),.agg #[int i64 m.t.site,int i64 m.t.seq,int i64 m.t.wall,int i64 m.t.count,int i64 m.t.d0,int i64 m.t.d1,int i64 m.t.d2,int i64 m.t.d3,.slice m.wa m.t.ws.length m.wc]] w λe w'=>
  e=.returned (.tuple #[])/\∃u o,qc6 w' b u wv o (qbr S m.t) (log++[m]) waits/\(∀k,qap b u wv o k->qap b lv wv sv k\/w.heap.size<=k)/\qae (qap b lv wv sv) w w':=by
 have hb:=boxed (Below.refl _ w) (.cells #[int i64 m.t.site,int i64 m.t.seq,int i64 m.t.wall,int i64 m.t.count,int i64 m.t.d0,int i64 m.t.d1,int i64 m.t.d2,int i64 m.t.d3,.slice m.wa m.t.ws.length m.wc] 80);have R:=qag.new (w:=w) (T:=80) (txC m) rfl;change qag (w.alloc (.cells #[int i64 m.t.site,int i64 m.t.seq,int i64 m.t.wall,int i64 m.t.count,int i64 m.t.d0,int i64 m.t.d1,int i64 m.t.d2,int i64 m.t.d3,.slice m.wa m.t.ws.length m.wc] 80)) w.heap.size (txC m)at R
 have U:qmt w b lv wv sv S log waits m 0 sv (w.alloc (.cells #[int i64 m.t.site,int i64 m.t.seq,int i64 m.t.wall,int i64 m.t.count,int i64 m.t.d0,int i64 m.t.d1,int i64 m.t.d2,int i64 m.t.d3,.slice m.wa m.t.ws.length m.wc] 80)):=
  ⟨by simpa[qfl]using h.later hb,R,λe=>Nat.lt_irrefl _ (h.lt _ e),λj hj=>.inl hj,qae.ofBelow hb⟩
 have M:Hid _:=L;have hc1:=L.1.len;have hc2:=L.1.cap;clear L hb R;go_enter Tryz.func116,Tryz.ntmps116
 go_wp2_with fail
 obtain⟨W,hWW⟩:∃W,w.alloc (.cells #[int i64 m.t.site,int i64 m.t.seq,int i64 m.t.wall,int i64 m.t.count,int i64 m.t.d0,int i64 m.t.d1,int i64 m.t.d2,int i64 m.t.d3,.slice m.wa m.t.ws.length m.wc] 80)=W:=⟨_,rfl⟩;rw[hWW]at U ⊢;clear hWW
 go_loopw [9] (λiv wr=>∃(k:Nat) (z:Int) (o:Value),k<=m.t.ws.length/\z=k/\iv=int i64 z/\Hid (qmt w b lv wv sv S log waits m k o wr)) (λi _=>m.t.ws.length-(intOf i).toNat)
 case atStart=>exact⟨0,0,sv,by omega,rfl,rfl,U⟩
 case round=>
  clear U;obtain⟨k,z,o,hk,V,rfl,D⟩:=hrel;have HZ:Hid _:=V;by_cases E:k<m.t.ws.length
  ·have c:z<(m.t.ws.length:Int):=by omega
   have h2:z.toNat=k:=by omega
   have h3:0<=z:=by omega
   clear V
   obtain⟨n,y,N,hcc⟩:∃n y,m.wa=some ⟨n,y,none⟩/\qcy w n y m.t.ws:=by
        rcases M.out.1.held with X|X
        ·rw[X]at E;simp at E
        ·exact X
   have Y:m.blk n:=⟨λe=>by rw[e]at E;simp at E,y,N⟩;have hwl:=M.out.1.blk_lt n Y;have O:=D.out.touch.block n hwl (M.out.2 n Y);obtain⟨⟨xk,xd,xg⟩,Z⟩:∃x,qff m.t.ws k=x:=⟨_,rfl⟩;have F:=hcc k E;rw[Z]at F
   have x0:wr.cell? ⟨n,y+k*3,none⟩=some (int i64 xk):=by rw[World.cell?_of_block (w:=w) O];exact F.1
   have x1:wr.cell? ⟨n,y+k*3+1,none⟩=some (.string xd):=by rw[World.cell?_of_block (w:=w) O];exact F.2.1
   have x2:wr.cell? ⟨n,y+k*3+2,none⟩=some (.bool xg):=by rw[World.cell?_of_block (w:=w) O];exact F.2.2
   have HX:Hid _:=Z;have HWA:Hid _:=N;rw[N];clear hcc Y O F Z N hwl;have hbx:=boxed (Below.refl _ wr) (.cells #[int i64 xk,.string xd,.bool xg] 34);have G:=(D.out.later hbx).later (Below.refl _ (wr.alloc (.cells #[int i64 xk,.string xd,.bool xg] 34))).drew;have P:=(qag.new (w:=wr) (T:=34) [int i64 xk,.string xd,.bool xg] rfl).drew;change qag (wr.alloc (.cells #[int i64 xk,.string xd,.bool xg] 34)).drew wr.heap.size [int i64 xk,.string xd,.bool xg]at P;have SB:ApB w.heap.size wr.heap.size (txC m) [int i64 xk,.string xd,.bool xg] (wr.alloc (.cells #[int i64 xk,.string xd,.bool xg] 34)).drew:=⟨G.box,P⟩
   have hll:(qfl m.t (m.t.ws.take k) S.l).length<=1000:=by
        have:=qfs m.t (m.t.ws.take k) S.l;rw[List.length_take]at this;omega
   have PU:Hid (Calls Tryz.prog 141 #[.pointer (some ⟨b,9,none⟩),int i64 xk,.agg #[int i64 m.t.wall,int i64 m.t.count,int i64 m.t.site,int i64 m.t.seq,.string xd,.bool xg]] (wr.alloc (.cells #[int i64 xk,.string xd,.bool xg] 34)).drew λe w'=>e=.returned (int i64 (qgs (qfl m.t (m.t.ws.take k) S.l) xk ⟨m.t.wall,m.t.count,m.t.site,m.t.seq,xd,xg⟩))/\ApB w.heap.size wr.heap.size (txC m) [int i64 xk,.string xd,.bool xg] w'/\∃r,Hid (qmt w b lv wv sv S log waits m (k+1) r w')):=
        (q2j xk ⟨m.t.wall,m.t.count,m.t.site,m.t.seq,xd,xg⟩ _ G.mem.st hll).mono λe w' ⟨he,hp⟩=>⟨he,G.outside hp P (λhf=>Nat.lt_irrefl _ (D.out.mem.lt _ hf)),G.put E (by rw[HX.out];exact hp)⟩
   have T0:=λ(w':World) (h:ApB w.heap.size wr.heap.size (txC m) [int i64 xk,.string xd,.bool xg] w')=>h.t.cell 0 _ rfl;have T1:=λ(w':World) (h:ApB w.heap.size wr.heap.size (txC m) [int i64 xk,.string xd,.bool xg] w')=>h.t.cell 1 _ rfl;have T2:=λ(w':World) (h:ApB w.heap.size wr.heap.size (txC m) [int i64 xk,.string xd,.bool xg] w')=>h.t.cell 2 _ rfl;have T3:=λ(w':World) (h:ApB w.heap.size wr.heap.size (txC m) [int i64 xk,.string xd,.bool xg] w')=>h.t.cell 3 _ rfl;have X0:=λ(w':World) (h:ApB w.heap.size wr.heap.size (txC m) [int i64 xk,.string xd,.bool xg] w')=>h.x.cell 0 _ rfl;have X1:=λ(w':World) (h:ApB w.heap.size wr.heap.size (txC m) [int i64 xk,.string xd,.bool xg] w')=>h.x.cell 1 _ rfl;have X2:=λ(w':World) (h:ApB w.heap.size wr.heap.size (txC m) [int i64 xk,.string xd,.bool xg] w')=>h.x.cell 2 _ rfl;clear G P hbx hll D
   go_wp2_with fail
   go_region_held3 (λw'=>ApB w.heap.size wr.heap.size (txC m) [int i64 xk,.string xd,.bool xg] w') (with_reducible assumption)
        (first|(go_at_call 141;with_reducible refine PU.out.mono ?_;rintro e B ⟨rfl,SB5,r,AM3⟩))
   all_goals
        go_wp2_with fail
        go_roundw
        case rel=>exact⟨k+1,z+1,r,by omega,by have:=HZ.out;omega,by go_num,AM3⟩
        case measure=>simp[intOf];have:=HZ.out;omega
  ·have h4:¬z<(m.t.ws.length:Int):=by omega
   obtain rfl:k=m.t.ws.length:=by omega
   clear V
   have H:Hid (ApE w b lv wv sv {S with l:=qfl m.t m.t.ws S.l} log waits m o wr):=by
        have I:=D.out;refine⟨?_,I.box,I.far,I.foot,I.touch⟩;have:=I.mem;rw[List.take_length]at this;exact this
   have BX:=H.out.box;have t0:=BX.cell 0 _ rfl;have t1:=BX.cell 1 _ rfl;have s1:=H.out.mem.box.free (1+m.t.site.toNat) (by simp[qcf];omega);obtain⟨ov,s0⟩:∃v,wr.cell? ⟨b,1+m.t.site.toNat,none⟩=some v:=⟨_,H.out.mem.box.cell (1+m.t.site.toNat) _ (List.getElem?_eq_getElem (by simp[qcf];omega))⟩
   go_wp2_with fail
   go_region
   have C:Hid _:=(H.out.seq m.t.seq hs0 hs1).later (Below.refl _ _).drew;obtain⟨W1,hW1⟩:∃W1,(wr.setCell ⟨b,1+m.t.site.toNat,none⟩ (int i64 m.t.seq)).drew=W1:=⟨_,rfl⟩;rw[hW1]at C ⊢;clear hW1 H D BX t0 t1 s0 s1;have t2:=Later.cell (C.out.box.cell 2 _ rfl);have t3:=Later.cell (C.out.box.cell 3 _ rfl);have l5:=Later.cell (C.out.mem.box.cell 5 _ rfl);have l6:=Later.cell (C.out.mem.box.cell 6 _ rfl)
   go_wp2_with fail
   refine qaa (by kernel_rfl) (by kernel_rfl) ?_
   repeat (go_big_quiet_step (first|rfl|(go_at_call 142;exact qab (qf3 _ _ _ _ _))))
   refine wpQuiet_nil ?_;rintro B ⟨⟨_,hb7⟩,rfl⟩;have a:Hid _:=C.out.later hb7;clear C hb7 t2 t3 l5 l6
   have Q:∀(S9:qaf) (d:World),Hid (ApE w b lv wv sv S9 log waits m o d)->{S9 with log:=S.log++[m.t]}=qbr S m.t->∀(g s:Nat) (p:World),(d.drew.alloc (.cells #[int i64 m.t.site,int i64 m.t.seq,int i64 m.t.wall,int i64 m.t.count,int i64 m.t.d0,int i64 m.t.d1,int i64 m.t.d2,int i64 m.t.d3,.slice m.wa m.t.ws.length m.wc] 80)).grownBy p lv.ownBlock->
    p.ownsRow 0 80 9 (.slice (some ⟨g,0,none⟩) (log.length+1) s) (log.length+1) (qef log++txC m)->(lv.ownBlock=some g\/g=(d.drew.alloc (.cells #[int i64 m.t.site,int i64 m.t.seq,int i64 m.t.wall,int i64 m.t.count,int i64 m.t.d0,int i64 m.t.d1,int i64 m.t.d2,int i64 m.t.d3,.slice m.wa m.t.ws.length m.wc] 80)).heap.size)->
    Hid (∃u r,qc6 (p.setCell ⟨b,7,none⟩ (.slice (some ⟨g,0,none⟩) (log.length+1) s)) b u wv r (qbr S m.t) (log++[m]) waits/\(∀k,qap b u wv r k->qap b lv wv sv k\/w.heap.size<=k)/\qae (qap b lv wv sv) w (p.setCell ⟨b,7,none⟩ (.slice (some ⟨g,0,none⟩) (log.length+1) s))):=λS9 d A e g s p gr ow eg=>by
        have A':=A.out.later (boxed ((Below.refl _ d).drew) (.cells #[int i64 m.t.site,int i64 m.t.seq,int i64 m.t.wall,int i64 m.t.count,int i64 m.t.d0,int i64 m.t.d1,int i64 m.t.d2,int i64 m.t.d3,.slice m.wa m.t.ws.length m.wc] 80));obtain⟨u,r,c,h2,h3⟩:=A'.append M.out gr ow (eg.imp id (λe=>Nat.le_of_eq e.symm));rw[<-e];exact⟨u,r,⟨c.box,c.rlog,c.rwait,c.own,c.ok,c.nl,c.nw,c.ns,c.lw,c.ls,c.ws,c.hold⟩,h2,h3⟩
   obtain⟨i0,hi,hz0,hz1,hz2⟩:=info_parts qqr;cases hd:decide (0<qio m.t.wall m.t.count S.lw S.lc)
   ·have AP:=Q _ B a (by simp only[qbr];have:=of_decide_eq_false hd;simp[this]);obtain⟨t0,t1,t2,t3,t4,t5,t6,t7,t8⟩:=a.out.box.c9;have s7:=a.out.mem.box.cell 7 _ rfl;have f7:=a.out.mem.box.free 7 (by simp[qcf]);have own6:B.drew.ownsRow 0 80 9 lv log.length (qef log):=a.out.mem.rlog;have hsb:=a.out.mem.box.lt;have nb:some b≠lv.ownBlock:=λe=>a.out.mem.nl e.symm;have bx:qag B b (qcf _ lv wv o):=a.out.mem.box;clear Q
    go_wp2_with fail
    go_region_law (refine step_append_lies _ rfl (.tmp 56) (.tmp 58) 53 rfl 0 80 i0 (.agg #[int i64 0,int i64 0,int i64 0,int i64 0,int i64 0,int i64 0,int i64 0,int i64 0,.slice none 0 0]) 9 88 Tryz.underlying53 hi hz0 hz1 hz2 rfl (by decide) lv log.length (qef log) (by simp[Act.eval]) (own6.alloc _) ⟨B.heap.size,0,none⟩ 1 1 (txC m) (by simp[Act.eval]) rfl (World.news_of_block (heap_alloc_new B.drew (.cells #[int i64 m.t.site,int i64 m.t.seq,int i64 m.t.wall,int i64 m.t.count,int i64 m.t.d0,int i64 m.t.d1,int i64 m.t.d2,int i64 m.t.d3,.slice m.wa m.t.ws.length m.wc] 80))) (qi4 m) (by decide) (by simp only[maxLen];omega) (by omega) (by simp) _ rfl ?_
                   intro g s p ownE J egE ltE;have FIN:=AP g s p J ownE egE;have K:=((bx.drew).boxed (.cells #[int i64 m.t.site,int i64 m.t.seq,int i64 m.t.wall,int i64 m.t.count,int i64 m.t.d0,int i64 m.t.d1,int i64 m.t.d2,int i64 m.t.d3,.slice m.wa m.t.ws.length m.wc] 80)).grown J nb;have s0E:=K.cell 7 _ rfl
                   have s1E:=K.free 7 (by simp[qcf]))
    all_goals
     go_wp2_with fail
     go_end0;exact⟨rfl,FIN.out⟩
   ·have k2:=a.out.box.cell 2 _ rfl;have k3:=a.out.box.cell 3 _ rfl;have k5:=a.out.mem.box.cell 5 _ rfl;have k6:=a.out.mem.box.cell 6 _ rfl;have q5:=a.out.mem.box.free 5 (by simp[qcf]);have q6:=a.out.mem.box.free 6 (by simp[qcf])
    go_wp2_with fail
    have q:Hid _:=a.out.last m.t.wall m.t.count;obtain⟨d,hw6⟩:∃d,(B.setCell ⟨b,5,none⟩ (int i64 m.t.wall)).setCell ⟨b,6,none⟩ (int i64 m.t.count)=d:=⟨_,rfl⟩;rw[hw6]at q ⊢;clear hw6 a k2 k3 k5 k6 q5 q6;have AP:=Q _ d q (by simp only[qbr];have:=of_decide_eq_true hd;simp[this]);obtain⟨t0,t1,t2,t3,t4,t5,t6,t7,t8⟩:=q.out.box.c9;have s7:=q.out.mem.box.cell 7 _ rfl;have f7:=q.out.mem.box.free 7 (by simp[qcf]);have own6:d.drew.ownsRow 0 80 9 lv log.length (qef log):=q.out.mem.rlog;have hsb:=q.out.mem.box.lt;have nb:some b≠lv.ownBlock:=λe=>q.out.mem.nl e.symm;have bx:qag d b (qcf _ lv wv o):=q.out.mem.box;clear Q
    go_wp2_with fail
    go_region_law (refine step_append_lies _ rfl (.tmp 56) (.tmp 58) 53 rfl 0 80 i0 (.agg #[int i64 0,int i64 0,int i64 0,int i64 0,int i64 0,int i64 0,int i64 0,int i64 0,.slice none 0 0]) 9 88 Tryz.underlying53 hi hz0 hz1 hz2 rfl (by decide) lv log.length (qef log) (by simp[Act.eval]) (own6.alloc _) ⟨d.heap.size,0,none⟩ 1 1 (txC m) (by simp[Act.eval]) rfl (World.news_of_block (heap_alloc_new d.drew (.cells #[int i64 m.t.site,int i64 m.t.seq,int i64 m.t.wall,int i64 m.t.count,int i64 m.t.d0,int i64 m.t.d1,int i64 m.t.d2,int i64 m.t.d3,.slice m.wa m.t.ws.length m.wc] 80))) (qi4 m) (by decide) (by simp only[maxLen];omega) (by omega) (by simp) _ rfl ?_
                   intro g s p ownE J egE ltE;have FIN:=AP g s p J ownE egE;have K:=((bx.drew).boxed (.cells #[int i64 m.t.site,int i64 m.t.seq,int i64 m.t.wall,int i64 m.t.count,int i64 m.t.d0,int i64 m.t.d1,int i64 m.t.d2,int i64 m.t.d3,.slice m.wa m.t.ws.length m.wc] 80)).grown J nb;have s0E:=K.cell 7 _ rfl
                   have s1E:=K.free 7 (by simp[qcf]))
    all_goals
     go_wp2_with fail
     go_end0;exact⟨rfl,FIN.out⟩
end
section
open Go.Value Go.IntKind
theorem qm4 {b:Nat} {lv wv sv:Value} {S:qaf} {log waits:List TxM} (a c d l:Int) (w:World) (h:qc6 w b lv wv sv S log waits) (M:∀m∈log,0<=m.t.site/\m.t.site<=3) (hl:log.length<=1000):
 Calls Tryz.prog 85 #[.pointer (some ⟨b,0,none⟩),.agg #[int i64 a,int i64 c,int i64 d,int i64 l]] w λe w'=>
  ∃v,e=.returned v/\w'.ownsRow (w.heap.size+1) 80 9 v (log.filter (qe4 a c d l)).length (qef (log.filter (qe4 a c d l)))/\Below w.heap.size w w':=by
 obtain⟨la,lc,rfl,H⟩:=qa6 h.rlog;have hc1:=H.len;have hc2:=H.cap;have p:=qbe.new w 47 a c d l;have hb:=boxed (Below.refl _ w) (.cells #[int i64 a,int i64 c,int i64 d,int i64 l] 47);have N:=cell_later hb (h.box.cell 7 _ rfl);have HH:Hid _:=h;have HS:Hid _:=M;clear h M;go_enter Tryz.func85,Tryz.ntmps85
 go_wp2_with fail
 obtain⟨W,O⟩:∃W,w.alloc (.cells #[int i64 a,int i64 c,int i64 d,int i64 l] 47)=W:=⟨_,rfl⟩;rw[O]at p hb N ⊢;clear O N
 go_loopw [5,13] (λsl iv wr=>∃(k:Nat) (z:Int) (kept:List TxM) (x:Value),x=sl/\k<=log.length/\z=k/\iv=int i64 z/\(log.take k).filter (qe4 a c d l)=kept/\wr.ownsRow (w.heap.size+1) 80 9 x kept.length (qef kept)/\qbe wr w.heap.size a c d l/\Below w.heap.size w wr) (λ_ i _=>log.length-(intOf i).toNat)
 case atStart=>exact⟨0,0,[],_,rfl,by omega,rfl,rfl,by simp,World.ownsRow_nil _ _ _ _,p,hb⟩
 case round=>
  clear p hb;obtain⟨k,z,kept,x,hsl,hk,I,rfl,y,q,p,hb⟩:=hrel;subst hsl;have P:Hid _:=I;by_cases J:k<log.length
  ·have g1:z<(log.length:Int):=by omega
   have g2:z.toNat=k:=by omega
   have g3:0<=z:=by omega
   have hk6:kept.length<=1000:=by
        rw[<-y];have a1:=List.length_filter_le (qe4 a c d l) (log.take k);have a2:=List.length_take_le k log;omega
   obtain⟨E,F,hwa,Q⟩:∃E F,la=some ⟨E,F,none⟩/\∀i m r u,log[i]?=some m->(txC m)[r]?=some u->w.cell? ⟨E,F+(i*9+r),none⟩=some u:=by
        rcases H.held with e|e
        ·rw[e]at J;simp at J
        ·exact e
   obtain⟨⟨⟨site,seq,wall,count,d0,d1,d2,d3,ws⟩,n,o⟩,G⟩:∃m,log[k]?=some m:=⟨log[k],List.getElem?_eq_getElem J⟩;obtain⟨R,U⟩:=HS.out _ (List.mem_of_getElem? G);simp only at R U;have V:Hid _:=G;have X:Hid _:=y;have s:=λr u (hu:(txC ⟨⟨site,seq,wall,count,d0,d1,d2,d3,ws⟩,n,o⟩)[r]?=some u)=>(show wr.cell? ⟨E,F+k*9+r,none⟩=some u by rw[Nat.add_assoc];exact cell_later hb (Q k _ r u G hu));have x0:=s 0 _ rfl;have x1:=s 1 _ rfl;have x2:=s 2 _ rfl;have x3:=s 3 _ rfl;have x4:=s 4 _ rfl;have x5:=s 5 _ rfl;have x6:=s 6 _ rfl;have x7:=s 7 _ rfl;have x8:=s 8 _ rfl;rw[Nat.add_zero]at x0;rw[hwa];clear s Q G y I;replace p:=p.boxed (.cells #[int i64 site,int i64 seq,int i64 wall,int i64 count,int i64 d0,int i64 d1,int i64 d2,int i64 d3,.slice n ws.length o] 80);replace q:=q.alloc (.cells #[int i64 site,int i64 seq,int i64 wall,int i64 count,int i64 d0,int i64 d1,int i64 d2,int i64 d3,.slice n ws.length o] 80);replace hb:=boxed hb (.cells #[int i64 site,int i64 seq,int i64 wall,int i64 count,int i64 d0,int i64 d1,int i64 d2,int i64 d3,.slice n ws.length o] 80);have B:=qag.new (w:=wr) (T:=80) [int i64 site,int i64 seq,int i64 wall,int i64 count,int i64 d0,int i64 d1,int i64 d2,int i64 d3,.slice n ws.length o] rfl;have Y:=Later.cell (B.cell 0 _ rfl);have Z:=Later.cell (B.cell 1 _ rfl);have va:=Later.cell (qmv p R U);have KE:Hid (qe4 a c d l ⟨⟨site,seq,wall,count,d0,d1,d2,d3,ws⟩,n,o⟩=decide (qao site a c d l<seq)):=rfl
   go_wp2_with fail
   clear x0 x1 x2 x3 x4 x5 x6 x7 x8;refine qaa (by kernel_rfl) (by kernel_rfl) ?_
   repeat (go_big_quiet_step (first|rfl|fail))
   refine wpQuiet_nil ?_;rintro K ⟨⟨_,C⟩,rfl⟩;replace p:=p.later C;replace B:=B.later C;replace q:=qad q (λj D=>C.block j (q.lt j D).2);replace hb:=qac hb C;clear C Y Z va;cases hd:decide (qao site a c d l<seq)
   ·have L:Hid ((log.take (k+1)).filter (qe4 a c d l)=kept):=by
     have e:qe4 a c d l ⟨⟨site,seq,wall,count,d0,d1,d2,d3,ws⟩,n,o⟩=false:=by rw[KE.out];exact hd
     show (log.take (k+1)).filter (qe4 a c d l)=kept;rw[List.take_add_one,V.out,List.filter_append,X.out];simp[e]
    clear hd
    go_wp2_with fail
    go_roundw
    case rel=>exact⟨k+1,z+1,kept,_,rfl,by omega,by have:=P.out;omega,by go_num,L.out,q,p,hb⟩
    case measure=>simp[intOf];omega
   ·have L:Hid ((log.take (k+1)).filter (qe4 a c d l)=kept++[⟨⟨site,seq,wall,count,d0,d1,d2,d3,ws⟩,n,o⟩]):=by
     have e:qe4 a c d l ⟨⟨site,seq,wall,count,d0,d1,d2,d3,ws⟩,n,o⟩=true:=by rw[KE.out];exact hd
     show (log.take (k+1)).filter (qe4 a c d l)=_;rw[List.take_add_one,V.out,List.filter_append,X.out];simp[e]
    obtain⟨Y,Z,y2,y3,y4,y5,y6,y7,y8⟩:=B.c9;obtain⟨i0,hi,hz0,hz1,hz2⟩:=info_parts qqr
    have hsz5:w.heap.size+1<=K.heap.size:=by have:=p.lt;omega
    clear hd
    go_wp2_with (at_builtin;refine wpList_append_lies _ rfl (.tmp 24) (.tmp 26) 53 rfl (w.heap.size+1) 80 i0 (.agg #[int i64 0,int i64 0,int i64 0,int i64 0,int i64 0,int i64 0,int i64 0,int i64 0,.slice none 0 0]) 9 88 Tryz.underlying53 hi hz0 hz1 hz2 rfl (by decide) x kept.length (qef kept) rfl (q.alloc _) ⟨K.heap.size,0,none⟩ 1 1 (txC ⟨⟨site,seq,wall,count,d0,d1,d2,d3,ws⟩,n,o⟩) rfl rfl (World.news_of_block (heap_alloc_new K (.cells #[int i64 site,int i64 seq,int i64 wall,int i64 count,int i64 d0,int i64 d1,int i64 d2,int i64 d3,.slice n ws.length o] 80))) (qi4 _) (by decide) (by simp only[maxLen];omega) (by omega) (by simp;omega) _ rfl ?_;intro g cap9 wE ownE grE egE ltE)
    have rowsg:∀j,x.ownBlock=some j->w.heap.size+1<=j:=λj D=>(q.lt j D).1;have RAE:=(p.boxed (.cells #[int i64 site,int i64 seq,int i64 wall,int i64 count,int i64 d0,int i64 d1,int i64 d2,int i64 d3,.slice n ws.length o] 80)).grown4 grE (λe=>by have:=rowsg _ e.symm;omega);have hbE:=(boxed hb (.cells #[int i64 site,int i64 seq,int i64 wall,int i64 count,int i64 d0,int i64 d1,int i64 d2,int i64 d3,.slice n ws.length o] 80)).grown grE (by have:=hb.size;simp;omega) (λj D=>by have:=rowsg j D;omega)
    go_roundw
    case rel=>exact⟨k+1,z+1,kept++[⟨⟨site,seq,wall,count,d0,d1,d2,d3,ws⟩,n,o⟩],_,rfl,by omega,by have:=P.out;omega,by go_num,L.out,by rw[qjy,List.length_append];exact ownE,RAE,hbE⟩
    case measure=>simp[intOf];omega
  ·have g1:¬z<(log.length:Int):=by omega
   obtain rfl:k=log.length:=by omega
   rw[List.take_length]at y;clear I
   go_wp2_with fail
   go_ret;exact⟨x,rfl,by first|exact q|(rw[y];exact q),hb⟩
end
section
open Tryz Go.Value Go.IntKind
theorem qml (a0 a1 a2 a3:Int) (w:World):
 Calls prog 131 #[.agg #[int i64 a0,int i64 a1,int i64 a2,int i64 a3]] w λe w'=>e=.returned (.bool (qau a0 a1 a2 a3))/\Below w.heap.size w w':=by
 have h:∀w,(Instr.index 47 (.agg #[int i64 a0,int i64 a1,int i64 a2,int i64 a3]) (int i64 0)).run prog w=.ok (int i64 a0) w:=λ_=>by kernel_rfl
 have i:∀w,(Instr.index 47 (.agg #[int i64 a0,int i64 a1,int i64 a2,int i64 a3]) (int i64 1)).run prog w=.ok (int i64 a1) w:=λ_=>by kernel_rfl
 have j:∀w,(Instr.index 47 (.agg #[int i64 a0,int i64 a1,int i64 a2,int i64 a3]) (int i64 2)).run prog w=.ok (int i64 a2) w:=λ_=>by kernel_rfl
 have k:∀w,(Instr.index 47 (.agg #[int i64 a0,int i64 a1,int i64 a2,int i64 a3]) (int i64 3)).run prog w=.ok (int i64 a3) w:=λ_=>by kernel_rfl
 by_cases b:qai a0=false
 ·have e:qau a0 a1 a2 a3=false:=by simp[qau,b]
  rw[e];clear e;go_enter func131,ntmps131
  go_wp2
  refine wp_loop_rounds 5 ?_;rw[rounds_succ]
  go_wp2_with (go_at_call 30;refine(qdk _ _).mono ?_;rintro e a ⟨rfl,rfl⟩)
  go_ret;exact⟨rfl,by repeat (first|exact Below.refl _ _|apply qam|apply boxed)⟩
 have b:qai a0=true:=by simpa using b
 by_cases c:qai a1=false
 ·have e:qau a0 a1 a2 a3=false:=by simp[qau,c]
  rw[e];clear e;go_enter func131,ntmps131
  go_wp2
  refine wp_loop_rounds 5 ?_;rw[rounds_succ]
  go_wp2_with (go_at_call 30;refine(qdk _ _).mono ?_;rintro e a ⟨rfl,rfl⟩)
  rw[rounds_succ]
  go_wp2_with (go_at_call 30;refine(qdk _ _).mono ?_;rintro e a ⟨rfl,rfl⟩)
  go_ret;exact⟨rfl,by repeat (first|exact Below.refl _ _|apply qam|apply boxed)⟩
 have c:qai a1=true:=by simpa using c
 by_cases d:qai a2=false
 ·have e:qau a0 a1 a2 a3=false:=by simp[qau,d]
  rw[e];clear e;go_enter func131,ntmps131
  go_wp2
  refine wp_loop_rounds 5 ?_;rw[rounds_succ]
  go_wp2_with (go_at_call 30;refine(qdk _ _).mono ?_;rintro e a ⟨rfl,rfl⟩)
  rw[rounds_succ]
  go_wp2_with (go_at_call 30;refine(qdk _ _).mono ?_;rintro e a ⟨rfl,rfl⟩)
  rw[rounds_succ]
  go_wp2_with (go_at_call 30;refine(qdk _ _).mono ?_;rintro e a ⟨rfl,rfl⟩)
  go_ret;exact⟨rfl,by repeat (first|exact Below.refl _ _|apply qam|apply boxed)⟩
 have d:qai a2=true:=by simpa using d
 by_cases g:qai a3=false
 ·have e:qau a0 a1 a2 a3=false:=by simp[qau,g]
  rw[e];clear e;go_enter func131,ntmps131
  go_wp2
  refine wp_loop_rounds 5 ?_;rw[rounds_succ]
  go_wp2_with (go_at_call 30;refine(qdk _ _).mono ?_;rintro e a ⟨rfl,rfl⟩)
  rw[rounds_succ]
  go_wp2_with (go_at_call 30;refine(qdk _ _).mono ?_;rintro e a ⟨rfl,rfl⟩)
  rw[rounds_succ]
  go_wp2_with (go_at_call 30;refine(qdk _ _).mono ?_;rintro e a ⟨rfl,rfl⟩)
  rw[rounds_succ]
  go_wp2_with (go_at_call 30;refine(qdk _ _).mono ?_;rintro e a ⟨rfl,rfl⟩)
  go_ret;exact⟨rfl,by repeat (first|exact Below.refl _ _|apply qam|apply boxed)⟩
 have g:qai a3=true:=by simpa using g
 have e:qau a0 a1 a2 a3=true:=by simp[qau,b,c,d,g]
 rw[e];clear e;go_enter func131,ntmps131
 go_wp2
 refine wp_loop_rounds 5 ?_;rw[rounds_succ]
 go_wp2_with (go_at_call 30;refine(qdk _ _).mono ?_;rintro e a ⟨rfl,rfl⟩)
 rw[rounds_succ]
 go_wp2_with (go_at_call 30;refine(qdk _ _).mono ?_;rintro e a ⟨rfl,rfl⟩)
 rw[rounds_succ]
 go_wp2_with (go_at_call 30;refine(qdk _ _).mono ?_;rintro e a ⟨rfl,rfl⟩)
 rw[rounds_succ]
 go_wp2_with (go_at_call 30;refine(qdk _ _).mono ?_;rintro e a ⟨rfl,rfl⟩)
 rw[rounds_succ]
 go_wp2
 go_ret;exact⟨rfl,by repeat (first|exact Below.refl _ _|apply qam|apply boxed)⟩
theorem qaq {a0 a1 a2 a3:Int} {v:Bool} (h:qau a0 a1 a2 a3=v) (w:World):
 Calls prog 131 #[.agg #[int i64 a0,int i64 a1,int i64 a2,int i64 a3]] w λe w'=>e=.returned (.bool v)/\Below w.heap.size w w':=by
 subst h;exact qml a0 a1 a2 a3 w
end
theorem qjv (a0 a1 a2 a3 a b c d:Int) (w:World):
 Calls Tryz.prog 70 #[.agg #[.int .i64 a0,.int .i64 a1,.int .i64 a2,.int .i64 a3],.agg #[.int .i64 a,.int .i64 b,.int .i64 c,.int .i64 d]] w λe w'=>e=.returned (.bool (qe3 a0 a1 a2 a3 a b c d))/\Below w.heap.size w w':=by
 by_cases g:a0<a
 ·have e:qe3 a0 a1 a2 a3 a b c d=false:=by simp[qe3];omega
  rw[e];clear e;go_enter Tryz.func70,Tryz.ntmps70
  go_wp2
  refine wp_loop_rounds 5 ?_;rw[rounds_succ]
  go_wp2
  go_quiet (fail)
  go_wp2
  go_ret;exact⟨rfl,by repeat (first|exact Below.refl _ _|apply qam|apply boxed)⟩
 by_cases h:a1<b
 ·have e:qe3 a0 a1 a2 a3 a b c d=false:=by simp[qe3];omega
  rw[e];clear e;go_enter Tryz.func70,Tryz.ntmps70
  go_wp2
  refine wp_loop_rounds 5 ?_;rw[rounds_succ]
  go_wp2
  go_quiet (fail)
  go_wp2
  rw[rounds_succ]
  go_wp2
  go_quiet (fail)
  go_wp2
  go_ret;exact⟨rfl,by repeat (first|exact Below.refl _ _|apply qam|apply boxed)⟩
 by_cases i:a2<c
 ·have e:qe3 a0 a1 a2 a3 a b c d=false:=by simp[qe3];omega
  rw[e];clear e;go_enter Tryz.func70,Tryz.ntmps70
  go_wp2
  refine wp_loop_rounds 5 ?_;rw[rounds_succ]
  go_wp2
  go_quiet (fail)
  go_wp2
  rw[rounds_succ]
  go_wp2
  go_quiet (fail)
  go_wp2
  rw[rounds_succ]
  go_wp2
  go_quiet (fail)
  go_wp2
  go_ret;exact⟨rfl,by repeat (first|exact Below.refl _ _|apply qam|apply boxed)⟩
 by_cases j:a3<d
 ·have e:qe3 a0 a1 a2 a3 a b c d=false:=by simp[qe3];omega
  rw[e];clear e;go_enter Tryz.func70,Tryz.ntmps70
  go_wp2
  refine wp_loop_rounds 5 ?_;rw[rounds_succ]
  go_wp2
  go_quiet (fail)
  go_wp2
  rw[rounds_succ]
  go_wp2
  go_quiet (fail)
  go_wp2
  rw[rounds_succ]
  go_wp2
  go_quiet (fail)
  go_wp2
  rw[rounds_succ]
  go_wp2
  go_quiet (fail)
  go_wp2
  go_ret;exact⟨rfl,by repeat (first|exact Below.refl _ _|apply qam|apply boxed)⟩
 have e:qe3 a0 a1 a2 a3 a b c d=true:=by simp[qe3];omega
 rw[e];clear e;go_enter Tryz.func70,Tryz.ntmps70
 go_wp2
 refine wp_loop_rounds 5 ?_;rw[rounds_succ]
 go_wp2
 go_quiet (fail)
 go_wp2
 rw[rounds_succ]
 go_wp2
 go_quiet (fail)
 go_wp2
 rw[rounds_succ]
 go_wp2
 go_quiet (fail)
 go_wp2
 rw[rounds_succ]
 go_wp2
 go_quiet (fail)
 go_wp2
 rw[rounds_succ]
 go_wp2
 go_ret;exact⟨rfl,by repeat (first|exact Below.refl _ _|apply qam|apply boxed)⟩
open Go.Value Go.IntKind
variable {b:Nat}
theorem qg5 {tmps:Array Value} {w:World} {v:Ver} {ev:Int} (h:qag w b (qah v)) (a:tmps[6]?=some (.pointer (some ⟨b,0,none⟩))) (c:tmps[7]?=some (int i64 ev)):
 (results Tryz.f73 tmps).run Tryz.prog w=.ok (.tuple #[.agg (qah v).toArray,int i64 ev]) w:=by
 obtain⟨d,e,g,i,j,k⟩:=h.c6;simp[results,Tryz.results73,go_sem,a,c,d,e,g,i,j,k,qah]
theorem qmc {lv wv sv:Value} {S:qaf} {log waits:List TxM} (key a0 a1 a2 a3:Int) (w:World) (h:qc6 w b lv wv sv S log waits) (E:S.l.length<=1000000):
 Calls Tryz.prog 73 #[.pointer (some ⟨b,0,none⟩),int i64 key,.agg #[int i64 a0,int i64 a1,int i64 a2,int i64 a3]] w λe w'=>
  e=.returned (.tuple #[.agg (qah (qer S key a0 a1 a2 a3).1).toArray,int i64 (qer S key a0 a1 a2 a3).2])/\Below w.heap.size w w':=by
 have g:=(qbe.new w 47 a0 a1 a2 a3).boxed (.cells #[int i64 0,int i64 0,int i64 0,int i64 0,.string ⟨#[]⟩,.bool false] 130);have c:qag ((w.alloc (.cells #[int i64 a0,int i64 a1,int i64 a2,int i64 a3] 47)).alloc (.cells #[int i64 0,int i64 0,int i64 0,int i64 0,.string ⟨#[]⟩,.bool false] 130)) (w.heap.size+1) (qah qcj):=qag.new (w:=w.alloc (.cells #[int i64 a0,int i64 a1,int i64 a2,int i64 a3] 47)) (T:=130) (n:=w.heap.size+1) [int i64 0,int i64 0,int i64 0,int i64 0,.string ⟨#[]⟩,.bool false] (by simp);have hb:=boxed (boxed (Below.refl _ w) (.cells #[int i64 a0,int i64 a1,int i64 a2,int i64 a3] 47)) (.cells #[int i64 0,int i64 0,int i64 0,int i64 0,.string ⟨#[]⟩,.bool false] 130);have i:Hid _:=h.later hb;have X:Hid _:=h;clear h;have F:=Later.cell (i.out.box.cell 1 _ rfl);have G:=Later.cell (i.out.box.cell 2 _ rfl);have H:=Later.cell (i.out.box.cell 3 _ rfl);have I:=Later.cell (i.out.box.cell 4 _ rfl);have c0:=Later.cell g.c0;have c1:=Later.cell g.c1;have c2:=Later.cell g.c2;have c3:=Later.cell g.c3;go_enter Tryz.func73,Tryz.ntmps73
 go_wp2_with fail
 refine qaa (by kernel_rfl) (by kernel_rfl) ?_
 repeat (go_big_quiet_step (first|rfl|(go_at_call 70;exact qab (qjv _ _ _ _ _ _ _ _ _))))
 refine wpQuiet_nil ?_;rintro q ⟨⟨_,j⟩,rfl⟩;replace c:=c.later j;replace g:=qbe.later j g;replace hb:=qac hb j;have s:Hid _:=i.out.later j;clear i F G H I c0 c1 c2 c3 j;cases hc:qe3 S.a0 S.a1 S.a2 S.a3 a0 a1 a2 a3
 ·have u:Hid (qer S key a0 a1 a2 a3=(qcj,10)):=by show qer S key a0 a1 a2 a3=(qcj,10);unfold qer;rw[hc];rfl
  have J:=c.cell 0 _ rfl;have p0:=c.free 0 (by simp[qah]);have K:=c.cell 1 _ rfl;have p1:=c.free 1 (by simp[qah]);have L:=c.cell 2 _ rfl;have p2:=c.free 2 (by simp[qah]);have M:=c.cell 3 _ rfl;have p3:=c.free 3 (by simp[qah]);have N:=c.cell 4 _ rfl;have O:=c.free 4 (by simp[qah]);have P:=c.cell 5 _ rfl;have Q:=c.free 5 (by simp[qah]);have y:=qoo c 0 0 0 0 ⟨#[]⟩ false;have z:=qov hb (show w.heap.size<=w.heap.size+1 by omega) 0 0 0 0 ⟨#[]⟩ false;clear hc
  go_wp2_with fail
  refine bodyPost_ret (qg5 (v:=qcj) y rfl rfl) rfl ⟨?_,z⟩;rw[u.out]
 ·obtain⟨⟨⟨wl,k,st,m,o,p⟩,ev⟩,r⟩:∃x,qdf key a0 a1 a2 a3 S.l=x:=⟨_,rfl⟩
  have u:Hid (qer S key a0 a1 a2 a3=(⟨wl,k,st,m,o,p⟩,ev)):=by show qer S key a0 a1 a2 a3=_;unfold qer;rw[hc,<-r];rfl
  obtain⟨a,cap,C,D⟩:=qh6 s.out.own
  have R:Hid (Calls Tryz.prog 59 #[.pointer (some ⟨b,9,none⟩),int i64 key,.agg #[int i64 a0,int i64 a1,int i64 a2,int i64 a3]] q.drew λe w'=>e=.returned (.tuple #[.agg #[int i64 wl,int i64 k,int i64 st,int i64 m,.string o,.bool p],int i64 ev])/\qbe w' w.heap.size a0 a1 a2 a3/\qag w' (w.heap.size+1) (qah qcj)/\Below w.heap.size w w'):=by
   have U:q.cell? ⟨b,9,none⟩=some (.slice a S.l.length cap):=by rw[<-C];exact s.out.box.cell 9 _ rfl
   refine(qp7 key a0 a1 a2 a3 q.drew U (D.later (Below.refl _ q).drew) s.out.ok E).mono ?_;rintro e w' ⟨rfl,B⟩;refine⟨by rw[r];rfl,qbe.later B g.drew,c.drew.later B,qac hb.drew B⟩
  have Y:Hid _:=r;have Z:=λ(w':World) (h:qbe w' w.heap.size a0 a1 a2 a3)=>h.c0;have T1:=λ(w':World) (h:qbe w' w.heap.size a0 a1 a2 a3)=>h.c1;have T2:=λ(w':World) (h:qbe w' w.heap.size a0 a1 a2 a3)=>h.c2;have T3:=λ(w':World) (h:qbe w' w.heap.size a0 a1 a2 a3)=>h.c3;have RA0:=g.drew
  have V:w.heap.size+1≠w.heap.size:=by omega
  clear hc r D C g c
  go_wp2_with fail
  go_region_held3 (λw'=>qbe w' w.heap.size a0 a1 a2 a3) (first|(with_reducible assumption)|(with_reducible exact qub (by with_reducible assumption) V _ _ _ _ _ _))
   (first|(go_at_call 59;with_reducible refine R.out.mono ?_;rintro e w5 ⟨rfl,RA5,d,W⟩;have J:=d.cell 0 _ rfl;have p0:=d.free 0 (by simp[qah]);have K:=d.cell 1 _ rfl;have p1:=d.free 1 (by simp[qah]);have L:=d.cell 2 _ rfl;have p2:=d.free 2 (by simp[qah]);have M:=d.cell 3 _ rfl;have p3:=d.free 3 (by simp[qah]);have N:=d.cell 4 _ rfl;have O:=d.free 4 (by simp[qah]);have P:=d.cell 5 _ rfl;have Q:=d.free 5 (by simp[qah])))
  all_goals
   have y:=qoo d wl k st m o p;have z:=qov W (show w.heap.size<=w.heap.size+1 by omega) wl k st m o p
   go_wp2_with fail
   refine bodyPost_ret (qg5 (v:=⟨wl,k,st,m,o,p⟩) y rfl rfl) rfl ⟨?_,z⟩;rw[u.out]
end Go.Proofs.YtemiamjnhoeniaaGreatDoor
