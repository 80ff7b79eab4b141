import Derived.Test.YtoanjdndmlffdaaGreatDoorSiteQ
import Derived.Test.YtoanjdndmlffdaaGreatDoorSiteN
set_option maxHeartbeats 8000000
set_option maxRecDepth 1000000
namespace Go.Proofs.YtoanjdndmlffdaaGreatDoor
open Go.RowKit Go.Maps Go.Sort
theorem qwx:Go.strKeys qe2=qc9:=by decide
theorem qyv:Maps.size qe2=19:=by decide
theorem q5l:yt 9:=λ{w w2 n0 k b j cap nc Gw G W a na l ns} u h hn hlen ht _ hN hb2=>by
 obtain rfl:=qsd hlen;obtain⟨bm,R,S,hbm⟩:=h.fm;obtain⟨i0,hi,hz0,hz1,hz2⟩:=info_parts qki
 have hbl:bm<w2.heap.size:=by have:=h.nn.2;have:=hb2.size;omega
 have K:w2.ownsMap Tryz.prog 9 (plainElem Tryz.prog 9) bm 19 qe2:=S.kept (hb2.block bm (by have:=h.nn.2;omega));have c0:=(hb2.cell (p:=AD 0 0) (jci (by decide) h.gl.sz)).trans R;have L:=hd3 h hn hb2;have HO:=hd1 K;clear h hn hb2 hlen ht hN S R hbm
 conv=>arg 2;whnf
 unfold qa3
 go_wp2_with (at_range;refine wpList_range_own _ rfl _ 92 rfl 9 9 qhg Tryz.underlying92 _ bm 19 _ rfl K ?_;intro w0 T hg0 hs0)
 go_frame
 rw[qyv]at T;clear K c0 hs0
 go_loopw [25] (λv wr=>∃(left:Lit->Bool) (cnt:Nat) (d:List (List UInt8)),d.length+cnt<=19/\wr.ranges Tryz.prog 9 (plainElem Tryz.prog 9) bm w2.heap.size 19 qe2 left cnt/\wr.ownsRow w2.heap.size 9 1 v d.length (d.map encStr)/\Hid (Collected qe2 left d/\Bw w2 wr)) (λ_ wr=>wr.rangeLeft bm w2.heap.size)
 case atStart=>exact⟨_,19,[],by simp,T,jcx _ _ _ _,Collected.start qe2,(jcc _ _).grown hg0 (jcd _) (λj i=>by cases i)⟩
 obtain⟨left,cnt,d,hcs,D,F,m⟩:=hrel
 go_wp2_with (at_next;refine wpList_next_ranges _ rfl _ rfl 9 qhg (plainElem Tryz.prog 9) encStr Value.string (λkey kl hk=>by obtain⟨x,H,_⟩:=Maps.keyOf_str Tryz.underlying9 hk;exact⟨x,H⟩) (λv y o=>by obtain⟨c,rfl,_⟩:=qon o;exact⟨c,rfl⟩) bm w2.heap.size 19 _ _ _ rfl D ?_ ?_)
 ·intro hc0 hl0
  have M:d.Perm qc9:=by rw[<-qwx];exact m.out.1.perm HO.out qhg Tryz.underlying9 hl0
  have E:=qu9 M;have r:d.length=19:=M.length_eq;rcases F.2 with ⟨hnil,h0⟩|⟨g,s,cur,rfl,V,k,X,Y,Z,h4⟩
  ·omega
  have hH:=holds_of_block k (by simpa using h4);have hgl:=(jcs.1 k).1;have N:=jek g 0 s d wr hH hgl (by omega)
  have hlc:qc9.length=d.length:=by rw[r];rfl
  have HB:Hid (∀f,(∃n os,f=grow (putRow encStr (Sort.ahead wr n) g 0 qc9.toArray) os)->f.ownsRow w2.heap.size 9 1 (.slice (PT g) 19 s) 19 (qc9.map encStr)/\Bw w2 f):=λf ⟨n,os,e⟩=>by
   subst e;have q:=ownsRow_sorted (n:=n) (os:=os) hlc V k X Y Z;rw[r]at q;exact⟨q,m.out.2.grown (grownBy_sorted _) m.out.2.size (λj i=>by cases i;exact V)⟩
  rw[E,r]at N
  have hc19:19<=s:=by omega
  have HL:=hd1 r;clear F k X Y Z h4 hH M E hlc D r hcs;rw[HL.out]
  go_wp2_with fail
  refine N.mono ?_;rintro e f ⟨rfl,hw4⟩;obtain⟨O,b4⟩:=HB.out f hw4;clear hw4 N HB
  have I:=jd1 g 0 s (qc9.map bya) ⟨#[32]⟩ f (λq y hy=>by
   rw[Nat.zero_add];rw[jcv]at hy;obtain⟨x,H,rfl⟩:=Option.map_eq_some_iff.1 hy;have i:q<19:=(jck.1 H).1;rw[O.cellAt q (by rw[Nat.mul_one];exact i),jcv,H]
   rfl) (O.lt g rfl).2 (by decide) hc19 (by decide)
  replace I:Ca 42 #[.slice (PT g) 19 s,.string ⟨#[32]⟩] f λe w'=>e=.returned (.string (bya (Lib.join qc9 [32])))/\Bw f w':=I;have HF:Hid (∀z,Bw f z->vl 9 W l w k G (.returned (.tuple #[.string (bya (Lib.join qc9 [32])),U 0])) z):=λz J=>L.out.1.tell (told:=Lib.join qc9 [32]) (t:=Lib.join qc9 [32]) L.out.2.1 (qa (qa L.out.2.2 b4) J) ⟨rfl,rfl,rfl⟩ (λ_=>rfl);clear O b4
  go_wp2_with fail
  refine I.mono ?_;rintro e z ⟨rfl,J⟩;have HF0:=HF.out z J;clear HF I J
  go_wp2
  go_ret2;exact HF0
 intro x c kl yd yp P cnt2 hkey hlk o hat hrg2 hlt hg2 hs2 hen;obtain⟨x',ex,rfl,_⟩:=Maps.keyOf_str Tryz.underlying9 hkey;obtain rfl:x=x':=encStr_inj ex;have hrow2:=F.kept hg2 (Or.inr (row_ne_iter F D).symm);have B:=qg3 hrow2 (boxed (jcc _ P) (.cells #[encStr x] 9));have C:=hd2 (m.out.2.grown hg2 m.out.2.size (λj i=>by cases i;exact jcd _)) (m.out.1.step hlk hat);clear hs2 o hat hlk hkey ex
 go_wp2_with (at_builtin;refine wpList_append_lies _ rfl _ _ 42 rfl w2.heap.size 9 i0 (.string ⟨#[]⟩) 1 16 Tryz.underlying42 hi hz0 hz1 hz2 rfl (by decide) _ _ _ rfl B (AD P.heap.size 0) 1 1 [encStr x] rfl rfl (World.news_of_block (heap_alloc_new P (.cells #[encStr x] 9))) ?c2 (by decide) ?c3 ?c4 ?c5 _ rfl ?_)
 case c2=>intro v o;simp at o;subst o;rfl
 case c3=>unfold maxLen;omega
 case c4=>omega
 case c5=>have:=C.out.1.size;simp;omega
 intro gb gc f own4 Q at4 lt4;have hrg4:=(hrg2.alloc (.cells #[encStr x] 9)).kept Q (row_ne_low B hbl) (row_ne_iter B (hrg2.alloc _))
 have FIN:Hid (f.ownsRow w2.heap.size 9 1 (.slice (PT gb) (d.length+1) gc) (d++[x]).length ((d++[x]).map encStr)/\Bw w2 f):=by
  refine⟨by simpa using own4,?_⟩;exact(C.out.1.alloc C.out.1.size _).grown Q (by have:=C.out.1.size;simp;omega) (λq e=>(B.lt q e).1)
 clear own4 Q at4 lt4 B hrow2 hen
 go_wp2
 go_roundw
 case rel=>exact⟨_,_,_,_,_,_,_,_,_,_,⟨_,cnt2,d++[x],by simp;omega,hrg4,FIN.out.1,C.out.2,FIN.out.2⟩,rfl⟩
 rw[hrg4.left_eq,D.left_eq];exact hlt
end Go.Proofs.YtoanjdndmlffdaaGreatDoor
