import Derived.Test.YtemiamjnhoeniaaGreatDoorChecked
import Derived.Lib.SmallJoins
import Derived.WalkSpells
import Derived.WalkLawsBesides
import Derived.Deep.AppendLies
import Derived.Lib.Overlaps
import Derived.Lib.AppendZerosOnto
import Derived.Shelf.RegionOpen
import Derived.Lib.JoinLaws
import Derived.RangeFuncNested
import Derived.RangeFuncBound
import Derived.OwnWalkIn
import Derived.LoopNIn
import Derived.LoopIn
import Derived.Deep.RegionHeld3
set_option maxHeartbeats 8000000
set_option maxRecDepth 100000
namespace Go.Proofs.YtemiamjnhoeniaaGreatDoor
section
open Go.ChangeShapes Go.WideShapes Go.ChangeAt Go.RowKit Go.Joins
theorem own:ownKnob Tryz.prog.godebug=none:=by kernel_rfl
theorem q4w:laidOutB Tryz.prog=true:=by kernel_rfl
theorem qtt:Tryz.prog.cellsOf 3=1:=by kernel_rfl
end
section
open Go.RowKit
structure Later (W:World) where
 val:World
 below:Below W.heap.size W val
theorem Later.one (W:World):Nonempty (Later W):=⟨⟨W,Below.refl _ _⟩⟩
variable {W:World} {v:Value}
theorem Later.cell {p:Addr} (h:W.cell? p=some v) (x:Later W):x.val.cell? p=some v:=cell_later x.below h
variable {w w1:World}
theorem qac {w2:World} (c:Below w.heap.size w w1) (d:Below w1.heap.size w1 w2):Below w.heap.size w w2:=c.trans (d.mono c.size)
theorem boxed (c:Below w.heap.size w w1) (o:Obj):Below w.heap.size w (w1.alloc o):=c.alloc c.size o
variable {P:Program}
theorem qaa {id:Nat} {Q:Exit->Act->World->Prop} {a:Act} {l:List Oper} (c:P.follows .mixedOrders=true) (d:Region.lexB .any l.toArray=true)
 (h:wpQuiet P l.toArray (λw'=>∃x:Later w,w'=x.val) (λe=>∀w',(∃x:Later w,w'=x.val)->Q .normal e w') l a):(Code.region id l.toArray true).wp P Q a w:=
 wp_region_quiet (C:=λw'=>∃x:Later w,w'=x.val) c d ⟨⟨w.drew,(Below.refl _ _).drew⟩,rfl⟩ (by simpa using h)
theorem qab {f:FuncId} {args:Array Value} {x:Later w}
 (h:Calls P f args x.val λe w'=>e=.returned v/\Below x.val.heap.size x.val w'):Calls P f args x.val λe c=>e=.returned v/\∃y:Later w,c=y.val:=
 h.mono λ_ c ⟨d,hb⟩=>⟨d,⟨c,qac x.below hb⟩,rfl⟩
theorem qi6 (hb:Below W.heap.size W w1):(∀b o,b<W.heap.size->w1.cell? ⟨b,o,none⟩=W.cell? ⟨b,o,none⟩)/\(∀b o,b<W.heap.size->w1.frozen? ⟨b,o,none⟩=W.frozen? ⟨b,o,none⟩):=
 ⟨λb o h=>hb.cell (p:=⟨b,o,none⟩) h,λb o h=>hb.frozen (p:=⟨b,o,none⟩) h⟩
theorem blt (hb:Below W.heap.size W w1):∀b,b<W.heap.size->b<w1.heap.size:=λ_ h=>Nat.lt_of_lt_of_le h hb.size
theorem bne (hb:Below W.heap.size W w1):∀b,b<W.heap.size->¬b=w1.heap.size:=λb h=>Nat.ne_of_lt (blt hb b h)
variable {a b:Obj}
theorem qix (hb:Below ((w.alloc a).alloc b).heap.size ((w.alloc a).alloc b) w1):Below w.heap.size w w1:=
 (((Below.refl _ _).alloc (Nat.le_refl _) _).alloc (by simp) _).trans (hb.mono (by simp;omega))
theorem qtr {c:Obj} (hb:Below (((w.alloc a).alloc b).alloc c).heap.size (((w.alloc a).alloc b).alloc c) w1):Below w.heap.size w w1:=
 ((((Below.refl _ _).alloc (Nat.le_refl _) _).alloc (by simp) _).alloc (by simp;omega) _).trans (hb.mono (by simp;omega))
theorem qam {B:Nat} {a:World} (n:Nat) (h:Below B a w):Below B a (w.drewN n):=⟨h.os,h.tape,h.output,h.size,h.block⟩
end
section
def qir (n:Int):ByteArray:=⟨#[UInt8.ofNat n.toNat]⟩
def qhl:Nat->Int->ByteArray
 |0,n=>qir n
 |f+1,n=>if n<128 then qir n else qir (n%128+128)++qhl f (n/128)
variable {f:Nat} {n:Int}
theorem qsw (h:n<128):qhl f n=qir n:=by
 cases f with
 |zero=>rfl
 |succ f=>exact if_pos h
theorem qse (h:¬n<128):qhl (f+1) n=qir (n%128+128)++qhl f (n/128):=if_neg h
theorem qdy (n:Int):(qir n).size=1:=rfl
theorem qbj (f:Nat) (n:Int):(qhl f n).size<=f+1:=by
 induction f generalizing n with
 |zero=>exact Nat.le_refl 1
 |succ f ih=>
  by_cases h:n<128
  ·rw[qsw h,qdy];omega
  ·rw[qse h,ByteArray.size_append,qdy];have:=ih (n/128);omega
theorem q6b {P:Program} (a b:ByteArray) (h:a.size+b.size<=1000000) (w:World):(Op.stringOp .add a b).run P w=.ok (.string (a++b)) w:=
 run_string_add_sum w a b (by omega)
end
section
def qko (a b c d:Int):Bool:=a==c&&b==d
def qb1 (x y:Int):Int:=if x<y then y else x
def qaz (x y:Int):Int:=if y<x then y else x
variable {x y:Int}
theorem qh2 (h:x<y):qb1 x y=y:=if_pos h
theorem qh0 (h:¬x<y):qb1 x y=x:=if_neg h
theorem qj7 (h:y<x):qaz x y=y:=if_pos h
theorem qkd (h:¬y<x):qaz x y=x:=if_neg h
def qe3 (a0 a1 a2 a3 b0 b1 b2 b3:Int):Bool:=decide (b0<=a0)&&decide (b1<=a1)&&decide (b2<=a2)&&decide (b3<=a3)
def qph (x y:Int):Int:=if x<y then-1 else if y<x then 1 else 0
def qio (aw ac bw bc:Int):Int:=if qph aw bw=0 then qph ac bc else qph aw bw
def qai (n:Int):Bool:=decide (0<=n)&&decide (n<=1099511627776)
theorem qvp (x y:Int):qko x y x y=true:=by simp[qko]
theorem qx6 (h:x<y):qph x y= -1:=by unfold qph;rw[if_pos h]
theorem qz2 (h:y<x):qph x y=1:=by unfold qph;rw[if_neg (by omega),if_pos h]
theorem qw9 (x:Int):qph x x=0:=by unfold qph;rw[if_neg (by omega),if_neg (by omega)]
def qau (a0 a1 a2 a3:Int):Bool:=qai a0&&qai a1&&qai a2&&qai a3
variable {n:Int}
theorem qgj (a:0<=n) (b:n<=1099511627776):qai n=true:=by simp[qai,a,b]
theorem qej:qai n=true↔0<=n/\n<=1099511627776:=by simp[qai]
theorem qic (x y:Int):(x<y/\qph x y= -1)\/(x=y/\qph x y=0)\/(y<x/\qph x y=1):=by
 rcases Int.lt_trichotomy x y with h|h|h
 ·exact .inl ⟨h,qx6 h⟩
 ·subst h;exact .inr (.inl ⟨rfl,qw9 x⟩)
 ·exact .inr (.inr ⟨h,qz2 h⟩)
theorem qdw (a c b d:Int):
 ((a<b\/a=b/\c<d)/\qio a c b d= -1)\/((a=b/\c=d)/\qio a c b d=0)\/((b<a\/a=b/\d<c)/\qio a c b d=1):=by
 have i:=qic a b;have j:=qic c d;unfold qio;rcases i with ⟨h,e⟩|⟨h,e⟩|⟨h,e⟩
 ·exact .inl ⟨.inl h,by rw[e];rfl⟩
 ·rcases j with ⟨g,f⟩|⟨g,f⟩|⟨g,f⟩
  ·exact .inl ⟨.inr ⟨h,g⟩,by rw[if_pos e,f]⟩
  ·exact .inr (.inl ⟨⟨h,g⟩,by rw[if_pos e,f]⟩)
  ·exact .inr (.inr ⟨.inr ⟨h,g⟩,by rw[if_pos e,f]⟩)
 ·exact .inr (.inr ⟨.inl h,by rw[e];rfl⟩)
end
section
open Go.RowKit
def inB (n lo hi:Int):Bool:=decide (lo<=n)&&decide (n<=hi)
theorem qa5 {n a b:Int}:inB n a b=true↔a<=n/\n<=b:=by simp[inB]
end
section
open Go.RowKit
structure Wr where
 key:Int
 data:ByteArray
 gone:Bool
def qff (l:List Wr) (i:Nat):Wr:=l.getD i ⟨0,⟨#[]⟩,false⟩
def qcy (w:World) (b off:Nat) (l:List Wr):Prop:=
 ∀i,i<l.length->w.cell? ⟨b,off+i*3,none⟩=some (.int .i64 (qff l i).key)/\w.cell? ⟨b,off+i*3+1,none⟩=some (.string (qff l i).data)/\w.cell? ⟨b,off+i*3+1+1,none⟩=some (.bool (qff l i).gone)
variable {w w':World} {l:List Wr}
theorem qcy.later {b c:Nat} (hb:Below w.heap.size w w') (h:qcy w b c l):qcy w' b c l:=λi a=>
 ⟨cell_later hb (h i a).1,cell_later hb (h i a).2.1,cell_later hb (h i a).2.2⟩
def qhk (l:List Wr) (i:Nat):Bool:=
 inB (qff l i).key 0 7&&!(decide (0<i)&&decide ((qff l i).key<=(qff l (i-1)).key))&&decide ((qff l i).data.size<=12)&&!((qff l i).gone&&!(qff l i).data.toList.isEmpty)
def qd7 (l:List Wr):Bool:=(List.range l.length).all (qhk l)&&inB l.length 1 5
variable {k:Nat}
theorem qet (a:k<l.length) (h:qhk l k=false):qd7 l=false:=by
 have e:(List.range l.length).all (qhk l)=false:=by
  rw[List.all_eq_false];exact⟨k,List.mem_range.2 a,by simp[h]⟩
 simp[qd7,e]
theorem quc (h:∀j,j<l.length->qhk l j=true):qd7 l=inB l.length 1 5:=by
 have e:(List.range l.length).all (qhk l)=true:=by
  rw[List.all_eq_true];exact λj a=>h j (List.mem_range.1 a)
 simp[qd7,e]
def okV (k:Nat) (prev:Int) (x:Wr):Bool:=
 inB x.key 0 7&&!(decide (0<k)&&decide (x.key<=prev))&&decide (x.data.size<=12)&&!(x.gone&&!x.data.toList.isEmpty)
theorem qmf {x:Wr} (h:qff l k=x):qhk l k=okV k (qff l (k-1)).key x:=by rw[<-h];rfl
variable {p:Int}
theorem qs5 {key:Int} {data:ByteArray} {gone:Bool} (h:inB key 0 7=false):okV k p ⟨key,data,gone⟩=false:=by simp[okV,h]
theorem qt3 {key:Int} {data:ByteArray} {gone:Bool} (a:0<k) (h:key<=p):okV k p ⟨key,data,gone⟩=false:=by simp[okV,a,h]
theorem qs8 {key:Int} {data:ByteArray} {gone:Bool} (h:12<(data.size:Int)):okV k p ⟨key,data,gone⟩=false:=by
 have e:decide (data.size<=12)=false:=decide_eq_false (by omega);simp[okV,e]
theorem qpe {key:Int} {data:ByteArray} {gone:Bool} (h:gone=true) (a:data.toList.isEmpty=false):okV k p ⟨key,data,gone⟩=false:=by simp[okV,h,a]
theorem qie {key:Int} {data:ByteArray} {gone:Bool} (h:inB key 0 7=true) (a:k=0\/¬key<=p) (f:¬12<(data.size:Int)) (b:gone=false\/data.toList.isEmpty=true):okV k p ⟨key,data,gone⟩=true:=by
 have e:decide (data.size<=12)=true:=decide_eq_true (by omega)
 have c:(!(decide (0<k)&&decide (key<=p)))=true:=by
  rcases a with a|a
  ·simp[a]
  ·simp only[decide_eq_false a,Bool.and_false,Bool.not_false]
 have d:(!(gone&&!data.toList.isEmpty))=true:=by
  rcases b with b|b<;>simp[b]
 simp only[okV,h,e,c,d,Bool.and_self]
theorem qmq (h:∀j,j<k->qhk l j=true) (b:qhk l k=true):∀j,j<k+1->qhk l j=true:=λj c=>by
 rcases Nat.lt_or_ge j k with a|a
 ·exact h j a
 ·obtain rfl:j=k:=by omega
  exact b
structure qat (w:World) (a:Option Addr) (cap:Nat) (l:List Wr):Prop where
 len:l.length<=cap
 cap:cap<=9223372036854775807
 held:l=[]\/∃b off,a=some ⟨b,off,none⟩/\qcy w b off l
theorem qat.later {a:Option Addr} {cap:Nat} (hb:Below w.heap.size w w') (h:qat w a cap l):qat w' a cap l:=
 ⟨h.len,h.cap,h.held.elim .inl λ⟨b,d,e,c⟩=>.inr ⟨b,d,e,c.later hb⟩⟩
def qao (site d0 d1 d2 d3:Int):Int:=if site=0 then d0 else if site=1 then d1 else if site=2 then d2 else d3
def qc7 (site seq wall count d0 d1 d2 d3:Int) (l:List Wr):Bool:=
 inB site 0 3&&inB seq 1 1099511627776&&(qai wall&&qai count)&&qau d0 d1 d2 d3&&decide (qao site d0 d1 d2 d3=seq-1)&&qd7 l
def qy6 (g:Bool):ByteArray:=if g then ⟨#[1]⟩else ⟨#[0]⟩
def stepS (s:ByteArray) (x:Wr):ByteArray:=s++qhl 5 x.key++qy6 x.gone++(qhl 5 (x.data.size:Int)++x.data)
def wrS (s:ByteArray) (l:List Wr):ByteArray:=l.foldl stepS s
def qpv (site seq wall count d0 d1 d2 d3:Int) (n:Int):ByteArray:=(⟨#[116]⟩:ByteArray)++qhl 5 site++qhl 5 seq++qhl 5 wall++qhl 5 count++qhl 5 d0++qhl 5 d1++qhl 5 d2++qhl 5 d3++qhl 5 n
def txS (site seq wall count d0 d1 d2 d3:Int) (l:List Wr):ByteArray:=wrS (qpv site seq wall count d0 d1 d2 d3 l.length) l
theorem qwd (g:Bool):(qy6 g).size=1:=by cases g<;>rfl
variable {s:ByteArray}
theorem qtn (a:k<l.length):wrS s (l.take (k+1))=stepS (wrS s (l.take k)) (qff l k):=by
 unfold wrS;rw[List.take_succ_eq_append_getElem a,List.foldl_append];simp[qff,List.getD,List.getElem?_eq_getElem a]
theorem qv5 (s:ByteArray) (x:Wr) (h:x.data.size<=12):(stepS s x).size<=s.size+25:=by
 have a:=qbj 5 x.key;have b:=qbj 5 (x.data.size:Int);simp only[stepS,ByteArray.size_append,qwd];omega
theorem qmu (h:qhk l k=true):(qff l k).data.size<=12:=by
 simp only[qhk,Bool.and_eq_true,decide_eq_true_eq]at h;exact h.1.2
theorem qon (h:qhk l k=true):0<=(qff l k).key/\(qff l k).key<=7:=by
 simp only[qhk,Bool.and_eq_true,qa5]at h;exact h.1.1.1
theorem qo4 {s:ByteArray} {l:List Wr} (h:∀j,j<l.length->qhk l j=true):∀k,k<=l.length->(wrS s (l.take k)).size<=s.size+25*k
 |0,_=>by simp[wrS]
 |k+1,hk=>by
  rw[qtn (by omega)];have a:=qo4 (s:=s) h k (by omega);have b:=qv5 (wrS s (l.take k)) (qff l k) (qmu (h k (by omega)));omega
theorem qno (site seq wall count d0 d1 d2 d3 n:Int):(qpv site seq wall count d0 d1 d2 d3 n).size<=55:=by
 have a:=qbj 5 site;have b:=qbj 5 seq;have c:=qbj 5 wall;have d:=qbj 5 count;have e:=qbj 5 d0;have f:=qbj 5 d1;have g:=qbj 5 d2;have h:=qbj 5 d3;have i:=qbj 5 n;have z:(⟨#[116]⟩:ByteArray).size=1:=rfl;simp only[qpv,ByteArray.size_append];omega
theorem qjr (h:qd7 l=true):∀j,j<l.length->qhk l j=true:=λj a=>by
 simp only[qd7,Bool.and_eq_true,List.all_eq_true]at h;exact h.1 j (List.mem_range.2 a)
theorem qjw (h:qd7 l=true):1<=l.length/\l.length<=5:=by
 simp only[qd7,Bool.and_eq_true,qa5]at h;omega
end
section
open Go.ChangeShapes Go.WideShapes Go.ChangeAt Go.RowKit Go.Joins Go.Deep
theorem qyw:Tryz.prog.cellsOf 34=3:=by kernel_rfl
theorem q1z:Tryz.prog.cellsOf 9=1:=by kernel_rfl
theorem qyn:Tryz.prog.cellsOf 4=1:=by kernel_rfl
theorem q59 {α:Type} {l:List α} (h:l.length=3):∃a b c,l=[a,b,c]:=by
 match l,h with
 |[a,b,c],_=>exact⟨a,b,c,rfl⟩
theorem q1c (b a i:Nat):(⟨b,a,none⟩:Addr).add i=⟨b,a+i,none⟩:=by unfold Addr.add;split<;>simp_all
section
variable {H:Type} {enc:TypeId×Value->H} {W:World}
theorem qva {f:Nat} {a:List Value} {x:DataW H×List MemPlace} (h:DataW.trod enc Tryz.prog W 0 (λ_=>true) true f 34 a=some x):
 ∃y:Wr,a=[.int .i64 y.key,.string y.data,.bool y.gone]:=by
 obtain⟨k,l,m,n,_,b,g,i,j⟩:=trod_struct3 Tryz.underlying34 h;rw[qyw]at b;obtain⟨c0,c1,c2,rfl⟩:=q59 b
 ·obtain⟨key,c,_,_⟩:=DataW.trod_int Tryz.underlying3 g;obtain⟨data,d,_,_⟩:=DataW.trod_string Tryz.underlying9 i;obtain⟨gone,e,_⟩:=DataW.trod_bool Tryz.underlying4 j;simp[qtt,q1z,qyn]at c d e;subst c d e;exact⟨⟨key,data,gone⟩,rfl⟩
end
end
section
open Go.RowKit
structure Own (w:World) (B g cap:Nat) (S:ByteArray):Prop where
 base:B<=g
 lt:g<w.heap.size
 room:S.size<=cap
 most:cap<=maxLen
 have_:∀j u,(byteCells S)[j]?=some u->w.cell? ⟨g,j,none⟩=some u
 there:∀j,j<cap->(w.cell? ⟨g,j,none⟩).isSome=true
 free:∀j,j<cap->w.frozen? ⟨g,j,none⟩=false
variable {w w':World} {B g:Nat} {S:ByteArray}
theorem Own.kept {cap:Nat} (h:Own w B g cap S) (hb:w'.heap[g]?=w.heap[g]?) (b:w.heap.size<=w'.heap.size):Own w' B g cap S:=
 ⟨h.base,Nat.lt_of_lt_of_le h.lt b,h.room,h.most,λj u c=>by rw[World.cell?_of_block (w:=w) hb];exact h.have_ j u c,
   λj a=>by rw[World.cell?_of_block (w:=w) hb];exact h.there j a,λj a=>by rw[World.frozen?_of_block (w:=w) hb];exact h.free j a⟩
theorem Own.later {cap:Nat} (h:Own w B g cap S) (hb:Below w.heap.size w w'):Own w' B g cap S:=h.kept (hb.block g h.lt) hb.size
theorem Own.alloc {cap:Nat} (h:Own w B g cap S) (o:Obj):Own (w.alloc o) B g cap S:=h.later (boxed (Below.refl _ _) o)
theorem qep (a b:ByteArray):byteCells (a++b)=byteCells a++byteCells b:=by
 unfold byteCells;rw[ByteArray.data_append,Array.toList_append,List.map_append]
variable {n:Int}
theorem qjs (a:0<=n) (b:n<256):byteCells (qir n)=[.int .u8 n]:=by
 have e:(UInt8.ofNat n.toNat).toNat=n.toNat:=by
  rw[UInt8.toNat_ofNat'];exact Nat.mod_eq_of_lt (by omega)
 show [Value.int .u8 (UInt8.ofNat n.toNat).toNat]=_;rw[e,Int.toNat_of_nonneg a]
theorem Own.mono {a cap:Nat} (h:Own w B g cap S) (b:a<=B):Own w a g cap S:=⟨Nat.le_trans b h.base,h.lt,h.room,h.most,h.have_,h.there,h.free⟩
theorem Own.one (w:World) (B:Nat) (e:TypeId) (c:0<=n) (d:n<256) (f:B<=w.heap.size):Own (w.alloc (.cells #[.int .u8 n] e (1,2))) B w.heap.size 1 (qir n):=by
 have a:∀j,(w.alloc (.cells #[.int .u8 n] e (1,2))).cell? ⟨w.heap.size,j,none⟩=(#[Value.int .u8 n])[j]?:=λj=>cell_of_row _ w.heap.size j _ e (1,2) (heap_alloc_new w (.cells #[.int .u8 n] e (1,2)));refine⟨f,by simp,Nat.le_refl _,by simp[maxLen],λj u b=>?_,λj h=>?_,λj h=>?_⟩
 ·rw[qjs c d]at b;rw[a];simpa using b
 ·obtain rfl:j=0:=by omega
  rw[a];rfl
 ·obtain rfl:j=0:=by omega
  have i:=heap_alloc_new w (.cells #[.int .u8 n] e (1,2));unfold World.frozen?;rw[i];rfl
abbrev qdc (g:Nat) (w w':World):Prop:=w.grownBy w' (some g)
theorem qdc.refl (g:Nat) (w:World):qdc g w w:=⟨rfl,rfl,rfl,Nat.le_refl _,λ_ _ _=>rfl⟩
theorem qdc.trans {g':Nat} {a b c:World} (h:qdc g a b) (k:qdc g' b c) (e:g'=g\/a.heap.size<=g'):qdc g a c:=
 ⟨k.os.trans h.os,k.tape.trans h.tape,k.output.trans h.output,Nat.le_trans h.size k.size,λi d f=>
   (k.block i (Nat.lt_of_lt_of_le d h.size) (λx=>by
     injection x with x;rcases e with e|e
     ·exact f (by rw[x,e])
     ·omega)).trans (h.block i d f)⟩
theorem qdc.ofBelow (h:Below w.heap.size w w'):qdc g w w':=⟨h.os,h.tape,h.output,h.size,λk a _=>h.block k a⟩
theorem qdc.below (h:qdc g w w') (a:B<=g) (b:B<=w.heap.size):Below B w w':=
 ⟨h.os,h.tape,h.output,h.size,λk c=>h.block k (by omega) (λx=>by injection x with x;omega)⟩
theorem qdc.cell (h:qdc g w w') {p:Addr} {v:Value} (a:w.cell? p=some v) (b:p.block≠g):w'.cell? p=some v:=World.grownBy.cell h a (λx=>by injection x with x;exact b x)
theorem qbm (g:Nat):∀(a:List Value) (o:Nat) (w:World),qdc g w (w.setCells g o a)
 |[],_,w=>qdc.refl g w
 |v::a,o,w=>
  have b:qdc g w (w.setCell ⟨g,o,none⟩ v):=⟨rfl,rfl,rfl,by simp[World.setCell],λk _ c=>Below.heap_setCell w ⟨g,o,none⟩ v k (λe=>c (by rw[e]))⟩
  qdc.trans b (qbm g a (o+1) (w.setCell ⟨g,o,none⟩ v)) (.inl rfl)
variable {P:Program}
theorem qle (t f o e:TypeId) (q:P.underlying t=some (.slice e)) (D:(P.info? e).map (λi=>(i.zero,i.size,i.bytes))=some (some (.int .u8 0),1,1))
 {cap:Nat} (c:Own w B g cap S) (T:ByteArray) (v:Value) (r:Src P 1 f v T.size (byteCells T) w) (R:S.size+T.size<=1000000) (E:B<=w.heap.size):
 ∃g' s w',(Builtin.append_ #[t,f] o #[.slice (some ⟨g,0,none⟩) S.size cap,v]).run P w=.ok (.slice (some ⟨g',0,none⟩) (S++T).size s) w'/\Own w' B g' s (S++T)/\(g'=g\/g'=w.heap.size)/\qdc g w w':=by
 obtain⟨i,x,F,d,G⟩:=info_parts D;have y:(byteCells T).length=T.size:=byteCells_length T;have p:(byteCells S).length=S.size:=byteCells_length S;rw[ByteArray.size_append];by_cases z:S.size+T.size<=cap
 ·have l:∀j,j<(byteCells T).length->(w.cell? ⟨g,0+S.size*i.size+j,none⟩).isSome=true:=λj b=>by
   rw[d,Nat.mul_one,Nat.zero_add];exact c.there _ (by omega)
  have H:∀j,j<(byteCells T).length->w.frozen? ⟨g,0+S.size*i.size+j,none⟩=false:=λj b=>by
   rw[d,Nat.mul_one,Nat.zero_add];exact c.free _ (by omega)
  have m:=run_append_room_src (P:=P) w t f o e i q x g 0 S.size cap v T.size (byteCells T) (by rw[d];exact r) z l H;rw[d,Nat.mul_one,Nat.zero_add]at m;rw[d,Nat.mul_one,Nat.zero_add]at l;refine⟨g,cap,_,m,⟨c.base,Nat.lt_of_lt_of_le c.lt (qbm g _ _ w).size,by rw[ByteArray.size_append];exact z,c.most,?_,?_,?_⟩,.inl rfl,qbm g _ _ w⟩
  ·intro j u a;rw[qep]at a;rcases Nat.lt_or_ge j S.size with b|b
   ·rw[List.getElem?_append_left (by omega)]at a;rw[World.cell?_setCells_out g _ _ _ _ (λ_ _=>.inl b)];exact c.have_ j u a
   ·rw[List.getElem?_append_right (by omega),p]at a
    have A:j-S.size<(byteCells T).length:=by
     rcases Nat.lt_or_ge (j-S.size) (byteCells T).length with h|h
     ·exact h
     ·rw[List.getElem?_eq_none h]at a;cases a
    have:=World.cell?_setCells_in g (byteCells T) S.size w l (j-S.size) A;rw[Nat.add_sub_cancel' b]at this;rw[this];rw[List.getElem?_eq_getElem A]at a;exact a
  ·intro j b;by_cases I:S.size<=j/\j<S.size+T.size
   ·have:=World.cell?_setCells_in g (byteCells T) S.size w l (j-S.size) (by omega);rw[Nat.add_sub_cancel' I.1]at this;rw[this];rfl
   ·rw[World.cell?_setCells_out g _ _ _ _ (λ_ _=>by rw[y];show j<S.size\/S.size+T.size<=j;omega)];exact c.there j b
  ·intro j b;rw[World.frozen?_setCells];exact c.free j b
 ·have hold:(Builtin.firstCells i.size S.size (.slice (some ⟨g,0,none⟩) S.size cap)).run P w.drew=.ok (byteCells S).toArray w.drew:=
   run_firstCells_some w.drew i.size S.size ⟨g,0,none⟩ S.size cap (byteCells S) (by rw[d,Nat.mul_one,p]) (λj u a=>by
        have J:(⟨g,0,none⟩:Addr).add j=⟨g,j,none⟩:=by unfold Addr.add;split<;>simp_all
        rw[J]
        exact c.have_ j u a)
  have m:=run_append_grow_src (P:=P) w t f o e i (.int .u8 0) q x F (some ⟨g,0,none⟩) S.size cap (byteCells S) hold v T.size (byteCells T) (by rw[d];exact r) (by omega) (by omega) (by rw[G];exact growslice_fits (by omega) (by omega));have K:=grownCap_ge w (S.size+T.size) cap e;have L:=grownCap_le_maxLen w (S.size+T.size) cap e (by simp only[maxLen];omega)
  have M:((byteCells S++byteCells T).toArray++Builtin.zeroCells (Value.int IntKind.u8 0).cells (grownCap w (S.size+T.size) cap e-(S.size+T.size))).size=grownCap w (S.size+T.size) cap e:=by
   have N:(Value.int IntKind.u8 0).cells.size=1:=rfl;simp only[Array.size_append,List.size_toArray,List.length_append,size_zeroCells,N,y,p];omega
  have O:=heap_alloc_new w.drew (.cells ((byteCells S++byteCells T).toArray++Builtin.zeroCells (Value.int IntKind.u8 0).cells (grownCap w (S.size+T.size) cap e-(S.size+T.size))) e);have C:∀j,(w.drew.alloc (.cells ((byteCells S++byteCells T).toArray++Builtin.zeroCells (Value.int IntKind.u8 0).cells (grownCap w (S.size+T.size) cap e-(S.size+T.size))) e)).cell? ⟨w.heap.size,j,none⟩=((byteCells S++byteCells T).toArray++Builtin.zeroCells (Value.int IntKind.u8 0).cells (grownCap w (S.size+T.size) cap e-(S.size+T.size)))[j]?:=λj=>cell_of_row _ w.heap.size j _ e (0,0) O;refine⟨w.heap.size,_,_,m,⟨E,by simp,by rw[ByteArray.size_append];exact K,L,?_,?_,?_⟩,.inr rfl,⟨rfl,rfl,rfl,by simp,λk Q _=>Below.heap_alloc w.drew _ k Q⟩⟩
  ·intro j u a
   rw[C,Array.getElem?_append_left (by
        rcases Nat.lt_or_ge j (byteCells (S++T)).length with h|h
        ·rw[qep]at h;simpa using h
        ·rw[List.getElem?_eq_none h]at a;cases a)]
   rw[qep]at a;simpa using a
  ·intro j b;rw[C,Array.getElem?_eq_getElem (by rw[M];exact b)];rfl
  ·intro j _;exact World.frozen?_alloc_at _ _ _ _ rfl
theorem qcv {d:Array Oper} {rest:List Oper} {o:Oper} {a:Act} {Q:Exit->Act->World->Prop} (f:o.guard=none) (s x:Operand) (t c e:TypeId)
 (j:o.op=.call {callee:=.builtin .append,args:=#[s,x],argTypes:=#[t,c]}) (k:P.underlying t=some (.slice e)) (l:(P.info? e).map (λi=>(i.zero,i.size,i.bytes))=some (some (.int .u8 0),1,1))
 {cap:Nat} (m:a.eval s=.slice (some ⟨g,0,none⟩) S.size cap) (p:Own w B g cap S) (T:ByteArray) (v:Value) (q:a.eval x=v) (r:Src P 1 c v T.size (byteCells T) w) (u:S.size+T.size<=1000000) (y:B<=w.heap.size)
 (h:∀S' g' b w',Hid (S'=S++T)->Own w' B g' b S'->(g'=g\/g'=w.heap.size)->qdc g w w'->wpList P d Q rest (a.put o.dst (.slice (some ⟨g',0,none⟩) S'.size b)) w'):wpList P d Q (o::rest) a w:=by
 refine wpList_plain f λK z=>?_;obtain⟨g',b,w',A,C,D,E⟩:=qle (P:=P) t c o.type e k l p T v r u y;unfold Oper.wp execOp;simp only[j,resolve,invoke,builtin,Sem.run_bind,Sem.run_pure,Result.andThen_ok,List.map_toArray,List.map_cons,List.map_nil,m,q,A];exact z _ _ (h _ g' b w' rfl C D E)
theorem qym {d e:TypeId} (f:P.underlying d=some (.slice e)) {b:Nat} (h:0<=n) (i:n<256) (c:Nat) (k:w.cell? ⟨b,0,none⟩=some (.int .u8 n)):
 Src P 1 d (.slice (some ⟨b,0,none⟩) 1 c) (qir n).size (byteCells (qir n)) w:=by
 rw[qdy,qjs h i];refine Src.ofSlice w f _ 1 c _ rfl ?_ ?_
 ·intro j u a
  match j,a with
  |0,a=>
   injection a with a;subst a;exact k
  |j+1,a=>cases a
 ·intro u a;simp only[List.mem_singleton]at a;subst a;rfl
end
section
open Go.RowKit
structure qag (w:World) (b:Nat) (vs:List Value):Prop where
 cell:∀j v,vs[j]?=some v->w.cell? ⟨b,j,none⟩=some v
 free:∀j,j<vs.length->w.frozen? ⟨b,j,none⟩=false
 lt:b<w.heap.size
variable {w w':World} {b:Nat} {vs:List Value}
theorem qag.kept (h:qag w b vs) (e:w'.heap[b]?=w.heap[b]?) (a:w.heap.size<=w'.heap.size):qag w' b vs:=
 ⟨λj v c=>by rw[World.cell?_of_block (w:=w) e];exact h.cell j v c,λj d=>by rw[World.frozen?_of_block (w:=w) e];exact h.free j d,Nat.lt_of_lt_of_le h.lt a⟩
theorem qag.later (h:qag w b vs) (hb:Below w.heap.size w w'):qag w' b vs:=h.kept (hb.block b h.lt) hb.size
theorem qag.only {a:Nat} (h:qag w b vs) (c:qdc a w w') (d:b≠a):qag w' b vs:=h.kept (c.block b h.lt (λx=>by injection x with x;exact d x)) c.size
theorem qag.grown {r:Option Nat} (h:qag w b vs) (a:w.grownBy w' r) (c:some b≠r):qag w' b vs:=h.kept (a.block b h.lt c) a.size
theorem qag.far (h:qag w b vs) (p:Addr) (u:Value) (a:p.block≠b):qag (w.setCell p u) b vs:=h.kept (Below.heap_setCell _ _ _ _ (Ne.symm a)) (by simp[World.setCell])
theorem qag.boxed (h:qag w b vs) (o:Obj):qag (w.alloc o) b vs:=h.kept (Below.heap_alloc _ _ _ h.lt) (by simp)
theorem qag.drew (h:qag w b vs):qag w.drew b vs:=h.kept rfl (Nat.le_refl _)
variable {T:TypeId}
theorem qag.new {n:Nat} (vs:List Value) (a:w.heap.size=n):qag (w.alloc (.cells vs.toArray T)) n vs:=by
 subst a;have c:=heap_alloc_new w (.cells vs.toArray T);refine⟨λj v d=>?_,λj _=>World.frozen?_alloc_at _ _ _ _ rfl,by simp⟩;rw[cell_of_row _ w.heap.size j _ T (0,0) c];simpa using d
theorem qag.set (h:qag w b vs) (k:Nat) (u:Value) (d:k<vs.length):qag (w.setCell ⟨b,k,none⟩ u) b (vs.set k u):=by
 refine⟨λj v a=>?_,λj c=>by rw[World.frozen?_setCell];exact h.free j (by simpa using c),by simpa[World.setCell]using h.lt⟩;by_cases c:k=j
 ·subst c;rw[List.getElem?_set_self d]at a;injection a with a;subst a;exact World.cell?_setCell_same _ _ _ (h.cell k vs[k] (List.getElem?_eq_getElem d))
 ·rw[List.getElem?_set_ne c]at a;rw[World.cell?_setCell_other _ _ _ _ (by intro e;injection e with _ e _;exact c e)];exact h.cell j v a
def wrC (x:Wr):List Value:=[.int .i64 x.key,.string x.data,.bool x.gone]
def qf4 (l:List Wr):List Value:=l.flatMap wrC
theorem qdq (l:List Wr):(qf4 l).length=l.length*3:=by
 induction l with
 |nil=>rfl
 |cons x l ih=>
  show (wrC x++qf4 l).length=_;rw[List.length_append,ih];simp[wrC];omega
theorem qkf (l:List Wr) (x:Wr):qf4 (l++[x])=qf4 l++wrC x:=by simp[qf4]
theorem qsx:∀(l:List Wr) (i:Nat),i<l.length->(qf4 l)[i*3]?=some (.int .i64 (qff l i).key)/\(qf4 l)[i*3+1]?=some (.string (qff l i).data)/\(qf4 l)[i*3+1+1]?=some (.bool (qff l i).gone)
 |[],_,h=>by simp at h
 |x::l,0,_=>⟨rfl,rfl,rfl⟩
 |x::l,i+1,h=>by
  have a:=qsx l i (by simpa using h);have e:qff (x::l) (i+1)=qff l i:=rfl
  have c:(i+1)*3=i*3+1+1+1:=by omega
  rw[e,c];exact a
theorem qb8 (g j:Nat):(⟨g,0,none⟩:Addr).add j=⟨g,j,none⟩:=by unfold Addr.add;split<;>simp_all
theorem qcw {B:Nat} {v:Value} {l:List Wr} (h:w.ownsRow B T 3 v l.length (qf4 l)):∃a cap,v=.slice a l.length cap/\qat w a cap l:=by
 rcases h.2 with ⟨rfl,d⟩|⟨g,cap,cur,rfl,hb,o,k,m,p,q⟩
 ·exact⟨none,0,by rw[d],⟨by omega,by omega,.inl (List.eq_nil_of_length_eq_zero d)⟩⟩
 ·refine⟨_,cap,rfl,⟨k,by simp only[maxLen]at m;omega,.inr ⟨g,0,rfl,λi n=>?_⟩⟩⟩;have c:=h.cells (g:=g) rfl;obtain⟨a0,a1,a2⟩:=qsx l i n;have e:=c _ _ a0;have f:=c _ _ a1;have j:=c _ _ a2;rw[qb8]at e f j;rw[Nat.zero_add];exact⟨e,f,j⟩
theorem qas {P:Program} {c:Array Oper} {o:Oper} {a:Act} {K:Act->World->Prop} {Q:Exit->Act->World->Prop} {E:Prop} (d:o.guard=none) (f:FuncId) (args:Array Value)
 (g:(execOp a.eval o).run P w=.ok (.enter f args) w) {R:Ending->World->Prop} (h:Calls P f args w R) (i:∀e w',R e w'->∃v,e=.returned v/\K (a.put o.dst v) w'):
 if Region.wanted o (yielded c a.tmps)=true then Oper.wp P o a w K Q else E:=by
 have j:Region.wanted o (yielded c a.tmps)=true:=by simp[Region.wanted,d]
 rw[if_pos j];unfold Oper.wp;rw[g]
 exact h.mono λe w' k=>by
  obtain⟨v,rfl,l⟩:=i e w' k;exact l
variable {a0 a1 a2 a3:Value}
theorem qag.c4 (h:qag w b [a0,a1,a2,a3]):w.cell? ⟨b,0,none⟩=some a0/\w.cell? ⟨b,1,none⟩=some a1/\w.cell? ⟨b,2,none⟩=some a2/\w.cell? ⟨b,3,none⟩=some a3:=⟨h.cell 0 _ rfl,h.cell 1 _ rfl,h.cell 2 _ rfl,h.cell 3 _ rfl⟩
variable {a4 a5:Value}
theorem qag.c6 (h:qag w b [a0,a1,a2,a3,a4,a5]):w.cell? ⟨b,0,none⟩=some a0/\w.cell? ⟨b,1,none⟩=some a1/\w.cell? ⟨b,2,none⟩=some a2/\w.cell? ⟨b,3,none⟩=some a3/\w.cell? ⟨b,4,none⟩=some a4/\w.cell? ⟨b,5,none⟩=some a5:=⟨h.cell 0 _ rfl,h.cell 1 _ rfl,h.cell 2 _ rfl,h.cell 3 _ rfl,h.cell 4 _ rfl,h.cell 5 _ rfl⟩
variable {a6 a7 a8:Value}
theorem qag.c9 (h:qag w b [a0,a1,a2,a3,a4,a5,a6,a7,a8]):w.cell? ⟨b,0,none⟩=some a0/\w.cell? ⟨b,1,none⟩=some a1/\w.cell? ⟨b,2,none⟩=some a2/\w.cell? ⟨b,3,none⟩=some a3/\w.cell? ⟨b,4,none⟩=some a4/\w.cell? ⟨b,5,none⟩=some a5/\w.cell? ⟨b,6,none⟩=some a6/\w.cell? ⟨b,7,none⟩=some a7/\w.cell? ⟨b,8,none⟩=some a8:=⟨h.cell 0 _ rfl,h.cell 1 _ rfl,h.cell 2 _ rfl,h.cell 3 _ rfl,h.cell 4 _ rfl,h.cell 5 _ rfl,h.cell 6 _ rfl,h.cell 7 _ rfl,h.cell 8 _ rfl⟩
theorem qag.c15 {a c d e f g:Value} (h:qag w b [a0,a1,a2,a3,a4,a5,a6,a7,a8,a,c,d,e,f,g]):w.cell? ⟨b,0,none⟩=some a0/\w.cell? ⟨b,1,none⟩=some a1/\w.cell? ⟨b,2,none⟩=some a2/\w.cell? ⟨b,3,none⟩=some a3/\w.cell? ⟨b,4,none⟩=some a4/\w.cell? ⟨b,5,none⟩=some a5/\w.cell? ⟨b,6,none⟩=some a6/\w.cell? ⟨b,7,none⟩=some a7/\w.cell? ⟨b,8,none⟩=some a8/\w.cell? ⟨b,9,none⟩=some a/\w.cell? ⟨b,10,none⟩=some c/\w.cell? ⟨b,11,none⟩=some d/\w.cell? ⟨b,12,none⟩=some e/\w.cell? ⟨b,13,none⟩=some f/\w.cell? ⟨b,14,none⟩=some g:=⟨h.cell 0 _ rfl,h.cell 1 _ rfl,h.cell 2 _ rfl,h.cell 3 _ rfl,h.cell 4 _ rfl,h.cell 5 _ rfl,h.cell 6 _ rfl,h.cell 7 _ rfl,h.cell 8 _ rfl,h.cell 9 _ rfl,h.cell 10 _ rfl,h.cell 11 _ rfl,h.cell 12 _ rfl,h.cell 13 _ rfl,h.cell 14 _ rfl⟩
theorem qag.f4 (h:qag w b [a0,a1,a2,a3]):w.frozen? ⟨b,0,none⟩=false/\w.frozen? ⟨b,1,none⟩=false/\w.frozen? ⟨b,2,none⟩=false/\w.frozen? ⟨b,3,none⟩=false:=⟨h.free 0 (by simp),h.free 1 (by simp),h.free 2 (by simp),h.free 3 (by simp)⟩
theorem qag.f9 (h:qag w b [a0,a1,a2,a3,a4,a5,a6,a7,a8]):w.frozen? ⟨b,0,none⟩=false/\w.frozen? ⟨b,1,none⟩=false/\w.frozen? ⟨b,2,none⟩=false/\w.frozen? ⟨b,3,none⟩=false/\w.frozen? ⟨b,4,none⟩=false/\w.frozen? ⟨b,5,none⟩=false/\w.frozen? ⟨b,6,none⟩=false/\w.frozen? ⟨b,7,none⟩=false/\w.frozen? ⟨b,8,none⟩=false:=⟨h.free 0 (by simp),h.free 1 (by simp),h.free 2 (by simp),h.free 3 (by simp),h.free 4 (by simp),h.free 5 (by simp),h.free 6 (by simp),h.free 7 (by simp),h.free 8 (by simp)⟩
end
section
open Go.RowKit
structure Ver where
 wall:Int
 count:Int
 site:Int
 seq:Int
 data:ByteArray
 gone:Bool
structure Hd where
 key:Int
 v:Ver
def qcj:Ver:=⟨0,0,0,0,⟨#[]⟩,false⟩
def qah (v:Ver):List Value:=[.int .i64 v.wall,.int .i64 v.count,.int .i64 v.site,.int .i64 v.seq,.string v.data,.bool v.gone]
def hdL (h:Hd):List Value:=[.int .i64 h.key,.int .i64 h.v.wall,.int .i64 h.v.count,.int .i64 h.v.site,.int .i64 h.v.seq,.string h.v.data,.bool h.v.gone]
def qp8 (l:List Hd):List Value:=l.flatMap hdL
def qfh (l:List Hd) (i:Nat):Hd:=l.getD i ⟨0,qcj⟩
theorem qhy (l:List Hd) (x:Hd):qp8 (l++[x])=qp8 l++hdL x:=by simp[qp8]
theorem qz1:∀(l:List Hd) (i r:Nat) (u:Value),i<l.length->(hdL (qfh l i))[r]?=some u->(qp8 l)[i*7+r]?=some u
 |[],_,_,_,h,_=>by simp at h
 |x::l,0,r,u,_,hu=>by
  have a:r<(hdL x).length:=(List.getElem?_eq_some_iff.1 hu).1;show (hdL x++qp8 l)[0*7+r]?=some u;rw[Nat.zero_mul,Nat.zero_add,List.getElem?_append_left a];exact hu
 |x::l,i+1,r,u,h,hu=>by
  have b:=qz1 l i r u (by simpa using h) hu;show (hdL x++qp8 l)[(i+1)*7+r]?=some u
  have e:(i+1)*7+r=(hdL x).length+(i*7+r):=by simp[hdL];omega
  rw[e,List.getElem?_append_right (by omega),Nat.add_sub_cancel_left];exact b
def qaj (a b:Ver):Bool:=if qio a.wall a.count b.wall b.count=0 then decide (a.site<b.site)else decide (qio a.wall a.count b.wall b.count<0)
def qij (a0 a1 a2 a3:Int) (v:Ver):Bool:=decide (v.seq<=qao v.site a0 a1 a2 a3)
def qim (key a0 a1 a2 a3:Int) (best:Option Ver) (h:Hd):Option Ver:=
 if h.key=key/\qij a0 a1 a2 a3 h.v=true/\(match best with|none=>true|some b=>qaj b h.v)=true then some h.v else best
def qct (key a0 a1 a2 a3:Int) (l:List Hd):Option Ver:=l.foldl (qim key a0 a1 a2 a3) none
variable {a0 a1 a2 a3:Int} {l:List Hd}
theorem qgl {key:Int} {k:Nat} (a:k<l.length):qct key a0 a1 a2 a3 (l.take (k+1))=qim key a0 a1 a2 a3 (qct key a0 a1 a2 a3 (l.take k)) (qfh l k):=by
 unfold qct;rw[List.take_succ_eq_append_getElem a,List.foldl_append];simp[qfh,List.getD,List.getElem?_eq_getElem a]
variable {h:Hd}
theorem qez {key:Int} {a:Option Ver} (c:¬(h.key=key/\qij a0 a1 a2 a3 h.v=true/\(match a with|none=>true|some b=>qaj b h.v)=true)):qim key a0 a1 a2 a3 a h=a:=if_neg c
theorem qgg {key:Int} {a:Option Ver} (c:h.key=key/\qij a0 a1 a2 a3 h.v=true/\(match a with|none=>true|some b=>qaj b h.v)=true):qim key a0 a1 a2 a3 a h=some h.v:=if_pos c
def qdm (v:Ver):Bool:=(qai v.wall&&qai v.count)&&inB v.site 0 3&&inB v.seq 1 1099511627776&&decide ((v.data.size:Int)<=12)&&!(v.gone&&!v.data.toList.isEmpty)
theorem qkk {v:Ver} (h:qdm v=true):0<=v.site/\v.site<=3:=by
 simp only[qdm,Bool.and_eq_true,qa5]at h;exact h.1.1.1.2
structure q44 (w:World) (a:Option Addr) (cap:Nat) (l:List Hd):Prop where
 len:l.length<=cap
 cap:cap<=9223372036854775807
 held:l=[]\/∃b off,a=some ⟨b,off,none⟩/\∀i r u,i<l.length->(hdL (qfh l i))[r]?=some u->w.cell? ⟨b,off+(i*7+r),none⟩=some u
variable {w:World}
theorem q44.later {w':World} {a:Option Addr} {cap:Nat} (hb:Below w.heap.size w w') (h:q44 w a cap l):q44 w' a cap l:=
 ⟨h.len,h.cap,h.held.elim .inl λ⟨b,d,e,c⟩=>.inr ⟨b,d,e,λi r u f g=>cell_later hb (c i r u f g)⟩⟩
theorem qh6 {B:Nat} {T:TypeId} {v:Value} (h:w.ownsRow B T 7 v l.length (qp8 l)):∃a cap,v=.slice a l.length cap/\q44 w a cap l:=by
 rcases h.2 with ⟨rfl,b⟩|⟨g,cap,cur,rfl,hb,k,d,e,m,n⟩
 ·exact⟨none,0,by rw[b],⟨by omega,by omega,.inl (List.eq_nil_of_length_eq_zero b)⟩⟩
 ·refine⟨_,cap,rfl,⟨d,by simp only[maxLen]at e;omega,.inr ⟨g,0,rfl,λi r u f j=>?_⟩⟩⟩;have c:=h.cells (g:=g) rfl _ _ (qz1 l i r u f j);rw[qb8]at c;rw[Nat.zero_add];exact c
end
section
open Tryz Go.RowKit
theorem qed (n:Int) (w:World):
 Calls prog 163 #[.int .i64 n] w λe w'=>e=.returned (.bool (qai n))/\w'=w:=by
 by_cases a:0<=n
 ·by_cases b:n<=1099511627776
  ·rw[qgj a b];go_enter func163,ntmps163
   go_wp2
   go_ret;exact⟨rfl,rfl⟩
  ·have e:qai n=false:=by simp[qai,b]
   rw[e];go_enter func163,ntmps163
   go_wp2
   go_ret;exact⟨rfl,rfl⟩
 ·have e:qai n=false:=by simp[qai,a]
  rw[e];go_enter func163,ntmps163
  go_wp2
  go_ret;exact⟨rfl,rfl⟩
theorem qfg (x c:Int) (w:World):
 Calls prog 162 #[.agg #[.int .i64 x,.int .i64 c]] w λe w'=>e=.returned (.bool (qai x&&qai c))/\Below w.heap.size w w':=by
 by_cases h:qai x=true
 ·rw[h];go_enter func162,ntmps162
  go_wp2_with (go_at_call 163;refine(qed _ _).mono ?_;rintro e w' ⟨rfl,rfl⟩)
  go_ret;exact⟨by simp,(Below.refl _ _).alloc (Nat.le_refl _) _⟩
 ·have a:qai x=false:=by simpa using h
  rw[a];go_enter func162,ntmps162
  go_wp2_with (go_at_call 163;refine(qed _ _).mono ?_;rintro e w' ⟨rfl,rfl⟩)
  go_ret;exact⟨by simp,(Below.refl _ _).alloc (Nat.le_refl _) _⟩
end
section
open Tryz Go.Value Go.IntKind Go.RowKit
theorem qms (x:Int) (w:World):
 Calls prog 126 #[int i64 x] w λe w'=>e=.returned (.bool false)/\w'=w:=by
 go_enter func126,ntmps126
 go_wp2
 go_ret;exact⟨by simp,rfl⟩
theorem qs9 (x y:Int) (w:World):
 Calls prog 99 #[int i64 x,int i64 y] w λe w'=>e=.returned (int i64 (qph x y))/\w'=w:=by
 rcases Int.lt_trichotomy x y with h|h|h
 ·rw[qx6 h];go_enter func99,ntmps99
  go_wp2_with (go_at_call 126;refine(qms _ _).mono ?_;rintro e w' ⟨rfl,rfl⟩)
  go_ret;exact⟨rfl,rfl⟩
 ·subst h;rw[qw9];go_enter func99,ntmps99
  go_wp2_with (go_at_call 126;refine(qms _ _).mono ?_;rintro e w' ⟨rfl,rfl⟩)
  go_ret;exact⟨rfl,rfl⟩
 ·rw[qz2 h]
  have a:¬x<y:=by omega
  go_enter func99,ntmps99
  go_wp2_with (go_at_call 126;refine(qms _ _).mono ?_;rintro e w' ⟨rfl,rfl⟩)
  go_ret;exact⟨rfl,rfl⟩
theorem qg1 (a c b d:Int) (w:World):
 Calls prog 66 #[.agg #[int i64 a,int i64 c],.agg #[int i64 b,int i64 d]] w λe w'=>e=.returned (int i64 (qio a c b d))/\Below w.heap.size w w':=by
 by_cases h:qph a b=0
 ·have e:qio a c b d=qph c d:=by simp[qio,h]
  rw[e]
  have hb:(qph a b==0)=true:=by simp[h]
  clear h;go_enter func66,ntmps66
  go_wp2_with (go_at_call 99;refine(qs9 _ _ _).mono ?_;rintro e w' ⟨rfl,rfl⟩)
  go_ret;exact⟨rfl,((Below.refl _ _).alloc (Nat.le_refl _) _).alloc (by simp) _⟩
 ·have e:qio a c b d=qph a b:=by simp[qio,h]
  rw[e]
  have hb:(qph a b==0)=false:=by simp[h]
  clear h;go_enter func66,ntmps66
  go_wp2_with (go_at_call 99;refine(qs9 _ _ _).mono ?_;rintro e w' ⟨rfl,rfl⟩)
  go_ret;exact⟨rfl,((Below.refl _ _).alloc (Nat.le_refl _) _).alloc (by simp) _⟩
theorem q4l (c d a b:Int) (w:World) (h:qio c d a b<0):
 Calls prog 165 #[.agg #[int i64 c,int i64 d],.agg #[int i64 a,int i64 b]] w λe w'=>e=.returned (.agg #[int i64 a,int i64 b])/\Below w.heap.size w w':=by
 go_enter func165,ntmps165
 go_wp2_with fail
 refine(qg1 _ _ _ _ _).mono ?_;rintro e g ⟨rfl,hb⟩;obtain⟨i,j⟩:=qi6 hb
 have k:w.heap.size+2<g.heap.size:=by have:=hb.size;simp at this;omega
 go_wp2
 exact bodyPost_ret (v:=.agg #[int i64 a,int i64 b]) (by simp[results,results165,go_sem,i]) rfl ⟨rfl,((qtr hb).setCell (by simp;omega) _).setCell (by simp;omega) _⟩
theorem q4r (a b c d:Int) (w:World) (h:¬qio a b c d<0):
 Calls prog 165 #[.agg #[int i64 a,int i64 b],.agg #[int i64 c,int i64 d]] w λe w'=>e=.returned (.agg #[int i64 a,int i64 b])/\Below w.heap.size w w':=by
 go_enter func165,ntmps165
 go_wp2_with fail
 refine(qg1 _ _ _ _ _).mono ?_;rintro e g ⟨rfl,hb⟩;obtain⟨i,j⟩:=qi6 hb
 have k:w.heap.size+2<g.heap.size:=by have:=hb.size;simp at this;omega
 go_wp2
 exact bodyPost_ret (v:=.agg #[int i64 a,int i64 b]) (by simp[results,results165,go_sem,i]) rfl ⟨rfl,((qtr hb).setCell (by simp;omega) _).setCell (by simp;omega) _⟩
theorem qsq (lw lc now:Int) (w:World) (h:(qai lw&&qai lc)=false):
 Calls prog 136 #[.agg #[int i64 lw,int i64 lc],int i64 now] w λe w'=>e=.returned (.tuple #[.agg #[int i64 0,int i64 0],.iface 29 (int i64 2)])/\Below w.heap.size w w':=by
 go_enter func136,ntmps136
 go_wp2_with fail
 refine(qfg _ _ _).mono ?_;rintro e a ⟨rfl,hb⟩;obtain⟨b,c⟩:=qi6 hb
 have d:w.heap.size+1<a.heap.size:=by have:=hb.size;simp at this;omega
 go_wp2_with (go_at_call 163;refine(qed _ _).mono ?_;rintro e w' ⟨rfl,rfl⟩)
 exact bodyPost_ret (v:=.tuple #[.agg #[int i64 0,int i64 0],.iface 29 (int i64 2)]) (by simp[results,results136,go_sem,b]) rfl ⟨rfl,((qix hb).setCell (by simp) _).setCell (by simp) _⟩
theorem qs1 (lw lc now:Int) (w:World) (h:(qai lw&&qai lc)=true) (c:qai now=false):
 Calls prog 136 #[.agg #[int i64 lw,int i64 lc],int i64 now] w λe w'=>e=.returned (.tuple #[.agg #[int i64 0,int i64 0],.iface 29 (int i64 2)])/\Below w.heap.size w w':=by
 go_enter func136,ntmps136
 go_wp2_with fail
 refine(qfg _ _ _).mono ?_;rintro e a ⟨rfl,hb⟩;obtain⟨b,d⟩:=qi6 hb
 have g:w.heap.size+1<a.heap.size:=by have:=hb.size;simp at this;omega
 go_wp2_with (go_at_call 163;refine(qed _ _).mono ?_;rintro e w' ⟨rfl,rfl⟩)
 exact bodyPost_ret (v:=.tuple #[.agg #[int i64 0,int i64 0],.iface 29 (int i64 2)]) (by simp[results,results136,go_sem,b]) rfl ⟨rfl,((qix hb).setCell (by simp) _).setCell (by simp) _⟩
theorem q0e (lw lc now:Int) (w:World) (h:(qai lw&&qai lc)=true) (c:qai now=true) (d:lw<now):
 Calls prog 136 #[.agg #[int i64 lw,int i64 lc],int i64 now] w λe w'=>e=.returned (.tuple #[.agg #[int i64 now,int i64 0],.nilIface])/\Below w.heap.size w w':=by
 go_enter func136,ntmps136
 go_wp2_with fail
 refine(qfg _ _ _).mono ?_;rintro e a ⟨rfl,hb⟩;obtain⟨b,g⟩:=qi6 hb
 have i:w.heap.size+1<a.heap.size:=by have:=hb.size;simp at this;omega
 go_wp2_with (go_at_call 163;refine(qed _ _).mono ?_;rintro e w' ⟨rfl,rfl⟩)
 exact bodyPost_ret (v:=.tuple #[.agg #[int i64 now,int i64 0],.nilIface]) (by simp[results,results136,go_sem,b]) rfl ⟨rfl,((qix hb).setCell (by simp) _).setCell (by simp) _⟩
theorem qz8 (lw lc now:Int) (w:World) (h:(qai lw&&qai lc)=true) (c:qai now=true) (d:¬lw<now) (g:(lc==1099511627776)=true):
 Calls prog 136 #[.agg #[int i64 lw,int i64 lc],int i64 now] w λe w'=>e=.returned (.tuple #[.agg #[int i64 0,int i64 0],.iface 29 (int i64 12)])/\Below w.heap.size w w':=by
 go_enter func136,ntmps136
 go_wp2_with fail
 refine(qfg _ _ _).mono ?_;rintro e a ⟨rfl,hb⟩;obtain⟨b,i⟩:=qi6 hb
 have j:w.heap.size+1<a.heap.size:=by have:=hb.size;simp at this;omega
 go_wp2_with (go_at_call 163;refine(qed _ _).mono ?_;rintro e w' ⟨rfl,rfl⟩)
 exact bodyPost_ret (v:=.tuple #[.agg #[int i64 0,int i64 0],.iface 29 (int i64 12)]) (by simp[results,results136,go_sem,b]) rfl ⟨rfl,((qix hb).setCell (by simp) _).setCell (by simp) _⟩
theorem qv9 (lw lc now:Int) (w:World) (h:(qai lw&&qai lc)=true) (c:qai now=true) (d:¬lw<now) (g:(lc==1099511627776)=false) (i:0<=lc) (j:lc<1099511627776):
 Calls prog 136 #[.agg #[int i64 lw,int i64 lc],int i64 now] w λe w'=>e=.returned (.tuple #[.agg #[int i64 lw,int i64 (lc+1)],.nilIface])/\Below w.heap.size w w':=by
 go_enter func136,ntmps136
 go_wp2_with fail
 refine(qfg _ _ _).mono ?_;rintro e a ⟨rfl,hb⟩;obtain⟨b,k⟩:=qi6 hb
 have l:w.heap.size+1<a.heap.size:=by have:=hb.size;simp at this;omega
 go_wp2_with (go_at_call 163;refine(qed _ _).mono ?_;rintro e w' ⟨rfl,rfl⟩)
 exact bodyPost_ret (v:=.tuple #[.agg #[int i64 lw,int i64 (lc+1)],.nilIface]) (by simp[results,results136,go_sem,b]) rfl ⟨rfl,((qix hb).setCell (by simp) _).setCell (by simp) _⟩
end
section
open Go.RowKit
theorem qyr (a b c d:Int) (w:World):(Op.equalIn 10000 52 (.agg #[.int .i64 a,.int .i64 b]) (.agg #[.int .i64 c,.int .i64 d])).run Tryz.prog w=.ok (a==c&&b==d) w:=by
 have i:=Tryz.underlying3;have a3:=Tryz.isAgg3;have j:=Tryz.sizeOf3
 have e:Tryz.prog.underlying 52=some (.struct (Tryz.prog.fieldsOf 52)):=by kernel_rfl
 have f:Tryz.prog.stoodInHeld 52=false:=by kernel_rfl
 rw[show (10000:Nat)=9999+1 from rfl,run_equalIn_agg w 9999 52 _ _ e f];simp only[Program.fieldsOf,Tryz.underlying52]
 go_simp
 by_cases g:a=c<;>by_cases h:b=d<;>simp[g,h]
theorem qum (a b c d:Int) (w:World):(binOp .eql 52 (.agg #[.int .i64 a,.int .i64 b]) (.agg #[.int .i64 c,.int .i64 d])).run Tryz.prog w=.ok (.bool (qko a b c d)) w:=by
 rw[run_eql_struct,qyr];rfl
end
section
open Go.RowKit
structure qtm (w:World) (b:Nat) (a0 a1:Int):Prop where
 c0:w.cell? ⟨b,0,none⟩=some (.int .i64 a0)
 c1:w.cell? ⟨b,1,none⟩=some (.int .i64 a1)
 f0:w.frozen? ⟨b,0,none⟩=false
 f1:w.frozen? ⟨b,1,none⟩=false
variable {w:World} {b:Nat} {a0 a1:Int}
theorem qtm.lt (h:qtm w b a0 a1):b<w.heap.size:=World.block_lt_of_cell? _ _ h.c0
theorem qtm.later {w':World} (hb:Below w.heap.size w w') (h:qtm w b a0 a1):qtm w' b a0 a1:=
 have l:=h.lt
 ⟨cell_later hb h.c0,cell_later hb h.c1,(hb.frozen (p:=⟨b,0,none⟩) l).trans h.f0,(hb.frozen (p:=⟨b,1,none⟩) l).trans h.f1⟩
theorem qtm.new (w:World) (T:TypeId) (a0 a1:Int):qtm (w.alloc (.cells #[.int .i64 a0,.int .i64 a1] T)) w.heap.size a0 a1:=by
 constructor<;>go_simp
theorem q5j {d:World} {T:TypeId} {a c:Int} (hb:Below ((w.alloc (.cells #[.int .i64 a0,.int .i64 a1] T)).alloc (.cells #[.int .i64 a,.int .i64 c] T)).heap.size ((w.alloc (.cells #[.int .i64 a0,.int .i64 a1] T)).alloc (.cells #[.int .i64 a,.int .i64 c] T)) d):
 qtm d w.heap.size a0 a1/\qtm d (w.heap.size+1) a c:=by
 refine⟨((qtm.new w T a0 a1).later (boxed (Below.refl _ _) _)).later hb,?_⟩;have y:=qtm.new (w.alloc (.cells #[.int .i64 a0,.int .i64 a1] T)) T a c;simp only[World.size_alloc]at y;exact y.later hb
end
section
open Go.Value Go.IntKind Go.RowKit
structure qbe (w:World) (b:Nat) (a0 a1 a2 a3:Int):Prop where
 c0:w.cell? ⟨b,0,none⟩=some (int i64 a0)
 c1:w.cell? ⟨b,1,none⟩=some (int i64 a1)
 c2:w.cell? ⟨b,2,none⟩=some (int i64 a2)
 c3:w.cell? ⟨b,3,none⟩=some (int i64 a3)
 f0:w.frozen? ⟨b,0,none⟩=false
 f1:w.frozen? ⟨b,1,none⟩=false
 f2:w.frozen? ⟨b,2,none⟩=false
 f3:w.frozen? ⟨b,3,none⟩=false
variable {w:World} {b:Nat} {a0 a1 a2 a3:Int}
theorem qbe.lt (h:qbe w b a0 a1 a2 a3):b<w.heap.size:=World.block_lt_of_cell? _ _ h.c0
theorem qbe.later {w':World} (hb:Below w.heap.size w w') (h:qbe w b a0 a1 a2 a3):qbe w' b a0 a1 a2 a3:=
 have l:=h.lt
 ⟨cell_later hb h.c0,cell_later hb h.c1,cell_later hb h.c2,cell_later hb h.c3,(hb.frozen (p:=⟨b,0,none⟩) l).trans h.f0,(hb.frozen (p:=⟨b,1,none⟩) l).trans h.f1,(hb.frozen (p:=⟨b,2,none⟩) l).trans h.f2,(hb.frozen (p:=⟨b,3,none⟩) l).trans h.f3⟩
theorem qbe.new (w:World) (T:TypeId) (a0 a1 a2 a3:Int):qbe (w.alloc (.cells #[int i64 a0,int i64 a1,int i64 a2,int i64 a3] T)) w.heap.size a0 a1 a2 a3:=by
 constructor<;>go_simp
theorem qbe.far (h:qbe w b a0 a1 a2 a3) (p:Addr) (u:Value) (a:p.block≠b):qbe (w.setCell p u) b a0 a1 a2 a3:=by
 have e:(w.setCell p u).heap[b]?=w.heap[b]?:=Below.heap_setCell _ _ _ _ (Ne.symm a)
 constructor
 ·rw[World.cell?_of_block (w:=w) e];exact h.c0
 ·rw[World.cell?_of_block (w:=w) e];exact h.c1
 ·rw[World.cell?_of_block (w:=w) e];exact h.c2
 ·rw[World.cell?_of_block (w:=w) e];exact h.c3
 ·rw[World.frozen?_of_block (w:=w) e];exact h.f0
 ·rw[World.frozen?_of_block (w:=w) e];exact h.f1
 ·rw[World.frozen?_of_block (w:=w) e];exact h.f2
 ·rw[World.frozen?_of_block (w:=w) e];exact h.f3
theorem qbe.set0 (h:qbe w b a0 a1 a2 a3) (x:Int):qbe (w.setCell ⟨b,0,none⟩ (int i64 x)) b x a1 a2 a3:=
 ⟨World.cell?_setCell_same _ _ _ h.c0,(World.cell?_setCell_other _ _ _ _ (by simp)).trans h.c1,(World.cell?_setCell_other _ _ _ _ (by simp)).trans h.c2,(World.cell?_setCell_other _ _ _ _ (by simp)).trans h.c3,(World.frozen?_setCell _ _ _ _).trans h.f0,(World.frozen?_setCell _ _ _ _).trans h.f1,(World.frozen?_setCell _ _ _ _).trans h.f2,(World.frozen?_setCell _ _ _ _).trans h.f3⟩
theorem qbe.set1 (h:qbe w b a0 a1 a2 a3) (x:Int):qbe (w.setCell ⟨b,1,none⟩ (int i64 x)) b a0 x a2 a3:=
 ⟨(World.cell?_setCell_other _ _ _ _ (by simp)).trans h.c0,World.cell?_setCell_same _ _ _ h.c1,(World.cell?_setCell_other _ _ _ _ (by simp)).trans h.c2,(World.cell?_setCell_other _ _ _ _ (by simp)).trans h.c3,(World.frozen?_setCell _ _ _ _).trans h.f0,(World.frozen?_setCell _ _ _ _).trans h.f1,(World.frozen?_setCell _ _ _ _).trans h.f2,(World.frozen?_setCell _ _ _ _).trans h.f3⟩
theorem qbe.set2 (h:qbe w b a0 a1 a2 a3) (x:Int):qbe (w.setCell ⟨b,2,none⟩ (int i64 x)) b a0 a1 x a3:=
 ⟨(World.cell?_setCell_other _ _ _ _ (by simp)).trans h.c0,(World.cell?_setCell_other _ _ _ _ (by simp)).trans h.c1,World.cell?_setCell_same _ _ _ h.c2,(World.cell?_setCell_other _ _ _ _ (by simp)).trans h.c3,(World.frozen?_setCell _ _ _ _).trans h.f0,(World.frozen?_setCell _ _ _ _).trans h.f1,(World.frozen?_setCell _ _ _ _).trans h.f2,(World.frozen?_setCell _ _ _ _).trans h.f3⟩
theorem qbe.set3 (h:qbe w b a0 a1 a2 a3) (x:Int):qbe (w.setCell ⟨b,3,none⟩ (int i64 x)) b a0 a1 a2 x:=
 ⟨(World.cell?_setCell_other _ _ _ _ (by simp)).trans h.c0,(World.cell?_setCell_other _ _ _ _ (by simp)).trans h.c1,(World.cell?_setCell_other _ _ _ _ (by simp)).trans h.c2,World.cell?_setCell_same _ _ _ h.c3,(World.frozen?_setCell _ _ _ _).trans h.f0,(World.frozen?_setCell _ _ _ _).trans h.f1,(World.frozen?_setCell _ _ _ _).trans h.f2,(World.frozen?_setCell _ _ _ _).trans h.f3⟩
theorem qbe.boxed (h:qbe w b a0 a1 a2 a3) (o:Obj):qbe (w.alloc o) b a0 a1 a2 a3:=h.later (YtemiamjnhoeniaaGreatDoor.boxed (Below.refl _ _) o)
theorem qbe.drew (h:qbe w b a0 a1 a2 a3):qbe w.drew b a0 a1 a2 a3:=h.later (Below.refl _ _).drew
theorem qbe.newest {T:TypeId} {n:Nat} (a:w.heap.size=n):qbe (w.alloc (.cells #[int i64 a0,int i64 a1,int i64 a2,int i64 a3] T)) n a0 a1 a2 a3:=by
 subst a;exact qbe.new w T a0 a1 a2 a3
variable {x0 x1 x2 x3:Int}
theorem qbe.set (h:qbe w b a0 a1 a2 a3):qbe ((((w.setCell ⟨b,0,none⟩ (int i64 x0)).setCell ⟨b,1,none⟩ (int i64 x1)).setCell ⟨b,2,none⟩ (int i64 x2)).setCell ⟨b,3,none⟩ (int i64 x3)) b x0 x1 x2 x3:=
 (((h.set0 x0).set1 x1).set2 x2).set3 x3
theorem qbe.far4 {c:Nat} (h:qbe w b a0 a1 a2 a3) (a:c≠b):qbe ((((w.setCell ⟨c,0,none⟩ (int i64 x0)).setCell ⟨c,1,none⟩ (int i64 x1)).setCell ⟨c,2,none⟩ (int i64 x2)).setCell ⟨c,3,none⟩ (int i64 x3)) b a0 a1 a2 a3:=
 (((h.far ⟨c,0,none⟩ (int i64 x0) a).far ⟨c,1,none⟩ (int i64 x1) a).far ⟨c,2,none⟩ (int i64 x2) a).far ⟨c,3,none⟩ (int i64 x3) a
end
section
open Go.RowKit
theorem qmv {w:World} {b:Nat} {a0 a1 a2 a3 site:Int} (h:qbe w b a0 a1 a2 a3) (a:0<=site) (c:site<=3):w.cell? ⟨b,site.toNat,none⟩=some (.int .i64 (qao site a0 a1 a2 a3)):=by
 have:site=0\/site=1\/site=2\/site=3:=by omega
 rcases this with rfl|rfl|rfl|rfl
 ·exact h.c0
 ·exact h.c1
 ·exact h.c2
 ·exact h.c3
def qdz:Option Ver->List Value
 |none=>qah qcj
 |some v=>qah v
def qit:Option Ver->Bool
 |none=>false
 |some _=>true
theorem qjn (a:Option Ver):qdz a=qah (a.getD qcj):=by cases a<;>rfl
end
section
open Go.RowKit
def qqv:Option Ver->Ver×Int
 |none=>(qcj,8)
 |some v=>if v.gone then (qcj,8)else (v,0)
def qdf (key a0 a1 a2 a3:Int) (l:List Hd):Ver×Int:=if inB key 0 7=true then qqv (qct key a0 a1 a2 a3 l)else (qcj,2)
end
section
open Go.RowKit
def qd8 (key:Int) (v:Ver) (h:Hd):Bool:=decide (h.key=key)&&(decide (h.v.wall=v.wall)&&decide (h.v.count=v.count))&&decide (h.v.site=v.site)
def qgs (l:List Hd) (key:Int) (v:Ver):Int:=if inB key 0 7=true then (if qdm v=true then (if l.any (qd8 key v)=true then 9 else 0)else 1)else 2
def qfd (l:List Hd) (key:Int) (v:Ver):List Hd:=if qgs l key v=0 then l++[⟨key,v⟩]else l
structure qae (F:Nat->Prop) (w w':World):Prop where
 os:w'.os=w.os
 tape:w'.tape=w.tape
 output:w'.output=w.output
 size:w.heap.size<=w'.heap.size
 block:∀k,k<w.heap.size->¬F k->w'.heap[k]?=w.heap[k]?
variable {F:Nat->Prop} {w w':World}
theorem qae.ofBelow (h:Below w.heap.size w w'):qae F w w':=⟨h.os,h.tape,h.output,h.size,λk a _=>h.block k a⟩
theorem qae.trans {a b c:World} (h:qae F a b) (k:qae F b c):qae F a c:=
 ⟨k.os.trans h.os,k.tape.trans h.tape,k.output.trans h.output,Nat.le_trans h.size k.size,λi d e=>(k.block i (Nat.lt_of_lt_of_le d h.size) e).trans (h.block i d e)⟩
theorem qae.grown {r:Option Nat} (h:w.grownBy w' r) (a:∀k,r=some k->F k):qae F w w':=
 ⟨h.os,h.tape,h.output,h.size,λk b c=>h.block k b (λe=>c (a k e.symm))⟩
theorem qae.setCell (w:World) (p:Addr) (u:Value) (a:F p.block):qae F w (w.setCell p u):=
 ⟨rfl,rfl,rfl,by simp[World.setCell],λk _ b=>Below.heap_setCell w p u k (λe=>b (by rw[e];exact a))⟩
theorem qhz (g o:Nat) (w:World) (v:Value):qdc g w (w.setCell ⟨g,o,none⟩ v):=⟨rfl,rfl,rfl,by simp[World.setCell],λk _ a=>Below.heap_setCell w ⟨g,o,none⟩ v k (λe=>a (by rw[e]))⟩
def q1l (sb:Nat) (v:Value) (k:Nat):Prop:=k=sb\/v.ownBlock=some k
theorem qey {B:Nat} {T:TypeId} {v:Value} {n:Nat} {xs:List Value} (h:w.ownsRow B T 7 v n xs) (hb:Below w.heap.size w w'):w'.ownsRow B T 7 v n xs:=
 h.kept (row:=none) ⟨hb.os,hb.tape,hb.output,hb.size,λk a _=>hb.block k a⟩ (by cases v.ownBlock<;>simp)
end
section
open Tryz Go.RowKit
def eqV (a b:Ver):Bool:=(a.wall==b.wall&&a.count==b.count)&&a.site==b.site&&a.seq==b.seq&&a.data.toList==b.data.toList&&a.gone==b.gone
theorem q1y (a b c d:Int) (w:World):(Op.equalIn 9999 52 (.agg #[.int .i64 a,.int .i64 b]) (.agg #[.int .i64 c,.int .i64 d])).run prog w=.ok (a==c&&b==d) w:=by
 have i:=underlying3;have a3:=Tryz.isAgg3;have j:=Tryz.sizeOf3
 have e:prog.underlying 52=some (.struct (prog.fieldsOf 52)):=by kernel_rfl
 have f:prog.stoodInHeld 52=false:=by kernel_rfl
 rw[show (9999:Nat)=9998+1 from rfl,run_equalIn_agg w 9998 52 _ _ e f];simp only[Program.fieldsOf,underlying52]
 go_simp
 by_cases g:a=c<;>by_cases h:b=d<;>simp[g,h]
theorem qzy (a b:Ver) (w:World):(binOp .eql 130 (.agg #[.int .i64 a.wall,.int .i64 a.count,.int .i64 a.site,.int .i64 a.seq,.string a.data,.bool a.gone]) (.agg #[.int .i64 b.wall,.int .i64 b.count,.int .i64 b.site,.int .i64 b.seq,.string b.data,.bool b.gone])).run prog w=.ok (.bool (eqV a b)) w:=by
 have m:=underlying3;have a3:=Tryz.isAgg3;have n:=Tryz.sizeOf3;have o:=underlying4;have p:=Tryz.isAgg4;have q:=Tryz.sizeOf4;have r:=underlying9;have s:=Tryz.isAgg9;have u:=Tryz.sizeOf9
 have c:prog.underlying 130=some (.struct (prog.fieldsOf 130)):=by kernel_rfl
 have d:prog.stoodInHeld 130=false:=by kernel_rfl
 have v:=q1y;have x:=Tryz.isAgg52;have y:=Tryz.sizeOf52;rw[run_eql_struct];rw[show (10000:Nat)=9999+1 from rfl,run_equalIn_agg w 9999 130 _ _ c d];simp only[Program.fieldsOf,underlying130]
 go_simp
 by_cases e:a.wall=b.wall<;>by_cases f:a.count=b.count<;>by_cases g:a.site=b.site<;>by_cases h:a.seq=b.seq<;>by_cases i:a.data.toList=b.data.toList<;>by_cases j:a.gone=b.gone<;>simp[eqV,e,f,g,h,i,j]
def qhu (a0 a1 a2 a3:Int) (l:List Hd) (h:Hd):Bool:=!(qit (qct h.key a0 a1 a2 a3 l))||eqV ((qct h.key a0 a1 a2 a3 l).getD qcj) h.v||!(qij a0 a1 a2 a3 h.v)
def qel (a0 a1 a2 a3:Int) (l:List Hd):List Hd:=l.filter (qhu a0 a1 a2 a3 l)
variable {l:List Hd} {k:Nat}
theorem qpb (a:k<l.length):l.take (k+1)=l.take k++[qfh l k]:=by
 rw[List.take_succ_eq_append_getElem a];simp[qfh,List.getD,List.getElem?_eq_getElem a]
theorem qi1 {kept:List Hd} {p:Hd->Bool} (h:(l.take k).filter p=kept):kept.length<=l.length:=by
 rw[<-h];exact Nat.le_trans (List.length_filter_le _ _) (by rw[List.length_take];omega)
theorem qbe.grown4 {w w':World} {r:Option Nat} {b:Nat} {a0 a1 a2 a3:Int} (h:qbe w b a0 a1 a2 a3) (a:w.grownBy w' r) (c:some b≠r):qbe w' b a0 a1 a2 a3:=by
 have e:=a.block b h.lt c
 constructor
 ·rw[World.cell?_of_block (w:=w) e];exact h.c0
 ·rw[World.cell?_of_block (w:=w) e];exact h.c1
 ·rw[World.cell?_of_block (w:=w) e];exact h.c2
 ·rw[World.cell?_of_block (w:=w) e];exact h.c3
 ·rw[World.frozen?_of_block (w:=w) e];exact h.f0
 ·rw[World.frozen?_of_block (w:=w) e];exact h.f1
 ·rw[World.frozen?_of_block (w:=w) e];exact h.f2
 ·rw[World.frozen?_of_block (w:=w) e];exact h.f3
end
section
open Go.RowKit
theorem qrv (key a0 a1 a2 a3:Int) (a:Option Ver) (h:Hd):qim key a0 a1 a2 a3 a h=a\/(qim key a0 a1 a2 a3 a h=some h.v/\h.key=key/\qij a0 a1 a2 a3 h.v=true):=by
 by_cases c:h.key=key/\qij a0 a1 a2 a3 h.v=true/\(match a with|none=>true|some b=>qaj b h.v)=true
 ·exact .inr ⟨qgg c,c.1,c.2.1⟩
 ·exact .inl (qez c)
theorem qod (key a0 a1 a2 a3:Int) (v:Ver):∀(l:List Hd) (a:Option Ver),l.foldl (qim key a0 a1 a2 a3) a=some v->a=some v\/∃h∈l,h.v=v/\h.key=key/\qij a0 a1 a2 a3 v=true
 |[],a,h=>.inl h
 |x::l,a,h=>by
  rcases qod key a0 a1 a2 a3 v l _ h with e|⟨y,c,e⟩
  ·rcases qrv key a0 a1 a2 a3 a x with b|⟨b,d,f⟩
   ·rw[b]at e;exact .inl e
   ·rw[b]at e;injection e with e;subst e;exact .inr ⟨x,by simp,rfl,d,f⟩
  ·exact .inr ⟨y,by simp[c],e⟩
variable {a0 a1 a2 a3:Int} {l:List Hd} {v:Ver}
theorem qzv {key:Int} (h:qct key a0 a1 a2 a3 l=some v):∃x∈l,x.v=v/\x.key=key/\qij a0 a1 a2 a3 v=true:=by
 rcases qod key a0 a1 a2 a3 v l none h with e|e
 ·cases e
 ·exact e
theorem qvs (h:qdm v=true):v.data.size<=12:=by
 simp only[qdm,Bool.and_eq_true,decide_eq_true_eq]at h;have:=h.1.2;omega
theorem qn9 {key:Int} (a:∀h∈l,qdm h.v=true):(qdf key a0 a1 a2 a3 l).1.data.size<=12:=by
 have z:qcj.data.size<=12:=by decide
 unfold qdf;split
 ·cases e:qct key a0 a1 a2 a3 l with
  |none=>exact z
  |some v=>
   obtain⟨x,b,c,_⟩:=qzv e;show (if v.gone=true then (qcj,(8:Int))else (v,0)).1.data.size<=12;split
   ·exact z
   ·rw[<-c];exact qvs (a x b)
 ·exact z
def qhj (a0 a1 a2 a3:Int) (l:List Hd) (key:Int):ByteArray:=if (qdf key a0 a1 a2 a3 l).2=0 then (⟨#[61]⟩:ByteArray)++(qdf key a0 a1 a2 a3 l).1.data else ⟨#[]⟩
def qfj (a0 a1 a2 a3:Int) (l:List Hd) (k:Nat):List Value:=(List.range k).map λ(i:Nat)=>Value.string (qhj a0 a1 a2 a3 l i)
theorem qii (a0 a1 a2 a3:Int) (l:List Hd) (k:Nat):qfj a0 a1 a2 a3 l (k+1)=qfj a0 a1 a2 a3 l k++[.string (qhj a0 a1 a2 a3 l k)]:=by
 unfold qfj;rw[List.range_succ,List.map_append];rfl
theorem qw8:(Tryz.prog.info? 9).map (λi=>(i.zero,i.size,i.bytes))=some (some (.string ⟨#[]⟩),1,16):=by kernel_rfl
end
section
open Go.RowKit
structure TxP where
 site:Int
 seq:Int
 wall:Int
 count:Int
 d0:Int
 d1:Int
 d2:Int
 d3:Int
 ws:List Wr
def qrg (t:TxP) (x:Wr):Ver:=⟨t.wall,t.count,t.site,t.seq,x.data,x.gone⟩
def qfl (t:TxP) (ws:List Wr) (l:List Hd):List Hd:=ws.foldl (λl x=>qfd l x.key (qrg t x)) l
theorem qof {t:TxP} {ws:List Wr} {l:List Hd} {k:Nat} (a:k<ws.length):qfl t (ws.take (k+1)) l=qfd (qfl t (ws.take k) l) (qff ws k).key (qrg t (qff ws k)):=by
 unfold qfl;rw[List.take_succ_eq_append_getElem a,List.foldl_append];simp[qff,List.getD,List.getElem?_eq_getElem a]
theorem qfs (t:TxP):∀(ws:List Wr) (l:List Hd),(qfl t ws l).length<=l.length+ws.length
 |[],_=>by simp[qfl]
 |x::ws,l=>by
  have a:=qfs t ws (qfd l x.key (qrg t x))
  have h:(qfd l x.key (qrg t x)).length<=l.length+1:=by
   unfold qfd;split
   ·simp
   ·omega
  show (qfl t ws (qfd l x.key (qrg t x))).length<=_;simp only[List.length_cons];omega
def qf8 (s x a0:Int):Int:=if s=0 then x else a0
def qf7 (s x a1:Int):Int:=if s=1 then x else a1
def qgf (s x a2:Int):Int:=if s=2 then x else a2
def qf5 (s x a3:Int):Int:=if s=3 then x else a3
structure qaf where
 id:Int
 a0:Int
 a1:Int
 a2:Int
 a3:Int
 lw:Int
 lc:Int
 log:List TxP
 waits:List TxP
 l:List Hd
 oth:Nat->Int
def qbr (S:qaf) (t:TxP):qaf:=
 {S with a0:=qf8 t.site t.seq S.a0,a1:=qf7 t.site t.seq S.a1,a2:=qgf t.site t.seq S.a2,a3:=qf5 t.site t.seq S.a3,
         lw:=if 0<qio t.wall t.count S.lw S.lc then t.wall else S.lw,lc:=if 0<qio t.wall t.count S.lw S.lc then t.count else S.lc,
         log:=S.log++[t],l:=qfl t t.ws S.l}
def qar (S:qaf) (t:TxP):Bool:=decide (t.seq=qao t.site S.a0 S.a1 S.a2 S.a3+1)&&qe3 S.a0 S.a1 S.a2 S.a3 t.d0 t.d1 t.d2 t.d3
end
section
open Go.RowKit
structure qgt (w:World) (b o:Nat) (v:Value):Prop where
 cell:w.cell? ⟨b,o,none⟩=some v
 free:w.frozen? ⟨b,o,none⟩=false
 lt:b<w.heap.size
variable {w w':World} {b o:Nat} {v:Value}
theorem qgt.kept (h:qgt w b o v) (e:w'.heap[b]?=w.heap[b]?) (a:w.heap.size<=w'.heap.size):qgt w' b o v:=
 ⟨by rw[World.cell?_of_block (w:=w) e];exact h.cell,by rw[World.frozen?_of_block (w:=w) e];exact h.free,Nat.lt_of_lt_of_le h.lt a⟩
theorem qgt.later (h:qgt w b o v) (hb:Below w.heap.size w w'):qgt w' b o v:=h.kept (hb.block b h.lt) hb.size
theorem qgt.grown {r:Option Nat} (h:qgt w b o v) (a:w.grownBy w' r) (c:some b≠r):qgt w' b o v:=h.kept (a.block b h.lt c) a.size
theorem qgt.boxed (h:qgt w b o v) (x:Obj):qgt (w.alloc x) b o v:=h.kept (Below.heap_alloc _ _ _ h.lt) (by simp)
theorem qgt.drew (h:qgt w b o v):qgt w.drew b o v:=h.kept rfl (Nat.le_refl _)
theorem qgt.set (h:qgt w b o v) (u:Value):qgt (w.setCell ⟨b,o,none⟩ u) b o u:=
 ⟨World.cell?_setCell_same _ _ _ h.cell,by rw[World.frozen?_setCell];exact h.free,by simpa[World.setCell]using h.lt⟩
def qfm (sb so:Nat) (w w':World):Prop:=∀j,j≠so->w'.cell? ⟨sb,j,none⟩=w.cell? ⟨sb,j,none⟩/\w'.frozen? ⟨sb,j,none⟩=w.frozen? ⟨sb,j,none⟩
variable {sb so:Nat}
theorem qfm.ofBlock (e:w'.heap[sb]?=w.heap[sb]?):qfm sb so w w':=λ_ _=>⟨World.cell?_of_block (w:=w) e,World.frozen?_of_block (w:=w) e⟩
theorem qfm.trans {a b c:World} (h:qfm sb so a b) (k:qfm sb so b c):qfm sb so a c:=λj d=>⟨(k j d).1.trans (h j d).1,(k j d).2.trans (h j d).2⟩
theorem qfm.set (sb so:Nat) (w:World) (u:Value):qfm sb so w (w.setCell ⟨sb,so,none⟩ u):=λj a=>⟨World.cell?_setCell_other _ _ _ _ (by intro e;injection e with _ e _;exact a e.symm),World.frozen?_setCell _ _ _ _⟩
end
section
open Go.Value Go.IntKind Go.RowKit
structure TxM where
 t:TxP
 wa:Option Addr
 wc:Nat
def txC (m:TxM):List Value:=[int i64 m.t.site,int i64 m.t.seq,int i64 m.t.wall,int i64 m.t.count,int i64 m.t.d0,int i64 m.t.d1,int i64 m.t.d2,int i64 m.t.d3,.slice m.wa m.t.ws.length m.wc]
def qef (l:List TxM):List Value:=l.flatMap txC
theorem qjy (l:List TxM) (m:TxM):qef (l++[m])=qef l++txC m:=by simp[qef]
theorem qi4 (m:TxM):∀u∈txC m,u.oneCell'=true:=by
 intro u a;simp[txC]at a
 rcases a with rfl|rfl|rfl|rfl|rfl|rfl|rfl|rfl|rfl<;>rfl
def TxM.blk (m:TxM) (k:Nat):Prop:=m.t.ws≠[]/\∃off,m.wa=some ⟨k,off,none⟩
def qcf (S:qaf) (lv wv sv:Value):List Value:=
 [int i64 S.id,int i64 S.a0,int i64 S.a1,int i64 S.a2,int i64 S.a3,int i64 S.lw,int i64 S.lc,lv,wv,sv,
  int i64 (S.oth 0),int i64 (S.oth 1),int i64 (S.oth 2),int i64 (S.oth 3),int i64 (S.oth 4),int i64 (S.oth 5),int i64 (S.oth 6),int i64 (S.oth 7),
  int i64 (S.oth 8),int i64 (S.oth 9),int i64 (S.oth 10),int i64 (S.oth 11),int i64 (S.oth 12),int i64 (S.oth 13),int i64 (S.oth 14),int i64 (S.oth 15)]
def qap (b:Nat) (lv wv sv:Value) (k:Nat):Prop:=k=b\/lv.ownBlock=some k\/wv.ownBlock=some k\/sv.ownBlock=some k
variable {w w':World}
theorem qad {B n N:Nat} {T:TypeId} {v:Value} {xs:List Value} (h:w.ownsRow B T N v n xs) (a:∀k,v.ownBlock=some k->w'.heap[k]?=w.heap[k]?):w'.ownsRow B T N v n xs:=by
 refine⟨h.1,?_⟩;rcases h.2 with b|⟨g,cap,cur,rfl,hb,c,rest⟩
 ·exact .inl b
 ·exact .inr ⟨g,cap,cur,rfl,hb,by rw[a g rfl];exact c,rest⟩
variable {m:TxM}
theorem qat.kept (h:qat w m.wa m.wc m.t.ws) (j:∀k,m.blk k->w'.heap[k]?=w.heap[k]?):qat w' m.wa m.wc m.t.ws:=by
 refine⟨h.len,h.cap,?_⟩;rcases h.held with f|⟨b,d,e,c⟩
 ·exact .inl f
 ·by_cases f:m.t.ws=[]
  ·exact .inl f
  ·refine .inr ⟨b,d,e,λi l=>?_⟩;have g:=j b ⟨f,d,e⟩;have:=c i l;rw[World.cell?_of_block (w:=w) (a:=⟨b,d+i*3,none⟩) g,World.cell?_of_block (w:=w) (a:=⟨b,d+i*3+1,none⟩) g,World.cell?_of_block (w:=w) (a:=⟨b,d+i*3+1+1,none⟩) g];exact this
theorem qat.blk_lt (h:qat w m.wa m.wc m.t.ws):∀k,m.blk k->k<w.heap.size:=λk ⟨d,j,e⟩=>by
 rcases h.held with f|⟨b,l,a,c⟩
 ·exact absurd f d
 ·rw[e]at a;injection a with a;injection a with e1 e2;subst e1
  have i:0<m.t.ws.length:=by
   rcases Nat.eq_zero_or_pos m.t.ws.length with g|g
   ·exact absurd (List.eq_nil_of_length_eq_zero g) d
   ·exact g
  exact World.block_lt_of_cell? _ _ (c 0 i).1
end
section
open Go.RowKit
def qb5 (x t:TxP):Bool:=decide (x.site=t.site)&&decide (x.seq=t.seq)
variable {x t:TxP}
theorem qe6:qb5 x t=true↔x.site=t.site/\x.seq=t.seq:=by simp[qb5]
def qd4 (S:qaf) (s:Int):Option TxP:=S.waits.find? (λx=>decide (x.site=s)&&qar S x)
def qgw (S:qaf):Option TxP:=
 match qd4 S 0 with
 |some x=>some x
 |none=>match qd4 S 1 with
  |some x=>some x
  |none=>match qd4 S 2 with
   |some x=>some x
   |none=>qd4 S 3
def qgc (l:List TxP) (t:TxP):List TxP:=l.filter (λx=>!qb5 x t)
def ql5 (S:qaf) (x:TxP):qaf:=qbr {S with waits:=qgc S.waits x} x
inductive Goes:qaf->qaf->Prop
 |full {S:qaf}:200<=S.log.length->Goes S S
 |none {S:qaf}:qgw S=none->Goes S S
 |step {S S':qaf} {x:TxP}:S.log.length<200->qgw S=some x->Goes (ql5 S x) S'->Goes S S'
variable {S:qaf}
theorem Goes.det {A B:qaf} (h:Goes S A):Goes S B->A=B:=by
 induction h with
 |full h=>
  intro k;cases k with
  |full _=>rfl
  |none _=>rfl
  |step h1 _ _=>omega
 |none h=>
  intro k;cases k with
  |full _=>rfl
  |none _=>rfl
  |step _ h2 _=>rw[h]at h2;cases h2
 |step h1 h2 _ ih=>
  intro k;cases k with
  |full h=>omega
  |none h=>rw[h2]at h;cases h
  |step _ h4 h5=>
   rw[h2]at h4;injection h4 with h4;subst h4;exact ih h5
variable {s:Int}
theorem qc8 (h:qd4 S s=some x):x∈S.waits/\x.site=s/\qar S x=true:=by
 have b:=List.mem_of_find?_eq_some h;have a:=List.find?_some h;simp at a;exact⟨b,a.1,a.2⟩
theorem qj9 (h:qgw S=some x):x∈S.waits/\qar S x=true:=by
 unfold qgw at h;split at h
 ·rename_i y a;injection h with h;subst h;exact⟨(qc8 a).1,(qc8 a).2.2⟩
 ·split at h
  ·rename_i y a;injection h with h;subst h;exact⟨(qc8 a).1,(qc8 a).2.2⟩
  ·split at h
   ·rename_i y a;injection h with h;subst h;exact⟨(qc8 a).1,(qc8 a).2.2⟩
   ·exact⟨(qc8 h).1,(qc8 h).2.2⟩
theorem qgo (h:qd4 S s=none):∀x∈S.waits,x.site=s->qar S x=false:=λx b c=>by
 have a:=List.find?_eq_none.1 h x b;simp[c]at a;exact a
theorem qi3 (h:∀x∈S.waits,x.site=s->qar S x=false):qd4 S s=none:=by
 refine List.find?_eq_none.2 λx a=>?_;by_cases e:x.site=s
 ·simp[e,h x a e]
 ·simp[e]
def qm1 (l:List TxP):Prop:=l.Pairwise (λx y=>qb5 x y=false)
theorem qm1.uniq:∀{l:List TxP},qm1 l->∀{x y:TxP},x∈l->y∈l->x.site=y.site->x.seq=y.seq->x=y
 |[],_,_,_,hx,_,_,_=>by cases hx
 |a::l,h,x,y,hx,hy,e1,e2=>by
  obtain⟨d,g⟩:=List.pairwise_cons.1 h;rcases List.mem_cons.1 hx with e|f
  ·rcases List.mem_cons.1 hy with b|c
   ·rw[e,b]
   ·have:=d y c;rw[<-e]at this;simp[qb5,e1,e2]at this
  ·rcases List.mem_cons.1 hy with b|c
   ·have:=d x f;rw[<-b]at this;simp[qb5,e1,e2]at this
   ·exact qm1.uniq g f c e1 e2
theorem qgd (h:qar S x=true):x.seq=qao x.site S.a0 S.a1 S.a2 S.a3+1/\qe3 S.a0 S.a1 S.a2 S.a3 x.d0 x.d1 x.d2 x.d3=true:=by
 simpa[qar]using h
theorem qwn (f:qm1 S.waits) (b:x∈S.waits) (a:qar S x=true):qd4 S x.site=some x:=by
 cases h:qd4 S x.site with
 |none=>rw[qgo h x b rfl]at a;cases a
 |some y=>
  obtain⟨g,c,i⟩:=qc8 h;have e:=(qgd a).1;have d:=(qgd i).1;rw[c]at d;rw[f.uniq g b c (by rw[e,d])]
variable {l:List TxP}
theorem qm1.drop (h:qm1 l) (t:TxP):qm1 (qgc l t):=h.filter _
theorem qm1.snoc (h:qm1 l) (a:∀x∈l,qb5 x t=false):qm1 (l++[t]):=by
 refine List.pairwise_append.2 ⟨h,by simp,λx b y c=>?_⟩;obtain rfl:=List.mem_singleton.1 c;exact a x b
theorem qq2:x∈qgc l t↔x∈l/\qb5 x t=false:=by simp[qgc,List.mem_filter]
theorem qpj:∀{l:List TxP},qm1 l->∀{i:Nat} {t:TxP},l[i]?=some t->qgc l t=l.take i++l.drop (i+1)
 |[],_,_,_,h=>by simp at h
 |a::l,hn,0,t,h=>by
  simp at h;subst h;obtain⟨b,c⟩:=List.pairwise_cons.1 hn
  have e:qb5 a a=true:=by simp[qb5]
  simp[qgc,e];intro x g;have j:qb5 a x=false:=b x g;cases h4:qb5 x a with
  |false=>rfl
  |true=>
   obtain⟨p,q⟩:=qe6.1 h4;simp[qb5,p,q]at j
 |a::l,hn,i+1,t,h=>by
  obtain⟨b,c⟩:=List.pairwise_cons.1 hn
  have d:l[i]?=some t:=by simpa using h
  have e:qb5 a t=false:=b t (List.mem_of_getElem? d);have f:=qpj c d;unfold qgc at f ⊢;simp[e,f]
theorem qfv (b:qm1 l) (c:t∈l):(qgc l t).length+1=l.length:=by
 obtain⟨i,a⟩:=List.getElem?_of_mem c;have d:i<l.length:=(List.getElem?_eq_some_iff.1 a).1;rw[qpj b a];simp;omega
end
section
open Tryz Go.RowKit Go.Maps
def qe8 (v:Value):Option (DataW Value×List MemPlace):=some (.held v,[])
def txV (m:TxM):Value:=.agg #[.int .i64 m.t.site,.int .i64 m.t.seq,.int .i64 m.t.wall,.int .i64 m.t.count,.int .i64 m.t.d0,.int .i64 m.t.d1,.int .i64 m.t.d2,.int .i64 m.t.d3,.slice m.wa m.t.ws.length m.wc]
def q26:Value:=.agg #[.int .i64 0,.int .i64 0,.int .i64 0,.int .i64 0,.int .i64 0,.int .i64 0,.int .i64 0,.int .i64 0,.slice none 0 0]
theorem qy0 (w:World):(zeroValue 80).run prog w=.ok q26 w:=by kernel_rfl
theorem qrp:prog.types.size=293:=by kernel_rfl
theorem ql6:Keyed prog 248:=Keyed.of_law (deep_law_laid (m:=3) (by kernel_rfl) (by decide) (by rw[qrp];decide) (by kernel_rfl) (by kernel_rfl))
def qws (s q:Int):Value:=.agg #[.int .i64 s,.int .i64 q]
def qhc (s q:Int):Lit:=.string (keyBytes [.int .i64 s,.int .i64 q])
def wfI (x:Int):Prop:= -9223372036854775808<=x/\x<=9223372036854775807
variable {x:Int}
theorem q5x (h:wfI x):(Lit.int .i64 x).wf=true:=WalkArith.wf_i64 h
theorem qtu (a:wfI x) (n:Nat):prog.keyLits (n+1) 3 [.int .i64 x]=some [.int .i64 x]:=by
 unfold Program.keyLits;rw[underlying3];simp[q5x a]
variable {s q:Int}
theorem q19 (a:wfI s) (b:wfI q) (n:Nat):prog.keyLits (n+1+1) 248 [.int .i64 s,.int .i64 q]=some [.int .i64 s,.int .i64 q]:=by
 have c:prog.cellsOf 248=2:=by kernel_rfl
 have d:prog.cellsOf 3=1:=by kernel_rfl
 unfold Program.keyLits;rw[underlying248];simp[c,d,qtu a n,qtu b n]
theorem qrh (a:wfI s) (b:wfI q):keyOf prog 248 (qws s q)=some (qhc s q):=by
 have c:prog.keyType 248=true:=by kernel_rfl
 have d:prog.cellsOf 248=2:=by kernel_rfl
 have e:(qws s q).formed prog 248=true:=by
  unfold Value.formed qws;simp only[underlying248];rw[d];rfl
 have f:=q19 a b (293-1);unfold keyOf;rw[underlying248,c,e,qrp];show (if (true&&true)=true then Option.map _ (prog.keyLits (293-1+1+1) 248 [.int .i64 s,.int .i64 q])else none)=_;rw[f];rfl
theorem qsr {a b:Int} (d:wfI s) (e:wfI q) (f:wfI a) (g:wfI b) (h:qhc s q=qhc a b):s=a/\q=b:=by
 have c:=ql6.inj (qrh d e) (by rw[h];exact qrh f g);simp[qws]at c;exact c
theorem qzl (s q:Int):WideAt.IsKeyLit (qhc s q):=trivial
structure qth (D:DataW Value) (ws:List TxM):Prop where
 size:Maps.size D=ws.length
 has:∀m∈ws,Maps.has D (qhc m.t.site m.t.seq)=true/\∀z,D.atKey (qhc m.t.site m.t.seq) z=.held (txV m)
 no:∀s q,wfI s->wfI q->(∀m∈ws,¬(m.t.site=s/\m.t.seq=q))->Maps.has D (qhc s q)=false
def wfN (m:TxM):Prop:=wfI m.t.site/\wfI m.t.seq
def qi8 (w:World) (bm:Nat) (ws:List TxM):Prop:=(∀m∈ws,wfN m)/\qm1 (ws.map (·.t))/\∃D,w.ownsMap prog 248 qe8 bm ws.length D/\qth D ws
variable {w:World} {bm:Nat} {ws:List TxM}
theorem qi8.lt (h:qi8 w bm ws):bm<w.heap.size:=by
 obtain⟨_,_,D,h,_⟩:=h;exact h.lt
theorem qi8.kept {w':World} (h:qi8 w bm ws) (e:w'.heap[bm]?=w.heap[bm]?):qi8 w' bm ws:=by
 obtain⟨a,b,D,⟨c,d,hb,r⟩,f⟩:=h;exact⟨a,b,D,⟨c,d,by rw[e];exact hb,r⟩,f⟩
theorem qi8.made (w:World):qi8 (w.alloc (.map #[] 0)) w.heap.size []:=
 ⟨by simp,by simp[qm1],_,World.ownsMap_made w _ _ _,⟨rfl,by simp,λ_ _ _ _ _=>rfl⟩⟩
variable {D:DataW Value} {m:TxM}
theorem qxm (d:Tidy D) (h:qth D ws) (i:∀m∈ws,wfN m) (b:wfN m) (j:∀x∈ws,qb5 x.t m.t=false):qth (D.put (qhc m.t.site m.t.seq) (.held (txV m))) (ws++[m]):=by
 have o:Maps.has D (qhc m.t.site m.t.seq)=false:=h.no _ _ b.1 b.2 (λx a e=>by
  have:=j x a
  simp[qb5,e.1,e.2]at this)
 refine⟨by rw[size_put d,o];simp[h.size],λx a=>?_,λs q k n a=>?_⟩
 ·rcases List.mem_append.1 a with a|a
  ·have c:qhc x.t.site x.t.seq≠qhc m.t.site m.t.seq:=λe=>by
        obtain⟨f,g⟩:=qsr (i x a).1 (i x a).2 b.1 b.2 e;have:=j x a;simp[qb5,f,g]at this
   exact⟨by rw[has_put_other c];exact(h.has x a).1,λz=>by rw[atKey_put_other c];exact(h.has x a).2 z⟩
  ·obtain rfl:=List.mem_singleton.1 a;exact⟨has_put_same d.isMap (qzl _ _) _,λz=>atKey_put_same d.isMap (qzl _ _) _ z⟩
 ·have c:qhc s q≠qhc m.t.site m.t.seq:=λe=>by
   obtain⟨f,g⟩:=qsr k n b.1 b.2 e;exact a m (by simp) ⟨f.symm,g.symm⟩
  rw[has_put_other c];exact h.no s q k n (λx p=>a x (by simp[p]))
def qis (l:List TxM) (t:TxP):List TxM:=l.filter (λx=>!qb5 x.t t)
theorem qmj (l:List TxM) (t:TxP):(qis l t).map (·.t)=qgc (l.map (·.t)) t:=by
 unfold qis qgc;rw[List.filter_map];rfl
variable {l:List TxM}
theorem qht {t:TxP} {x:TxM}:x∈qis l t↔x∈l/\qb5 x.t t=false:=by simp[qis,List.mem_filter]
theorem qrs (a:qm1 (l.map (·.t))) (b:m∈l):(qis l m.t).length+1=l.length:=by
 have h:=qfv a (t:=m.t) (List.mem_map.2 ⟨m,b,rfl⟩);rw[<-qmj]at h;simpa using h
theorem qzr (i:Tidy D) (h:qth D ws) (b:∀m∈ws,wfN m) (j:qm1 (ws.map (·.t))) (c:m∈ws):qth (D.del (qhc m.t.site m.t.seq)) (qis ws m.t):=by
 have v:=qrs j c;have g:=size_del (k:=qhc m.t.site m.t.seq) i;rw[(h.has m c).1,h.size]at g;refine⟨by simp at g;omega,λx a=>?_,λs q n o a=>?_⟩
 ·obtain⟨a,d⟩:=qht.1 a
  have d:qhc x.t.site x.t.seq≠qhc m.t.site m.t.seq:=λe=>by
   obtain⟨p,r⟩:=qsr (b x a).1 (b x a).2 (b m c).1 (b m c).2 e;simp[qb5,p,r]at d
  exact⟨by rw[has_del_other d];exact(h.has x a).1,λz=>by rw[atKey_del_other d];exact(h.has x a).2 z⟩
 ·by_cases e:qhc s q=qhc m.t.site m.t.seq
  ·rw[e];exact has_del_same
  ·rw[has_del_other e];refine h.no s q n o (λx u f=>?_);refine a x (qht.2 ⟨u,?_⟩) f;cases hi:qb5 x.t m.t with
   |false=>rfl
   |true=>
    obtain⟨p1,p2⟩:=qe6.1 hi;exact absurd (by rw[<-f.1,<-f.2,p1,p2]) e
end
section
open Go.RowKit
def qax (l:List Ver):List Value:=l.flatMap qah
def qbo (l:List Ver) (i:Nat):Ver:=l.getD i qcj
theorem qce (v:Ver):(qah v).length=6:=rfl
theorem qhf (a b:List Ver):qax (a++b)=qax a++qax b:=by simp[qax]
theorem qdu (x:Ver) (l:List Ver):qax (x::l)=qah x++qax l:=by simp[qax]
theorem qhs (x:Ver):qax [x]=qah x:=by simp[qax]
theorem qcs (l:List Ver):(qax l).length=l.length*6:=by
 induction l with
 |nil=>rfl
 |cons x l ih=>
  rw[qdu,List.length_append,ih,qce,List.length_cons];omega
variable {l:List Ver} {i:Nat}
theorem qjq (h:i<l.length):qbo l i∈l:=by
 simp only[qbo,List.getD,List.getElem?_eq_getElem h,Option.getD_some];exact List.getElem_mem h
theorem qes (h:i<l.length):qbo l i=l[i]:=by simp[qbo,List.getD,List.getElem?_eq_getElem h]
theorem qll:∀(l:List Ver) (i r:Nat) (u:Value),i<l.length->(qah (qbo l i))[r]?=some u->(qax l)[i*6+r]?=some u
 |[],_,_,_,h,_=>by simp at h
 |x::l,0,r,u,_,hu=>by
  have a:r<(qah x).length:=(List.getElem?_eq_some_iff.1 hu).1;rw[qdu,Nat.zero_mul,Nat.zero_add,List.getElem?_append_left a];exact hu
 |x::l,i+1,r,u,h,hu=>by
  have b:=qll l i r u (by simpa using h) hu
  have e:(i+1)*6+r=(qah x).length+(i*6+r):=by rw[qce];omega
  rw[qdu,e,List.getElem?_append_right (by omega),Nat.add_sub_cancel_left];exact b
theorem qgn (l:List Ver):∀u∈qax l,u.oneCell'=true:=by
 intro u a;unfold qax at a;obtain⟨x,_,b⟩:=List.mem_flatMap.1 a;simp[qah]at b
 rcases b with rfl|rfl|rfl|rfl|rfl|rfl<;>rfl
theorem qh5:∀(l:List Ver) (i:Nat),(qax l).take (i*6)=qax (l.take i)
 |[],i=>by simp[qax]
 |x::l,0=>by simp[qax]
 |x::l,i+1=>by
  have e:(i+1)*6=(qah x).length+i*6:=by rw[qce];omega
  rw[List.take_succ_cons,qdu,qdu,e,List.take_append]
  congr 1
  ·exact List.take_of_length_le (by omega)
  ·rw[Nat.add_sub_cancel_left,qh5]
theorem qkz:∀(l:List Ver) (i:Nat),(qax l).drop (i*6)=qax (l.drop i)
 |[],i=>by simp[qax]
 |x::l,0=>by simp[qax]
 |x::l,i+1=>by
  have e:(i+1)*6=(qah x).length+i*6:=by rw[qce];omega
  rw[List.drop_succ_cons,qdu,e,<-List.drop_drop,List.drop_left];exact qkz l i
structure q01 (w:World) (a:Option Addr) (cap:Nat) (l:List Ver):Prop where
 len:l.length<=cap
 cap:cap<=9223372036854775807
 held:l=[]\/∃b,b<w.heap.size/\a=some ⟨b,0,none⟩/\∀i r u,i<l.length->(qah (qbo l i))[r]?=some u->w.cell? ⟨b,i*6+r,none⟩=some u
variable {w w':World}
theorem q01.later {a:Option Addr} {cap:Nat} (hb:Below w.heap.size w w') (h:q01 w a cap l):q01 w' a cap l:=
 ⟨h.len,h.cap,h.held.elim .inl λ⟨b,lt,e,c⟩=>.inr ⟨b,Nat.lt_of_lt_of_le lt hb.size,e,λi r u d f=>cell_later hb (c i r u d f)⟩⟩
variable {B:Nat} {T:TypeId} {v:Value}
theorem qfw (h:w.ownsRow B T 6 v l.length (qax l)):∃a cap,v=.slice a l.length cap/\q01 w a cap l:=by
 rcases h.2 with ⟨rfl,b⟩|⟨g,cap,cur,rfl,hb,d,e,f,m,n⟩
 ·exact⟨none,0,by rw[b],⟨by omega,by omega,.inl (List.eq_nil_of_length_eq_zero b)⟩⟩
 ·refine⟨_,cap,rfl,⟨e,by simp only[maxLen]at f;omega,.inr ⟨g,(Array.getElem?_eq_some_iff.1 d).1,rfl,λi r u j k=>?_⟩⟩⟩;have c:=h.cells (g:=g) rfl _ _ (qll l i r u j k);rw[qb8]at c;exact c
theorem qgp {n:Nat} {xs:List Value} (h:w.ownsRow B T 6 v n xs) (hb:Below w.heap.size w w'):w'.ownsRow B T 6 v n xs:=
 h.kept (row:=none) ⟨hb.os,hb.tape,hb.output,hb.size,λk a _=>hb.block k a⟩ (by cases v.ownBlock<;>simp)
end
abbrev toL (s:ByteArray):List UInt8:=s.data.toList
theorem qh9 (a b:ByteArray):toL (a++b)=toL a++toL b:=by
 show (a++b).data.toList=_;rw[ByteArray.data_append,Array.toList_append]
theorem qxk {a b:ByteArray} (h:toL a=toL b):a=b:=by
 obtain⟨⟨x⟩⟩:=a;obtain⟨⟨y⟩⟩:=b;have c:x=y:=h;rw[c]
theorem qbb (s:ByteArray):(toL s).length=s.size:=by
 show s.data.toList.length=s.data.size;rw[Array.length_toList]
theorem qgz (s:ByteArray):s.toList=toL s:=by
 have b:∀(n i:Nat) (r:List UInt8),s.size-i=n->ByteArray.toList.loop s i r=r.reverse++(toL s).drop i:=by
  intro n
  induction n with
  |zero=>
   intro i r c;unfold ByteArray.toList.loop;rw[if_neg (by omega),List.drop_eq_nil_of_le (by rw[qbb];omega),List.append_nil]
  |succ n ih=>
   intro i r c;unfold ByteArray.toList.loop;rw[if_pos (by omega),ih _ _ (by omega)]
   have a:i<(toL s).length:=by rw[qbb];omega
   rw[List.drop_eq_getElem_cons a,List.reverse_cons,List.append_assoc]
   congr 2
   have d:i<s.data.size:=by have:=qbb s;rw[Array.length_toList]at a;exact a
   show [s.data[i]!]++_=s.data.toList[i]::_;rw[getElem!_pos s.data i d,Array.getElem_toList];rfl
 exact b s.size 0 [] (by omega)
section
open Go.RowKit
variable {a b:Ver}
theorem qch:qaj a b=true↔a.wall<b.wall\/(a.wall=b.wall/\(a.count<b.count\/(a.count=b.count/\a.site<b.site))):=by
 unfold qaj;rcases qdw a.wall a.count b.wall b.count with ⟨h,e⟩|⟨h,e⟩|⟨h,e⟩
 ·rw[e,if_neg (by decide)];simp only[show decide ((-1:Int)<0)=true from rfl,true_iff];omega
 ·rw[e,if_pos rfl];simp only[decide_eq_true_eq];omega
 ·rw[e,if_neg (by decide)];simp only[show decide ((1:Int)<0)=false from rfl,Bool.false_eq_true,false_iff];omega
def q2r (a b:Ver):Prop:=a.wall=b.wall/\a.count=b.count/\a.site=b.site
theorem qk5 (c:qaj a b=false) (d:qaj b a=false):q2r a b:=by
 have n1:¬qaj a b=true:=by rw[c];decide
 have e:¬qaj b a=true:=by rw[d];decide
 rw[qch]at n1 e;unfold q2r;omega
theorem qf2 (a:Ver):qaj a a=false:=by
 cases h:qaj a a
 ·rfl
 ·rw[qch]at h;omega
theorem qpq {c:Ver} (d:qaj b a=true) (e:qaj b c=false):qaj a c=false:=by
 cases h:qaj a c
 ·rfl
 ·exfalso
  have f:¬qaj b c=true:=by rw[e];decide
  rw[qch]at h d f;omega
def ql8 (key a0 a1 a2 a3:Int) (l:List Hd) (v:Ver):Prop:=(∃h∈l,h.v=v/\h.key=key/\qij a0 a1 a2 a3 v=true)/\∀h∈l,h.key=key->qij a0 a1 a2 a3 h.v=true->qaj v h.v=false
theorem qkr (key a0 a1 a2 a3:Int):∀(l p:List Hd) (g:Option Ver),
 (g=none->∀h∈p,h.key=key->qij a0 a1 a2 a3 h.v=false)->(∀v,g=some v->ql8 key a0 a1 a2 a3 p v)->
 (l.foldl (qim key a0 a1 a2 a3) g=none->∀h∈p++l,h.key=key->qij a0 a1 a2 a3 h.v=false)/\(∀v,l.foldl (qim key a0 a1 a2 a3) g=some v->ql8 key a0 a1 a2 a3 (p++l) v)
 |[],p,g,hn,hs=>by simpa using ⟨hn,hs⟩
 |x::l,p,g,hn,hs=>by
  have m:(qim key a0 a1 a2 a3 g x=none->∀h∈p++[x],h.key=key->qij a0 a1 a2 a3 h.v=false)/\(∀v,qim key a0 a1 a2 a3 g x=some v->ql8 key a0 a1 a2 a3 (p++[x]) v):=by
   cases g with
   |none=>
    by_cases d:x.key=key/\qij a0 a1 a2 a3 x.v=true
    ·have e:qim key a0 a1 a2 a3 none x=some x.v:=qgg ⟨d.1,d.2,rfl⟩;rw[e];refine⟨λh=>(by cases h),λv f=>?_⟩;injection f with f;subst f;refine⟨⟨x,by simp,rfl,d.1,d.2⟩,λh j i k=>?_⟩;rcases List.mem_append.1 j with c|c
     ·have:=hn rfl h c i;rw[k]at this;cases this
     ·obtain rfl:=List.mem_singleton.1 c;exact qf2 _
    ·have e:qim key a0 a1 a2 a3 none x=none:=qez (λy=>d ⟨y.1,y.2.1⟩);rw[e];refine⟨λ_ h j i=>?_,λv f=>(by cases f)⟩;rcases List.mem_append.1 j with c|c
     ·exact hn rfl h c i
     ·obtain rfl:=List.mem_singleton.1 c;cases hq:qij a0 a1 a2 a3 h.v
      ·rfl
      ·exact absurd ⟨i,hq⟩ d
   |some b=>
    obtain⟨⟨y,q,r,s,t⟩,n⟩:=hs b rfl;by_cases d:x.key=key/\qij a0 a1 a2 a3 x.v=true/\qaj b x.v=true
    ·have e:qim key a0 a1 a2 a3 (some b) x=some x.v:=qgg d;rw[e];refine⟨λh=>(by cases h),λv f=>?_⟩;injection f with f;subst f;refine⟨⟨x,by simp,rfl,d.1,d.2.1⟩,λh j i k=>?_⟩;rcases List.mem_append.1 j with c|c
     ·exact qpq d.2.2 (n h c i k)
     ·obtain rfl:=List.mem_singleton.1 c;exact qf2 _
    ·have e:qim key a0 a1 a2 a3 (some b) x=some b:=qez d;rw[e];refine⟨λh=>(by cases h),λv f=>?_⟩;injection f with f;subst f;refine⟨⟨y,by simp[q],r,s,t⟩,λh j i k=>?_⟩;rcases List.mem_append.1 j with c|c
     ·exact n h c i k
     ·obtain rfl:=List.mem_singleton.1 c;cases hq:qaj b h.v
      ·rfl
      ·exact absurd ⟨i,k,hq⟩ d
  have o:=qkr key a0 a1 a2 a3 l (p++[x]) (qim key a0 a1 a2 a3 g x) m.1 m.2;rw[List.append_assoc,List.singleton_append]at o;exact o
variable {a0 a1 a2 a3:Int} {l:List Hd}
theorem qn1 {key:Int} (h:qct key a0 a1 a2 a3 l=none):∀x∈l,x.key=key->qij a0 a1 a2 a3 x.v=false:=by
 have:=(qkr key a0 a1 a2 a3 l [] none (λ_ h c=>(by cases c)) (λv d=>(by cases d))).1 h;simpa using this
variable {v:Ver}
theorem qkv {key:Int} (h:qct key a0 a1 a2 a3 l=some v):ql8 key a0 a1 a2 a3 l v:=by
 have:=(qkr key a0 a1 a2 a3 l [] none (λ_ h c=>(by cases c)) (λv d=>(by cases d))).2 v h;simpa using this
def qg7 (l:List Hd):Prop:=∀x∈l,∀y∈l,x.key=y.key->q2r x.v y.v->x=y
theorem qv7 {key:Int} {u:Ver} (g:qg7 l) (h:ql8 key a0 a1 a2 a3 l u) (i:ql8 key a0 a1 a2 a3 l v):u=v:=by
 obtain⟨⟨x,c,j,d,k⟩,m⟩:=h;obtain⟨⟨y,e,n,f,o⟩,p⟩:=i;subst j n;have:=g x c y e (by rw[d,f]) (qk5 (m y e f o) (p x c d k));rw[this]
theorem qxu {key:Int} (c:qg7 l):qct key a0 a1 a2 a3 l=some v↔ql8 key a0 a1 a2 a3 l v:=by
 refine⟨qkv,λh=>?_⟩;cases e:qct key a0 a1 a2 a3 l with
 |none=>
  obtain⟨⟨x,d,f,g,i⟩,_⟩:=h;have:=qn1 e x d g;rw[f,i]at this;cases this
 |some u=>rw[qv7 c (qkv e) h]
theorem qx4 {key:Int} (i:qg7 l):qg7 (qfd l key v):=by
 unfold qfd;split
 ·rename_i h
  have j:l.any (qd8 key v)=false:=by
   unfold qgs at h;split at h
   ·split at h
    ·split at h
     ·cases h
     ·rename_i d;simpa using d
    ·cases h
   ·cases h
  rw[List.any_eq_false]at j;have k:∀x∈l,x.key=key->¬q2r x.v v:=λx d e c=>j x d (by simp[qd8,e,c.1,c.2.1,c.2.2]);intro x d y m e c
  rcases List.mem_append.1 d with f|f<;>rcases List.mem_append.1 m with g|g
  ·exact i x f y g e c
  ·obtain rfl:=List.mem_singleton.1 g;exact absurd c (k x f e)
  ·obtain rfl:=List.mem_singleton.1 f;exact absurd ⟨c.1.symm,c.2.1.symm,c.2.2.symm⟩ (k y g e.symm)
  ·rw[List.mem_singleton.1 f,List.mem_singleton.1 g]
 ·exact i
theorem qzx {m:List Hd} (c:qg7 l) (h:∀x∈m,x∈l):qg7 m:=λx d y e=>c x (h x d) y (h y e)
end
section
open Tryz Go.Value Go.IntKind Go.RowKit
variable {v:Ver} {r:Bool}
theorem qui {a0 a1 a2 a3:Int} (h:qij a0 a1 a2 a3 v=r) (k:0<=v.site) (l:v.site<=3) (w:World):
 Calls prog 158 #[.agg #[int i64 a0,int i64 a1,int i64 a2,int i64 a3],.agg #[int i64 v.wall,int i64 v.count,int i64 v.site,int i64 v.seq,.string v.data,.bool v.gone]] w λe w'=>e=.returned (.bool r)/\Below w.heap.size w w':=by
 have p:=Later.one;obtain⟨wl,c,st,d,g,i⟩:=v;have H:Hid _:=h;simp only at k l
 have q:st<4:=by omega
 clear h;have m:=(qbe.new w 47 a0 a1 a2 a3).boxed (.cells #[int i64 wl,int i64 c,int i64 st,int i64 d,.string g,.bool i] 130);have j:=qag.new (w:=w.alloc (.cells #[int i64 a0,int i64 a1,int i64 a2,int i64 a3] 47)) (T:=130) (n:=w.heap.size+1) [int i64 wl,int i64 c,int i64 st,int i64 d,.string g,.bool i] (by simp);have hb:=boxed (boxed (Below.refl _ w) (.cells #[int i64 a0,int i64 a1,int i64 a2,int i64 a3] 47)) (.cells #[int i64 wl,int i64 c,int i64 st,int i64 d,.string g,.bool i] 130);have c2:=Later.cell (j.cell 2 _ rfl);have c3:=Later.cell (j.cell 3 _ rfl);have s:=Later.cell (qmv m k l);clear m j;go_enter func158,ntmps158
 go_wp2_with fail
 refine qaa (by kernel_rfl) (by kernel_rfl) ?_
 repeat (go_big_quiet_step (fail))
 refine wpQuiet_nil ?_;rintro u ⟨⟨_,o⟩,rfl⟩
 go_wp2_with fail
 go_ret;exact⟨by rw[<-H.out];rfl,qac hb o⟩
def qxx (a b:Ver):Int:=if qio a.wall a.count b.wall b.count=0 then qph a.site b.site else qio a.wall a.count b.wall b.count
variable {a b:Ver}
theorem qt6:qxx a b<0↔qaj a b=true:=by
 rw[qch];unfold qxx;rcases qdw a.wall a.count b.wall b.count with ⟨h,e⟩|⟨h,e⟩|⟨h,e⟩
 ·rw[e,if_neg (by decide)];omega
 ·rw[e,if_pos rfl]
  rcases qic a.site b.site with ⟨g,f⟩|⟨g,f⟩|⟨g,f⟩<;>rw[f]<;>omega
 ·rw[e,if_neg (by decide)];omega
theorem qzg:qxx a b=0↔q2r a b:=by
 unfold qxx q2r;rcases qdw a.wall a.count b.wall b.count with ⟨h,e⟩|⟨h,e⟩|⟨h,e⟩
 ·rw[e,if_neg (by decide)];omega
 ·rw[e,if_pos rfl]
  rcases qic a.site b.site with ⟨g,f⟩|⟨g,f⟩|⟨g,f⟩<;>rw[f]<;>omega
 ·rw[e,if_neg (by decide)];omega
theorem qpr {r:Int} (h:qxx a b=r) (w:World):
 Calls prog 176 #[.agg #[int i64 a.wall,int i64 a.count,int i64 a.site,int i64 a.seq,.string a.data,.bool a.gone],.agg #[int i64 b.wall,int i64 b.count,int i64 b.site,int i64 b.seq,.string b.data,.bool b.gone]] w λe w'=>e=.returned (int i64 r)/\Below w.heap.size w w':=by
 obtain⟨d,g,m,o,p,q⟩:=a;obtain⟨i,j,bs,s,u,x⟩:=b;have y:=(qag.new (w:=w) (T:=130) [int i64 d,int i64 g,int i64 m,int i64 o,.string p,.bool q] rfl).boxed (.cells #[int i64 i,int i64 j,int i64 bs,int i64 s,.string u,.bool x] 130);have z:=qag.new (w:=w.alloc (.cells #[int i64 d,int i64 g,int i64 m,int i64 o,.string p,.bool q] 130)) (T:=130) (n:=w.heap.size+1) [int i64 i,int i64 j,int i64 bs,int i64 s,.string u,.bool x] (by simp);have hb:=boxed (boxed (Below.refl _ w) (.cells #[int i64 d,int i64 g,int i64 m,int i64 o,.string p,.bool q] 130)) (.cells #[int i64 i,int i64 j,int i64 bs,int i64 s,.string u,.bool x] 130);simp only[qxx]at h;obtain⟨c,B⟩:∃c,qio d g i j=c:=⟨_,rfl⟩;rw[B]at h;have C:Hid _:=B;clear B;by_cases k:c=0
 ·rw[if_pos k]at h;subst k;have H:Hid _:=h;clear h;go_enter func176,ntmps176
  go_wp2_with fail
  refine(qg1 d g i j _).mono ?_;rintro e D ⟨rfl,l⟩;rw[C.out];replace y:=y.later l;replace z:=z.later l;have c2:=y.cell 2 _ rfl;have d2:=z.cell 2 _ rfl
  go_wp2_with (go_at_call 99;refine(qs9 _ _ _).mono ?_;rintro e w' ⟨rfl,rfl⟩)
  go_ret;exact⟨by rw[<-H.out];rfl,qac hb l⟩
 ·rw[if_neg k]at h;have E:(c==0)=false:=beq_eq_false_iff_ne.2 k;clear k;subst h;go_enter func176,ntmps176
  go_wp2_with fail
  refine(qg1 d g i j _).mono ?_;rintro e D ⟨rfl,l⟩;rw[C.out]
  go_wp2_with fail
  go_ret;exact⟨rfl,qac hb l⟩
theorem qj0 {n:Int} (h:inB n 0 7=r) (w:World):
 Calls prog 159 #[int i64 n] w λe w'=>e=.returned (.bool r)/\w'=w:=by
 by_cases c:0<=n
 ·by_cases d:n<8
  ·have e:inB n 0 7=true:=qa5.2 ⟨c,by omega⟩;rw[e]at h;subst h;go_enter func159,ntmps159
   go_wp2
   go_ret;exact⟨rfl,rfl⟩
  ·have e:inB n 0 7=false:=by simp[inB];omega
   rw[e]at h;subst h;go_enter func159,ntmps159
   go_wp2
   go_ret;exact⟨rfl,rfl⟩
 ·have e:inB n 0 7=false:=by simp[inB,c]
  rw[e]at h;subst h;go_enter func159,ntmps159
  go_wp2
  go_ret;exact⟨rfl,rfl⟩
theorem qnn (h:qdm v=r) (w:World):
 Calls prog 174 #[.agg #[int i64 v.wall,int i64 v.count,int i64 v.site,int i64 v.seq,.string v.data,.bool v.gone]] w λe w'=>e=.returned (.bool r)/\Below w.heap.size w w':=by
 obtain⟨wl,i,st,g,d,j⟩:=v;have R:=qag.new (w:=w) (T:=130) [int i64 wl,int i64 i,int i64 st,int i64 g,.string d,.bool j] rfl;have hb:=boxed (Below.refl _ w) (.cells #[int i64 wl,int i64 i,int i64 st,int i64 g,.string d,.bool j] 130);obtain⟨t,k⟩:∃t,(qai wl&&qai i)=t:=⟨_,rfl⟩;have m:Hid _:=k
 have n:(t&&inB st 0 3&&inB g 1 1099511627776&&decide ((d.size:Int)<=12)&&!(j&&!d.toList.isEmpty))=r:=by rw[<-k];exact h
 have H:Hid _:=n;clear h k n;go_enter func174,ntmps174
 go_wp2_with fail
 refine(qfg wl i _).mono ?_;rintro e q ⟨rfl,l⟩;rw[m.out];replace R:=R.later l;replace hb:=qac hb l;clear l m;have c2:=R.cell 2 _ rfl;have c3:=R.cell 3 _ rfl;have s:=R.cell 4 _ rfl;have u:=R.cell 5 _ rfl;cases t
 ·go_wp2_with fail
  go_ret;exact⟨by rw[<-H.out];rfl,hb⟩
 ·by_cases a1:st<0
  ·have e:inB st 0 3=false:=by simp[inB];omega
   have c:Hid (r=false):=by show r=false;rw[<-H.out,e];simp
   clear e
   go_wp2_with fail
   go_ret;exact⟨by rw[c.out];rfl,hb⟩
  ·by_cases a2:4<=st
   ·have e:inB st 0 3=false:=by simp[inB];omega
    have c:Hid (r=false):=by show r=false;rw[<-H.out,e];simp
    clear e
    go_wp2_with fail
    go_ret;exact⟨by rw[c.out];rfl,hb⟩
   ·have o:Hid (inB st 0 3=true):=qa5.2 (by omega);by_cases a3:g<1
    ·have e:inB g 1 1099511627776=false:=by simp[inB];omega
     have c:Hid (r=false):=by show r=false;rw[<-H.out,e];simp
     clear e
     go_wp2_with fail
     go_ret;exact⟨by rw[c.out];rfl,hb⟩
    ·by_cases x:1099511627776<g
     ·have e:inB g 1 1099511627776=false:=by simp[inB];omega
      have c:Hid (r=false):=by show r=false;rw[<-H.out,e];simp
      clear e
      go_wp2_with fail
      go_ret;exact⟨by rw[c.out];rfl,hb⟩
     ·have p:Hid (inB g 1 1099511627776=true):=qa5.2 (by omega);cases j
      ·have c:Hid (r=decide ((d.size:Int)<=12)):=by show r=_;rw[<-H.out,o.out,p.out];simp
       go_wp2_with fail
       go_ret;exact⟨by rw[c.out];rfl,hb⟩
      ·have c:Hid (r=d.toList.isEmpty):=by
           show r=_;rw[<-H.out,o.out,p.out];cases hd:d.toList.isEmpty
           ·simp
           ·have:d.size=0:=by
             have:d.toList.length=0:=by rw[List.isEmpty_iff.1 hd];rfl
             rwa [qgz,qbb]at this
            simp[this]
       go_wp2_with fail
       go_ret;exact⟨by rw[c.out];rfl,hb⟩
end
section
open Go.RowKit
variable {P:Program}
theorem qid (w:World) (e p q d:TypeId) (k b o f r:Nat) (a:Addr) (h s m:Nat) (c:List Value)
 (t:P.underlying e=some (.slice d)) (l:(P.info? d).map (·.size)=some k) (u:m=Nat.min h f) (x:c.length=m*k)
 (y:∀j v,c[j]?=some v->w.cell? (a.add j)=some v) (z:∀j,j<c.length->(w.cell? ⟨b,o+j,none⟩).isSome=true) (A:∀j,j<c.length->w.frozen? ⟨b,o+j,none⟩=false) (B:∀v∈c,v.oneCell'=true):
 (Builtin.copy_ #[e,p] q #[.slice (some ⟨b,o,none⟩) f r,.slice (some a) h s]).run P w=.ok (goInt m) (w.setCells b o c):=by
 have n:=run_loadCells_list (P:=P) w a c y;have C:=run_storeCells_cells (P:=P) b o c 0 w (by simpa using z) (by simpa using A) B;rw[x]at n;cases hq:P.info? d with
 |none=>simp[hq]at l
 |some i=>
  have D:i.size=k:=by simpa[hq]using l
  simp[Builtin.copy_,run_underlying t,Builtin.lenOf,Builtin.firstCells,sizeOf,typeInfo,hq,D,<-u,n,C]
variable {o:Oper} {a:Act} {K:Act->World->Prop} {Q:Exit->Act->World->Prop} {v':Value} {w':World}
theorem qmp (w:World) (d s:Operand) (t b:TypeId)
 (c:o.op=.call {callee:=.builtin .copy,args:=#[d,s],argTypes:=#[t,b]}) (v u:Value) (e:a.eval d=v) (f:a.eval s=u)
 (i:(Builtin.copy_ #[t,b] o.type #[v,u]).run P w=.ok v' w') (h:K (a.put o.dst v') w'):o.wp P a w K Q:=by
 unfold Oper.wp execOp;simp only[c,resolve,invoke,builtin,Sem.run_bind,Sem.run_pure,Result.andThen_ok,List.map_toArray,List.map_cons,List.map_nil,e,f,i];exact h
theorem qhe (w:World) {c:Array Oper} {rest:List Oper} (e:o.guard=none) (d s:Operand) (t b:TypeId)
 (f:o.op=.call {callee:=.builtin .copy,args:=#[d,s],argTypes:=#[t,b]}) (v u:Value) (i:a.eval d=v) (j:a.eval s=u)
 (k:(Builtin.copy_ #[t,b] o.type #[v,u]).run P w=.ok v' w') (h:wpList P c Q rest (a.put o.dst v') w'):wpList P c Q (o::rest) a w:=
 wpList_plain e λ_ l=>qmp w d s t b f v u i j k (l _ _ h)
variable {w:World}
theorem qju {e:Array Oper} {E:Prop}
 (f:o.guard=none) (d x:Operand) (b c:TypeId) (h:o.op=Op.call {callee:=Callee.builtin Builtin.copy,args:=#[d,x],argTypes:=#[b,c]})
 (v u:Value) (i:a.eval d=v) (j:a.eval x=u) (k:(Builtin.copy_ #[b,c] o.type #[v,u]).run P w=.ok v' w') (l:K (a.put o.dst v') w'):
 if Region.wanted o (yielded e a.tmps)=true then Oper.wp P o a w K Q else E:=by
 have m:Region.wanted o (yielded e a.tmps)=true:=by simp[Region.wanted,f]
 rw[if_pos m];exact qmp w d x b c h v u i j k l
theorem qcd (g:Nat):∀(b:List Value) (o:Nat) (w:World) {cur:Array Value} {T:TypeId},w.heap[g]?=some (.cells cur T (0,0))->∃d,(w.setCells g o b).heap[g]?=some (.cells d T (0,0))/\d.size=cur.size
 |[],_,_,cur,_,h=>⟨cur,h,rfl⟩
 |v::b,o,w,cur,T,h=>by
  obtain⟨c,e,f⟩:=qcd g b (o+1) (w.setCell ⟨g,o,none⟩ v) (heap_setCell_same w g o cur T v h);exact⟨c,e,by simpa using f⟩
variable {g:Nat} {T:TypeId}
theorem qfq {B n cap k:Nat} {cur:Array Value} {xs:List Value} (f:B<=g) (b:w.heap[g]?=some (.cells cur T (0,0))) (h:cap<=maxLen) (c:cur.size=cap*k) (d:n<=cap) (e:xs.length=n*k)
 (l:∀j u,xs[j]?=some u->w.cell? ⟨g,j,none⟩=some u):w.ownsRow B T k (.slice (some ⟨g,0,none⟩) n cap) n xs:=by
 refine⟨e,.inr ⟨g,cap,cur,rfl,f,b,d,h,c,?_⟩⟩
 have p:n*k<=cur.size:=by rw[c];exact Nat.mul_le_mul_right _ d
 apply List.ext_getElem
 ·rw[List.length_take,Array.length_toList,e];omega
 ·intro i q m;have:=l i xs[i] (List.getElem?_eq_getElem m);rw[cell_of_row w g i cur T (0,0) b]at this;rw[List.getElem_take,Array.getElem_toList];rw[Array.getElem?_eq_getElem (by omega)]at this;injection this
theorem qh7 (g:Nat) (b:List Value) (o:Nat) (w:World) (h:∀j,j<b.length->(w.cell? ⟨g,o+j,none⟩).isSome=true) (k:Nat) (c:(w.cell? ⟨g,k,none⟩).isSome=true):((w.setCells g o b).cell? ⟨g,k,none⟩).isSome=true:=by
 by_cases d:o<=k/\k<o+b.length
 ·have:=World.cell?_setCells_in g b o w h (k-o) (by omega);rw[show o+(k-o)=k by omega]at this;rw[this];rfl
 ·rw[World.cell?_setCells_out g b o w ⟨g,k,none⟩ (λ_ _=>by show k<o\/o+b.length<=k;omega)];exact c
theorem qto {b:List Value} {o:Nat} (h:∀j,j<b.length->(w.cell? ⟨g,o+j,none⟩).isSome=true) {j:Nat} {u:Value} (c:b[j]?=some u):(w.setCells g o b).cell? ⟨g,o+j,none⟩=some u:=by
 obtain⟨d,e⟩:=List.getElem?_eq_some_iff.1 c;rw[World.cell?_setCells_in g b o w h j d,e]
theorem qsy (A V D:List Value) (h:∀j u,A[j]?=some u->w.cell? ⟨g,j,none⟩=some u) (e:∀j,j<A.length+V.length+D.length->(w.cell? ⟨g,j,none⟩).isSome=true):
 ∀j u,(A++V++D)[j]?=some u->((w.setCells g (A.length+V.length) D).setCells g A.length V).cell? ⟨g,j,none⟩=some u:=by
 intro j u b;have f:∀t,t<D.length->(w.cell? ⟨g,A.length+V.length+t,none⟩).isSome=true:=λt i=>e _ (by omega);have k:∀t,t<V.length->((w.setCells g (A.length+V.length) D).cell? ⟨g,A.length+t,none⟩).isSome=true:=λt i=>qh7 g D _ w f _ (e _ (by omega));rcases Nat.lt_or_ge j (A.length+V.length)with c|c
 ·rw[List.getElem?_append_left (by simpa using c)]at b;rcases Nat.lt_or_ge j A.length with d|d
  ·rw[List.getElem?_append_left d]at b;rw[World.cell?_setCells_out g V _ _ _ (λ_ _=>.inl d),World.cell?_setCells_out g D _ _ _ (λ_ _=>.inl (by show j<_;omega))];exact h j u b
  ·rw[List.getElem?_append_right d]at b;have:=qto k b
   rwa [show A.length+(j-A.length)=j by omega]at this
 ·rw[List.getElem?_append_right (by simpa using c),List.length_append]at b;rw[World.cell?_setCells_out g V _ _ _ (λ_ _=>.inr c)];have:=qto f b
  rwa [show A.length+V.length+(j-(A.length+V.length))=j by omega]at this
theorem qk6 (A V D:List Value) (h:∀j u,A[j]?=some u->w.cell? ⟨g,j,none⟩=some u) (e:∀j,j<A.length+V.length+D.length->(w.cell? ⟨g,j,none⟩).isSome=true):
 ∀j u,(A++V++D)[j]?=some u->((w.setCells g A.length V).setCells g (A.length+V.length) D).cell? ⟨g,j,none⟩=some u:=by
 intro j u b;have f:∀t,t<V.length->(w.cell? ⟨g,A.length+t,none⟩).isSome=true:=λt i=>e _ (by omega);have k:∀t,t<D.length->((w.setCells g A.length V).cell? ⟨g,A.length+V.length+t,none⟩).isSome=true:=λt i=>qh7 g V _ w f _ (e _ (by omega));rcases Nat.lt_or_ge j (A.length+V.length)with c|c
 ·rw[List.getElem?_append_left (by simpa using c)]at b;rw[World.cell?_setCells_out g D _ _ _ (λ_ _=>.inl c)];rcases Nat.lt_or_ge j A.length with d|d
  ·rw[List.getElem?_append_left d]at b;rw[World.cell?_setCells_out g V _ _ _ (λ_ _=>.inl d)];exact h j u b
  ·rw[List.getElem?_append_right d]at b;have:=qto f b
   rwa [show A.length+(j-A.length)=j by omega]at this
 ·rw[List.getElem?_append_right (by simpa using c),List.length_append]at b;have:=qto k b
  rwa [show A.length+V.length+(j-(A.length+V.length))=j by omega]at this
end
section
open Tryz Go.RowKit
theorem qw1:(prog.info? 130).map (λi=>(i.zero,i.size,i.bytes))=some (some (.agg #[.int .i64 0,.int .i64 0,.int .i64 0,.int .i64 0,.string ⟨#[]⟩,.bool false]),6,56):=by kernel_rfl
theorem qoq:(prog.info? 130).map (·.size)=some 6:=by kernel_rfl
def qf1 (w:World) (sv:Value) (L':List Ver) (g cap:Nat) (w':World):Prop:=
 w'.ownsRow 0 130 6 (.slice (some ⟨g,0,none⟩) L'.length cap) L'.length (qax L')/\w.grownBy w' sv.ownBlock/\(sv.ownBlock=some g\/w.heap.size<=g)
def qpt (L:List Ver) (p:Nat) (v:Ver):List Ver:=L.take p++[v]++L.drop p
variable {L:List Ver} {p:Nat}
theorem qgr (v:Ver) (h:p<=L.length):(qpt L p v).length=L.length+1:=by
 simp[qpt];omega
theorem qqw (L:List Ver) (p:Nat) (v:Ver):qax (qpt L p v)=qax (L.take p)++qah v++qax (L.drop p):=by
 unfold qpt;rw[qhf,qhf,qhs]
theorem qwk {sv:Value} (v:Ver) (i:Nat) (w:World) (k:w.ownsRow 0 130 6 sv L.length (qax L)) (J:L.length<=1000) (s:w.heap[i]?=some (.cells (qah v).toArray 130 (0,0))):
 Calls prog 177 #[sv,.int .i64 L.length,.slice (some ⟨i,0,none⟩) 1 1] w λe w'=>
  ∃g cap,e=.returned (.slice (some ⟨g,0,none⟩) (L.length+1) cap)/\qf1 w sv (L++[v]) g cap w':=by
 obtain⟨B,C,D,E,F⟩:=info_parts qw1
 have G:∀j u,(qah v)[j]?=some u->w.cell? ((⟨i,0,none⟩:Addr).add j)=some u:=λj u x=>by
  rw[qb8,cell_of_row w i j _ 130 (0,0) s];simpa using x
 have r:∀u∈qah v,u.oneCell'=true:=λu x=>qgn [v] u (by rw[qhs];exact x);obtain⟨a,cap,rfl,y⟩:=qfw k;have K:=y.len;have T:=y.cap;have H:Hid (∀j u,(qah v)[j]?=some u->w.cell? ((⟨i,0,none⟩:Addr).add j)=some u):=G;have U:Hid _:=s;clear G s y;obtain⟨n,l⟩:∃n,L.length=n:=⟨_,rfl⟩;have M:Hid _:=l;rw[l]at k K J ⊢;clear l
 have N:(Value.slice a n cap=.slice none 0 0)\/∃g,a=some ⟨g,0,none⟩:=by
  rcases k.2 with ⟨h,_⟩|⟨g,c,cur,h,_⟩
  ·exact .inl h
  ·injection h with h _ _;exact .inr ⟨g,h⟩
 have I:Hid (∀g b d,d.ownsRow 0 130 6 (.slice (some ⟨g,0,none⟩) (n+1) b) (n+1) (qax L++qah v)->w.grownBy d (Value.slice a n cap).ownBlock->((Value.slice a n cap).ownBlock=some g\/g=w.heap.size)->qf1 w (.slice a n cap) (L++[v]) g b d):=λg b d r O P=>
  ⟨by rw[qhf,qhs,List.length_append,M.out];exact r,O,P.imp_right (λe=>by omega)⟩
 rcases N with Q|⟨R,rfl⟩
 ·injection Q with ha l hcp;subst ha l hcp;go_enter func177,ntmps177
  go_wp2_with (at_builtin;refine wpList_append_lies _ rfl _ _ 142 rfl 0 130 B (.agg #[.int .i64 0,.int .i64 0,.int .i64 0,.int .i64 0,.string ⟨#[]⟩,.bool false]) 6 56 underlying142 C D E F rfl (by decide) _ _ (qax L) rfl k ⟨i,0,none⟩ 1 1 (qah v) rfl rfl H.out r (by decide) (by simp only[maxLen];omega) (by omega) (by omega) _ rfl ?_;intro g b d m o q S;have z:Hid (qf1 w (.slice none 0 0) (L++[v]) g b d):=I.out g b d m o q;clear m o q)
  go_ret;exact⟨g,b,rfl,z.out⟩
 ·go_enter func177,ntmps177
  go_wp2_with (at_builtin;refine wpList_append_lies _ rfl _ _ 142 rfl 0 130 B (.agg #[.int .i64 0,.int .i64 0,.int .i64 0,.int .i64 0,.string ⟨#[]⟩,.bool false]) 6 56 underlying142 C D E F rfl (by decide) _ _ (qax L) rfl k ⟨i,0,none⟩ 1 1 (qah v) rfl rfl H.out r (by decide) (by simp only[maxLen];omega) (by omega) (by omega) _ rfl ?_;intro g b d m o q S;have z:Hid (qf1 w (.slice (some ⟨R,0,none⟩) n cap) (L++[v]) g b d):=I.out g b d m o q;clear m o q)
  all_goals
   go_ret;exact⟨g,b,rfl,z.out⟩
theorem qpw {g n cap:Nat} (v:Ver) (b:Nat) (w:World) (q:w.ownsRow 0 130 6 (.slice (some ⟨g,0,none⟩) n cap) n (qax L)) (r:L.length=n) (hl:n<=1000) (hp:p<n) (hroom:n+1<=cap) (k:w.heap[b]?=some (.cells (qah v).toArray 130 (0,0))) (E:b≠g):
 Calls prog 177 #[.slice (some ⟨g,0,none⟩) n cap,.int .i64 p,.slice (some ⟨b,0,none⟩) 1 1] w λe w'=>
  ∃g' F,e=.returned (.slice (some ⟨g',0,none⟩) (n+1) F)/\qf1 w (.slice (some ⟨g,0,none⟩) n cap) (qpt L p v) g' F w':=by
 obtain⟨g1,cap1,cur,G,O,l,hnc,H,P,Q⟩:=q.2.resolve_left (λh=>by simp at h);simp only[Value.slice.injEq,Option.some.injEq,Addr.mk.injEq,and_true,true_and]at G;obtain⟨rfl,rfl⟩:=G
 have hc63:cap<=9223372036854775807:=by simp only[maxLen]at H;omega
 have s:(qax (L.drop p)).length=(n-p)*6:=by rw[qcs,List.length_drop,r]
 have y:(qax (L.take p)).length=p*6:=by rw[qcs,List.length_take];omega
 have z:∀j u,(qax L)[j]?=some u->w.cell? ⟨g,j,none⟩=some u:=λj u m=>by have:=q.cells (g:=g) rfl j u m;rwa [qb8]at this
 have o:∀j,j<cap*6->(w.cell? ⟨g,j,none⟩).isSome=true:=λj a=>by rw[cell_of_row w g j cur _ (0,0) l,Array.getElem?_eq_getElem (by omega)];rfl
 have B:∀j,w.frozen? ⟨g,j,none⟩=false:=λj=>frozen_of_row w g j cur _ l
 have I:∀j u,(qah v)[j]?=some u->w.cell? ⟨b,j,none⟩=some u:=λj u m=>by
  rw[cell_of_row w b j _ 130 (0,0) k];simpa using m
 have J:∀u∈qah v,u.oneCell'=true:=λu m=>qgn [v] u (by rw[qhs];exact m)
 have R:∀lb C,(callFunc 179 #[.slice (some ⟨b,0,none⟩) 1 1,.slice (some ⟨g,(p+1)*6,none⟩) lb C]).run prog w=.ok (.value (.bool false)) w:=λlb C=>by
  rw[run_callFunc_extern func179 (by kernel_rfl) (by kernel_rfl) (by kernel_rfl) (e:=Extern.SlicesOverlaps.overlaps #[142,142] #[4]) (by kernel_rfl),
   Lib.run_overlaps_apart w 142 4 130 underlying142 6 Tryz.sizeOf130 ⟨b,0,none⟩ ⟨g,(p+1)*6,none⟩ 1 1 lb C E 130 130 6 cur.size (by simp[World.shape?,k,qah]) (by simp[World.shape?,l]) (by omega) (by simp[World.frozen?,k]) (by simp[World.frozen?,k])]
  rfl
 have K:∀c d D,(Builtin.copy_ #[142,142] c #[.slice (some ⟨g,(p+1)*6,none⟩) (n-p) d,.slice (some ⟨g,p*6,none⟩) (n+1-p) D]).run prog w.drew=.ok (goInt (n-p:Nat)) (w.drew.setCells g ((p+1)*6) (qax (L.drop p))):=λc d D=>
  qid w.drew _ _ c 130 6 g ((p+1)*6) (n-p) d ⟨g,p*6,none⟩ (n+1-p) D (n-p) (qax (L.drop p)) underlying142 qoq (by simp only[Nat.min_def];split<;>omega) s
   (λj u a=>by rw[Addr.add_lit];exact z (p*6+j) u (by rw[<-qkz,List.getElem?_drop]at a;exact a))
   (λj a=>o _ (by omega)) (λj _=>B _) (qgn _)
 obtain⟨W1,i⟩:∃W1,W1=w.drew.setCells g ((p+1)*6) (qax (L.drop p)):=⟨_,rfl⟩
 have M:∀(W:World),(∀x,W.cell? x=W1.cell? x)->(∀x,W.frozen? x=W1.frozen? x)->∀c d,(Builtin.copy_ #[142,142] c #[.slice (some ⟨g,p*6,none⟩) (n+1-p) d,.slice (some ⟨b,0,none⟩) 1 1]).run prog W=.ok (goInt 1) (W.setCells g (p*6) (qah v)):=λW N S c d=>
  qid W _ _ c 130 6 g (p*6) (n+1-p) d ⟨b,0,none⟩ 1 1 1 (qah v) underlying142 qoq (by simp only[Nat.min_def];split<;>omega) rfl
   (λj u a=>by
        rw[qb8,N,i,World.cell?_setCells_out g _ _ _ _ (λh _=>absurd h E)]
        exact I j u a)
   (λj a=>by
        rw[N,i]
        exact qh7 g (qax (L.drop p)) ((p+1)*6) w.drew (λt ht=>o ((p+1)*6+t) (by omega)) (p*6+j) (o (p*6+j) (by simp[qah]at a;omega)))
   (λj a=>by rw[S,i,World.frozen?_setCells];exact B _) J
 have U:Hid (qf1 w (.slice (some ⟨g,0,none⟩) n cap) (qpt L p v) g cap (W1.setCells g (p*6) (qah v))):=by
  obtain⟨c1,V,q2⟩:=qcd g (qax (L.drop p)) ((p+1)*6) w.drew (cur:=cur) (T:=130) l;obtain⟨c2,X,q4⟩:=qcd g (qah v) (p*6) (w.drew.setCells g ((p+1)*6) (qax (L.drop p))) V;rw[i];refine⟨qfq (Nat.zero_le _) X H (by omega) (by rw[qgr v (by omega)];omega) (qcs _) ?_,?_,.inl rfl⟩
  ·rw[qqw];have:=qsy (w:=w.drew) (g:=g) (qax (L.take p)) (qah v) (qax (L.drop p)) (λj u a=>z j u (by rw[<-qh5,List.getElem?_take]at a;split at a;exact a;cases a)) (λj a=>o j (by rw[y,s,qce]at a;omega));rw[y,qce,show p*6+6=(p+1)*6 by omega]at this;exact this
  ·have Y:qdc g w w.drew:=qdc.ofBelow (Below.refl _ _).drew;exact(Y.trans (qbm g _ _ _) (.inl rfl)).trans (qbm g _ _ _) (.inl rfl)
 rw[<-i]at K;have Z:=M W1 (λ_=>rfl) (λ_=>rfl);clear i M
 have hw1:IntKind.i64.wrap ((p:Int)+1)=(p:Int)+1:=by rw[IntKind.wrap_i64];omega
 have hb1:(0:Int)<=(p:Int)+1:=by omega
 have hin:p<=n:=by omega
 have htn:((p:Int)+1).toNat=p+1:=by omega
 have hb2:¬(cap=p+1):=by omega
 have hb3:(p:Int)<=(n:Int)+1:=by omega
 have hb4:¬(cap=p):=by omega
 have hz2:¬((p:Int)=(n:Int)):=by omega
 have EL:Hid _:=r;clear s y z o B I J Q q P O l k r;go_enter func177,ntmps177
 go_wp2_with (simp only[R])
 go_region_law (refine qju rfl _ _ 142 142 rfl _ _ (by simp[Act.eval,Act.put]) (by simp[Act.eval,Act.put]) (K _ _ _) ?_)
 go_wp2_with (at_builtin;refine qhe _ rfl _ _ 142 142 rfl _ _ rfl rfl (Z _ _) ?_)
 go_ret;exact⟨g,cap,rfl,U.out⟩
end
section
open Go.Value Go.IntKind Go.RowKit
def qdl (L:List Ver):Prop:=L.Pairwise λa b=>qaj a b=true
variable {L:List Ver} {i j:Nat}
theorem qdl.at (h:qdl L) (b:i<j) (a:j<L.length):qaj (qbo L i) (qbo L j)=true:=by
 rw[qes a,qes (by omega)];exact List.pairwise_iff_getElem.1 h i j (by omega) a b
theorem qdl.mono (h:qdl L) {t:Ver} (b:i<=j) (a:j<L.length) (hb:qaj (qbo L j) t=true):qaj (qbo L i) t=true:=by
 rcases Nat.lt_or_ge i j with g|g
 ·have:=h.at g a;rw[qch]at this hb ⊢;omega
 ·obtain rfl:i=j:=by omega
  exact hb
def q3a (L:List Ver) (t:Ver) (p:Nat):Prop:=p<=L.length/\(∀j,j<p->qaj (qbo L j) t=true)/\(∀j,p<=j->j<L.length->qaj (qbo L j) t=false)
def qgb (L:List Ver) (t:Ver) (p:Nat):Bool:=decide (p<L.length)&&decide (qxx (qbo L p) t=0)
theorem qwi {a:Option Addr} {cap:Nat} (t:Ver) (w:World) (O:q01 w a cap L) (H:qdl L) (hl:L.length<=1000):
 Calls Tryz.prog 175 #[.slice a L.length cap,.agg #[int i64 t.wall,int i64 t.count,int i64 t.site,int i64 t.seq,.string t.data,.bool t.gone],.func (.func 176) #[] #[]] w λe w'=>
  ∃p:Nat,e=.returned (.tuple #[int i64 p,.bool (qgb L t p)])/\q3a L t p/\Below w.heap.size w w':=by
 have hne:=Later.one;have D:=qag.new (w:=w) (T:=130) (qah t) rfl;have hb:=boxed (Below.refl _ w) (.cells (qah t).toArray 130);have J:Hid (qdl L):=H;clear H;go_enter Tryz.func175,Tryz.ntmps175
 go_wp2_with fail
 change qag (w.alloc (.cells #[int i64 t.wall,int i64 t.count,int i64 t.site,int i64 t.seq,.string t.data,.bool t.gone] 130)) w.heap.size (qah t)at D;change Below w.heap.size w (w.alloc (.cells #[int i64 t.wall,int i64 t.count,int i64 t.site,int i64 t.seq,.string t.data,.bool t.gone] 130))at hb
 go_loopw [9,10] (λP Q wr=>∃k d:Nat,P=int i64 k/\Q=int i64 d/\k<=d/\d<=L.length/\Hid ((∀j,j<k->qaj (qbo L j) t=true)/\(∀j,d<=j->j<L.length->qaj (qbo L j) t=false))/\qag wr w.heap.size (qah t)/\Below w.heap.size w wr) (λi j _=>(intOf j).toNat-(intOf i).toNat)
 case atStart=>exact⟨0,L.length,rfl,rfl,by omega,by omega,(⟨λj S=>by omega,λj U v=>by omega⟩:(∀j,j<0->qaj (qbo L j) t=true)/\(∀j,L.length<=j->j<L.length->qaj (qbo L j) t=false)),D,hb⟩
 case round=>
  clear D hb;obtain⟨k,d,rfl,rfl,U,v,I,R,hb⟩:=hrel;have x:=O.later hb;have d0:=Later.cell (R.cell 0 _ rfl);have d1:=Later.cell (R.cell 1 _ rfl);have d2:=Later.cell (R.cell 2 _ rfl);have d3:=Later.cell (R.cell 3 _ rfl);have d4:=Later.cell (R.cell 4 _ rfl);have d5:=Later.cell (R.cell 5 _ rfl);by_cases hlt:k<d
  ·obtain⟨b,V,rfl,h⟩:∃b,b<wr.heap.size/\a=some ⟨b,0,none⟩/\∀i r u,i<L.length->(qah (qbo L i))[r]?=some u->wr.cell? ⟨b,i*6+r,none⟩=some u:=by
        rcases x.held with n|n
        ·rw[n]at v;simp at v;omega
        ·exact n
   obtain⟨m,K⟩:∃m,(k+d)/2=m:=⟨_,rfl⟩
   have q:m<L.length:=by omega
   obtain⟨y,g⟩:∃y,qbo L m=y:=⟨_,rfl⟩;have x0:wr.cell? ⟨b,m*6,none⟩=some (int i64 y.wall):=h m 0 _ q (by rw[g];rfl);have x1:wr.cell? ⟨b,m*6+1,none⟩=some (int i64 y.count):=h m 1 _ q (by rw[g];rfl);have x2:wr.cell? ⟨b,m*6+2,none⟩=some (int i64 y.site):=h m 2 _ q (by rw[g];rfl);have x3:wr.cell? ⟨b,m*6+3,none⟩=some (int i64 y.seq):=h m 3 _ q (by rw[g];rfl);have z:wr.cell? ⟨b,m*6+4,none⟩=some (.string y.data):=h m 4 _ q (by rw[g];rfl);have B:wr.cell? ⟨b,m*6+5,none⟩=some (.bool y.gone):=h m 5 _ q (by rw[g];rfl);replace x0:=Later.cell x0;replace x1:=Later.cell x1;replace x2:=Later.cell x2;replace x3:=Later.cell x3;replace z:=Later.cell z;replace B:=Later.cell B;have M:Hid ((k+d)/2=m):=K;have Y:Hid (qbo L m=y):=g
   have e1:((k:Int)+(d:Int))/2=(m:Int):=by omega
   obtain⟨c,s⟩:∃c,qxx y t=c:=⟨_,rfl⟩;have C:Hid (qxx y t=c):=s;clear g K s h x;by_cases W:c<0
   ·go_wp2_with fail
    refine qaa (by kernel_rfl) (by kernel_rfl) ?_
    repeat (go_big_quiet_step ((go_at_call 176;with_reducible exact qab (qpr C.out _))))
    refine wpQuiet_nil ?_;rintro E ⟨⟨_,o⟩,rfl⟩
    go_wp2_with fail
    go_roundw
    case rel=>
     have F:qaj y t=true:=qt6.1 (by rw[C.out];exact W);exact⟨m+1,d,by go_num,rfl,by have:=M.out;omega,v,(⟨λj S=>J.out.mono (by omega) q (by rw[Y.out];exact F),I.out.2⟩:_/\_),R.later o,qac hb o⟩
    case measure=>simp[intOf];have:=M.out;omega
   ·go_wp2_with fail
    refine qaa (by kernel_rfl) (by kernel_rfl) ?_
    repeat (go_big_quiet_step ((go_at_call 176;with_reducible exact qab (qpr C.out _))))
    refine wpQuiet_nil ?_;rintro E ⟨⟨_,o⟩,rfl⟩
    go_wp2_with fail
    go_roundw
    case rel=>
     have F:qaj y t=false:=by
      cases hq:qaj y t
      ·rfl
      ·exfalso
       have:=qt6.2 hq;rw[C.out]at this;omega
     exact⟨k,m,rfl,rfl,by have:=M.out;omega,by omega,(⟨I.out.1,λj X Z=>by
      cases hq:qaj (qbo L j) t
      ·rfl
      ·have:=J.out.mono X Z hq;rw[Y.out,F]at this
       cases this⟩:_/\_),R.later o,qac hb o⟩
    case measure=>simp[intOf];have:=M.out;omega
  ·obtain rfl:d=k:=by omega
   have N:Hid (q3a L t d):=⟨v,I.out.1,I.out.2⟩
   have hnl:¬(d:Int)<(d:Int):=by omega
   by_cases l:d<L.length
   ·obtain⟨b,V,rfl,h⟩:∃b,b<wr.heap.size/\a=some ⟨b,0,none⟩/\∀i r u,i<L.length->(qah (qbo L i))[r]?=some u->wr.cell? ⟨b,i*6+r,none⟩=some u:=by
     rcases x.held with n|n
     ·rw[n]at l;simp at l
     ·exact n
    obtain⟨y,g⟩:∃y,qbo L d=y:=⟨_,rfl⟩;have x0:wr.cell? ⟨b,d*6,none⟩=some (int i64 y.wall):=h d 0 _ l (by rw[g];rfl);have x1:wr.cell? ⟨b,d*6+1,none⟩=some (int i64 y.count):=h d 1 _ l (by rw[g];rfl);have x2:wr.cell? ⟨b,d*6+2,none⟩=some (int i64 y.site):=h d 2 _ l (by rw[g];rfl);have x3:wr.cell? ⟨b,d*6+3,none⟩=some (int i64 y.seq):=h d 3 _ l (by rw[g];rfl);have z:wr.cell? ⟨b,d*6+4,none⟩=some (.string y.data):=h d 4 _ l (by rw[g];rfl);have B:wr.cell? ⟨b,d*6+5,none⟩=some (.bool y.gone):=h d 5 _ l (by rw[g];rfl);replace x0:=Later.cell x0;replace x1:=Later.cell x1;replace x2:=Later.cell x2;replace x3:=Later.cell x3;replace z:=Later.cell z;replace B:=Later.cell B;obtain⟨c,s⟩:∃c,qxx y t=c:=⟨_,rfl⟩;have C:Hid (qxx y t=c):=s
    have aa:(d:Int)<(L.length:Int):=by omega
    have dn:decide ((d:Int)<(L.length:Int))=true:=decide_eq_true aa
    have G:Hid (qgb L t d=(c==0)):=by
     show qgb L t d=_;unfold qgb;rw[g,s,decide_eq_true l,Bool.true_and]
     by_cases n:c=0<;>simp[n]
    clear g s h x
    go_wp2_with fail
    refine qaa (by kernel_rfl) (by kernel_rfl) ?_
    repeat (go_big_quiet_step ((go_at_call 176;with_reducible exact qab (qpr C.out _))))
    refine wpQuiet_nil ?_;rintro E ⟨⟨_,o⟩,rfl⟩
    go_wp2_with fail
    go_ret2;exact⟨d,by rw[G.out];rfl,N.out,qac hb o⟩
   ·have dn:decide ((d:Int)<(L.length:Int))=false:=decide_eq_false (by omega)
    have G:Hid (qgb L t d=false):=by
     show qgb L t d=_;unfold qgb;rw[decide_eq_false l,Bool.false_and]
    clear x
    go_wp2_with fail
    refine qaa (by kernel_rfl) (by kernel_rfl) ?_
    repeat (go_big_quiet_step (fail))
    refine wpQuiet_nil ?_;rintro E ⟨⟨_,o⟩,rfl⟩
    go_wp2_with fail
    go_ret2;exact⟨d,by rw[G.out];rfl,N.out,qac hb o⟩
end
section
open Tryz Go.Value Go.IntKind Go.RowKit Go.Shelf
attribute [local go_sem] Oper.semAt_some
abbrev SV:={v:Ver//0<=v.site/\v.site<=3}
def qdr {α:Type} (L:List α) (k:Nat):List α:=L.reverse.take k
variable {α:Type} {L:List α} {k:Nat}
theorem qq0 (h:k<L.length):qdr L (k+1)=qdr L k++[L[L.length-1-k]]:=by
 unfold qdr;rw[List.take_succ_eq_append_getElem (by simpa using h),List.getElem_reverse]
theorem qnb (h:k<=L.length):(qdr L k).length=k:=by
 unfold qdr;rw[List.length_take,List.length_reverse];omega
def qsf (n₀:Nat) (W:World) (sv:Value) (L:List Ver):Prop:=
 ∃a cap,sv=.slice a L.length cap/\L.length<=cap/\cap<=9223372036854775807/\(L=[]\/∃b,b<n₀/\a=some ⟨b,0,none⟩/\∀i r u,i<L.length->(qah (qbo L i))[r]?=some u->W.cell? ⟨b,i*6+r,none⟩=some u)
theorem qwm (F:Fence) (n:Nat) (U:F.fn 178) (V:F.round=none) (hn:1<=n) (l o t:Nat) (sv:Value) (L:List SV) (hl:L.length<=1000) (J H:List SV->World->Prop)
 (I:o<t) (K:∀d x W,J d W->d.length<L.length->YieldAt F (n-1) prog l #[.agg #[int i64 x.1.wall,int i64 x.1.count,int i64 x.1.site,int i64 x.1.seq,.string x.1.data,.bool x.1.gone]] W λe j=>
  (e=.returned (.bool true)/\J (d++[x]) j/\Below t W j)\/(e=.returned (.bool false)/\H (d++[x]) j))
 (W:World) (M:W.cell? ⟨o,0,none⟩=some sv) (X:qsf t W sv (L.map (·.1))) (Y:J [] W):
 CallsIn F n prog 178 #[.func (.yield l) #[] #[],.pointer (some ⟨o,0,none⟩)] W λe j=>(∃v,e=.returned v)/\
  ((∃N,N=L.reverse/\J N j)\/(∃d,(∃k,k<L.length/\d=qdr L (k+1))/\H d j)):=by
 obtain⟨a,cap,rfl,Z,hc2,O⟩:=X;rw[List.length_map]at M Z O;have HB:Hid _:=I;refine callsIn_of_wp func178 rfl U ?_ V;simp only[ntmps178,List.size_toArray,List.length_cons,List.length_nil,Nat.reduceAdd,Nat.reduceSub,Array.replicate_succ,Array.replicate_zero,List.push_toArray,List.append_toArray,List.nil_append,List.cons_append]
 gi_wp2
 gi_loopw [3] (λi wr=>∃(k:Nat) (z:Int),k<=L.length/\z=(L.length:Int)-1-k/\i=int i64 z/\J (qdr L k) wr/\Below t W wr) (λi _=>(intOf i+1).toNat)
 case atStart=>exact⟨0,(L.length:Int)-1,Nat.zero_le _,by omega,by go_num,Y,Below.refl _ _⟩
 case round=>
  obtain⟨k,z,hk,C,rfl,D,E⟩:=hrel;have HZ:Hid _:=C;have hB2:wr.cell? ⟨o,0,none⟩=some (.slice a L.length cap):=(E.cell (p:=⟨o,0,none⟩) I).trans M;by_cases s:k<L.length
  ·obtain⟨b,hb,rfl,P⟩:=O.resolve_left (λh=>by rw[List.map_eq_nil_iff]at h;rw[h]at s;simp at s);obtain⟨m,Q⟩:∃m,L.length-1-k=m:=⟨_,rfl⟩
   have R:m<L.length:=by omega
   have hzm:z.toNat=m:=by omega
   have hz0:0<=z:=by omega
   have hz1:z<(L.length:Int):=by omega
   obtain⟨⟨y,S⟩,G⟩:∃y,L[m]=y:=⟨_,rfl⟩
   have g:qbo (L.map (·.1)) m=y:=by rw[qes (by simpa using R),List.getElem_map,G]
   have q:=λr u h=>(E.cell (p:=⟨b,m*6+r,none⟩) hb).trans (P m r u R h);have x0:wr.cell? ⟨b,m*6,none⟩=some (int i64 y.wall):=q 0 _ (by rw[g];rfl);have x1:wr.cell? ⟨b,m*6+1,none⟩=some (int i64 y.count):=q 1 _ (by rw[g];rfl);have x2:wr.cell? ⟨b,m*6+2,none⟩=some (int i64 y.site):=q 2 _ (by rw[g];rfl);have x3:wr.cell? ⟨b,m*6+3,none⟩=some (int i64 y.seq):=q 3 _ (by rw[g];rfl);have x4:wr.cell? ⟨b,m*6+4,none⟩=some (.string y.data):=q 4 _ (by rw[g];rfl);have x5:wr.cell? ⟨b,m*6+5,none⟩=some (.bool y.gone):=q 5 _ (by rw[g];rfl)
   have T:Hid (qdr L (k+1)=qdr L k++[⟨y,S⟩]):=by
        show qdr L (k+1)=_;rw[qq0 s,<-G];simp only[Q]
   obtain⟨fn,tmps,assign,body,hyy,hR⟩:=K _ ⟨y,S⟩ wr D (by rw[qnb hk];exact s);clear q P C g Q K G
   dsimp only at hyy
   gi_wp2
   refine hR.mono ?_;rintro e W3 (⟨rfl,hJ3,hk3⟩|⟨rfl,hJx3⟩)
   ·gi_wp2
    go_roundw
    case rel=>exact⟨k+1,z-1,by omega,by have:=HZ.out;omega,by go_num,by rw[T.out];exact hJ3,E.trans hk3⟩
    case measure=>simp[intOf];omega
   ·gi_wp2
    refine bodyPost_ret (results_none rfl _ _ _) rfl ?_;exact⟨⟨_,rfl⟩,.inr ⟨_,⟨k,s,rfl⟩,by rw[T.out];exact hJx3⟩⟩
  ·have hzn:¬0<=z:=by omega
   clear C
   have ALL:Hid (qdr L k=L.reverse):=by show qdr L k=L.reverse;unfold qdr;rw[List.take_of_length_le (by rw[List.length_reverse];omega)]
   gi_wp2
   go_end0;rw[ALL.out]at D;exact⟨⟨_,rfl⟩,.inl D⟩
theorem qpp (F:Fence) (n:Nat) (d:F.fn 172) (g:F.round=none) (a:Option Addr) (len cap:Nat) (w:World):
 CallsIn F n prog 172 #[.slice a len cap] w λe w'=>e=.returned (.func (.func 178) #[] #[.pointer (some ⟨w.heap.size,0,none⟩)])/\w'=w.alloc (.cells #[.slice a len cap] 142):=by
 refine callsIn_of_wp func172 rfl d ?_ g;simp only[ntmps172,List.size_toArray,List.length_cons,List.length_nil,Nat.reduceAdd,Nat.reduceSub,Array.replicate_succ,Array.replicate_zero,List.push_toArray,List.append_toArray,List.nil_append,List.cons_append]
 gi_wp2
 go_ret;exact⟨rfl,rfl⟩
theorem qp9 (F:Fence) (n:Nat) (m:F.fn 178) (o:F.round=none) (q:1<=n) (d g:Nat) (sv:Value) (L:List SV) (s:L.length<=1000) (w:World) (h:d<g) (t:g<=w.heap.size)
 (v:w.cell? ⟨d,0,none⟩=some sv) (y:qsf g w sv (L.map (·.1))):
 SeqStopsK F n prog 178 #[.pointer (some ⟨d,0,none⟩)] (λx:SV=>#[Value.agg #[int i64 x.1.wall,int i64 x.1.count,int i64 x.1.site,int i64 x.1.seq,.string x.1.data,.bool x.1.gone]]) (Below g) (λz=>z=L.reverse) (λC=>∃k,k<L.length/\C=qdr L (k+1)) L.length w:=λl J D W E _ _ G H=>by
 have hb:=E.mono t;have I:=(hb.cell (p:=⟨d,0,none⟩) h).trans v;obtain⟨a,cap,rfl,K,M,N⟩:=y;exact qwm F n m o q l d g _ L s J D h G W I ⟨a,cap,rfl,K,M,N.imp_right λ⟨b,j,e,O⟩=>⟨b,j,e,λi r u P Q=>(hb.cell (p:=⟨b,i*6+r,none⟩) j).trans (O i r u P Q)⟩⟩ H
def qfn (a0 a1 a2 a3:Int) (L:List Ver):Option Ver:=L.reverse.find? (qij a0 a1 a2 a3)
variable {w:World} {b c:Nat}
theorem qiu {tmps:Array Value} {v:Ver} {sv:Bool} (h:qag w b (qah v)) (a:w.cell? ⟨c,0,none⟩=some (.bool sv)) (d:tmps[4]?=some (.pointer (some ⟨b,0,none⟩))) (e:tmps[5]?=some (.pointer (some ⟨c,0,none⟩))):
 (results f155 tmps).run prog w=.ok (.tuple #[.agg (qah v).toArray,.bool sv]) w:=by
 obtain⟨g,i,j,l,m,n⟩:=h.c6;simp[results,results155,go_sem,a,d,e,g,i,j,l,m,n,qah]
variable {vs:List Value}
theorem qag.abides {X Y:World} {row:Option Nat} (h:qag X b vs) (a:X.grownBy Y row) (d:∀r,row=some r->∃o:Obj,X.heap[r]?=some o/\o.isCells=false) (f:0<vs.length):qag Y b vs:=by
 refine h.kept (a.block b h.lt λe=>?_) a.size;obtain⟨o,g,i⟩:=d b e.symm;have:=h.cell 0 vs[0] (List.getElem?_eq_getElem f);unfold World.cell? at this;rw[g]at this
 cases o<;>simp_all [Obj.isCells]
theorem qag.verSet {y:Ver} (h:qag w b (qah y)) (x:Ver):qag ((((((w.setCell ⟨b,0,none⟩ (int i64 x.wall)).setCell ⟨b,1,none⟩ (int i64 x.count)).setCell ⟨b,2,none⟩ (int i64 x.site)).setCell ⟨b,3,none⟩ (int i64 x.seq)).setCell ⟨b,4,none⟩ (.string x.data)).setCell ⟨b,5,none⟩ (.bool x.gone)) b (qah x):=
 (((((h.set 0 _ (by simp[qah])).set 1 _ (by simp[qah])).set 2 _ (by simp[qah])).set 3 _ (by simp[qah])).set 4 _ (by simp[qah])).set 5 _ (by simp[qah])
abbrev qwy (w:World) (b:Nat) (x:Ver):World:=(((((w.setCell ⟨b,0,none⟩ (int i64 x.wall)).setCell ⟨b,1,none⟩ (int i64 x.count)).setCell ⟨b,2,none⟩ (int i64 x.site)).setCell ⟨b,3,none⟩ (int i64 x.seq)).setCell ⟨b,4,none⟩ (.string x.data)).setCell ⟨b,5,none⟩ (.bool x.gone)
theorem qag.verFar (h:qag w b vs) (a:c≠b) (x:Ver):qag (qwy w c x) b vs:=
 (((((h.far ⟨c,0,none⟩ _ a).far ⟨c,1,none⟩ _ a).far ⟨c,2,none⟩ _ a).far ⟨c,3,none⟩ _ a).far ⟨c,4,none⟩ _ a).far ⟨c,5,none⟩ _ a
theorem qk8 (W:World) (b:Nat) (x:Ver):KeepsOthers W (qwy W b x):=
 (((((KeepsOthers.setCell _ _ _).trans (KeepsOthers.setCell _ _ _)).trans (KeepsOthers.setCell _ _ _)).trans (KeepsOthers.setCell _ _ _)).trans (KeepsOthers.setCell _ _ _)).trans (KeepsOthers.setCell _ _ _)
variable {B:Nat} {W:World}
theorem qaw (h:Below B w W) (a:B<=b) (x:Ver):Below B w (qwy W b x):=
 (((((h.setCell (p:=⟨b,0,none⟩) a _).setCell (p:=⟨b,1,none⟩) a _).setCell (p:=⟨b,2,none⟩) a _).setCell (p:=⟨b,3,none⟩) a _).setCell (p:=⟨b,4,none⟩) a _).setCell (p:=⟨b,5,none⟩) a _
def qsk (a0 a1 a2 a3:Int) (pre:List SV) (x:SV):Prop:=∃p,pre=p++[x]/\(∀y∈p,qij a0 a1 a2 a3 y.1=false)/\qij a0 a1 a2 a3 x.1=true
variable {a0 a1 a2 a3:Int} {LS:List SV}
theorem qsk.find {x:SV} (h:qsk a0 a1 a2 a3 (qdr LS k) x):qfn a0 a1 a2 a3 (LS.map (·.1))=some x.1:=by
 obtain⟨p,e,a,d⟩:=h
 have f:LS.reverse=(p++[x])++LS.reverse.drop k:=by rw[<-e];exact(List.take_append_drop k _).symm
 unfold qfn;rw[<-List.map_reverse,f];simp only[List.map_append,List.find?_append,List.append_assoc]
 have g:(p.map (·.1)).find? (qij a0 a1 a2 a3)=none:=by
  rw[List.find?_eq_none];intro v i;obtain⟨y,j,rfl⟩:=List.mem_map.1 i;rw[a y j]
  decide
 rw[g];simp[d]
theorem qyv (h:∀x∈LS.reverse,qij a0 a1 a2 a3 x.1=false):qfn a0 a1 a2 a3 (LS.map (·.1))=none:=by
 unfold qfn;rw[List.find?_eq_none];intro v a;rw[List.mem_reverse]at a;obtain⟨y,d,rfl⟩:=List.mem_map.1 a;rw[h y (by simpa using d)]
 decide
theorem qhv {a:World} (h:Below W.heap.size W a):KeepsFrom B W a:=⟨h.size,λk _ _ d _=>(h.block k (Array.getElem?_eq_some_iff.1 d).1).trans d⟩
theorem que {a:Option Addr} {cap:Nat} {L:List Ver} (a0 a1 a2 a3:Int) (w:World) (J:q01 w a cap L) (hok:∀v∈L,0<=v.site/\v.site<=3) (hl:L.length<=1000):
 Calls prog 155 #[.slice a L.length cap,.agg #[int i64 a0,int i64 a1,int i64 a2,int i64 a3]] w λe w'=>
  e=.returned (.tuple #[.agg (qdz (qfn a0 a1 a2 a3 L)).toArray,.bool (qit (qfn a0 a1 a2 a3 L))])/\Below w.heap.size w w':=by
 refine(callsIn_wide (n:=6)).1 ?_;obtain⟨LS,M⟩:∃LS:List SV,LS.map (·.1)=L:=⟨L.attachWith _ hok,by simp⟩
 have hLl:LS.length=L.length:=by rw[<-M,List.length_map]
 have RA:=(((qbe.new w 47 a0 a1 a2 a3).boxed (.cells #[int i64 0,int i64 0,int i64 0,int i64 0,.string ⟨#[]⟩,.bool false] 130)).boxed (.cells #[.bool false] 4)).boxed (.cells #[.slice a L.length cap] 142);have RR:=((qag.new (w:=w.alloc (.cells #[int i64 a0,int i64 a1,int i64 a2,int i64 a3] 47)) (T:=130) (n:=w.heap.size+1) (qah qcj) (by simp)).boxed (.cells #[.bool false] 4)).boxed (.cells #[.slice a L.length cap] 142);have RF:=(qag.new (w:=(w.alloc (.cells #[int i64 a0,int i64 a1,int i64 a2,int i64 a3] 47)).alloc (.cells (qah qcj).toArray 130)) (T:=4) (n:=w.heap.size+1+1) [.bool false] (by simp)).boxed (.cells #[.slice a L.length cap] 142);have RL:=qag.new (w:=((w.alloc (.cells #[int i64 a0,int i64 a1,int i64 a2,int i64 a3] 47)).alloc (.cells (qah qcj).toArray 130)).alloc (.cells #[.bool false] 4)) (T:=142) (n:=w.heap.size+1+1+1) [.slice a L.length cap] (by simp);have hb:=boxed (boxed (boxed (boxed (Below.refl _ w) (.cells #[int i64 a0,int i64 a1,int i64 a2,int i64 a3] 47)) (.cells (qah qcj).toArray 130)) (.cells #[.bool false] 4)) (.cells #[.slice a L.length cap] 142);refine callsIn_of_wp_marks func155 rfl trivial ?_ rfl;simp only[ntmps155,List.size_toArray,List.length_cons,List.length_nil,Nat.reduceAdd,Nat.reduceSub,Array.replicate_succ,Array.replicate_zero,List.push_toArray,List.append_toArray,List.nil_append,List.cons_append]
 gi_wp2_with (refine⟨trivial,?_⟩;gi_at_call 172;refine(qpp Fence.wide _ trivial rfl _ _ _ _).mono ?_;rintro e w' ⟨rfl,rfl⟩)
 have hsz:((((w.alloc (.cells #[int i64 a0,int i64 a1,int i64 a2,int i64 a3] 47)).alloc (.cells (qah qcj).toArray 130)).alloc (.cells #[.bool false] 4)).alloc (.cells #[.slice a L.length cap] 142)).heap.size=w.heap.size+4:=by simp
 obtain⟨j,z⟩:∃j,(((w.alloc (.cells #[int i64 a0,int i64 a1,int i64 a2,int i64 a3] 47)).alloc (.cells #[int i64 0,int i64 0,int i64 0,int i64 0,.string ⟨#[]⟩,.bool false] 130)).alloc (.cells #[.bool false] 4)).alloc (.cells #[.slice a L.length cap] 142)=j:=⟨_,rfl⟩
 have RA0:qag j w.heap.size [int i64 a0,int i64 a1,int i64 a2,int i64 a3]:=by
  rw[<-z];exact(((qag.new (w:=w) (T:=47) [int i64 a0,int i64 a1,int i64 a2,int i64 a3] rfl).boxed _).boxed _).boxed _
 have RR0:qag j (w.heap.size+1) (qah qcj):=by rw[<-z];exact RR
 have RF0:qag j (w.heap.size+1+1) [.bool false]:=by rw[<-z];exact RF
 have RL0:qag j (w.heap.size+1+1+1) [.slice a L.length cap]:=by rw[<-z];exact RL
 have S:Below w.heap.size w j:=by rw[<-z];exact hb
 have hsz0:j.heap.size=w.heap.size+4:=by rw[<-z];exact hsz
 rw[z];clear RA RR RF RL hb hsz z
 have N:qsf (w.heap.size+4) j (.slice a L.length cap) (LS.map (·.1)):=by
  rw[M];exact⟨a,cap,rfl,J.len,J.cap,J.held.imp_right λ⟨b,hb1,e,hcc⟩=>⟨b,by omega,e,λi r u hi hu=>cell_later S (hcc i r u hi hu)⟩⟩
 have HLS:Hid _:=M;have HLL:Hid _:=hLl;clear M hLl J
 refine wpIn_rangeFunc_ownH rfl (by decide) (gf:=178) (lb:=#[.pointer (some ⟨w.heap.size+1+1+1,0,none⟩)]) rfl trivial (enters_of func178 (by kernel_rfl) rfl)
  (qp9 Fence.wide 5 trivial rfl (by decide) (w.heap.size+1+1+1) (w.heap.size+4) (.slice a L.length cap) LS (by have:=HLL.out;omega) j (by omega) (by omega) (RL0.cell 0 _ rfl) N) belowK_t (belowK_b (by omega)) (Below.refl _ _) (λ_=>rfl)
  (λE W=>Below j.heap.size j W/\∀x∈E,qij a0 a1 a2 a3 x.1=false)
  (λc E W=>(∃x:SV,c=.ret/\(qag W (w.heap.size+1) (qah x.1)/\qag W (w.heap.size+1+1) [.bool true])/\qsk a0 a1 a2 a3 E x)/\Below w.heap.size w W)
  (OwnFrom.and (ownFrom_below (Nat.le_refl _) (Nat.le_refl _)) (ownFrom_pure _ _))
  (λc=>OwnFrom.and (Own.from (λs A B row U O H=>by obtain⟨x,e,⟨V,Z⟩,h3⟩:=U;exact⟨x,e,⟨V.abides O H (by simp[qah]),Z.abides O H (by simp)⟩,h3⟩) _) (ownFrom_below (Nat.le_refl _) (by omega)))
  ⟨Below.refl _ _,by simp⟩
  (λx a' W=>∃G,w.heap.size+1+1<G/\qag W G (qah x.1)/\a'={tmps:=#[.slice a L.length cap,.agg #[int i64 a0,int i64 a1,int i64 a2,int i64 a3],undef,.pointer (some ⟨w.heap.size,0,none⟩),.pointer (some ⟨w.heap.size+1,0,none⟩),.pointer (some ⟨w.heap.size+1+1,0,none⟩),.pointer (some ⟨G,0,none⟩),.slice a L.length cap,.func (.func 178) #[] #[.pointer (some ⟨w.heap.size+1+1+1,0,none⟩)],.agg #[int i64 x.1.wall,int i64 x.1.count,int i64 x.1.site,int i64 x.1.seq,.string x.1.data,.bool x.1.gone],undef,undef,undef,undef,undef],defers:=[]})
  (λx a' _ X Y row U O H=>by obtain⟨G,V,Z,h3⟩:=U;exact⟨G,V,Z.abides O (λr e=>(H r e).2) (by simp[qah]),h3⟩)
  ?assign ?body ?done ?stop
 case assign=>
  rintro l E x W K ⟨g,F⟩ C;have s1:=g.size
  gi_wp2
  exact C _ _ ((KeepsOthers.alloc _ _).from _) ((Below.refl _ W).alloc (by omega) _) ⟨boxed g _,F⟩ ⟨W.heap.size,by omega,qag.new (w:=W) (T:=130) (qah x.1) rfl,rfl⟩
 case body=>
  rintro l E ⟨x,P,Q⟩ a' W hl ⟨r,H⟩ ⟨g,F⟩ ⟨G,hBx,m,rfl⟩ hlt;have NN:Hid _:=F;clear F N;simp only at m P Q;have RA1:=RA0.later g;obtain⟨c0,c1,c2,c3⟩:=RA1.c4;obtain⟨x0,x1,x2,x3,x4,x5⟩:=m.c6;have d:=RR0.later g;have o:=RF0.later g;cases hh:qij a0 a1 a2 a3 x
  ·have I:Hid _:=hh;clear hh
   gi_wp2_with (refine⟨trivial,?_⟩;gi_at_call 158;refine(CallsIn.inRound l (callsIn_wide.2 (qui I.out P Q _))).mono ?_;rintro e w' ⟨rfl,q⟩)
   exact⟨qhv q,q.mono (by have:=g.size;omega),qac g q,λy hy=>by
        rcases List.mem_append.1 hy with h|h
        ·exact NN.out y h
        ·obtain rfl:=List.mem_singleton.1 h
         exact I.out⟩
  ·have I:Hid _:=hh;clear hh
   gi_wp2_with (refine⟨trivial,?_⟩;gi_at_call 158;refine(CallsIn.inRound l (callsIn_wide.2 (qui I.out P Q _))).mono ?_;rintro e w' ⟨rfl,q⟩;replace m:=m.later q;replace d:=d.later q;replace o:=o.later q;have y0:=m.cell 0 _ rfl;have y1:=m.cell 1 _ rfl;have y2:=m.cell 2 _ rfl;have y3:=m.cell 3 _ rfl;have y4:=m.cell 4 _ rfl;have y5:=m.cell 5 _ rfl;have r0:=d.cell 0 _ rfl;have r1:=d.cell 1 _ rfl;have r2:=d.cell 2 _ rfl;have r3:=d.cell 3 _ rfl;have r4:=d.cell 4 _ rfl;have r5:=d.cell 5 _ rfl;have f0:=o.cell 0 _ rfl;have g0:=d.free 0 (by simp[qah]);have g1:=d.free 1 (by simp[qah]);have g2:=d.free 2 (by simp[qah]);have g3:=d.free 3 (by simp[qah]);have g4:=d.free 4 (by simp[qah]);have g5:=d.free 5 (by simp[qah]);have g6:=o.free 0 (by simp))
   have hB7:Below w.heap.size w w':=qac (qac S g) (q.mono (Nat.le_refl _));refine⟨(qhv q).trans (((qk8 w' (w.heap.size+1) x).trans (KeepsOthers.setCell _ ⟨w.heap.size+1+1,0,none⟩ (.bool true))).from _),⟨⟨x,P,Q⟩,rfl,⟨(d.verSet x).far ⟨w.heap.size+1+1,0,none⟩ (.bool true) (by simp),?_⟩,⟨E,rfl,NN.out,I.out⟩⟩,(qaw hB7 (b:=w.heap.size+1) (by omega) x).setCell (p:=⟨w.heap.size+1+1,0,none⟩) (by simp;omega) _⟩;exact(o.verFar (c:=w.heap.size+1) (by omega) x).set 0 (.bool true) (by simp)
 case done=>
  rintro D ys W hD rfl ⟨g,F⟩ C;have d:=RR0.later g;have o:=RF0.later g;obtain⟨r0,r1,r2,r3,r4,r5⟩:=d.c6;have f0:=o.cell 0 _ rfl;have g0:=d.free 0 (by simp[qah]);have g1:=d.free 1 (by simp[qah]);have g2:=d.free 2 (by simp[qah]);have g3:=d.free 3 (by simp[qah]);have g4:=d.free 4 (by simp[qah]);have g5:=d.free 5 (by simp[qah]);have g6:=o.free 0 (by simp)
  have LN:Hid (qfn a0 a1 a2 a3 L=none):=by show _=_;rw[<-HLS.out];exact qyv F
  have BW:Below w.heap.size w W:=qac S g;clear F N
  gi_wp2
  have R:=((qk8 W (w.heap.size+1) qcj).trans (KeepsOthers.setCell _ ⟨w.heap.size+1+1,0,none⟩ (.bool false))).same D _ C rfl;refine⟨by simp,.inl ⟨_,_,rfl,run_takeDeferred R,?_⟩⟩;have R2:=((d.verSet qcj).far ⟨w.heap.size+1+1,0,none⟩ (.bool false) (by simp)).abides (grownBy_putObj' _ D (.deferred none)) (λr e=>by cases e;exact⟨_,R,rfl⟩) (by simp[qah]);have R3:=((o.verFar (c:=w.heap.size+1) (by omega) qcj).set 0 (.bool false) (by simp)).abides (grownBy_putObj' _ D (.deferred none)) (λr e=>by cases e;exact⟨_,R,rfl⟩) (by simp);rw[LN.out];exact⟨_,qiu (v:=qcj) R2 (R3.cell 0 _ rfl) rfl rfl,rfl,((qaw BW (b:=w.heap.size+1) (by omega) qcj).setCell (p:=⟨w.heap.size+1+1,0,none⟩) (by simp;omega) _).trans (belowK_b (w:=w) (Nat.le_refl _) _ D _ _ (by omega) R rfl rfl)⟩
 case stop=>
  rintro D c E W hD ⟨k,hk,rfl⟩ ⟨⟨x,rfl,⟨R1,R2⟩,hf⟩,hB⟩ C
  have LN:Hid (qfn a0 a1 a2 a3 L=some x.1):=by show _=_;rw[<-HLS.out];exact hf.find
  clear hf N
  gi_wp2
  refine⟨by simp,.inl ⟨_,_,rfl,run_takeDeferred C,?_⟩⟩;have R3:=R1.abides (grownBy_putObj' _ D (.deferred none)) (λr e=>by cases e;exact⟨_,C,rfl⟩) (by simp[qah]);have R4:=R2.abides (grownBy_putObj' _ D (.deferred none)) (λr e=>by cases e;exact⟨_,C,rfl⟩) (by simp);rw[LN.out];exact⟨_,qiu (v:=x.1) R3 (R4.cell 0 _ rfl) rfl rfl,rfl,hB.trans (belowK_b (w:=w) (Nat.le_refl _) _ D _ _ (by omega) C rfl rfl)⟩
end
section
open Go.Value Go.IntKind Go.RowKit
theorem q5q (a b:Ver) (w:World):(binOp .neq 130 (.agg #[int i64 a.wall,int i64 a.count,int i64 a.site,int i64 a.seq,.string a.data,.bool a.gone]) (.agg #[int i64 b.wall,int i64 b.count,int i64 b.site,int i64 b.seq,.string b.data,.bool b.gone])).run Tryz.prog w=.ok (.bool (!eqV a b)) w:=by
 have h:=qzy a b w;rw[run_eql_struct]at h;rw[run_neq_struct]
 generalize (Op.equalIn 10000 130 _ _).run Tryz.prog w=r at*
 cases r with
 |ok b w1=>
  simp only[Result.andThen]at h ⊢;injection h with h1 h2;injection h1 with h1;rw[h1,h2]
 |halt x w1=>simp[Result.andThen]at h
def qnk (a0 a1 a2 a3:Int) (st v:Ver):Bool:=qij a0 a1 a2 a3 v&&!eqV v st
variable {a0 a1 a2 a3:Int} {st:Ver} {A S:Nat}
theorem qtz {v:Ver} {r:Bool} (h:qnk a0 a1 a2 a3 st v=r) (d:0<=v.site) (g:v.site<=3) (w:World) (j:qag w A [int i64 a0,int i64 a1,int i64 a2,int i64 a3]) (RS:qag w S (qah st)):
 Calls Tryz.prog 157 #[.agg #[int i64 v.wall,int i64 v.count,int i64 v.site,int i64 v.seq,.string v.data,.bool v.gone],.pointer (some ⟨A,0,none⟩),.pointer (some ⟨S,0,none⟩)] w λe w'=>e=.returned (.bool r)/\Below w.heap.size w w':=by
 have p:=q5q;have i:=qag.new (w:=w) (T:=130) (qah v) rfl;have hb:=boxed (Below.refl _ w) (.cells (qah v).toArray 130);change qag (w.alloc (.cells #[int i64 v.wall,int i64 v.count,int i64 v.site,int i64 v.seq,.string v.data,.bool v.gone] 130)) w.heap.size (qah v)at i;change Below w.heap.size w (w.alloc (.cells #[int i64 v.wall,int i64 v.count,int i64 v.site,int i64 v.seq,.string v.data,.bool v.gone] 130))at hb;have k:=j.later hb;have l:=RS.later hb;obtain⟨c0,c1,c2,c3⟩:=k.c4;have H:Hid _:=h;clear h;cases hh:qij a0 a1 a2 a3 v
 ·have b:Hid _:=hh
  have c:Hid (r=false):=by show r=false;rw[<-H.out,qnk,hh];rfl
  clear hh;go_enter Tryz.func157,Tryz.ntmps157
  go_wp2_with fail
  refine(qui b.out d g _).mono ?_;rintro e m ⟨rfl,a⟩
  go_wp2_with fail
  go_ret;exact⟨by rw[c.out];rfl,qac hb a⟩
 ·have b:Hid _:=hh
  have c:Hid (r=!eqV v st):=by show r=_;rw[<-H.out,qnk,hh];rfl
  clear hh;go_enter Tryz.func157,Tryz.ntmps157
  go_wp2_with fail
  refine(qui b.out d g _).mono ?_;rintro e m ⟨rfl,a⟩;have n:=i.later a;have o:=l.later a;obtain⟨x0,x1,x2,x3,q,s⟩:=n.c6;obtain⟨u,x,y,z,B,C⟩:=o.c6
  go_wp2_with fail
  go_ret;exact⟨by rw[c.out];rfl,qac hb a⟩
def q32 (a0 a1 a2 a3:Int) (st:Ver) (L:List Ver) (r:Int):Prop:=
 (r= -1/\∀v∈L,qnk a0 a1 a2 a3 st v=false)\/∃k:Nat,k<L.length/\r=k/\qnk a0 a1 a2 a3 st (qbo L k)=true/\∀j,j<k->qnk a0 a1 a2 a3 st (qbo L j)=false
theorem qyx {a:Option Addr} {cap:Nat} {L:List Ver} (w:World) (E:q01 w a cap L) (t:∀v∈L,0<=v.site/\v.site<=3) (M:L.length<=1000) (F:qag w A [int i64 a0,int i64 a1,int i64 a2,int i64 a3]) (RS:qag w S (qah st)):
 Calls Tryz.prog 173 #[.slice a L.length cap,.func (.func 157) #[] #[.pointer (some ⟨A,0,none⟩),.pointer (some ⟨S,0,none⟩)]] w λe w'=>
  ∃r:Int,e=.returned (int i64 r)/\q32 a0 a1 a2 a3 st L r/\Below w.heap.size w w':=by
 have G:Hid _:=t;clear t;go_enter Tryz.func173,Tryz.ntmps173
 go_wp2_with fail
 go_loopw [8] (λiv wr=>∃(k:Nat) (z:Int),k<=L.length/\z=k/\iv=int i64 z/\Hid (∀j,j<k->qnk a0 a1 a2 a3 st (qbo L j)=false)/\Below w.heap.size w wr) (λi _=>L.length-(intOf i).toNat)
 case atStart=>exact⟨0,0,by omega,rfl,rfl,(λj H=>by omega:∀j,j<0->qnk a0 a1 a2 a3 st (qbo L j)=false),Below.refl _ _⟩
 case round=>
  obtain⟨k,z,N,n,rfl,o,hb⟩:=hrel;have x:Hid _:=n;by_cases c:k<L.length
  ·have O:z<(L.length:Int):=by omega
   have P:z.toNat=k:=by omega
   have Q:0<=z:=by omega
   clear n;have B:=E.later hb
   obtain⟨b,R,rfl,h⟩:∃b,b<wr.heap.size/\a=some ⟨b,0,none⟩/\∀i r u,i<L.length->(qah (qbo L i))[r]?=some u->wr.cell? ⟨b,i*6+r,none⟩=some u:=by
        rcases B.held with p|p
        ·rw[p]at c;simp at c
        ·exact p
   obtain⟨y,d⟩:∃y,qbo L k=y:=⟨_,rfl⟩;have q:=G.out _ (qjq c);rw[d]at q;have x0:wr.cell? ⟨b,k*6,none⟩=some (int i64 y.wall):=h k 0 _ c (by rw[d];rfl);have x1:wr.cell? ⟨b,k*6+1,none⟩=some (int i64 y.count):=h k 1 _ c (by rw[d];rfl);have x2:wr.cell? ⟨b,k*6+2,none⟩=some (int i64 y.site):=h k 2 _ c (by rw[d];rfl);have x3:wr.cell? ⟨b,k*6+3,none⟩=some (int i64 y.seq):=h k 3 _ c (by rw[d];rfl);have T:wr.cell? ⟨b,k*6+4,none⟩=some (.string y.data):=h k 4 _ c (by rw[d];rfl);have U:wr.cell? ⟨b,k*6+5,none⟩=some (.bool y.gone):=h k 5 _ c (by rw[d];rfl);have Y:Hid _:=d;have m:Hid _:=q;have C:=F.later hb;have D:=RS.later hb;clear d h B q;cases hd:qnk a0 a1 a2 a3 st y
   ·have l:Hid _:=hd;clear hd
    go_wp2_with fail
    refine(qtz l.out m.out.1 m.out.2 _ C D).mono ?_;rintro e I ⟨rfl,s⟩
    go_wp2_with fail
    go_roundw
    case rel=>exact⟨k+1,z+1,by omega,by have:=x.out;omega,by go_num,(λj H=>by
     rcases Nat.lt_or_ge j k with g|g
     ·exact o.out j g
     ·obtain rfl:j=k:=by omega
      rw[Y.out,l.out]:∀j,j<k+1->qnk a0 a1 a2 a3 st (qbo L j)=false),qac hb s⟩
    case measure=>simp[intOf];omega
   ·have l:Hid _:=hd;clear hd
    go_wp2_with fail
    refine(qtz l.out m.out.1 m.out.2 _ C D).mono ?_;rintro e I ⟨rfl,s⟩
    go_wp2_with fail
    go_ret;exact⟨z,rfl,.inr ⟨k,c,x.out,by rw[Y.out,l.out],o.out⟩,qac hb s⟩
  ·have V:¬z<(L.length:Int):=by omega
   clear n
   go_wp2_with fail
   go_ret;refine⟨-1,rfl,.inl ⟨rfl,λv J=>?_⟩,hb⟩;obtain⟨i,K,rfl⟩:=List.mem_iff_getElem.1 J;have e:=o.out i (by omega)
   rwa [qes K]at e
end
section
open Go.Value Go.IntKind Go.RowKit
theorem qme {P:Program} (w:World) (t e d:TypeId) (z:Value) (f:P.underlying t=some (.slice e)) (h:∀w,(zeroValue e).run P w=.ok z w) (b o n c:Nat) (s:0<n)
 (l:∀u∈(Builtin.zeroCells z.cells n).toList,u.oneCell'=true) (q:∀j,j<(Builtin.zeroCells z.cells n).size->(w.cell? ⟨b,o+j,none⟩).isSome=true) (r:∀j,j<(Builtin.zeroCells z.cells n).size->w.frozen? ⟨b,o+j,none⟩=false):
 (Builtin.clear_ #[t] d #[.slice (some ⟨b,o,none⟩) n c]).run P w=.ok (.tuple #[]) (w.setCells b o (Builtin.zeroCells z.cells n).toList):=by
 have a:=run_storeCells_cells (P:=P) b o (Builtin.zeroCells z.cells n).toList 0 w (by simpa using q) (by simpa using r) l;simp only[Nat.add_zero]at a;obtain⟨m,rfl⟩:∃m,n=m+1:=⟨n-1,by omega⟩;simp[Builtin.clear_,run_underlying f,h,a]
theorem qs0 (n:Nat):∀u∈(Builtin.zeroCells (Value.agg #[int i64 0,int i64 0,int i64 0,int i64 0,.string ⟨#[]⟩,.bool false]).cells n).toList,u.oneCell'=true:=by
 intro u a;simp only[Builtin.zeroCells,Array.toList_map,List.mem_map]at a;obtain⟨i,_,rfl⟩:=a;have c:(Value.agg #[int i64 0,int i64 0,int i64 0,int i64 0,.string ⟨#[]⟩,.bool false]).cells=#[int i64 0,int i64 0,int i64 0,int i64 0,.string ⟨#[]⟩,.bool false]:=rfl;rw[c];have b:i%6<6:=Nat.mod_lt _ (by decide);have e:(#[Value.int .i64 0,int i64 0,int i64 0,int i64 0,.string ⟨#[]⟩,.bool false]:Array Value).size=6:=rfl;rw[e]
 generalize i%6=m at b
 match m,b with
 |0,_=>rfl
 |1,_=>rfl
 |2,_=>rfl
 |3,_=>rfl
 |4,_=>rfl
 |5,_=>rfl
theorem qp1:∀(M:List Ver) (i:Nat) (v:Ver),qax (M.set i v)=((((((qax M).set (i*6) (int i64 v.wall)).set (i*6+1) (int i64 v.count)).set (i*6+2) (int i64 v.site)).set (i*6+3) (int i64 v.seq)).set (i*6+4) (.string v.data)).set (i*6+5) (.bool v.gone)
 |[],i,v=>by simp[qax]
 |x::M,0,v=>by simp[qax,qah]
 |x::M,i+1,v=>by
  have e:∀r,(i+1)*6+r=(qah x).length+(i*6+r):=λr=>by rw[qce];omega
  have a:(i+1)*6=(qah x).length+i*6:=by rw[qce];omega
  rw[List.set_cons_succ,qdu,qdu,e 1,e 2,e 3,e 4,e 5,a,qp1 M i v];simp only[List.set_append_right _ _ (Nat.le_add_right _ _),Nat.add_sub_cancel_left]
abbrev qqk (w:World) (g o:Nat) (x:Ver):World:=(((((w.setCell ⟨g,o,none⟩ (int i64 x.wall)).setCell ⟨g,o+1,none⟩ (int i64 x.count)).setCell ⟨g,o+2,none⟩ (int i64 x.site)).setCell ⟨g,o+3,none⟩ (int i64 x.seq)).setCell ⟨g,o+4,none⟩ (.string x.data)).setCell ⟨g,o+5,none⟩ (.bool x.gone)
variable {w:World} {g n i:Nat} {M:List Ver}
theorem qia {cap:Nat} {T:TypeId} (h:w.ownsRow 0 T 6 (.slice (some ⟨g,0,none⟩) n cap) n (qax M)) (v:Ver):(qqk w g (i*6) v).ownsRow 0 T 6 (.slice (some ⟨g,0,none⟩) n cap) n (qax (M.set i v))/\qdc g w (qqk w g (i*6) v):=by
 have s0:=h.stored (i*6) (int i64 v.wall);have s1:=s0.1.stored (i*6+1) (int i64 v.count);have s2:=s1.1.stored (i*6+2) (int i64 v.site);have s3:=s2.1.stored (i*6+3) (int i64 v.seq);have a:=s3.1.stored (i*6+4) (.string v.data);have b:=a.1.stored (i*6+5) (.bool v.gone);refine⟨by rw[qp1];exact b.1,?_⟩;exact(((((show qdc g _ _ from s0.2).trans s1.2 (.inl rfl)).trans s2.2 (.inl rfl)).trans s3.2 (.inl rfl)).trans a.2 (.inl rfl)).trans b.2 (.inl rfl)
def qlq (w:World) (sv:Value) (L':List Ver) (v':Value) (w':World):Prop:=
 w'.ownsRow 0 130 6 v' L'.length (qax L')/\w.grownBy w' sv.ownBlock/\v'.ownBlock=sv.ownBlock
structure qge (w:World) (g n cap:Nat) (L:List Ver) (p:Ver->Bool) (i k:Nat) (M:List Ver):Prop where
 own:w.ownsRow 0 130 6 (.slice (some ⟨g,0,none⟩) n cap) n (qax M)
 len:M.length=n
 head:M.take i=(L.take k).filter p
 tail:M.drop k=L.drop k
 lt:i<k
variable {L:List Ver} {p:Ver->Bool} {k:Nat}
theorem qge.at {cap:Nat} (h:qge w g n cap L p i k M):qbo M k=qbo L k:=by
 have e:=congrArg List.head? h.tail;rw[List.head?_drop,List.head?_drop]at e;simp only[qbo,List.getD,e]
theorem qpg (a:k<L.length):L.take (k+1)=L.take k++[qbo L k]:=by
 rw[List.take_succ_eq_append_getElem a,qes a]
theorem qur (c:k<=L.length) (h:∀j,j<k->p (qbo L j)=true):(L.take k).filter p=L.take k:=by
 rw[List.filter_eq_self];intro v a;obtain⟨i,b,rfl⟩:=List.mem_iff_getElem.1 a;rw[List.length_take]at b;have:=h i (by omega);rw[qes (by omega)]at this;rw[List.getElem_take];exact this
theorem qge.later {w':World} {cap:Nat} (h:qge w g n cap L p i k M) (hb:Below w.heap.size w w'):qge w' g n cap L p i k M:=⟨qgp h.own hb,h.len,h.head,h.tail,h.lt⟩
theorem qge.skip {cap:Nat} (h:qge w g n cap L p i k M) (a:k<L.length) (b:p (qbo L k)=false):qge w g n cap L p i (k+1) M:=by
 refine⟨h.own,h.len,?_,?_,Nat.lt_succ_of_lt h.lt⟩
 ·rw[qpg a,List.filter_append,h.head];simp[b]
 ·rw[<-List.drop_drop,h.tail,List.drop_drop]
theorem qge.keep {cap:Nat} (h:qge w g n cap L p i k M) (d:L.length=n) (a:k<L.length) (b:p (qbo L k)=true):qge (qqk w g (i*6) (qbo L k)) g n cap L p (i+1) (k+1) (M.set i (qbo L k)):=by
 have c:i<M.length:=by have:=h.lt;have:=h.len;omega
 refine⟨(qia h.own (qbo L k)).1,by rw[List.length_set];exact h.len,?_,?_,Nat.succ_lt_succ h.lt⟩
 ·rw[qpg a,List.filter_append,<-h.head,List.take_succ_eq_append_getElem (by simpa using c),List.getElem_set_self,List.take_set_of_le (Nat.le_refl _)];simp[b]
 ·rw[List.drop_set_of_lt (by have:=h.lt;omega),<-List.drop_drop,h.tail,List.drop_drop]
theorem qu1 {sv:Value} {a0 a1 a2 a3:Int} {st:Ver} {A S:Nat} (w:World) (X:w.ownsRow 0 130 6 sv L.length (qax L)) (hok:∀v∈L,0<=v.site/\v.site<=3) (hl:L.length<=1000) (D:qag w A [int i64 a0,int i64 a1,int i64 a2,int i64 a3]) (RS:qag w S (qah st)) (hA:sv.ownBlock≠some A) (hS:sv.ownBlock≠some S):
 Calls Tryz.prog 156 #[sv,.func (.func 157) #[] #[.pointer (some ⟨A,0,none⟩),.pointer (some ⟨S,0,none⟩)]] w λe w'=>
  ∃v',e=.returned v'/\qlq w sv (L.filter λv=>!qnk a0 a1 a2 a3 st v) v' w':=by
 obtain⟨a,cap,rfl,J⟩:=qfw X;have hix:=qyx w J hok hl D RS;have HOK:Hid _:=hok;obtain⟨P,hP⟩:∃P:Ver->Bool,P=λv=>!qnk a0 a1 a2 a3 st v:=⟨_,rfl⟩;have K:Hid _:=hP;rw[<-hP];clear hok hP;go_enter Tryz.func156,Tryz.ntmps156
 go_wp2_with fail
 refine hix.mono ?_;rintro e w1 ⟨r,rfl,hI,m⟩;rcases hI with ⟨rfl,hall⟩|⟨k,H,rfl,E,hnt⟩
 ·have FE:Hid (L.filter P=L):=by
   show L.filter P=L;rw[List.filter_eq_self,K.out];intro v hv;simp[hall v hv]
  have own1:=qgp X m;clear hall
  go_wp2_with fail
  go_ret;rw[FE.out];exact⟨_,rfl,own1,⟨m.os,m.tape,m.output,m.size,λk H _=>m.block k H⟩,rfl⟩
 ·obtain⟨g,hgl,rfl,hcc⟩:∃b,b<w.heap.size/\a=some ⟨b,0,none⟩/\∀i r u,i<L.length->(qah (qbo L i))[r]?=some u->w.cell? ⟨b,i*6+r,none⟩=some u:=by
   rcases J.held with h0|h0
   ·rw[h0]at H;simp at H
   ·exact h0
  obtain⟨n,Z⟩:∃n,L.length=n:=⟨_,rfl⟩;have hc1:=J.len;have hc2:=J.cap
  have D0:qge w1 g n cap L P k (k+1) L:=by
   rw[<-Z];refine⟨qgp X m,rfl,?_,rfl,Nat.lt_succ_self _⟩;rw[qpg H,List.filter_append,qur (by omega) (λj hj=>by rw[K.out];simp[hnt j hj]),K.out];simp[E]
  have hgA:A≠g:=λe=>hA (by rw[e];rfl);have hgS:S≠g:=λe=>hS (by rw[e];rfl);have N:Hid _:=Z;rw[Z]at hl hc1 H ⊢;have ne1:((k:Int)== -1)=false:=beq_eq_false_iff_ne.2 (by omega);have F:=D.later m;have G:=RS.later m;have Q:qdc g w w1:=qdc.ofBelow m;clear hcc J X hnt E Z hix D RS m hA hS
  go_wp2_with fail
  go_loopw [5,6] (λs5 s6 wr=>∃(i j:Nat) (c s:Int) (M:List Ver),j<=n/\c=i/\s=j/\s5=int i64 c/\s6=int i64 s/\Hid (qge wr g n cap L P i j M)/\qag wr A [int i64 a0,int i64 a1,int i64 a2,int i64 a3]/\qag wr S (qah st)/\qdc g w wr) (λ_ j _=>n-(intOf j).toNat)
  case atStart=>exact⟨k,k+1,k,(k:Int)+1,L,by omega,rfl,by omega,rfl,by go_num,D0,F,G,Q⟩
  case round=>
   clear D0 F G Q;obtain⟨i,j,c,s,M,hj,hzi,hzj,rfl,rfl,DD,D,RS,O⟩:=hrel;have o:=DD.out;have hij:=o.lt
   have hil:i<n:=by omega
   have HZ:Hid (c=i/\s=j):=⟨hzi,hzj⟩;by_cases hlt:j<n
   ·have h1:s<(n:Int):=by omega
    have h2:s.toNat=j:=by omega
    have h3:0<=s:=by omega
    have h4:c<(n:Int):=by omega
    have h5:c.toNat=i:=by omega
    have h6:0<=c:=by omega
    clear hzi hzj;obtain⟨y,hy⟩:∃y,qbo L j=y:=⟨_,rfl⟩;have hsy:=HOK.out _ (qjq (l:=L) (i:=j) (by rw[N.out];exact hlt));rw[hy]at hsy;have hMy:qbo M j=y:=o.at.trans hy;have q:=λr u (h:(qah (qbo M j))[r]?=some u)=>(o.own.cells (g:=g) rfl _ u (qll M j r u (by rw[o.len];exact hlt) h));have C:=λr u (h:(qah y)[r]?=some u)=>(by have:=q r u (by rw[hMy];exact h);rwa [qb8]at this:wr.cell? ⟨g,j*6+r,none⟩=some u);have x0:wr.cell? ⟨g,j*6,none⟩=some (int i64 y.wall):=C 0 _ rfl;have x1:wr.cell? ⟨g,j*6+1,none⟩=some (int i64 y.count):=C 1 _ rfl;have x2:wr.cell? ⟨g,j*6+2,none⟩=some (int i64 y.site):=C 2 _ rfl;have x3:wr.cell? ⟨g,j*6+3,none⟩=some (int i64 y.seq):=C 3 _ rfl;have x4:wr.cell? ⟨g,j*6+4,none⟩=some (.string y.data):=C 4 _ rfl;have x5:wr.cell? ⟨g,j*6+5,none⟩=some (.bool y.gone):=C 5 _ rfl;have Y:Hid _:=hy;have HS:Hid _:=hsy;have hbx:=boxed (Below.refl _ wr) (.cells #[int i64 y.wall,int i64 y.count,int i64 y.site,int i64 y.seq,.string y.data,.bool y.gone] 130);have RX:=qag.new (w:=wr) (T:=130) (qah y) rfl;change qag (wr.alloc (.cells #[int i64 y.wall,int i64 y.count,int i64 y.site,int i64 y.seq,.string y.data,.bool y.gone] 130)) wr.heap.size (qah y)at RX;have F:=D.later hbx;have G:=RS.later hbx;have DR1:=o.later hbx;have Q:=O.trans (qdc.ofBelow (g:=g) hbx) (.inl rfl)
    have hgw:g<wr.heap.size:=by have:=O.size;omega
    clear hy hsy hMy q C o DD D RS O;have D1:Hid _:=DR1;clear DR1;cases E:qnk a0 a1 a2 a3 st y
    ·have R:Hid _:=E;clear E
     go_wp2_with fail
     refine(qtz R.out HS.out.1 HS.out.2 _ F G).mono ?_;rintro e w2 ⟨rfl,d⟩;have x:=D1.out.later d;have RA2:=F.later d;have RS2:=G.later d;have RX2:=RX.later d;have O2:=Q.trans (qdc.ofBelow (g:=g) d) (.inl rfl);obtain⟨z,hold⟩:∃z,qbo M i=z:=⟨_,rfl⟩
     have q:=λr u (h:(qah z)[r]?=some u)=>(by
         have:=(x.own.cells (g:=g) rfl _ u (qll M i r u (by rw[x.len];exact hil) (by rw[hold];exact h)))
         rwa [qb8]at this:w2.cell? ⟨g,i*6+r,none⟩=some u)
     have z0:w2.cell? ⟨g,i*6,none⟩=some (int i64 z.wall):=q 0 _ rfl;have z1:w2.cell? ⟨g,i*6+1,none⟩=some (int i64 z.count):=q 1 _ rfl;have z2:w2.cell? ⟨g,i*6+2,none⟩=some (int i64 z.site):=q 2 _ rfl;have z3:w2.cell? ⟨g,i*6+3,none⟩=some (int i64 z.seq):=q 3 _ rfl;have z4:w2.cell? ⟨g,i*6+4,none⟩=some (.string z.data):=q 4 _ rfl;have z5:w2.cell? ⟨g,i*6+5,none⟩=some (.bool z.gone):=q 5 _ rfl;have fz:=λt=>x.own.frozenAt t;obtain⟨y0,y1,y2,y3,y4,y5⟩:=RX2.c6;have DK:=x.keep N.out (by rw[N.out];exact hlt) (by rw[Y.out,K.out];simp[R.out]);rw[Y.out]at DK;have O3:=O2.trans (qia (i:=i) x.own y).2 (.inl rfl);have RA3:qag (qqk w2 g (i*6) y) A [int i64 a0,int i64 a1,int i64 a2,int i64 a3]:=RA2.only (qia (i:=i) x.own y).2 hgA;have RS3:qag (qqk w2 g (i*6) y) S (qah st):=RS2.only (qia (i:=i) x.own y).2 hgS;have DK':Hid _:=DK;clear q hold x RA2 RS2 O2 DK RX2 d
     go_wp2_with fail
     go_roundw
     case rel=>exact⟨i+1,j+1,c+1,s+1,M.set i y,by omega,by have:=HZ.out;omega,by have:=HZ.out;omega,by go_num,by go_num,DK',RA3,RS3,O3⟩
     case measure=>simp[intOf];omega
    ·have R:Hid _:=E;clear E
     go_wp2_with fail
     refine(qtz R.out HS.out.1 HS.out.2 _ F G).mono ?_;rintro e w2 ⟨rfl,d⟩;have x:Hid _:=(D1.out.later d).skip (by rw[N.out];exact hlt) (by rw[Y.out,K.out];simp[R.out]);have RA2:=F.later d;have RS2:=G.later d;have O2:=Q.trans (qdc.ofBelow (g:=g) d) (.inl rfl);clear d
     go_wp2_with fail
     go_roundw
     case rel=>exact⟨i,j+1,c,s+1,M,by omega,by have:=HZ.out;omega,by have:=HZ.out;omega,rfl,by go_num,x,RA2,RS2,O2⟩
     case measure=>simp[intOf];omega
   ·have hjn:j=n:=by omega
    have h1:¬s<(n:Int):=by omega
    have h5:c.toNat=i:=by omega
    have h6:0<=c:=by omega
    have h7:c<=(n:Int):=by omega
    have h8:¬(cap=i):=by omega
    obtain⟨g1,cap1,cur,h',hB,hg,hnc,hcm,hcs,htake⟩:=o.own.2.resolve_left (λh=>by simp at h);simp only[Value.slice.injEq,Option.some.injEq,Addr.mk.injEq,and_true,true_and]at h';obtain⟨rfl,rfl⟩:=h';have hz6:(Value.agg #[int i64 0,int i64 0,int i64 0,int i64 0,.string ⟨#[]⟩,.bool false]).cells.size=6:=rfl;obtain⟨I,hZS⟩:∃I,I=Builtin.zeroCells (Value.agg #[int i64 0,int i64 0,int i64 0,int i64 0,.string ⟨#[]⟩,.bool false]).cells (n-i):=⟨_,rfl⟩
    have hZl:I.size=(n-i)*6:=by rw[hZS,size_zeroCells,hz6]
    have hcl:∀ty,(Builtin.clear_ #[142] ty #[.slice (some ⟨g,i*6,none⟩) (n-i) (cap-i)]).run Tryz.prog wr=.ok (.tuple #[]) (wr.setCells g (i*6) I.toList):=λty=>by
     rw[hZS];refine qme wr _ 130 ty _ Tryz.underlying142 Tryz.zeroValue130 g (i*6) (n-i) (cap-i) (by omega) (qs0 _) (λt U=>?_) (λt U=>frozen_of_row wr g _ cur _ hg);rw[size_zeroCells,hz6]at U;rw[cell_of_row wr g _ cur _ (0,0) hg,Array.getElem?_eq_getElem (by omega)];rfl
    obtain⟨V,W⟩:∃V,V=wr.setCells g (i*6) I.toList:=⟨_,rfl⟩
    have hLF:L.filter P=M.take i:=by
     rw[o.head,List.take_of_length_le (by rw[N.out];omega)]
    have hLl:(M.take i).length=i:=by rw[List.length_take,o.len];omega
    have OUT:Hid (qlq w (.slice (some ⟨g,0,none⟩) n cap) (L.filter P) (.slice (some ⟨g,0,none⟩) i cap) V):=by
     obtain⟨c1,q1,C⟩:=qcd g I.toList (i*6) wr hg;rw[<-W]at q1
     have OK:=qfq (w:=V) (B:=0) (n:=i) (cap:=cap) (k:=6) (xs:=qax (M.take i)) (Nat.zero_le _) q1 hcm (by omega) (by omega) (by rw[qcs,hLl]) (λt u hu=>by
         have U:t<i*6:=by have:=(List.getElem?_eq_some_iff.1 hu).1;rwa [qcs,hLl]at this
         rw[W,World.cell?_setCells_out g _ _ _ _ (λ_ _=>.inl U)];have:=o.own.cells (g:=g) rfl t u (by rw[<-qh5,List.getElem?_take,if_pos U]at hu;exact hu)
         rwa [qb8]at this)
     rw[hLF];refine⟨by rw[hLl];exact OK,?_,rfl⟩
     have o2:qdc g wr V:=by rw[W];exact qbm _ _ _ _
     exact O.trans o2 (.inl rfl)
    rw[<-W]at hcl;clear W hZS hZl hz6 hLF hLl hB hg hnc hcm hcs htake o DD O D RS hzi hzj
    go_wp2_with fail
    go_ret;exact⟨_,rfl,OUT.out⟩
end
section
open Tryz Go.RowKit
variable {p:Nat} {L:List Ver}
theorem qsd {g n cap:Nat} (v:Ver) (i:Nat) (w:World) (K:w.ownsRow 0 130 6 (.slice (some ⟨g,0,none⟩) n cap) n (qax L)) (M:L.length=n) (hl:n<=1000) (hp:p<n) (hroom:¬n+1<=cap) (N:w.heap[i]?=some (.cells (qah v).toArray 130 (0,0))):
 Calls prog 177 #[.slice (some ⟨g,0,none⟩) n cap,.int .i64 p,.slice (some ⟨i,0,none⟩) 1 1] w λe w'=>
  ∃g' Z,e=.returned (.slice (some ⟨g',0,none⟩) (n+1) Z)/\qf1 w (.slice (some ⟨g,0,none⟩) n cap) (qpt L p v) g' Z w':=by
 obtain⟨g1,cap1,cur,h',hB,hg,hnc,hcm,hcs,htake⟩:=K.2.resolve_left (λh=>by simp at h);simp only[Value.slice.injEq,Option.some.injEq,Addr.mk.injEq,and_true,true_and]at h';obtain⟨rfl,rfl⟩:=h'
 obtain rfl:cap=n:=by omega
 obtain⟨i0,hi0,hz0,hzs,O⟩:=info_parts qw1
 have P:(qax (L.drop p)).length=(cap-p)*6:=by rw[qcs,List.length_drop,M]
 have r:(qax (L.take p)).length=p*6:=by rw[qcs,List.length_take];omega
 have Q:∀j u,(qax L)[j]?=some u->w.cell? ⟨g,j,none⟩=some u:=λj u b=>by have:=K.cells (g:=g) rfl j u b;rwa [qb8]at this
 have hnews:∀j u,(qah v)[j]?=some u->w.cell? ⟨i,j,none⟩=some u:=λj u b=>by
  rw[cell_of_row w i j _ 130 (0,0) N];simpa using b
 have h1:∀u∈qah v,u.oneCell'=true:=λu b=>qgn [v] u (by rw[qhs];exact b);have hbw:g<w.heap.size:=(Array.getElem?_eq_some_iff.1 hg).1;have hvw:i<w.heap.size:=(Array.getElem?_eq_some_iff.1 N).1
 have hold:(Builtin.firstCells i0.size p (.slice (some ⟨g,0,none⟩) p cap)).run prog w.drew=.ok (qax (L.take p)).toArray w.drew:=by
  rw[hzs]
  exact run_firstCells_some w.drew 6 p ⟨g,0,none⟩ p cap (qax (L.take p)) r (λj u a=>by
   rw[qb8];rw[<-qh5,List.getElem?_take]at a;split at a
   ·exact Q j u a
   ·cases a)
 obtain⟨G,E⟩:∃G,G=grownCap w (cap+1) cap 130:=⟨_,rfl⟩
 have hGn:cap+1<=G:=by rw[E];exact grownCap_ge w _ _ _
 have R:G<=maxLen:=by rw[E];exact grownCap_le_maxLen w (cap+1) cap _ (by unfold maxLen;omega)
 obtain⟨d,F⟩:∃d:Array Value,d=(qax (L.take p)).toArray++Builtin.zeroCells (Value.agg #[.int .i64 0,.int .i64 0,.int .i64 0,.int .i64 0,.string ⟨#[]⟩,.bool false]).cells (cap+1-p)++Builtin.zeroCells (Value.agg #[.int .i64 0,.int .i64 0,.int .i64 0,.int .i64 0,.string ⟨#[]⟩,.bool false]).cells (G-(cap+1)):=⟨_,rfl⟩;have hz6:(Value.agg #[.int .i64 0,.int .i64 0,.int .i64 0,.int .i64 0,.string ⟨#[]⟩,.bool false]).cells.size=6:=rfl
 have hRs:d.size=G*6:=by
  rw[F];simp only[Array.size_append,List.size_toArray,size_zeroCells,hz6,r];omega
 have hRA:∀j u,(qax (L.take p))[j]?=some u->d[j]?=some u:=λj u b=>by
  have a:j<(qax (L.take p)).length:=(List.getElem?_eq_some_iff.1 b).1;rw[F,Array.append_assoc,Array.getElem?_append_left (by simpa using a)];simpa using b
 have hkk:(cap:Int)+1-(p:Int)=((cap+1-p:Nat):Int):=by omega
 have S:p+(cap+1-p)=cap+1:=by omega
 have hrz:∀c,(Builtin.append_ #[142,3] c #[.slice (some ⟨g,0,none⟩) p cap,.int .i64 ((cap:Int)+1-(p:Int))]).run prog w=
  .ok (.slice (some ⟨w.heap.size,0,none⟩) (cap+1) G) (w.drew.alloc (.cells d 130)):=λc=>by
  have h:=Lib.run_append_grow_zeros w 142 3 c 130 i0 _ .i64 .i64 underlying142 underlying3 hi0 hz0 (some ⟨g,0,none⟩) p cap (qax (L.take p)) hold (cap+1-p) (by omega) (by omega) (by omega) (by omega) (by rw[O];omega) (by rw[O,S];exact growslice_fits (by omega) (by omega));rw[S,<-E,<-F]at h;rw[hkk];exact h
 obtain⟨W1,H⟩:∃W1,W1=w.drew.alloc (.cells d 130):=⟨_,rfl⟩
 have s:W1.heap[w.heap.size]?=some (.cells d 130 (0,0)):=by rw[H];exact heap_alloc_new w.drew _
 have y:∀j,j<G*6->(W1.cell? ⟨w.heap.size,j,none⟩).isSome=true:=λj a=>by
  rw[cell_of_row W1 w.heap.size j d _ (0,0) s,Array.getElem?_eq_getElem (by omega)];rfl
 have hNA:∀j u,(qax (L.take p))[j]?=some u->W1.cell? ⟨w.heap.size,j,none⟩=some u:=λj u b=>by
  rw[cell_of_row W1 w.heap.size j d _ (0,0) s];exact hRA j u b
 have U:∀j,W1.frozen? ⟨w.heap.size,j,none⟩=false:=λj=>frozen_of_row W1 w.heap.size j d _ s
 have I:Below w.heap.size w W1:=by rw[H];exact boxed (Below.refl _ w).drew _
 have hcpA:∀(W:World),(∀x,W.cell? x=W1.cell? x)->(∀x,W.frozen? x=W1.frozen? x)->∀c l,(Builtin.copy_ #[142,142] c #[.slice (some ⟨w.heap.size,p*6,none⟩) (cap+1-p) l,.slice (some ⟨i,0,none⟩) 1 1]).run prog W=.ok (goInt 1) (W.setCells w.heap.size (p*6) (qah v)):=λW z V c l=>
  qid W _ _ c 130 6 w.heap.size (p*6) (cap+1-p) l ⟨i,0,none⟩ 1 1 1 (qah v) underlying142 qoq (by simp only[Nat.min_def];split<;>omega) rfl
   (λj u a=>by
        rw[qb8,z]
        exact cell_later I (hnews j u a))
   (λj a=>by rw[z];exact y _ (by simp[qah]at a;omega))
   (λj a=>by rw[V];exact U _) h1
 have hcpB:∀(W:World),(∀x,W.cell? x=(W1.setCells w.heap.size (p*6) (qah v)).cell? x)->(∀x,W.frozen? x=(W1.setCells w.heap.size (p*6) (qah v)).frozen? x)->∀c l Y,(Builtin.copy_ #[142,142] c #[.slice (some ⟨w.heap.size,(p+1)*6,none⟩) (cap-p) l,.slice (some ⟨g,p*6,none⟩) (cap-p) Y]).run prog W=.ok (goInt (cap-p:Nat)) (W.setCells w.heap.size ((p+1)*6) (qax (L.drop p))):=λW z V c l Y=>
  qid W _ _ c 130 6 w.heap.size ((p+1)*6) (cap-p) l ⟨g,p*6,none⟩ (cap-p) Y (cap-p) (qax (L.drop p)) underlying142 qoq (by simp) P
   (λj u a=>by
        rw[Addr.add_lit,z,World.cell?_setCells_out _ _ _ _ _ (λh _=>absurd h (by show g≠w.heap.size;omega))]
        exact cell_later I (Q (p*6+j) u (by rw[<-qkz,List.getElem?_drop]at a;exact a)))
   (λj a=>by
        rw[z]
        exact qh7 w.heap.size (qah v) (p*6) W1 (λt ht=>y (p*6+t) (by simp[qah]at ht;omega)) ((p+1)*6+j) (y ((p+1)*6+j) (by omega)))
   (λj a=>by rw[V,World.frozen?_setCells];exact U _) (qgn _)
 obtain⟨m,q⟩:∃m,m=W1.setCells w.heap.size (p*6) (qah v):=⟨_,rfl⟩;obtain⟨J,B⟩:∃J,J=m.drew.setCells w.heap.size ((p+1)*6) (qax (L.drop p)):=⟨_,rfl⟩
 have OUT:Hid (qf1 w (.slice (some ⟨g,0,none⟩) cap cap) (qpt L p v) w.heap.size G J):=by
  obtain⟨c1,q1,q2⟩:=qcd w.heap.size (qah v) (p*6) W1 s;rw[<-q]at q1;obtain⟨c2,q3,q4⟩:=qcd w.heap.size (qax (L.drop p)) ((p+1)*6) m.drew (cur:=c1) (T:=130) q1;rw[<-B]at q3;refine⟨qfq (Nat.zero_le _) q3 R (by omega) (by rw[qgr v (by omega)];omega) (qcs _) ?_,?_,.inr (Nat.le_refl _)⟩
  ·rw[qqw];have:=qk6 (w:=W1) (g:=w.heap.size) (qax (L.take p)) (qah v) (qax (L.drop p)) hNA (λj a=>y j (by rw[r,P,qce]at a;omega));rw[r,qce,show p*6+6=(p+1)*6 by omega,<-q]at this;intro j u b;rw[B];have e:=this j u b;rw[<-e]
   have hh:∀(C:List Value) (o:Nat) (X:World),(X.drew.setCells w.heap.size o C).heap=(X.setCells w.heap.size o C).heap:=by
        intro C
        induction C with
        |nil=>intro o X;rfl
        |cons u C ih=>intro o X;exact ih (o+1) (X.setCell ⟨w.heap.size,o,none⟩ u)
   unfold World.cell?;rw[hh]
  ·have o1:qdc w.heap.size W1 m:=by rw[q];exact qbm _ _ _ _
   have o2:qdc w.heap.size m J:=by rw[B];exact(qdc.ofBelow (Below.refl _ _).drew).trans (qbm _ _ _ _) (.inl rfl)
   have D:=(qdc.ofBelow (g:=w.heap.size) I).trans (o1.trans o2 (.inl rfl)) (.inl rfl);exact⟨D.os,D.tape,D.output,D.size,λk hk _=>D.block k hk (λe=>by injection e;omega)⟩
 have hA3:=hcpA W1 (λ_=>rfl) (λ_=>rfl);have hB3:=hcpB m.drew (λx=>by rw[<-q];rfl) (λx=>by rw[<-q];rfl);rw[<-q]at hA3;rw[<-B]at hB3;rw[<-H]at hrz
 have hw1:IntKind.i64.wrap ((p:Int)+1)=(p:Int)+1:=by rw[IntKind.wrap_i64];omega
 have hw2:(0:Int)<=(p:Int)+1:=by omega
 have hin:p<=cap:=by omega
 have htn:((p:Int)+1).toNat=p+1:=by omega
 have hG63:G<=9223372036854775807:=by simp only[maxLen]at R;omega
 have hG1:¬(G=p+1):=by omega
 have hG2:¬(G=p):=by omega
 have hc1:¬(cap=p):=by omega
 have hb3:(p:Int)<=(cap:Int)+1:=by omega
 have hb5:(p:Int)<=(cap:Int):=by omega
 have hz2:¬((p:Int)=(cap:Int)):=by omega
 have hz3:(cap:Int)<(cap:Int)+1:=by omega
 have EL:Hid _:=M;clear P r Q hnews h1 htake K hcs hB hg N M hold F E hRs hRA hz6 H q B s y hNA U hcpA hcpB hkk S hi0 hz0 hzs O I hnc hcm R;go_enter func177,ntmps177
 go_wp2_with (first
  |(at_builtin;refine Lib.wpList_append_run _ rfl _ _ _ _ rfl _ _ rfl rfl _ _ (hrz _) ?_)
  |(at_builtin;refine qhe _ rfl _ _ 142 142 rfl _ _ rfl rfl (hA3 _ _) ?_))
 go_region_law (refine qju rfl _ _ 142 142 rfl _ _ (by simp[Act.eval,Act.put]) (by simp[Act.eval,Act.put]) (hB3 _ _ _) ?_)
 go_wp2_with fail
 go_ret;exact⟨w.heap.size,G,rfl,OUT.out⟩
theorem q09 (L:List Ver) (v:Ver):qpt L L.length v=L++[v]:=by simp[qpt]
theorem qu0 {sv:Value} (v:Ver) (a:Nat) (w:World) (b:w.ownsRow 0 130 6 sv L.length (qax L)) (k:p<=L.length) (c:L.length<=1000) (d:w.heap[a]?=some (.cells (qah v).toArray 130 (0,0))) (j:sv.ownBlock≠some a):
 Calls prog 177 #[sv,.int .i64 p,.slice (some ⟨a,0,none⟩) 1 1] w λe w'=>
  ∃g cap,e=.returned (.slice (some ⟨g,0,none⟩) (L.length+1) cap)/\qf1 w sv (qpt L p v) g cap w':=by
 rcases Nat.lt_or_ge p L.length with h|h
 ·rcases b.2 with ⟨_,l⟩|⟨g,cap,cur,rfl,_⟩
  ·omega
  ·by_cases i:L.length+1<=cap
   ·exact qpw v a w b rfl c h i d (λe=>j (by rw[e];rfl))
   ·exact qsd v a w b rfl c h i d
 ·obtain rfl:p=L.length:=by omega
  rw[q09];exact qwk v a w b c d
end
section
open Go.RowKit
def qjk (l:List Hd) (k:Nat):List Ver:=(l.filter λh=>decide (h.key=(k:Int))).map (·.v)
variable {l:List Hd} {k:Nat}
theorem q2x {v:Ver}:v∈qjk l k↔(⟨k,v⟩:Hd)∈l:=by
 unfold qjk;rw[List.mem_map]
 constructor
 ·rintro ⟨⟨key,u⟩,h,rfl⟩;have:=List.mem_filter.1 h;have e:key=(k:Int):=of_decide_eq_true this.2;subst e;exact this.1
 ·intro h;exact⟨⟨k,v⟩,List.mem_filter.2 ⟨h,by simp⟩,rfl⟩
theorem ql2 (a b:List Hd) (k:Nat):qjk (a++b) k=qjk a k++qjk b k:=by simp[qjk]
theorem qqc (k:Nat) (v:Ver):qjk [⟨k,v⟩] k=[v]:=by simp[qjk]
theorem qn6 {key:Int} (v:Ver) (h:key≠(k:Int)):qjk [⟨key,v⟩] k=[]:=by simp[qjk,h]
theorem qlt:∀(l:List Hd),(∀h∈l,inB h.key 0 7=true)->(qjk l 0).length+(qjk l 1).length+(qjk l 2).length+(qjk l 3).length+(qjk l 4).length+(qjk l 5).length+(qjk l 6).length+(qjk l 7).length=l.length
 |[],_=>rfl
 |⟨key,v⟩::l,h=>by
  have d:=qlt l (λx b=>h x (List.mem_cons_of_mem _ b));have c:=qa5.1 (h ⟨key,v⟩ (List.mem_cons_self ..));simp only at c;have e:∀k,qjk (⟨key,v⟩::l) k=qjk [⟨key,v⟩] k++qjk l k:=λk=>ql2 [⟨key,v⟩] l k
  have s:∀k:Nat,(qjk [⟨key,v⟩] k).length=if key=(k:Int)then 1 else 0:=λk=>by
   by_cases a:key=(k:Int)
   ·rw[if_pos a,a,qqc];rfl
   ·rw[if_neg a,qn6 v a];rfl
  simp only[e,List.length_append,s,List.length_cons]
  have:key=0\/key=1\/key=2\/key=3\/key=4\/key=5\/key=6\/key=7:=by omega
  rcases this with rfl|rfl|rfl|rfl|rfl|rfl|rfl|rfl<;>simp<;>omega
theorem qpi {a b:Ver} (h:qaj a b=true):qaj b a=false:=by
 cases hq:qaj b a
 ·rfl
 ·rw[qch]at h hq;omega
variable {L:List Ver} {t:Ver} {p:Nat}
theorem qq4 (f:qdl L) (e:q3a L t p):qgb L t p=true↔∃y∈L,q2r y t:=by
 unfold qgb;rw[Bool.and_eq_true,decide_eq_true_eq,decide_eq_true_eq,qzg]
 constructor
 ·rintro ⟨b,c⟩;exact⟨_,qjq b,c⟩
 ·rintro ⟨y,g,a⟩;obtain⟨j,d,rfl⟩:=List.mem_iff_getElem.1 g;rw[<-qes d]at a
  have nb:¬qaj (qbo L j) t=true:=by
   rw[qch];obtain⟨i,m,n⟩:=a;omega
  have o:p<=j:=by
   rcases Nat.lt_or_ge j p with h|h
   ·exact absurd (e.2.1 j h) nb
   ·exact h
  rcases Nat.lt_or_ge p j with h|h
  ·have b:=f.at h d;have c:=e.2.2 p (Nat.le_refl _) (by omega)
   have:qaj (qbo L p) t=true:=by
        rw[qch]at b ⊢;obtain⟨i,m,n⟩:=a;omega
   rw[c]at this;cases this
  ·obtain rfl:p=j:=by omega
   exact⟨d,a⟩
theorem qun (e:qdl L) (f:q3a L t p) (q:qgb L t p=false):qdl (qpt L p t):=by
 have nt:∀y∈L,¬q2r y t:=λy c r=>by
  have:=(qq4 e f).2 ⟨y,c,r⟩;rw[q]at this;cases this
 have j:∀y∈L.take p,qaj y t=true:=λy c=>by
  obtain⟨i,g,rfl⟩:=List.mem_iff_getElem.1 c;rw[List.length_take]at g;rw[List.getElem_take,<-qes (by omega)];exact f.2.1 i (by omega)
 have m:∀y∈L.drop p,qaj t y=true:=λy c=>by
  have n:=List.mem_of_mem_drop c;obtain⟨i,g,rfl⟩:=List.mem_iff_getElem.1 c;rw[List.length_drop]at g;rw[List.getElem_drop]at n ⊢;have o:=f.2.2 (p+i) (by omega) (by omega);rw[qes (by omega)]at o;cases hq:qaj t L[p+i]
  ·exact absurd (qk5 o hq) (nt _ n)
  ·rfl
 unfold qdl qpt at*;rw[List.append_assoc,List.pairwise_append,List.pairwise_append];refine⟨e.sublist (List.take_sublist _ _),⟨List.pairwise_singleton _ _,e.sublist (List.drop_sublist _ _),λa d b hb=>?_⟩,λa d b hb=>?_⟩
 ·rw[List.mem_singleton.1 d];exact m b hb
 ·rcases List.mem_append.1 hb with h|h
  ·rw[List.mem_singleton.1 h];exact j a d
  ·have s:=j a d;have u:=m b h;rw[qch]at s u ⊢;omega
theorem q0k (L:List Ver) (p:Nat) (t:Ver):(L++[t]).Perm (qpt L p t):=by
 unfold qpt;have e:L=L.take p++L.drop p:=(List.take_append_drop p L).symm
 have:(L++[t]).Perm (L.take p++L.drop p++[t]):=by rw[<-e]
 refine this.trans ?_;rw[List.append_assoc,List.append_assoc];exact List.Perm.append_left _ List.perm_append_comm
variable {a0 a1 a2 a3:Int}
theorem q2w (m:qg7 l) (a:qdl L) (b:∀v,v∈L↔(⟨k,v⟩:Hd)∈l):qct k a0 a1 a2 a3 l=qfn a0 a1 a2 a3 L:=by
 cases hb:qfn a0 a1 a2 a3 L with
 |none=>
  unfold qfn at hb;rw[List.find?_eq_none]at hb;cases hl:qct k a0 a1 a2 a3 l with
  |none=>rfl
  |some v=>
   obtain⟨⟨h,n,e,f,c⟩,_⟩:=qkv hl;obtain⟨key,u⟩:=h;simp only at e f;subst e f;exact absurd c (hb u (List.mem_reverse.2 ((b u).2 n)))
 |some v=>
  unfold qfn at hb;obtain⟨c,xs,o,e,q⟩:=List.find?_eq_some_iff_append.1 hb
  have d:L=o.reverse++v::xs.reverse:=by
   have:=congrArg List.reverse e;rw[List.reverse_reverse]at this;rw[this];simp
  rw[qxu m]
  have r:v∈L:=by rw[d];simp
  refine⟨⟨⟨k,v⟩,(b v).1 r,rfl,rfl,c⟩,?_⟩;rintro ⟨key,u⟩ s g i;simp only at g i;subst g;have j:=(b u).2 s;rw[d]at j;unfold qdl at a;rw[d,List.pairwise_append]at a;rcases List.mem_append.1 j with h|h
  ·exact qpi (a.2.2 u h v (by simp))
  ·rcases List.mem_cons.1 h with h|h
   ·rw[h];exact qf2 v
   ·have:=q u (List.mem_reverse.1 h);rw[i]at this;cases this
theorem q2o (a b:Ver):eqV a b=eqV b a:=by
 unfold eqV;rw[Bool.eq_iff_iff];simp only[Bool.and_eq_true,beq_iff_eq]
 constructor<;>(rintro ⟨⟨⟨⟨⟨c,d⟩,e⟩,f⟩,g⟩,h⟩;exact⟨⟨⟨⟨⟨c.symm,d.symm⟩,e.symm⟩,f.symm⟩,g.symm⟩,h.symm⟩)
theorem qxr (c:(qjk l k).Perm L) (a:qct k a0 a1 a2 a3 l=qfn a0 a1 a2 a3 L):
 (qjk (qel a0 a1 a2 a3 l) k).Perm (L.filter λv=>!qnk a0 a1 a2 a3 ((qfn a0 a1 a2 a3 L).getD qcj) v):=by
 have e:qjk (qel a0 a1 a2 a3 l) k=(qjk l k).filter λv=>!qnk a0 a1 a2 a3 ((qfn a0 a1 a2 a3 L).getD qcj) v:=by
  unfold qjk qel;rw[List.filter_map,List.filter_filter,List.filter_filter]
  congr 1
  apply List.filter_congr
  rintro ⟨key,v⟩ d;by_cases b:key=(k:Int)
  ·subst b;simp only[decide_true,Bool.true_and,Bool.and_true,Function.comp];unfold qhu qnk;rw[a];simp only;cases hb:qfn a0 a1 a2 a3 L with
   |none=>
    rw[hb]at a;have:=qn1 a ⟨k,v⟩ d rfl;simp only at this;simp[qit,this]
   |some u=>
    simp only[qit,Option.getD_some,Bool.not_true,Bool.false_or];rw[q2o u v]
    cases qij a0 a1 a2 a3 v<;>cases eqV v u<;>rfl
  ·simp[b]
 rw[e];exact c.filter _
theorem qo7 (h:qdl L) (p:Ver->Bool):qdl (L.filter p):=List.Pairwise.filter p h
end
section
open Go.RowKit
def qa9 (n:Int):Value:=if n=0 then .nilIface else .iface 29 (.int .i64 n)
structure qby (X:Nat->Prop) (w w':World):Prop where
 os:w'.os=w.os
 tape:w'.tape=w.tape
 output:w'.output=w.output
 size:w.heap.size<=w'.heap.size
 block:∀k,X k->w'.heap[k]?=w.heap[k]?
theorem qby.refl (X:Nat->Prop) (w:World):qby X w w:=⟨rfl,rfl,rfl,Nat.le_refl _,λ_ _=>rfl⟩
variable {X:Nat->Prop} {w w':World}
theorem qby.below {B:Nat} (h:qby X w w') (a:∀k,k<B->X k):Below B w w':=⟨h.os,h.tape,h.output,h.size,λk b=>h.block k (a k b)⟩
theorem qag.keeps {b:Nat} {a:List Value} (h:qag w b a) (c:qby X w w') (d:X b):qag w' b a:=h.kept (c.block b d) c.size
variable {l:List Hd} {a0 a1 a2 a3:Int}
theorem qtf (h:qg7 l):qg7 (qel a0 a1 a2 a3 l):=qzx h λ_ a=>(List.mem_filter.1 a).1
theorem qpo:(qel a0 a1 a2 a3 l).length<=l.length:=List.length_filter_le _ _
end
section
open Go.RowKit
def upd {α:Type} (f:Nat->α) (k:Nat) (x:α):Nat->α:=λi=>if i=k then x else f i
variable {α:Type}
theorem qeg (f:Nat->α) (k:Nat) (x:α):upd f k x k=x:=if_pos rfl
variable {k:Nat}
theorem qck (f:Nat->α) {i:Nat} (x:α) (h:i≠k):upd f k x i=f i:=if_neg h
def qiq (b:Nat) (vs:Nat->Value) (k:Nat):Prop:=k=b\/∃i,i<8/\(vs i).ownBlock=some k
theorem q4t (h:k<8):k=0\/k=1\/k=2\/k=3\/k=4\/k=5\/k=6\/k=7:=by omega
theorem qo0 {w w':World} {B n:Nat} {T:TypeId} {v:Value} {xs:List Value} (h:w.ownsRow B T 6 v n xs) (a:∀k,v.ownBlock=some k->w'.heap[k]?=w.heap[k]?):w'.ownsRow B T 6 v n xs:=by
 refine⟨h.1,?_⟩;rcases h.2 with b|⟨g,cap,cur,rfl,hb,c,rest⟩
 ·exact .inl b
 ·exact .inr ⟨g,cap,cur,rfl,hb,by rw[a g rfl];exact c,rest⟩
theorem q6i (a:Nat->Value) (b:k<8) (x:Value):[a 0,a 1,a 2,a 3,a 4,a 5,a 6,a 7].set k x=[upd a k x 0,upd a k x 1,upd a k x 2,upd a k x 3,upd a k x 4,upd a k x 5,upd a k x 6,upd a k x 7]:=by
 rcases q4t b with rfl|rfl|rfl|rfl|rfl|rfl|rfl|rfl<;>rfl
structure qdj (Ls:Nat->List Ver) (l:List Hd):Prop where
 perm:∀k,k<8->(qjk l k).Perm (Ls k)
 keys:∀h∈l,inB h.key 0 7=true
variable {Ls:Nat->List Ver} {l:List Hd}
theorem qdj.mem (h:qdj Ls l) (a:k<8) (v:Ver):v∈Ls k↔(⟨k,v⟩:Hd)∈l:=by rw[<-q2x,(h.perm k a).mem_iff]
theorem qdj.len (h:qdj Ls l) (a:k<8):(Ls k).length<=l.length:=by
 rw[<-(h.perm k a).length_eq];unfold qjk;rw[List.length_map];exact List.length_filter_le _ _
theorem qdj.sites (h:qdj Ls l) (a:∀x∈l,qdm x.v=true) (b:k<8):∀v∈Ls k,0<=v.site/\v.site<=3:=λv c=>qkk (a _ ((h.mem b v).1 c))
theorem qdj.count (h:qdj Ls l):(Ls 0).length+(Ls 1).length+(Ls 2).length+(Ls 3).length+(Ls 4).length+(Ls 5).length+(Ls 6).length+(Ls 7).length=l.length:=by
 have:=qlt l h.keys;rw[(h.perm 0 (by omega)).length_eq,(h.perm 1 (by omega)).length_eq,(h.perm 2 (by omega)).length_eq,(h.perm 3 (by omega)).length_eq,(h.perm 4 (by omega)).length_eq,(h.perm 5 (by omega)).length_eq,(h.perm 6 (by omega)).length_eq,(h.perm 7 (by omega)).length_eq]at this;exact this
theorem qdj.put (h:qdj Ls l) (d:k<8) (v:Ver) (p:Nat):qdj (upd Ls k (qpt (Ls k) p v)) (l++[⟨k,v⟩]):=by
 refine⟨λi b=>?_,λx c=>?_⟩
 ·rw[ql2];by_cases e:i=k
  ·subst e;rw[qeg,qqc];exact((h.perm i b).append_right [v]).trans (q0k _ _ _)
  ·rw[qck _ _ e,qn6 v (by omega),List.append_nil];exact h.perm i b
 ·rcases List.mem_append.1 c with a|a
  ·exact h.keys x a
  ·rw[List.mem_singleton.1 a];exact qa5.2 (by simp only;omega)
theorem q1p (h:qdj Ls l) (d:k<8) (v:Ver):l.any (qd8 k v)=true↔∃y∈Ls k,q2r y v:=by
 rw[List.any_eq_true]
 constructor
 ·rintro ⟨⟨key,u⟩,f,e⟩;simp only[qd8,Bool.and_eq_true,decide_eq_true_eq]at e;obtain⟨⟨rfl,a,b⟩,c⟩:=e;exact⟨u,(h.mem d u).2 f,a,b,c⟩
 ·rintro ⟨y,g,a,b,c⟩;exact⟨⟨k,y⟩,(h.mem d y).1 g,by simp[qd8,a,b,c]⟩
variable {L:List Ver} {t:Ver} {p:Nat}
theorem q1u {q:Nat} (c:q3a L t p) (d:q3a L t q):p=q:=by
 rcases Nat.lt_trichotomy p q with h|h|h
 ·have a:=c.2.2 p (Nat.le_refl _) (by have:=d.1;omega);have b:=d.2.1 p h;rw[a]at b;cases b
 ·exact h
 ·have a:=d.2.2 q (Nat.le_refl _) (by have:=c.1;omega);have b:=c.2.1 q h;rw[a]at b;cases b
theorem qq3:∀{L:List Ver} (t:Ver),qdl L->∃p,q3a L t p
 |[],_,_=>⟨0,Nat.le_refl _,λj a=>by omega,λj _ a=>by simp at a⟩
 |x::L,t,hs=>by
  unfold qdl at hs;rw[List.pairwise_cons]at hs;cases hx:qaj x t
  ·refine⟨0,Nat.zero_le _,λj a=>by omega,λj _ a=>?_⟩;cases j with
   |zero=>exact hx
   |succ j=>
    have c:j<L.length:=by simpa using a
    have e:qbo (x::L) (j+1)=qbo L j:=rfl;rw[e];cases hq:qaj (qbo L j) t
    ·rfl
    ·have b:=hs.1 _ (qjq c)
     have:qaj x t=true:=by
       rw[qch]at b hq ⊢;omega
     rw[hx]at this;cases this
  ·obtain⟨p,b,d,f⟩:=qq3 t (show qdl L from hs.2);refine⟨p+1,by simpa using b,λj a=>?_,λj a g=>?_⟩
   ·cases j with
    |zero=>exact hx
    |succ j=>exact d j (by omega)
   ·cases j with
    |zero=>omega
    |succ j=>exact f j (by omega) (by simpa using g)
theorem q0c {a:Option Addr} {cap:Nat} (b:q3a L t p) (w:World) (c:q01 w a cap L) (d:qdl L) (g:L.length<=1000):
 Calls Tryz.prog 175 #[.slice a L.length cap,.agg #[.int .i64 t.wall,.int .i64 t.count,.int .i64 t.site,.int .i64 t.seq,.string t.data,.bool t.gone],.func (.func 176) #[] #[]] w λe w'=>
  e=.returned (.tuple #[.int .i64 p,.bool (qgb L t p)])/\Below w.heap.size w w':=
 (qwi t w c d g).mono λe w' ⟨q,h,i,hb⟩=>by
  obtain rfl:=q1u b i;exact⟨h,hb⟩
end
section
open Go.RowKit
structure qo1 (w:World) (b o:Nat) (vs:List Value):Prop where
 cell:∀j v,vs[j]?=some v->w.cell? ⟨b,o+j,none⟩=some v
 free:∀j,j<vs.length->w.frozen? ⟨b,o+j,none⟩=false
 lt:b<w.heap.size
variable {w w':World} {b o:Nat}
theorem qo1.kept {vs:List Value} (h:qo1 w b o vs) (e:w'.heap[b]?=w.heap[b]?) (a:w.heap.size<=w'.heap.size):qo1 w' b o vs:=
 ⟨λj v c=>by rw[World.cell?_of_block (w:=w) e];exact h.cell j v c,λj d=>by rw[World.frozen?_of_block (w:=w) e];exact h.free j d,Nat.lt_of_lt_of_le h.lt a⟩
theorem qo1.grown {r:Option Nat} {vs:List Value} (h:qo1 w b o vs) (a:w.grownBy w' r) (c:some b≠r):qo1 w' b o vs:=h.kept (a.block b h.lt c) a.size
theorem qo1.boxed {vs:List Value} (h:qo1 w b o vs) (x:Obj):qo1 (w.alloc x) b o vs:=h.kept (Below.heap_alloc _ _ _ h.lt) (by simp)
theorem qo1.drew {vs:List Value} (h:qo1 w b o vs):qo1 w.drew b o vs:=h.kept rfl (Nat.le_refl _)
theorem qo1.set {vs:List Value} (h:qo1 w b o vs) (k:Nat) (u:Value) (d:k<vs.length):qo1 (w.setCell ⟨b,o+k,none⟩ u) b o (vs.set k u):=by
 refine⟨λj v a=>?_,λj c=>by rw[World.frozen?_setCell];exact h.free j (by simpa using c),by simpa[World.setCell]using h.lt⟩;by_cases c:k=j
 ·subst c;rw[List.getElem?_set_self d]at a;injection a with a;subst a;exact World.cell?_setCell_same _ _ _ (h.cell k vs[k] (List.getElem?_eq_getElem d))
 ·rw[List.getElem?_set_ne c]at a;rw[World.cell?_setCell_other _ _ _ _ (by intro e;injection e with _ e _;omega)];exact h.cell j v a
def qik (b so:Nat) (w w':World):Prop:=∀j,(j<so\/so+8<=j)->w'.cell? ⟨b,j,none⟩=w.cell? ⟨b,j,none⟩/\w'.frozen? ⟨b,j,none⟩=w.frozen? ⟨b,j,none⟩
variable {so:Nat}
theorem qik.ofBlock (e:w'.heap[b]?=w.heap[b]?):qik b so w w':=λ_ _=>⟨World.cell?_of_block (w:=w) e,World.frozen?_of_block (w:=w) e⟩
theorem qik.trans {x y z:World} (h:qik b so x y) (k:qik b so y z):qik b so x z:=λj a=>⟨(k j a).1.trans (h j a).1,(k j a).2.trans (h j a).2⟩
theorem qik.set (b so k:Nat) (a:k<8) (w:World) (u:Value):qik b so w (w.setCell ⟨b,so+k,none⟩ u):=λj c=>⟨World.cell?_setCell_other _ _ _ _ (by intro e;injection e with _ e _;omega),World.frozen?_setCell _ _ _ _⟩
structure qpm (w:World) (b so:Nat) (vs:Nat->Value) (Ls:Nat->List Ver):Prop where
 box:qo1 w b so [vs 0,vs 1,vs 2,vs 3,vs 4,vs 5,vs 6,vs 7]
 own:∀k,k<8->w.ownsRow 0 130 6 (vs k) (Ls k).length (qax (Ls k))
 sorted:∀k,k<8->qdl (Ls k)
 apart:∀k,k<8->(vs k).ownBlock≠some b
 apart2:∀i j,i<8->j<8->i≠j->∀g,(vs i).ownBlock=some g->(vs j).ownBlock≠some g
variable {vs:Nat->Value} {Ls:Nat->List Ver} {k:Nat}
theorem qpm.cell (h:qpm w b so vs Ls) (a:k<8):w.cell? ⟨b,so+k,none⟩=some (vs k):=
 h.box.cell k (vs k) (by rcases q4t a with rfl|rfl|rfl|rfl|rfl|rfl|rfl|rfl<;>rfl)
theorem qpm.free (h:qpm w b so vs Ls) (a:k<8):w.frozen? ⟨b,so+k,none⟩=false:=h.box.free k (by simpa using a)
theorem qpm.lt (h:qpm w b so vs Ls):∀k,qiq b vs k->k<w.heap.size:=λk a=>by
 rcases a with rfl|⟨i,c,e⟩
 ·exact h.box.lt
 ·exact((h.own i c).lt k e).2
theorem qpm.kept (h:qpm w b so vs Ls) (a:∀k,qiq b vs k->w'.heap[k]?=w.heap[k]?) (d:w.heap.size<=w'.heap.size):qpm w' b so vs Ls:=
 ⟨h.box.kept (a b (.inl rfl)) d,λk c=>qo0 (h.own k c) (λg e=>a g (.inr ⟨k,c,e⟩)),h.sorted,h.apart,h.apart2⟩
theorem qpm.later (h:qpm w b so vs Ls) (hb:Below w.heap.size w w'):qpm w' b so vs Ls:=h.kept (λk a=>hb.block k (h.lt k a)) hb.size
theorem qpm.change {d:World} (h:qpm w b so vs Ls) (m:k<8) {v':Value} {L':List Ver} (f:qae (λj=>(vs k).ownBlock=some j) w d)
 (y:d.ownsRow 0 130 6 v' L'.length (qax L')) (hb:∀g,v'.ownBlock=some g->(vs k).ownBlock=some g\/w.heap.size<=g) (z:qdl L'):
 qpm (d.setCell ⟨b,so+k,none⟩ v') b so (upd vs k v') (upd Ls k L')/\qae (qiq b vs) w (d.setCell ⟨b,so+k,none⟩ v')/\(∀j,qiq b (upd vs k v') j->qiq b vs j\/w.heap.size<=j)/\qik b so w (d.setCell ⟨b,so+k,none⟩ v'):=by
 have A:=h.box.lt;have r:d.heap[b]?=w.heap[b]?:=f.block b A (h.apart k m)
 have s:v'.ownBlock≠some b:=λe=>by
  rcases hb b e with c|c
  ·exact h.apart k m c
  ·omega
 have B:=h.box.kept r f.size;have u:=qhz b (so+k) d v';refine⟨⟨?_,λi a=>?_,λi a=>?_,λi a=>?_,λi j a l p g e=>?_⟩,?_,λj l=>?_,?_⟩
 ·rw[<-q6i vs m];exact B.set k v' (by simpa using m)
 ·by_cases e:i=k
  ·subst e;rw[qeg,qeg];exact y.kept u (.inr (λe=>s e))
  ·rw[qck _ _ e,qck _ _ e];refine(qo0 (h.own i a) (λg v=>f.block g ((h.own i a).lt g v).2 (h.apart2 i k a m e g v))).kept u (.inr (h.apart i a))
 ·by_cases e:i=k
  ·subst e;rw[qeg];exact z
  ·rw[qck _ _ e];exact h.sorted i a
 ·by_cases e:i=k
  ·subst e;rw[qeg];exact s
  ·rw[qck _ _ e];exact h.apart i a
 ·by_cases n:i=k
  ·subst n;rw[qeg]at e;rw[qck _ _ (Ne.symm p)];rcases hb g e with c|c
   ·exact h.apart2 i j a l p g c
   ·intro q;have:=((h.own j l).lt g q).2;omega
  ·rw[qck _ _ n]at e;by_cases x:j=k
   ·subst x;rw[qeg];intro q;rcases hb g q with c|c
    ·exact h.apart2 i j a l p g e c
    ·have:=((h.own i a).lt g e).2;omega
   ·rw[qck _ _ x];exact h.apart2 i j a l p g e
 ·have C:qae (qiq b vs) w d:=⟨f.os,f.tape,f.output,f.size,λj l D=>f.block j l (λe=>D (.inr ⟨k,m,e⟩))⟩;exact C.trans (qae.setCell d ⟨b,so+k,none⟩ v' (.inl rfl))
 ·rcases l with rfl|⟨i,a,e⟩
  ·exact .inl (.inl rfl)
  ·by_cases n:i=k
   ·subst n;rw[qeg]at e;rcases hb j e with c|c
    ·exact .inl (.inr ⟨i,a,c⟩)
    ·exact .inr c
   ·rw[qck _ _ n]at e;exact .inl (.inr ⟨i,a,e⟩)
 ·exact(qik.ofBlock r).trans (qik.set b so k m d v')
def qnf (w:World) (b so:Nat) (F:Nat->Prop) (l:List Hd):Prop:=∃vs Ls,qpm w b so vs Ls/\qdj Ls l/\∀k,F k↔qiq b vs k
theorem qdj.qlast {l:List Hd} (h:qdj Ls l) (R:qpm w b so vs Ls) (c:qg7 l) (a:k<8) (a0 a1 a2 a3:Int):qct k a0 a1 a2 a3 l=qfn a0 a1 a2 a3 (Ls k):=q2w c (R.sorted k a) (h.mem a)
end
section
open Tryz Go.Value Go.IntKind Go.RowKit
def qjg (w:World) (b so:Nat) (F:Nat->Prop) (l':List Hd) (w':World):Prop:=∃F',qnf w' b so F' l'/\(∀k,F' k->F k\/w.heap.size<=k)/\qae F w w'/\qik b so w w'
variable {w w':World} {b so:Nat} {F:Nat->Prop} {l:List Hd}
theorem qnf.kept (h:qnf w b so F l) (c:∀k,F k->w'.heap[k]?=w.heap[k]?) (d:w.heap.size<=w'.heap.size):qnf w' b so F l:=by
 obtain⟨e,f,R,H,a⟩:=h;exact⟨e,f,R.kept (λk g=>c k ((a k).2 g)) d,H,a⟩
theorem qnf.lt (h:qnf w b so F l):∀k,F k->k<w.heap.size:=by
 obtain⟨d,e,R,H,a⟩:=h;exact λk c=>R.lt k ((a k).1 c)
theorem qjg.same (h:qnf w b so F l) (hb:Below w.heap.size w w'):qjg w b so F l w':=
 ⟨F,h.kept (λk a=>hb.block k (h.lt k a)) hb.size,λ_ a=>.inl a,qae.ofBelow hb,by
   obtain⟨c,d,R,H,e⟩:=h
   exact qik.ofBlock (hb.block b R.box.lt)⟩
theorem qv6 {key:Int} (h:inB key 0 7=false) (v:Ver) (w:World) (c:qnf w b so F l):
 Calls prog 164 #[.pointer (some ⟨b,so,none⟩),int i64 key,.agg #[int i64 v.wall,int i64 v.count,int i64 v.site,int i64 v.seq,.string v.data,.bool v.gone]] w λe w'=>e=.returned (qa9 (qgs l key v))/\qjg w b so F (qfd l key v) w':=by
 have e:qgs l key v=2:=by unfold qgs;rw[h];rfl
 have a:qfd l key v=l:=by unfold qfd;rw[e];rfl
 rw[e,a];have H:Hid _:=h;clear h e a;go_enter func164,ntmps164
 go_wp2_with fail
 refine(qj0 H.out _).mono ?_;rintro e d ⟨rfl,rfl⟩
 go_wp2_with fail
 go_ret;exact⟨rfl,qjg.same c (boxed (Below.refl _ _) _)⟩
theorem q2s {key:Int} (h:inB key 0 7=true) (v:Ver) (a:qdm v=false) (w:World) (d:qnf w b so F l):
 Calls prog 164 #[.pointer (some ⟨b,so,none⟩),int i64 key,.agg #[int i64 v.wall,int i64 v.count,int i64 v.site,int i64 v.seq,.string v.data,.bool v.gone]] w λe w'=>e=.returned (qa9 (qgs l key v))/\qjg w b so F (qfd l key v) w':=by
 have e:qgs l key v=1:=by unfold qgs;rw[h,a];rfl
 have c:qfd l key v=l:=by unfold qfd;rw[e];rfl
 rw[e,c];have H:Hid _:=h;have g:Hid _:=a;clear h a e c;go_enter func164,ntmps164
 go_wp2_with fail
 refine(qj0 H.out _).mono ?_;rintro e i ⟨rfl,rfl⟩
 go_wp2_with fail
 refine(qnn g.out _).mono ?_;rintro e i ⟨rfl,j⟩
 go_wp2_with fail
 go_ret;exact⟨rfl,qjg.same d (qac (boxed (Below.refl _ _) _) j)⟩
theorem q3o {key:Int} (h:inB key 0 7=true) (v:Ver) (W:qdm v=true) (w:World) (X:qnf w b so F l) (hl:l.length<=1000):
 Calls prog 164 #[.pointer (some ⟨b,so,none⟩),int i64 key,.agg #[int i64 v.wall,int i64 v.count,int i64 v.site,int i64 v.seq,.string v.data,.bool v.gone]] w λe w'=>e=.returned (qa9 (qgs l key v))/\qjg w b so F (qfd l key v) w':=by
 have hne:=Later.one;obtain⟨I,c,R,J,Y⟩:=id X;have hk:=qa5.1 h;obtain⟨k,rfl⟩:∃k:Nat,key=(k:Int):=⟨key.toNat,by omega⟩
 have d:k<8:=by omega
 have hkz:(k:Int)<8:=by omega
 obtain⟨p,B⟩:=qq3 v (R.sorted k d);have s:=qq4 (R.sorted k d) B;rw[<-q1p J d v]at s;obtain⟨a,cap,o,hV⟩:=qfw (R.own k d);have Z:(c k).length<=1000:=Nat.le_trans (J.len d) hl;have m:=qag.new (w:=w) (T:=130) (qah v) rfl;have hb:=boxed (Below.refl _ w) (.cells #[int i64 v.wall,int i64 v.count,int i64 v.site,int i64 v.seq,.string v.data,.bool v.gone] 130);change qag (w.alloc (.cells #[int i64 v.wall,int i64 v.count,int i64 v.site,int i64 v.seq,.string v.data,.bool v.gone] 130)) w.heap.size (qah v)at m;have H:Hid _:=h;have K:Hid _:=W;clear h W hk;go_enter func164,ntmps164
 go_wp2_with fail
 refine(qj0 H.out _).mono ?_;rintro e L ⟨rfl,rfl⟩
 go_wp2_with fail
 refine(qnn K.out _).mono ?_;rintro e L ⟨rfl,M⟩;replace m:=m.later M;replace hb:=qac hb M;clear M;have R1:=R.later hb
 have k0:L.cell? ⟨b,so+k,none⟩=some (.slice a (c k).length cap):=by rw[<-o];exact R1.cell d
 have l0:=Later.cell k0;have x0:=Later.cell (m.cell 0 _ rfl);have x1:=Later.cell (m.cell 1 _ rfl);have x2:=Later.cell (m.cell 2 _ rfl);have x3:=Later.cell (m.cell 3 _ rfl);have x4:=Later.cell (m.cell 4 _ rfl);have x5:=Later.cell (m.cell 5 _ rfl)
 have C:Hid (∀x:Later L,Calls prog 175 #[.slice a (c k).length cap,.agg #[int i64 v.wall,int i64 v.count,int i64 v.site,int i64 v.seq,.string v.data,.bool v.gone],.func (.func 176) #[] #[]] x.val λe w'=>e=.returned (.tuple #[int i64 p,.bool (qgb (c k) v p)])/\Below x.val.heap.size x.val w'):=
  λx=>q0c B x.val ((hV.later hb).later x.below) (R.sorted k d) Z
 obtain⟨N,O⟩:∃N,qgb (c k) v p=N:=⟨_,rfl⟩;rw[O]at C s;have FB:Hid _:=O;have D:Hid _:=B;clear O B;cases N
 ·have y:Hid (qgs l k v=0):=by
   show qgs l k v=0;unfold qgs
   have:l.any (qd8 k v)=false:=by
        cases hq:l.any (qd8 k v)
        ·rfl
        ·have:=s.2 hq;cases this
   rw[H.out,K.out,this];rfl
  have P:Hid (qfd l k v=l++[⟨k,v⟩]):=by show qfd l k v=_;unfold qfd;rw[y.out];rfl
  clear s
  go_wp2_with fail
  refine qaa (by kernel_rfl) (by kernel_rfl) ?_
  repeat (go_big_quiet_step ((go_at_call 175;with_reducible exact qab (C.out _))))
  refine wpQuiet_nil ?_;rintro i ⟨⟨_,z⟩,rfl⟩;have hb5:=qac hb z;have RX5:=m.later z;have q:=R1.later z
  have k5:i.cell? ⟨b,so+k,none⟩=some (.slice a (c k).length cap):=by rw[<-o];exact q.cell d
  obtain⟨y0,y1,y2,y3,y4,y5⟩:=RX5.c6
  have ownA:(i.drew.alloc (.cells #[int i64 v.wall,int i64 v.count,int i64 v.site,int i64 v.seq,.string v.data,.bool v.gone] 130)).ownsRow 0 130 6 (.slice a (c k).length cap) (c k).length (qax (c k)):=by
   rw[<-o];exact World.ownsRow.alloc (show i.drew.ownsRow 0 130 6 (I k) (c k).length (qax (c k))from q.own k d) _
  have vbne:(Value.slice a (c k).length cap).ownBlock≠some i.heap.size:=by
   rw[<-o];intro e;have:=((q.own k d).lt _ e).2;omega
  have IN:Hid (Calls prog 177 #[.slice a (c k).length cap,int i64 p,.slice (some ⟨i.heap.size,0,none⟩) 1 1] (i.drew.alloc (.cells #[int i64 v.wall,int i64 v.count,int i64 v.site,int i64 v.seq,.string v.data,.bool v.gone] 130)) λe w'=>
   ∃g u,e=.returned (.slice (some ⟨g,0,none⟩) ((c k).length+1) u)/\qf1 (i.drew.alloc (.cells #[int i64 v.wall,int i64 v.count,int i64 v.site,int i64 v.seq,.string v.data,.bool v.gone] 130)) (.slice a (c k).length cap) (qpt (c k) p v) g u w'):=
   qu0 v i.heap.size _ ownA D.out.1 Z (heap_alloc_new i.drew _) vbne
  have bfree:=q.free d;have hbl:=q.box.lt;have Q:=q.apart k d;rw[o]at Q;clear ownA vbne x0 x1 x2 x3 x4 x5 l0 k0 C
  go_wp2_with fail
  go_region_law (
   refine qas rfl 177 #[.slice a (c k).length cap,int i64 p,.slice (some ⟨i.heap.size,0,none⟩) 1 1] (by go_simp) IN.out ?_;rintro e E ⟨g,u,rfl,G⟩;refine⟨_,rfl,?_⟩;have S:Hid _:=G;have B8:=((q.box.drew).boxed (.cells #[int i64 v.wall,int i64 v.count,int i64 v.site,int i64 v.seq,.string v.data,.bool v.gone] 130)).grown G.2.1 (λe=>Q e.symm)
   have c8:E.cell? ⟨b,so+k,none⟩=some (.slice a (c k).length cap):=by rw[World.cell?_of_block (w:=i) ((G.2.1.block b (by simp;omega) (λe=>Q e.symm)).trans (Below.heap_alloc i.drew _ b hbl)),k5]
   have f8:E.frozen? ⟨b,so+k,none⟩=false:=B8.free k (by simpa using d)
   clear G)
  all_goals
   have TW:qae (λj=>(I k).ownBlock=some j) w E:=by
        rw[o];exact((qae.ofBelow hb5).trans (qae.ofBelow (boxed ((Below.refl _ i).drew) _))).trans (qae.grown S.out.2.1 (λj r=>r))
   have U:=S.out.1;rw[qgr v D.out.1]at U
   have n:=R.change d (v':=.slice (some ⟨g,0,none⟩) ((c k).length+1) u) (L':=qpt (c k) p v) TW (by rw[qgr v D.out.1];exact U) (λj r=>by
        have e:g=j:=by simpa[Value.ownBlock]using r
        subst e;rcases S.out.2.2 with V|V
        ·left
         rw[o];exact V
        ·right
         have:=hb5.size;simp at V
         omega) (qun (R.sorted k d) D.out FB.out)
   have FIN:Hid (qjg w b so F (l++[⟨k,v⟩]) (E.setCell ⟨b,so+k,none⟩ (.slice (some ⟨g,0,none⟩) ((c k).length+1) u))):=
        ⟨qiq b (upd I k (.slice (some ⟨g,0,none⟩) ((c k).length+1) u)),⟨_,_,n.1,J.put d v p,λ_=>Iff.rfl⟩,λj r=>(n.2.2.1 j r).imp_left (Y j).2,⟨n.2.1.os,n.2.1.tape,n.2.1.output,n.2.1.size,λj r hn=>n.2.1.block j r (λe=>hn ((Y j).2 e))⟩,n.2.2.2⟩
   clear n U TW
   go_wp2_with fail
   go_ret;rw[y.out,P.out];exact⟨rfl,FIN.out⟩
 ·have y:Hid (qgs l k v=9):=by
   show qgs l k v=9;unfold qgs;rw[H.out,K.out,s.1 rfl];rfl
  have P:Hid (qfd l k v=l):=by show qfd l k v=_;unfold qfd;rw[y.out];rfl
  clear s
  go_wp2_with fail
  refine qaa (by kernel_rfl) (by kernel_rfl) ?_
  repeat (go_big_quiet_step ((go_at_call 175;with_reducible exact qab (C.out _))))
  refine wpQuiet_nil ?_;rintro i ⟨⟨_,z⟩,rfl⟩
  go_wp2_with fail
  go_ret;rw[y.out,P.out];exact⟨rfl,qjg.same X (qac hb z)⟩
theorem q0s (key:Int) (v:Ver) (w:World) (a:qnf w b so F l) (c:l.length<=1000):
 Calls prog 164 #[.pointer (some ⟨b,so,none⟩),int i64 key,.agg #[int i64 v.wall,int i64 v.count,int i64 v.site,int i64 v.seq,.string v.data,.bool v.gone]] w λe w'=>e=.returned (qa9 (qgs l key v))/\qjg w b so F (qfd l key v) w':=by
 cases h:inB key 0 7
 ·exact qv6 h v w a
 ·cases hv:qdm v
  ·exact q2s h v hv w a
  ·exact q3o h v hv w a c
end
section
open Go.RowKit
theorem qae.more {F F':Nat->Prop} {w a w2:World} (h:qae F w a) (k:qae F' a w2) (f:∀j,F' j->F j\/w.heap.size<=j):qae F w w2:=
 ⟨k.os.trans h.os,k.tape.trans h.tape,k.output.trans h.output,Nat.le_trans h.size k.size,λj b c=>(k.block j (Nat.lt_of_lt_of_le b h.size) (λe=>by
   rcases f j e with d|d
   ·exact c d
   ·omega)).trans (h.block j b c)⟩
structure ApB (tb xb:Nat) (ts xs:List Value) (w:World):Prop where
 t:qag w tb ts
 x:qag w xb xs
theorem qqr:(Tryz.prog.info? 80).map (λi=>(i.zero,i.size,i.bytes))=some (some (.agg #[.int .i64 0,.int .i64 0,.int .i64 0,.int .i64 0,.int .i64 0,.int .i64 0,.int .i64 0,.int .i64 0,.slice none 0 0]),9,88):=by kernel_rfl
end
section
open Go.Value Go.IntKind Go.RowKit
def qb4 (S:qaf) (lv:Value) (bm:Nat):List Value:=
 [int i64 S.id,int i64 S.a0,int i64 S.a1,int i64 S.a2,int i64 S.a3,int i64 S.lw,int i64 S.lc,lv,.map (some bm),
  int i64 (S.oth 0),int i64 (S.oth 1),int i64 (S.oth 2),int i64 (S.oth 3),int i64 (S.oth 4),int i64 (S.oth 5),int i64 (S.oth 6),int i64 (S.oth 7),
  int i64 (S.oth 8),int i64 (S.oth 9),int i64 (S.oth 10),int i64 (S.oth 11),int i64 (S.oth 12),int i64 (S.oth 13),int i64 (S.oth 14),int i64 (S.oth 15)]
def qa4 (b:Nat) (lv:Value) (bm:Nat) (F:Nat->Prop) (k:Nat):Prop:=k=b\/lv.ownBlock=some k\/k=bm\/F k
structure qc9 (w:World) (b:Nat) (lv:Value) (bm:Nat) (F:Nat->Prop) (S:qaf) (log waits:List TxM):Prop where
 box:qag w b (qb4 S lv bm)
 st:qnf w b 25 F S.l
 rlog:w.ownsRow 0 80 9 lv log.length (qef log)
 map:qi8 w bm waits
 nl:lv.ownBlock≠some b
 nm:bm≠b
 lm:lv.ownBlock≠some bm
 lf:∀k,lv.ownBlock=some k->¬F k
 mf:¬F bm
 hold:∀m∈log++waits,qat w m.wa m.wc m.t.ws/\∀k,m.blk k->¬qa4 b lv bm F k
variable {w:World} {b bm:Nat} {lv:Value} {F:Nat->Prop} {S:qaf}
theorem qc9.lt {log waits:List TxM} (h:qc9 w b lv bm F S log waits):∀k,qa4 b lv bm F k->k<w.heap.size:=λk a=>by
 rcases a with rfl|a|rfl|a
 ·exact h.box.lt
 ·exact(h.rlog.lt k a).2
 ·exact h.map.lt
 ·exact h.st.lt k a
variable {w':World}
theorem qc9.kept {log waits:List TxM} (h:qc9 w b lv bm F S log waits) (a:∀k,(qa4 b lv bm F k\/∃m∈log++waits,m.blk k)->w'.heap[k]?=w.heap[k]?) (d:w.heap.size<=w'.heap.size):qc9 w' b lv bm F S log waits:=
 ⟨h.box.kept (a b (.inl (.inl rfl))) d,h.st.kept (λk e=>a k (.inl (.inr (.inr (.inr e))))) d,qad h.rlog (λk e=>a k (.inl (.inr (.inl e)))),h.map.kept (a bm (.inl (.inr (.inr (.inl rfl))))),h.nl,h.nm,h.lm,h.lf,h.mf,
   λm c=>⟨(h.hold m c).1.kept (λk e=>a k (.inr ⟨m,c,e⟩)),(h.hold m c).2⟩⟩
theorem qc9.later {log waits:List TxM} (h:qc9 w b lv bm F S log waits) (hb:Below w.heap.size w w'):qc9 w' b lv bm F S log waits:=
 h.kept (λk a=>hb.block k (by
  rcases a with a|⟨m,c,e⟩
  ·exact h.lt k a
  ·exact(h.hold m c).1.blk_lt k e)) hb.size
theorem qc9.hold' {c:Value} {F':Nat->Prop} {m:TxM} (a:qat w m.wa m.wc m.t.ws/\∀k,m.blk k->¬qa4 b lv bm F k) (f:qae (qa4 b lv bm F) w w') (g:∀k,qa4 b c bm F' k->qa4 b lv bm F k\/w.heap.size<=k):
 qat w' m.wa m.wc m.t.ws/\∀k,m.blk k->¬qa4 b c bm F' k:=
 ⟨a.1.kept (λk e=>f.block k (a.1.blk_lt k e) (a.2 k e)),λk e h=>by
   rcases g k h with d|d
   ·exact a.2 k e d
   ·have:=a.1.blk_lt k e
    omega⟩
theorem qc9.store {log waits:List TxM} {n:List Hd} (h:qc9 w b lv bm F S log waits) (s:qjg w b 25 F n w'):
 ∃F',qc9 w' b lv bm F' {S with l:=n} log waits/\(∀k,qa4 b lv bm F' k->qa4 b lv bm F k\/w.heap.size<=k)/\qae (qa4 b lv bm F) w w':=by
 obtain⟨F',st,i,d,o⟩:=s
 have p:∀k,qa4 b lv bm F' k->qa4 b lv bm F k\/w.heap.size<=k:=λk a=>by
  rcases a with a|a|a|a
  ·exact .inl (.inl a)
  ·exact .inl (.inr (.inl a))
  ·exact .inl (.inr (.inr (.inl a)))
  ·rcases i k a with c|c
   ·exact .inl (.inr (.inr (.inr c)))
   ·exact .inr c
 have q:qae (qa4 b lv bm F) w w':=⟨d.os,d.tape,d.output,d.size,λk a g=>d.block k a (λe=>g (.inr (.inr (.inr e))))⟩;have t:∀k,lv.ownBlock=some k->w'.heap[k]?=w.heap[k]?:=λk e=>d.block k (h.rlog.lt k e).2 (h.lf k e);refine⟨F',⟨⟨λj v r=>?_,λj f=>?_,Nat.lt_of_lt_of_le h.box.lt d.size⟩,st,qad h.rlog t,h.map.kept (d.block bm h.map.lt h.mf),h.nl,h.nm,h.lm,λk e g=>?_,λg=>?_,λm u=>qc9.hold' (h.hold m u) q p⟩,p,q⟩
 ·have f:j<25:=by
   have:=(List.getElem?_eq_some_iff.1 r).1;simpa[qb4]using this
  rw[(o j (.inl f)).1];exact h.box.cell j v r
 ·have f:j<25:=by simpa[qb4]using f
  rw[(o j (.inl f)).2];exact h.box.free j (by simpa[qb4]using f)
 ·rcases i k g with c|c
  ·exact h.lf k e c
  ·have:=(h.rlog.lt k e).2;omega
 ·rcases i bm g with c|c
  ·exact h.mf c
  ·have:=h.map.lt;omega
theorem qo1.other {o:Nat} {a:List Value} (h:qo1 w b o a) (k:Nat) (u:Value) (f:k<o):qo1 (w.setCell ⟨b,k,none⟩ u) b o a:=
 ⟨λj v c=>by rw[World.cell?_setCell_other _ _ _ _ (by intro e;injection e with _ e _;omega)];exact h.cell j v c,λj d=>by rw[World.frozen?_setCell];exact h.free j d,by simpa[World.setCell]using h.lt⟩
theorem qnf.other {l:List Hd} (h:qnf w b 25 F l) (k:Nat) (u:Value) (c:k<25):qnf (w.setCell ⟨b,k,none⟩ u) b 25 F l:=by
 obtain⟨d,f,R,j,m⟩:=h;exact⟨d,f,⟨R.box.other k u c,λi a=>qo0 (R.own i a) (λg e=>Below.heap_setCell _ _ _ _ (λ(x:g=b)=>R.apart i a (by rw[<-x];exact e))),R.sorted,R.apart,R.apart2⟩,j,m⟩
theorem qc9.cell {S':qaf} {log waits:List TxM} (h:qc9 w b lv bm F S log waits) (k:Nat) (u:Value) (c:k<25) (d:(qb4 S lv bm).set k u=qb4 S' lv bm) (f:S'.l=S.l):qc9 (w.setCell ⟨b,k,none⟩ u) b lv bm F S' log waits:=
 ⟨by rw[<-d];exact h.box.set k u (by simpa[qb4]using c),by rw[f];exact h.st.other k u c,qad h.rlog (λg e=>Below.heap_setCell _ _ _ _ (λ(x:g=b)=>h.nl (by rw[<-x];exact e))),h.map.kept (Below.heap_setCell _ _ _ _ h.nm),h.nl,h.nm,h.lm,h.lf,h.mf,
   λm a=>⟨(h.hold m a).1.kept (λg e=>Below.heap_setCell _ _ _ _ (λx=>(h.hold m a).2 g e (.inl x))),(h.hold m a).2⟩⟩
theorem qc9.seq {log waits:List TxM} (h:qc9 w b lv bm F S log waits) {s:Int} (x:Int) (c:0<=s) (d:s<=3):
 qc9 (w.setCell ⟨b,1+s.toNat,none⟩ (int i64 x)) b lv bm F {S with a0:=qf8 s x S.a0,a1:=qf7 s x S.a1,a2:=qgf s x S.a2,a3:=qf5 s x S.a3} log waits:=by
 refine h.cell (1+s.toNat) (int i64 x) (by omega) ?_ rfl
 have a:s=0\/s=1\/s=2\/s=3:=by omega
 rcases a with rfl|rfl|rfl|rfl<;>rfl
theorem qc9.last {log waits:List TxM} (h:qc9 w b lv bm F S log waits) (x y:Int):
 qc9 ((w.setCell ⟨b,5,none⟩ (int i64 x)).setCell ⟨b,6,none⟩ (int i64 y)) b lv bm F {S with lw:=x,lc:=y} log waits:=
 (h.cell (S':={S with lw:=x}) 5 (int i64 x) (by omega) rfl rfl).cell 6 (int i64 y) (by omega) rfl rfl
theorem qc9.append {f:World} {log waits:List TxM} (h:qc9 w b lv bm F S log waits) (m:TxM) (u:qat w m.wa m.wc m.t.ws/\∀k,m.blk k->¬qa4 b lv bm F k) {g d:Nat} (gr:w.grownBy f lv.ownBlock)
 (v:f.ownsRow 0 80 9 (.slice (some ⟨g,0,none⟩) (log.length+1) d) (log.length+1) (qef log++txC m)) (j:lv.ownBlock=some g\/w.heap.size<=g):
 qc9 (f.setCell ⟨b,7,none⟩ (.slice (some ⟨g,0,none⟩) (log.length+1) d)) b (.slice (some ⟨g,0,none⟩) (log.length+1) d) bm F S (log++[m]) waits/\(∀k,qa4 b (.slice (some ⟨g,0,none⟩) (log.length+1) d) bm F k->qa4 b lv bm F k\/w.heap.size<=k)/\
  qae (qa4 b lv bm F) w (f.setCell ⟨b,7,none⟩ (.slice (some ⟨g,0,none⟩) (log.length+1) d)):=by
 have gk:∀k,(Value.slice (some ⟨g,0,none⟩) (log.length+1) d).ownBlock=some k->g=k:=λk a=>by simpa[Value.ownBlock]using a
 have n:∀k,qa4 b (.slice (some ⟨g,0,none⟩) (log.length+1) d) bm F k->qa4 b lv bm F k\/w.heap.size<=k:=λk a=>by
  rcases a with a|a|a
  ·exact .inl (.inl a)
  ·obtain rfl:=gk k a;rcases j with c|c
   ·exact .inl (.inr (.inl c))
   ·exact .inr c
  ·exact .inl (.inr (.inr a))
 have o:∀k,k<w.heap.size->lv.ownBlock≠some k->g≠k:=λk a c e=>by
  rcases j with i|i
  ·exact c (by rw[<-e];exact i)
  ·omega
 have p:qae (qa4 b lv bm F) w (f.setCell ⟨b,7,none⟩ (.slice (some ⟨g,0,none⟩) (log.length+1) d)):=(qae.grown gr (λk a=>.inr (.inl a))).trans (qae.setCell f ⟨b,7,none⟩ _ (.inl rfl));have q:g≠b:=o b h.box.lt h.nl;have y:qnf f b 25 F S.l:=h.st.kept (λk e=>gr.block k (h.st.lt k e) (λx=>h.lf k x.symm e)) gr.size;refine⟨⟨(h.box.grown gr (λe=>h.nl e.symm)).set 7 _ (by simp[qb4]),y.other 7 _ (by omega),?_,(h.map.kept (gr.block bm h.map.lt (λx=>h.lm x.symm))).kept (Below.heap_setCell _ _ _ _ h.nm),λe=>q (gk b e),h.nm,λe=>o bm h.map.lt h.lm (gk bm e),λk e r=>?_,h.mf,λs z=>qc9.hold' (lv:=lv) (F:=F) (w:=w) ?_ p n⟩,n,p⟩
 ·have:=v.kept (row:=some b) (qhz b 7 f (.slice (some ⟨g,0,none⟩) (log.length+1) d)) (.inr (λe=>q (gk b e)));rw[qjy,List.length_append];exact this
 ·obtain rfl:=gk k e;rcases j with c|c
  ·exact h.lf _ c r
  ·have:=h.st.lt _ r;omega
 ·rcases List.mem_append.1 z with c|c
  ·rcases List.mem_append.1 c with i|i
   ·exact h.hold s (List.mem_append.2 (.inl i))
   ·obtain rfl:=List.mem_singleton.1 i;exact u
  ·exact h.hold s (List.mem_append.2 (.inr c))
theorem qc9.turn {log waits c:List TxM} (h:qc9 w b lv bm F S log waits) (gr:w.grownBy w' (some bm)) (i:qi8 w' bm c) (j:∀m∈c,m∈waits\/(qat w m.wa m.wc m.t.ws/\∀k,m.blk k->¬qa4 b lv bm F k)):qc9 w' b lv bm F S log c:=
 have ne:∀k,k≠bm->k<w.heap.size->w'.heap[k]?=w.heap[k]?:=λk l n=>gr.block k n (λe=>l (by injection e));have d:∀m:TxM,(qat w m.wa m.wc m.t.ws/\∀k,m.blk k->¬qa4 b lv bm F k)->(qat w' m.wa m.wc m.t.ws/\∀k,m.blk k->¬qa4 b lv bm F k):=λm a=>⟨a.1.kept (λk e=>ne k (λx=>a.2 k e (.inr (.inr (.inl x)))) (a.1.blk_lt k e)),a.2⟩
 ⟨h.box.kept (ne b (Ne.symm h.nm) h.box.lt) gr.size,h.st.kept (λk e=>ne k (λx=>h.mf (by rw[<-x];exact e)) (h.st.lt k e)) gr.size,qad h.rlog (λk e=>ne k (λx=>h.lm (by rw[<-x];exact e)) (h.rlog.lt k e).2),i,h.nl,h.nm,h.lm,h.lf,h.mf,
   λm a=>by
    rcases List.mem_append.1 a with f|f
    ·exact d m (h.hold m (List.mem_append.2 (.inl f)))
    ·rcases j m f with g|g
     ·exact d m (h.hold m (List.mem_append.2 (.inr g)))
     ·exact d m g⟩
end
section
open Go.RowKit
def okT (t:TxP):Bool:=qc7 t.site t.seq t.wall t.count t.d0 t.d1 t.d2 t.d3 t.ws
variable {t:TxP}
theorem qdn (h:okT t=true):(0<=t.site/\t.site<=3)/\(1<=t.seq/\t.seq<=1099511627776)/\1<=t.ws.length/\t.ws.length<=5:=by
 simp only[okT,qc7,Bool.and_eq_true,qa5,qd7]at h;refine⟨h.1.1.1.1.1,h.1.1.1.1.2,?_⟩;have:=h.2.2;omega
def qj8 (x:Int):Prop:=0<=x/\x<=1099511627776
structure qcr (S:qaf):Prop where
 id0:0<=S.id
 id3:S.id<=3
 nums:qm1 S.waits
 wt:∀x∈S.waits,okT x=true/\x.site≠S.id
 a0:qj8 S.a0
 a1:qj8 S.a1
 a2:qj8 S.a2
 a3:qj8 S.a3
 own:qao S.id S.a0 S.a1 S.a2 S.a3<=S.log.length
 log:S.log.length<=200
 lsite:∀x∈S.log,(0<=x.site/\x.site<=3)/\1<=x.ws.length/\x.ws.length<=5
 len:S.l.length<=5*S.log.length
 apart:qg7 S.l
 ok:∀h∈S.l,qdm h.v=true
variable {S:qaf}
theorem qcr.dep (h:qcr S) (s:Int):qj8 (qao s S.a0 S.a1 S.a2 S.a3):=by
 unfold qao;split
 ·exact h.a0
 ·split
  ·exact h.a1
  ·split
   ·exact h.a2
   ·exact h.a3
theorem q4u {l:List Hd} {key:Int} {v:Ver} (h:∀x∈l,qdm x.v=true):∀x∈qfd l key v,qdm x.v=true:=by
 unfold qfd;split
 ·rename_i e;intro x b;rcases List.mem_append.1 b with a|a
  ·exact h x a
  ·obtain rfl:=List.mem_singleton.1 a;unfold qgs at e;split at e
   ·split at e
    ·rename_i c;exact c
    ·cases e
   ·cases e
 ·exact h
theorem qqi (t:TxP):∀(ws:List Wr) (l:List Hd),qg7 l->(∀x∈l,qdm x.v=true)->qg7 (qfl t ws l)/\∀x∈qfl t ws l,qdm x.v=true
 |[],_,h1,h2=>⟨h1,h2⟩
 |x::ws,l,h1,h2=>qqi t ws (qfd l x.key (qrg t x)) (qx4 h1) (q4u h2)
theorem q2c (t:TxP) (s:Int) (b:0<=s) (c:s<=3):qao s (qbr S t).a0 (qbr S t).a1 (qbr S t).a2 (qbr S t).a3=if s=t.site then t.seq else qao s S.a0 S.a1 S.a2 S.a3:=by
 have a:s=0\/s=1\/s=2\/s=3:=by omega
 rcases a with rfl|rfl|rfl|rfl<;>simp[qbr,qao,qf8,qf7,qgf,qf5,eq_comm]
theorem qcr.applied (h:qcr S) (d:0<=t.site/\t.site<=3) (a:qj8 t.seq) (f:1<=t.ws.length/\t.ws.length<=5) (g:t.site=S.id->t.seq<=S.log.length+1) (j:S.log.length<200):qcr (qbr S t):=by
 have c:=qqi t t.ws S.l h.apart h.ok;refine⟨h.id0,h.id3,h.nums,h.wt,?_,?_,?_,?_,?_,?_,?_,?_,c.1,c.2⟩
 ·show qj8 (qf8 _ _ _);unfold qf8;split;exact a;exact h.a0
 ·show qj8 (qf7 _ _ _);unfold qf7;split;exact a;exact h.a1
 ·show qj8 (qgf _ _ _);unfold qgf;split;exact a;exact h.a2
 ·show qj8 (qf5 _ _ _);unfold qf5;split;exact a;exact h.a3
 ·show qao S.id _ _ _ _<=_;rw[q2c t S.id h.id0 h.id3];have:=h.own;split
  ·rename_i e;have:=g e.symm;simp[qbr];omega
  ·simp[qbr];omega
 ·simp[qbr];omega
 ·intro x i;rcases List.mem_append.1 (show x∈S.log++[t]from i)with b|b
  ·exact h.lsite x b
  ·obtain rfl:=List.mem_singleton.1 b;exact⟨d,f⟩
 ·have:=qfs t t.ws S.l;have:=h.len;simp[qbr];omega
theorem qcr.drop (h:qcr S) (t:TxP):qcr {S with waits:=qgc S.waits t}:=
 ⟨h.id0,h.id3,h.nums.drop t,λx a=>h.wt x (qq2.1 a).1,h.a0,h.a1,h.a2,h.a3,h.own,h.log,h.lsite,h.len,h.apart,h.ok⟩
theorem qcr.wait (h:qcr S) (b:okT t=true) (c:t.site≠S.id) (d:∀x∈S.waits,qb5 x t=false):qcr {S with waits:=S.waits++[t]}:=
 ⟨h.id0,h.id3,h.nums.snoc d,λx e=>by
   rcases List.mem_append.1 e with a|a
   ·exact h.wt x a
   ·obtain rfl:=List.mem_singleton.1 a
    exact⟨b,c⟩,h.a0,h.a1,h.a2,h.a3,h.own,h.log,h.lsite,h.len,h.apart,h.ok⟩
theorem qcr.gone (h:qcr S) {x:TxP} (a:x∈S.waits) (b:S.log.length<200):qcr (ql5 S x):=by
 obtain⟨c,d⟩:=h.wt x a;obtain⟨p1,p2,p3⟩:=qdn c;exact(h.drop x).applied p1 ⟨by omega,p2.2⟩ p3 (λe=>absurd e d) b
theorem Goes.inv {S':qaf} (h:Goes S S'):qcr S->qcr S':=by
 induction h with
 |full _=>exact id
 |none _=>exact id
 |step h1 h2 _ ih=>exact λk=>ih (k.gone (qj9 h2).1 h1)
theorem qcr.swept (h:qcr S) (x0 x1 x2 x3:Int):qcr {S with l:=qel x0 x1 x2 x3 S.l}:=
 ⟨h.id0,h.id3,h.nums,h.wt,h.a0,h.a1,h.a2,h.a3,h.own,h.log,h.lsite,Nat.le_trans qpo h.len,qtf h.apart,λx a=>h.ok x (List.mem_filter.1 a).1⟩
theorem qcr.knows (h:qcr S) (f:Nat->Int):qcr {S with oth:=f}:=
 ⟨h.id0,h.id3,h.nums,h.wt,h.a0,h.a1,h.a2,h.a3,h.own,h.log,h.lsite,h.len,h.apart,h.ok⟩
def qmz (id:Int):qaf:=⟨id,0,0,0,0,0,0,[],[],[],λ_=>0⟩
theorem qv2 (s:Int):qao s 0 0 0 0=0:=by
 unfold qao;split
 ·rfl
 ·split
  ·rfl
  ·split<;>rfl
theorem qh8:qj8 0:=⟨by omega,by omega⟩
theorem qcr.new {id:Int} (a:0<=id) (b:id<=3):qcr (qmz id):=
 ⟨a,b,by simp[qmz,qm1],by simp[qmz],qh8,qh8,qh8,qh8,by show qao id 0 0 0 0<=_;rw[qv2];simp,by simp[qmz],by simp[qmz],by simp[qmz],λx c=>by simp[qmz]at c,by simp[qmz]⟩
end
section
open Go.RowKit
theorem qxw:∀(l:List TxM) (i:Nat) (m:TxM) (r:Nat) (u:Value),l[i]?=some m->(txC m)[r]?=some u->(qef l)[i*9+r]?=some u
 |[],_,_,_,_,h,_=>by simp at h
 |x::l,0,m,r,u,h,hu=>by
  obtain rfl:x=m:=by simpa using h
  have a:r<(txC x).length:=(List.getElem?_eq_some_iff.1 hu).1;show (txC x++qef l)[0*9+r]?=some u;rw[Nat.zero_mul,Nat.zero_add,List.getElem?_append_left a];exact hu
 |x::l,i+1,m,r,u,h,hu=>by
  have b:=qxw l i m r u (by simpa using h) hu;show (txC x++qef l)[(i+1)*9+r]?=some u
  have e:(i+1)*9+r=(txC x).length+(i*9+r):=by simp[txC];omega
  rw[e,List.getElem?_append_right (by omega),Nat.add_sub_cancel_left];exact b
structure qec (w:World) (a:Option Addr) (cap:Nat) (l:List TxM):Prop where
 len:l.length<=cap
 cap:cap<=9223372036854775807
 held:l=[]\/∃b off,a=some ⟨b,off,none⟩/\∀i m r u,l[i]?=some m->(txC m)[r]?=some u->w.cell? ⟨b,off+(i*9+r),none⟩=some u
variable {w:World} {l:List TxM}
theorem qec.later {w':World} {a:Option Addr} {cap:Nat} (hb:Below w.heap.size w w') (h:qec w a cap l):qec w' a cap l:=
 ⟨h.len,h.cap,h.held.elim .inl λ⟨b,d,e,c⟩=>.inr ⟨b,d,e,λi m r u f g=>cell_later hb (c i m r u f g)⟩⟩
theorem qa6 {B:Nat} {T:TypeId} {v:Value} (h:w.ownsRow B T 9 v l.length (qef l)):∃a cap,v=.slice a l.length cap/\qec w a cap l:=by
 rcases h.2 with ⟨rfl,b⟩|⟨g,cap,cur,rfl,hb,k,d,e,n,o⟩
 ·exact⟨none,0,by rw[b],⟨by omega,by omega,.inl (List.eq_nil_of_length_eq_zero b)⟩⟩
 ·refine⟨_,cap,rfl,⟨d,by simp only[maxLen]at e;omega,.inr ⟨g,0,rfl,λi m r u f j=>?_⟩⟩⟩;have c:=h.cells (g:=g) rfl _ _ (qxw l i m r u f j);rw[qb8]at c;rw[Nat.zero_add];exact c
def qe4 (h0 h1 h2 h3:Int) (m:TxM):Bool:=decide (qao m.t.site h0 h1 h2 h3<m.t.seq)
end
section
open Go.Value Go.IntKind Go.RowKit
def qeo (lw lc now:Int):Int×Int×Int:=
 if (qai lw&&qai lc)=false then (0,0,2)else if qai now=false then (0,0,2)else if lw<now then (now,0,0)else if 1099511627776<lc+1 then (0,0,12)else (lw,lc+1,0)
def qay (S:qaf) (n:Nat) (now d0 d1 d2 d3:Int) (ws:List Wr):Int:=
 if qd7 ws=false then 1 else if qau d0 d1 d2 d3=false then 10 else if qe3 S.a0 S.a1 S.a2 S.a3 d0 d1 d2 d3=false then 10 else if 200<=n then 12 else (qeo S.lw S.lc now).2.2
def qbt (S:qaf) (now d0 d1 d2 d3:Int) (ws:List Wr):TxP:=
 ⟨S.id,qao S.id S.a0 S.a1 S.a2 S.a3+1,(qeo S.lw S.lc now).1,(qeo S.lw S.lc now).2.1,qf8 S.id (qao S.id S.a0 S.a1 S.a2 S.a3) d0,qf7 S.id (qao S.id S.a0 S.a1 S.a2 S.a3) d1,qgf S.id (qao S.id S.a0 S.a1 S.a2 S.a3) d2,qf5 S.id (qao S.id S.a0 S.a1 S.a2 S.a3) d3,ws⟩
def txZ:List Value:=[int i64 0,int i64 0,int i64 0,int i64 0,int i64 0,int i64 0,int i64 0,int i64 0,.slice none 0 0]
abbrev qbg (w:World) (b:Nat) (x0 x1 x2 x3 x4 x5 x6 x7:Int) (v:Value):World:=
 ((((((((w.setCell ⟨b,0,none⟩ (int i64 x0)).setCell ⟨b,1,none⟩ (int i64 x1)).setCell ⟨b,2,none⟩ (int i64 x2)).setCell ⟨b,3,none⟩ (int i64 x3)).setCell ⟨b,4,none⟩ (int i64 x4)).setCell ⟨b,5,none⟩ (int i64 x5)).setCell ⟨b,6,none⟩ (int i64 x6)).setCell ⟨b,7,none⟩ (int i64 x7)).setCell ⟨b,8,none⟩ v
variable {w W:World} {b:Nat}
theorem qfu (h:Below w.heap.size w W) (a:w.heap.size<=b) (x0 x1 x2 x3 c d e f:Int) (v:Value):Below w.heap.size w (qbg W b x0 x1 x2 x3 c d e f v):=
 ((((((((h.setCell a _).setCell a _).setCell a _).setCell a _).setCell a _).setCell a _).setCell a _).setCell a _).setCell a _
theorem qbk {xs:List Value} (h:qag W b xs) (f:xs.length=9) (x0 x1 x2 x3 a c d e:Int) (v:Value):qag (qbg W b x0 x1 x2 x3 a c d e v) b [int i64 x0,int i64 x1,int i64 x2,int i64 x3,int i64 a,int i64 c,int i64 d,int i64 e,v]:=by
 match xs,f with
 |[_,_,_,_,_,_,_,_,_],_=>exact((((((((h.set 0 _ (by simp)).set 1 _ (by simp)).set 2 _ (by simp)).set 3 _ (by simp)).set 4 _ (by simp)).set 5 _ (by simp)).set 6 _ (by simp)).set 7 _ (by simp)).set 8 _ (by simp)
variable {a0 a1 a2 a3 s:Int}
theorem qul (h:qbe w b a0 a1 a2 a3) (c:0<=s) (d:s<=3):w.frozen? ⟨b,s.toNat,none⟩=false:=by
 have a:s=0\/s=1\/s=2\/s=3:=by omega
 rcases a with rfl|rfl|rfl|rfl
 ·exact h.f0
 ·exact h.f1
 ·exact h.f2
 ·exact h.f3
theorem qze (h:qbe w b a0 a1 a2 a3) (c:0<=s) (d:s<=3) (x:Int):qbe (w.setCell ⟨b,s.toNat,none⟩ (int i64 x)) b (qf8 s x a0) (qf7 s x a1) (qgf s x a2) (qf5 s x a3):=by
 have a:s=0\/s=1\/s=2\/s=3:=by omega
 rcases a with rfl|rfl|rfl|rfl
 ·exact h.set0 x
 ·exact h.set1 x
 ·exact h.set2 x
 ·exact h.set3 x
theorem qkw {S:qaf} {lv wv sv:Value} (h:qag w b (qcf S lv wv sv)) (c:0<=s) (d:s<=3):w.cell? ⟨b,1+s.toNat,none⟩=some (int i64 (qao s S.a0 S.a1 S.a2 S.a3)):=by
 have a:s=0\/s=1\/s=2\/s=3:=by omega
 rcases a with rfl|rfl|rfl|rfl
 ·exact h.cell 1 _ rfl
 ·exact h.cell 2 _ rfl
 ·exact h.cell 3 _ rfl
 ·exact h.cell 4 _ rfl
end
section
open Go.RowKit
variable {n:Nat}
theorem qhh {S:qaf} {now d0 d1 d2 d3:Int} {ws:List Wr} (h:qay S n now d0 d1 d2 d3 ws=0):qd7 ws=true/\qau d0 d1 d2 d3=true/\qe3 S.a0 S.a1 S.a2 S.a3 d0 d1 d2 d3=true/\¬200<=n/\(qeo S.lw S.lc now).2.2=0:=by
 unfold qay at h;cases h1:qd7 ws
 ·rw[if_pos h1]at h;cases h
 ·rw[if_neg (by rw[h1];decide)]at h;cases h2:qau d0 d1 d2 d3
  ·rw[if_pos h2]at h;cases h
  ·rw[if_neg (by rw[h2];decide)]at h;cases h3:qe3 S.a0 S.a1 S.a2 S.a3 d0 d1 d2 d3
   ·rw[if_pos h3]at h;cases h
   ·rw[if_neg (by rw[h3];decide)]at h;by_cases a:200<=n
    ·rw[if_pos a]at h;cases h
    ·rw[if_neg a]at h;exact⟨rfl,rfl,rfl,a,h⟩
theorem qo3 {w:World} {b c:Nat} {l:List Wr} (h:qcy w b c l):∀j u,(qf4 l)[j]?=some u->w.cell? ((⟨b,c,none⟩:Addr).add j)=some u:=λj u a=>by
 have f:(⟨b,c,none⟩:Addr).add j=⟨b,c+j,none⟩:=by unfold Addr.add;split<;>simp_all
 have i:j<l.length*3:=by
  have:=(List.getElem?_eq_some_iff.1 a).1;rw[qdq]at this;exact this
 have d:j/3<l.length:=by omega
 obtain⟨a0,a1,a2⟩:=qsx l (j/3) d;obtain⟨c0,c1,c2⟩:=h (j/3) d;rw[f]
 have g:j=j/3*3\/j=j/3*3+1\/j=j/3*3+2:=by omega
 rcases g with e|e|e
 ·rw[<-e]at a0 c0;rw[a0]at a;injection a with a;rw[<-a];exact c0
 ·rw[<-e]at a1;rw[Nat.add_assoc,<-e]at c1;rw[a1]at a;injection a with a;rw[<-a];exact c1
 ·rw[show j/3*3+1+1=j/3*3+2 from rfl,<-e]at a2;rw[show c+j/3*3+1+1=c+(j/3*3+2) by omega,<-e]at c2;rw[a2]at a;injection a with a;rw[<-a];exact c2
theorem qih (l:List Wr):∀u∈qf4 l,u.oneCell'=true:=by
 intro u b;obtain⟨x,_,a⟩:=List.mem_flatMap.1 b;simp[wrC]at a
 rcases a with rfl|rfl|rfl<;>rfl
theorem qmx:(Tryz.prog.info? 34).map (λi=>(i.zero,i.size,i.bytes))=some (some (.agg #[.int .i64 0,.string ⟨#[]⟩,.bool false]),3,32):=by kernel_rfl
theorem qh1 (w:World) (T:TypeId) (a:w.heap.size=n) (B:Nat) (b:B<=n):(w.alloc (.cells #[] T)).ownsRow B T 3 (.slice (some ⟨n,0,none⟩) 0 0) 0 []:=by
 subst a;exact⟨rfl,.inr ⟨w.heap.size,0,#[],rfl,b,heap_alloc_new w (.cells #[] T),Nat.le_refl _,by decide,rfl,rfl⟩⟩
end
section
open Tryz Go.RowKit
theorem qnp (a0 a1 a2 a3 a b c d:Int) (w:World):
 Calls prog 21 #[.agg #[.int .i64 a0,.int .i64 a1,.int .i64 a2,.int .i64 a3],.agg #[.int .i64 a,.int .i64 b,.int .i64 c,.int .i64 d]] w λe w'=>e=.returned (.bool (qe3 a0 a1 a2 a3 a b c d))/\Below w.heap.size w w':=by
 by_cases g:a0<a
 ·have e:qe3 a0 a1 a2 a3 a b c d=false:=by simp[qe3];omega
  rw[e];clear e;go_enter func21,ntmps21
  go_wp2
  refine wp_loop_rounds 5 ?_;rw[rounds_succ]
  go_wp2
  go_quiet (fail)
  go_wp2
  go_ret;exact⟨rfl,by repeat (first|exact Below.refl _ _|apply qam|apply boxed)⟩
 by_cases h:a1<b
 ·have e:qe3 a0 a1 a2 a3 a b c d=false:=by simp[qe3];omega
  rw[e];clear e;go_enter func21,ntmps21
  go_wp2
  refine wp_loop_rounds 5 ?_;rw[rounds_succ]
  go_wp2
  go_quiet (fail)
  go_wp2
  rw[rounds_succ]
  go_wp2
  go_quiet (fail)
  go_wp2
  go_ret;exact⟨rfl,by repeat (first|exact Below.refl _ _|apply qam|apply boxed)⟩
 by_cases i:a2<c
 ·have e:qe3 a0 a1 a2 a3 a b c d=false:=by simp[qe3];omega
  rw[e];clear e;go_enter func21,ntmps21
  go_wp2
  refine wp_loop_rounds 5 ?_;rw[rounds_succ]
  go_wp2
  go_quiet (fail)
  go_wp2
  rw[rounds_succ]
  go_wp2
  go_quiet (fail)
  go_wp2
  rw[rounds_succ]
  go_wp2
  go_quiet (fail)
  go_wp2
  go_ret;exact⟨rfl,by repeat (first|exact Below.refl _ _|apply qam|apply boxed)⟩
 by_cases j:a3<d
 ·have e:qe3 a0 a1 a2 a3 a b c d=false:=by simp[qe3];omega
  rw[e];clear e;go_enter func21,ntmps21
  go_wp2
  refine wp_loop_rounds 5 ?_;rw[rounds_succ]
  go_wp2
  go_quiet (fail)
  go_wp2
  rw[rounds_succ]
  go_wp2
  go_quiet (fail)
  go_wp2
  rw[rounds_succ]
  go_wp2
  go_quiet (fail)
  go_wp2
  rw[rounds_succ]
  go_wp2
  go_quiet (fail)
  go_wp2
  go_ret;exact⟨rfl,by repeat (first|exact Below.refl _ _|apply qam|apply boxed)⟩
 have e:qe3 a0 a1 a2 a3 a b c d=true:=by simp[qe3];omega
 rw[e];clear e;go_enter func21,ntmps21
 go_wp2
 refine wp_loop_rounds 5 ?_;rw[rounds_succ]
 go_wp2
 go_quiet (fail)
 go_wp2
 rw[rounds_succ]
 go_wp2
 go_quiet (fail)
 go_wp2
 rw[rounds_succ]
 go_wp2
 go_quiet (fail)
 go_wp2
 rw[rounds_succ]
 go_wp2
 go_quiet (fail)
 go_wp2
 rw[rounds_succ]
 go_wp2
 go_ret;exact⟨rfl,by repeat (first|exact Below.refl _ _|apply qam|apply boxed)⟩
theorem qho {a0 a1 a2 a3 a b c d:Int} {v:Bool} (h:qe3 a0 a1 a2 a3 a b c d=v) (w:World):
 Calls prog 21 #[.agg #[.int .i64 a0,.int .i64 a1,.int .i64 a2,.int .i64 a3],.agg #[.int .i64 a,.int .i64 b,.int .i64 c,.int .i64 d]] w λe w'=>e=.returned (.bool v)/\Below w.heap.size w w':=by
 subst h;exact qnp _ _ _ _ _ _ _ _ w
end
section
open Tryz Go.Value Go.IntKind Go.RowKit Go.Maps
def q4e (w:World) (ws:List Wr) (e:Ending) (w':World):Prop:=∃g c,e=.returned (.slice (some ⟨g,0,none⟩) ws.length c)/\qat w' (some ⟨g,0,none⟩) c ws/\w.heap.size<=g/\Below w.heap.size w w'
theorem q56 (p:Addr) (n c:Nat) (w:World):(binOp .eql 65 (.slice (some p) n c) (.slice none 0 0)).run prog w=.ok (.bool false) w:=by kernel_rfl
variable {ws:List Wr}
theorem qy3 {a:Option Addr} {cap:Nat} (w:World) (k:qat w a cap ws) (i:1<=ws.length) (z:ws.length<=1000):
 Calls prog 166 #[.slice a ws.length cap] w (q4e w ws):=by
 obtain⟨b,d,rfl,B⟩:∃b d,a=some ⟨b,d,none⟩/\qcy w b d ws:=by
  rcases k.held with e|e
  ·rw[e]at i;simp at i
  ·exact e
 have T:=k.len;obtain⟨E,F,G,H,I⟩:=info_parts qmx;have J:=qh1 w 34 rfl w.heap.size (Nat.le_refl _);have p:=boxed (Below.refl _ w) (.cells #[] 34);have K:Hid (∀j u,(qf4 ws)[j]?=some u->(w.alloc (.cells #[] 34)).cell? ((⟨b,d,none⟩:Addr).add j)=some u):=qo3 (B.later p);have x:Hid (1<=ws.length/\ws.length<=1000):=⟨i,z⟩;clear B k i z;have U:=q56;go_enter func166,ntmps166
 go_wp2_with (at_builtin;refine wpList_append_lies _ rfl (.tmp 5) (.tmp 6) 65 rfl w.heap.size 34 E (.agg #[int i64 0,.string ⟨#[]⟩,.bool false]) 3 32 underlying65 F G H I rfl (by decide) (.slice (some ⟨w.heap.size,0,none⟩) 0 0) 0 [] rfl J ⟨b,d,none⟩ ws.length cap (qf4 ws) rfl (qdq ws) K.out (qih ws) (by have:=x.out;omega) (by have:=x.out;simp only[maxLen];omega) (by have:=x.out;omega) (by simp) _ rfl ?_;intro g L V C M N X)
 go_ret;rw[Nat.zero_add,List.nil_append]at C;obtain⟨a2,c2,y,O⟩:=qcw C;injection y with y _ e3;subst y e3
 have P:w.heap.size<=g:=by
  rcases N with h|h
  ·simp[Value.ownBlock]at h;omega
  ·simp at h;omega
 refine⟨g,L,rfl,O,P,?_⟩;exact p.grown M p.size (λj R=>by simp[Value.ownBlock]at R;omega)
variable {W:World} {b:Nat}
theorem qda {k:Nat} (h:k≠b) (x0 x1 x2 x3 d e f g:Int) (v:Value):(qbg W b x0 x1 x2 x3 d e f g v).heap[k]?=W.heap[k]?:=
 (Below.heap_setCell _ _ _ _ h).trans ((Below.heap_setCell _ _ _ _ h).trans ((Below.heap_setCell _ _ _ _ h).trans ((Below.heap_setCell _ _ _ _ h).trans ((Below.heap_setCell _ _ _ _ h).trans ((Below.heap_setCell _ _ _ _ h).trans ((Below.heap_setCell _ _ _ _ h).trans ((Below.heap_setCell _ _ _ _ h).trans (Below.heap_setCell _ _ _ _ h))))))))
variable {c:Nat}
theorem qsa {d:List Value} (h:qag W b d) (e:b≠c) (x0 x1 x2 x3 f g i j:Int) (v:Value):qag (qbg W c x0 x1 x2 x3 f g i j v) b d:=
 h.kept (qda e _ _ _ _ _ _ _ _ _) (by simp[qbg,World.setCell])
variable {w:World} {r:Option Nat}
theorem qde {p:Addr} (h:w.grownBy W r) (f:w.heap.size<=p.block) (v:Value):w.grownBy (W.setCell p v) r:=
 ⟨h.os,h.tape,h.output,by simpa[World.setCell]using h.size,λk d e=>(Below.heap_setCell _ _ _ _ (by omega)).trans (h.block k d e)⟩
theorem q17 (h:w.grownBy W r) (d:w.heap.size<=b) (x0 x1 x2 x3 e f g i:Int) (v:Value):w.grownBy (qbg W b x0 x1 x2 x3 e f g i v) r:=
 qde (qde (qde (qde (qde (qde (qde (qde (qde h d _) d _) d _) d _) d _) d _) d _) d _) d _
def qxe (w:World) (t:TxP) (e:Ending) (w':World):Prop:=∃m,m.t=t/\e=.returned (txV m)/\qat w' m.wa m.wc m.t.ws/\(∀k,m.blk k->w.heap.size<=k)/\Below w.heap.size w w'
theorem q0v {d:World} {g:Nat} {site seq wall count d0 d1 d2 d3:Int} {v:Value} (W1:qat d (some ⟨g,0,none⟩) c ws) (t:w.heap.size+2<=g) (hb:Below w.heap.size w d):
 qxe w ⟨site,seq,wall,count,d0,d1,d2,d3,ws⟩ (.returned (txV ⟨⟨site,seq,wall,count,d0,d1,d2,d3,ws⟩,some ⟨g,0,none⟩,c⟩)) (qbg (d.setCell ⟨w.heap.size,8,none⟩ v) (w.heap.size+1) site seq wall count d0 d1 d2 d3 v):=by
 have f:=hb.setCell (p:=⟨w.heap.size,8,none⟩) (Nat.le_refl _) v;have h:=qfu f (Nat.le_succ _) site seq wall count d0 d1 d2 d3 v
 have n1:g≠w.heap.size+1:=by omega
 have i:g≠w.heap.size:=by omega
 have j:(qbg (d.setCell ⟨w.heap.size,8,none⟩ v) (w.heap.size+1) site seq wall count d0 d1 d2 d3 v).heap[g]?=d.heap[g]?:=(qda n1 site seq wall count d0 d1 d2 d3 v).trans (Below.heap_setCell _ _ _ _ i)
 generalize qbg (d.setCell ⟨w.heap.size,8,none⟩ v) (w.heap.size+1) site seq wall count d0 d1 d2 d3 v=W at*
 refine⟨⟨⟨site,seq,wall,count,d0,d1,d2,d3,ws⟩,some ⟨g,0,none⟩,c⟩,rfl,rfl,?_,?_,h⟩
 ·refine qat.kept (m:=⟨⟨site,seq,wall,count,d0,d1,d2,d3,ws⟩,some ⟨g,0,none⟩,c⟩) (w:=d) W1 (λk e=>?_);obtain⟨_,o,e⟩:=e;injection e with e;injection e with e1 e2;rw[<-e1];exact j
 ·rintro k ⟨_,o,e⟩;injection e with e;injection e with e1 e2;omega
variable {m:TxM}
theorem qqy {tmps:Array Value} (h:qag w b (txC m)) (d:tmps[2]?=some (.pointer (some ⟨b,0,none⟩))):
 (results f138 tmps).run prog w=.ok (txV m) w:=by
 obtain⟨e,g,i,j,k,p,t,x,y⟩:=h.c9;simp[results,results138,go_sem,d,e,g,i,j,k,p,t,x,y,txV]
theorem qf6 (m:TxM) (w:World) (k:qat w m.wa m.wc m.t.ws) (i:1<=m.t.ws.length) (p:m.t.ws.length<=1000):
 Calls prog 138 #[txV m] w (qxe w m.t):=by
 obtain⟨⟨site,seq,wall,count,d0,d1,d2,d3,ws⟩,a,cap⟩:=m;simp only at k i p;show Calls prog 138 #[.agg #[int i64 site,int i64 seq,int i64 wall,int i64 count,int i64 d0,int i64 d1,int i64 d2,int i64 d3,.slice a ws.length cap]] w _;have d:=(qag.new (w:=w) (T:=80) [int i64 site,int i64 seq,int i64 wall,int i64 count,int i64 d0,int i64 d1,int i64 d2,int i64 d3,.slice a ws.length cap] rfl).boxed (.cells #[int i64 0,int i64 0,int i64 0,int i64 0,int i64 0,int i64 0,int i64 0,int i64 0,.slice none 0 0] 80);have h:=qag.new (w:=w.alloc (.cells #[int i64 site,int i64 seq,int i64 wall,int i64 count,int i64 d0,int i64 d1,int i64 d2,int i64 d3,.slice a ws.length cap] 80)) (T:=80) (n:=w.heap.size+1) [int i64 0,int i64 0,int i64 0,int i64 0,int i64 0,int i64 0,int i64 0,int i64 0,.slice none 0 0] (by simp);have hb:=boxed (boxed (Below.refl _ w) (.cells #[int i64 site,int i64 seq,int i64 wall,int i64 count,int i64 d0,int i64 d1,int i64 d2,int i64 d3,.slice a ws.length cap] 80)) (.cells #[int i64 0,int i64 0,int i64 0,int i64 0,int i64 0,int i64 0,int i64 0,int i64 0,.slice none 0 0] 80);have x:=k.later hb;have B:=d.cell 8 _ rfl;go_enter func138,ntmps138
 go_wp2_with fail
 refine(qy3 _ x i p).mono ?_;rintro e y ⟨g,c,rfl,W1,z,j⟩;replace d:=d.later j;replace h:=h.later j;replace hb:=qac hb j;have I:=d.free 8 (by simp);have RS:=d.set 8 (.slice (some ⟨g,0,none⟩) ws.length c) (by simp);have C:=h.far ⟨w.heap.size,8,none⟩ (.slice (some ⟨g,0,none⟩) ws.length c) (by simp)
 have J:g<y.heap.size:=by
  rcases W1.held with e|⟨K,L,e,E⟩
  ·rw[e]at i;simp at i
  ·injection e with e;injection e with e1 e2;subst e1;exact World.block_lt_of_cell? _ _ (E 0 (by omega)).1
 have F:w.heap.size+2<=g:=by simpa using z
 obtain⟨c0,c1,c2,c3,M,N,c6,O,P⟩:=d.c9;obtain⟨R,U,V,X,Y,Z,z6,z7,z8⟩:=h.f9;obtain⟨y0,y1,y2,y3,y4,y5,y6,y7,y8⟩:=h.c9;have G:=qbk C rfl site seq wall count d0 d1 d2 d3 (.slice (some ⟨g,0,none⟩) ws.length c);have H:Hid (qxe w ⟨site,seq,wall,count,d0,d1,d2,d3,ws⟩ (.returned (txV ⟨⟨site,seq,wall,count,d0,d1,d2,d3,ws⟩,some ⟨g,0,none⟩,c⟩)) (qbg (y.setCell ⟨w.heap.size,8,none⟩ (.slice (some ⟨g,0,none⟩) ws.length c)) (w.heap.size+1) site seq wall count d0 d1 d2 d3 (.slice (some ⟨g,0,none⟩) ws.length c))):=q0v W1 F hb;clear j B d h hb x k W1 z
 go_wp2_with fail
 exact bodyPost_ret (qqy (m:=⟨⟨site,seq,wall,count,d0,d1,d2,d3,ws⟩,some ⟨g,0,none⟩,c⟩) G rfl) rfl H.out
variable {w':World} {bm:Nat} {D:DataW Value}
theorem qi8.put {ws:List TxM} (e:∀x∈ws,wfN x) (i:qm1 (ws.map (·.t))) (j:w.ownsMap prog 248 qe8 bm ws.length D) (k:qth D ws) (f:wfN m) (g:∀x∈ws,qb5 x.t m.t=false)
 (p:w'.ownsMap prog 248 qe8 bm (ws.length+1) (D.put (qhc m.t.site m.t.seq) (.held (txV m)))):qi8 w' bm (ws++[m]):=by
 refine⟨λx d=>?_,?_,_,by rw[List.length_append];exact p,qxm (j.tidy ql6) k e f g⟩
 ·rcases List.mem_append.1 d with h|h
  ·exact e x h
  ·rw[List.mem_singleton.1 h];exact f
 ·rw[List.map_append];refine qm1.snoc i (λx d=>?_);obtain⟨y,z,rfl⟩:=List.mem_map.1 d;exact g y z
theorem qi8.del {ws:List TxM} (d:∀x∈ws,wfN x) (e:qm1 (ws.map (·.t))) (h:w.ownsMap prog 248 qe8 bm ws.length D) (i:qth D ws) (j:m∈ws)
 (k:w'.ownsMap prog 248 qe8 bm ws.length (D.del (qhc m.t.site m.t.seq))):qi8 w' bm (qis ws m.t):=by
 have f:=qzr (h.tidy ql6) i d e j;refine⟨λx p=>d x (qht.1 p).1,by rw[qmj];exact e.drop _,_,?_,f⟩;obtain⟨y,z,B,C,E,g⟩:=k;refine⟨y,z,B,C,?_,g⟩;have:=f.size;rw[g]at this;simp[Maps.size,length_sorted]at this;omega
variable {l:List TxM}
theorem q0d (m:TxM) (w:World) (y:qi8 w bm l) (d:wfN m) (h:∀x∈l,qb5 x.t m.t=false) (i:l.length<=1000):
 Calls prog 151 #[.map (some bm),txV m] w λe w'=>e=.returned (.tuple #[])/\qi8 w' bm (l++[m])/\w.grownBy w' (some bm):=by
 obtain⟨j,k,D,g,p⟩:=y;have z:Hid (∀w',_->qi8 w' bm (l++[m])):=λw'=>qi8.put (w':=w') j k g p d h;have B:Hid (keyOf prog 248 (qws m.t.site m.t.seq)=some (qhc m.t.site m.t.seq)):=qrh d.1 d.2;have C:Hid (l.length<=1000):=i;obtain⟨⟨site,seq,wall,count,d0,d1,d2,d3,ws⟩,a,cap⟩:=m;have E:=World.grownBy_alloc w (.cells #[int i64 site,int i64 seq,int i64 wall,int i64 count,int i64 d0,int i64 d1,int i64 d2,int i64 d3,.slice a ws.length cap] 80) (some bm);have F:=g.alloc (.cells #[int i64 site,int i64 seq,int i64 wall,int i64 count,int i64 d0,int i64 d1,int i64 d2,int i64 d3,.slice a ws.length cap] 80);show Calls prog 151 #[.map (some bm),.agg #[int i64 site,int i64 seq,int i64 wall,int i64 count,int i64 d0,int i64 d1,int i64 d2,int i64 d3,.slice a ws.length cap]] w _;clear j k g p d h i;go_enter func151,ntmps151
 go_wp2_with (at_mapUpdate;refine wpList_mapUpdate_in _ rfl _ _ _ 141 rfl 248 80 ql6 underlying141 qe8 bm l.length D rfl F (by have:=C.out;simp only[maxLen];omega) _ _ _ rfl rfl B.out _ _ rfl ?_;intro w2 G H)
 go_end0;exact⟨rfl,z.out w2 G,E.trans H.grown⟩
theorem qlu {v:Value} {d:DataW Value} {ps:List MemPlace} (h:qe8 v=some (d,ps)):d=.held v:=by
 unfold qe8 at h;injection h with h;injection h with h1 h2;exact h1.symm
variable {o:Oper} {a:Act} {Q:Exit->Act->World->Prop} {n:Nat} {s q:Int} {u:Value} {v:Bool}
theorem qsg {g:Array Oper} {rest:List Oper} (w:World) (h:o.guard=none) (d f:Operand) (i:o.op=Op.lookup 141 d f true)
 (j:a.eval d=.map (some bm)) (k:w.ownsMap prog 248 qe8 bm n D) (p:a.eval f=qws s q) (x:keyOf prog 248 (qws s q)=some (qhc s q)) (y:Maps.has D (qhc s q)=v) (z:D.atKey (qhc s q) (.held q26)=.held u)
 (B:wpList prog g Q rest (a.put o.dst (.tuple #[u,.bool v])) w):wpList prog g Q (o::rest) a w:=by
 refine wpList_lookup_own_ok w h d f 141 i 248 80 ql6 underlying141 qe8 (qy0 w) (.held q26) [] rfl bm n D j k (qws s q) (qhc s q) p x ?_;intro E ps C;have e:=qlu C;rw[z]at e;injection e with e;rw[<-e,y];exact B
theorem qqu {d:Array Oper} {rest:List Oper} (w:World) (h:o.guard=none) (f g:Operand) (i:o.op=Op.lookup 141 f g false)
 (j:a.eval f=.map (some bm)) (k:w.ownsMap prog 248 qe8 bm n D) (p:a.eval g=qws s q) (x:keyOf prog 248 (qws s q)=some (qhc s q)) (y:D.atKey (qhc s q) (.held q26)=.held u)
 (z:wpList prog d Q rest (a.put o.dst u) w):wpList prog d Q (o::rest) a w:=by
 refine wpList_plain h λF B=>?_;obtain⟨G,ps,C,E⟩:=k.lookup ql6 underlying141 (qy0 w) (zd:=.held q26) (zp:=[]) rfl x;have e:=qlu E;rw[y]at e;injection e with e;subst e;unfold Oper.wp;simp[execOp,i,j,p,C,Result.andThen];exact B _ _ z
theorem qrk {tmps:Array Value} (h:qag w b (txC m)) (d:tmps[6]?=some (.pointer (some ⟨b,0,none⟩))) (e:tmps[7]?=some (.bool v)):
 (results f168 tmps).run prog w=.ok (.tuple #[txV m,.bool v]) w:=by
 obtain⟨g,i,j,k,p,t,x,y,z⟩:=h.c9;simp[results,results168,go_sem,d,e,g,i,j,k,p,t,x,y,z,txV]
def tx0:TxM:=⟨⟨0,0,0,0,0,0,0,0,[]⟩,none,0⟩
structure qrc (l:List TxM) (s q:Int) (m:TxM) (v:Bool):Prop where
 yes:v=true->m∈l/\m.t.site=s/\m.t.seq=q
 no:v=false->m=tx0/\∀x∈l,¬(x.t.site=s/\x.t.seq=q)
theorem qxv (l:List TxM) (s q:Int):∃m v,qrc l s q m v:=by
 by_cases h:∃m∈l,m.t.site=s/\m.t.seq=q
 ·obtain⟨m,d,f,g⟩:=h;exact⟨m,true,λ_=>⟨d,f,g⟩,λe=>by cases e⟩
 ·exact⟨tx0,false,λe=>(by cases e),λ_=>⟨rfl,λx i e=>h ⟨x,i,e⟩⟩⟩
theorem qtq (d:qrc l s q m v) (g:wfI s) (h:wfI q) (w:World) (x:qi8 w bm l):
 Calls prog 168 #[.map (some bm),int i64 s,int i64 q] w λe w'=>e=.returned (.tuple #[txV m,.bool v])/\Below w.heap.size w w':=by
 obtain⟨y,z,D,j,i⟩:=x;have B:Hid (keyOf prog 248 (qws s q)=some (qhc s q)):=qrh g h
 have C:Maps.has D (qhc s q)=v/\D.atKey (qhc s q) (.held q26)=.held (txV m):=by
  cases v with
  |true=>
   obtain⟨p1,p2,p3⟩:=d.yes rfl;have:=i.has m p1;rw[p2,p3]at this;exact⟨this.1,this.2 _⟩
  |false=>
   obtain⟨p1,p2⟩:=d.no rfl;have e:=i.no s q g h p2;exact⟨e,by rw[atKey_of_not_has e,p1];rfl⟩
 obtain⟨k,p⟩:=C;have E:=j.alloc (.cells #[int i64 0,int i64 0,int i64 0,int i64 0,int i64 0,int i64 0,int i64 0,int i64 0,.slice none 0 0] 80);have hb:=boxed (boxed (Below.refl _ w) (.cells #[int i64 0,int i64 0,int i64 0,int i64 0,int i64 0,int i64 0,int i64 0,int i64 0,.slice none 0 0] 80)) (.cells #[int i64 0,int i64 0,int i64 0,int i64 0,int i64 0,int i64 0,int i64 0,int i64 0,.slice none 0 0] 80);have F:Hid (D.atKey (qhc s q) (.held q26)=.held (txV m)):=p;have G:Hid (Maps.has D (qhc s q)=v):=k;obtain⟨⟨site,seq,wall,count,d0,d1,d2,d3,ws⟩,a,cap⟩:=m;have H:=(qag.new (w:=w) (T:=80) [int i64 site,int i64 seq,int i64 wall,int i64 count,int i64 d0,int i64 d1,int i64 d2,int i64 d3,.slice a ws.length cap] rfl).boxed (.cells #[int i64 site,int i64 seq,int i64 wall,int i64 count,int i64 d0,int i64 d1,int i64 d2,int i64 d3,.slice a ws.length cap] 80);have I:=boxed (boxed (Below.refl _ w) (.cells #[int i64 site,int i64 seq,int i64 wall,int i64 count,int i64 d0,int i64 d1,int i64 d2,int i64 d3,.slice a ws.length cap] 80)) (.cells #[int i64 site,int i64 seq,int i64 wall,int i64 count,int i64 d0,int i64 d1,int i64 d2,int i64 d3,.slice a ws.length cap] 80);clear d y z j i k p g h hb;go_enter func168,ntmps168
 go_wp2_with (at_lookup;refine qsg _ rfl _ _ rfl (u:=.agg #[int i64 site,int i64 seq,int i64 wall,int i64 count,int i64 d0,int i64 d1,int i64 d2,int i64 d3,.slice a ws.length cap]) rfl E rfl B.out G.out F.out ?_)
 exact bodyPost_ret (qrk (m:=⟨⟨site,seq,wall,count,d0,d1,d2,d3,ws⟩,a,cap⟩) H rfl rfl) rfl ⟨rfl,I⟩
theorem q3i (d:qrc l s q m v) (g:wfI s) (h:wfI q) (w:World) (i:qi8 w bm l):
 Calls prog 149 #[.map (some bm),int i64 s,int i64 q] w λe w'=>e=.returned (.bool v)/\Below w.heap.size w w':=by
 have F:=qtq d g h w i;obtain⟨⟨site,seq,wall,count,d0,d1,d2,d3,ws⟩,a,cap⟩:=m;clear d;go_enter func149,ntmps149
 go_wp2_with fail
 refine F.mono ?_;rintro e k ⟨rfl,j⟩;simp only[txV]
 go_wp2_with fail
 go_ret;exact⟨rfl,boxed j _⟩
theorem qro {tmps:Array Value} (h:qag w b (txC m)) (d:tmps[6]?=some (.pointer (some ⟨b,0,none⟩))):
 (results f171 tmps).run prog w=.ok (txV m) w:=by
 obtain⟨e,g,i,j,k,p,t,x,y⟩:=h.c9;simp[results,results171,go_sem,d,e,g,i,j,k,p,t,x,y,txV]
theorem q2d (h:m∈l) (w:World) (x:qi8 w bm l):
 Calls prog 171 #[.map (some bm),int i64 m.t.site,int i64 m.t.seq] w λe w'=>e=.returned (txV m)/\qi8 w' bm (qis l m.t)/\w.grownBy w' (some bm):=by
 have C:=x.lt;obtain⟨i,y,D,j,k⟩:=x;have z:Hid (keyOf prog 248 (qws m.t.site m.t.seq)=some (qhc m.t.site m.t.seq)):=qrh (i m h).1 (i m h).2;have E:Hid (D.atKey (qhc m.t.site m.t.seq) (.held q26)=.held (txV m)):=(k.has m h).2 _;have F:Hid (∀w',w'.ownsMap prog 248 qe8 bm l.length (D.del (qhc m.t.site m.t.seq))->qi8 w' bm (qis l m.t)):=λw'=>qi8.del (w':=w') i y j k h;have B:=j.alloc (.cells #[int i64 0,int i64 0,int i64 0,int i64 0,int i64 0,int i64 0,int i64 0,int i64 0,.slice none 0 0] 80);obtain⟨⟨site,seq,wall,count,d0,d1,d2,d3,ws⟩,a,cap⟩:=m;have G:=B.alloc (.cells #[int i64 site,int i64 seq,int i64 wall,int i64 count,int i64 d0,int i64 d1,int i64 d2,int i64 d3,.slice a ws.length cap] 80);have H:=qag.new (w:=w.alloc (.cells #[int i64 0,int i64 0,int i64 0,int i64 0,int i64 0,int i64 0,int i64 0,int i64 0,.slice none 0 0] 80)) (T:=80) (n:=w.heap.size+1) [int i64 site,int i64 seq,int i64 wall,int i64 count,int i64 d0,int i64 d1,int i64 d2,int i64 d3,.slice a ws.length cap] (by simp);have I:=(qag.new (w:=w) (T:=80) [int i64 0,int i64 0,int i64 0,int i64 0,int i64 0,int i64 0,int i64 0,int i64 0,.slice none 0 0] rfl).boxed (.cells #[int i64 site,int i64 seq,int i64 wall,int i64 count,int i64 d0,int i64 d1,int i64 d2,int i64 d3,.slice a ws.length cap] 80);have J:=(World.grownBy_alloc w (.cells #[int i64 0,int i64 0,int i64 0,int i64 0,int i64 0,int i64 0,int i64 0,int i64 0,.slice none 0 0] 80) (some bm)).trans (World.grownBy_alloc _ (.cells #[int i64 site,int i64 seq,int i64 wall,int i64 count,int i64 d0,int i64 d1,int i64 d2,int i64 d3,.slice a ws.length cap] 80) (some bm));clear i y j k h;go_enter func171,ntmps171
 go_wp2_with (first|(at_lookup;refine qqu _ rfl _ _ rfl (u:=.agg #[int i64 site,int i64 seq,int i64 wall,int i64 count,int i64 d0,int i64 d1,int i64 d2,int i64 d3,.slice a ws.length cap]) rfl B rfl z.out E.out ?_)|(at_delete;refine wpList_delete_own _ rfl _ _ 141 248 rfl 80 ql6 underlying141 qe8 bm l.length D rfl G _ _ rfl z.out ?_;intro K L p;have g:=H.grown p.grown (λe=>by injection e with e;omega);have d:=I.grown p.grown (λe=>by injection e with e;omega);have c0:=g.cell 0 _ rfl;have M:=d.cell 0 _ rfl;have N:=d.free 0 (by simp);have c1:=g.cell 1 _ rfl;have O:=d.cell 1 _ rfl;have P:=d.free 1 (by simp);have c2:=g.cell 2 _ rfl;have R:=d.cell 2 _ rfl;have U:=d.free 2 (by simp);have c3:=g.cell 3 _ rfl;have V:=d.cell 3 _ rfl;have X:=d.free 3 (by simp);have Y:=g.cell 4 _ rfl;have Z:=d.cell 4 _ rfl;have z4:=d.free 4 (by simp);have c5:=g.cell 5 _ rfl;have y5:=d.cell 5 _ rfl;have z5:=d.free 5 (by simp);have c6:=g.cell 6 _ rfl;have y6:=d.cell 6 _ rfl;have z6:=d.free 6 (by simp);have c7:=g.cell 7 _ rfl;have y7:=d.cell 7 _ rfl;have z7:=d.free 7 (by simp);have c8:=g.cell 8 _ rfl;have y8:=d.cell 8 _ rfl;have z8:=d.free 8 (by simp)))
 exact bodyPost_ret (qro (m:=⟨⟨site,seq,wall,count,d0,d1,d2,d3,ws⟩,a,cap⟩) (qbk d rfl site seq wall count d0 d1 d2 d3 (.slice a ws.length cap)) rfl) rfl ⟨rfl,(F.out K L).kept (qda (Nat.ne_of_lt C) _ _ _ _ _ _ _ _ _),q17 (J.trans p.grown) (Nat.le_refl _) _ _ _ _ _ _ _ _ _⟩
variable {lv:Value} {S:qaf}
theorem qex {F:Nat->Prop} {log waits:List TxM} (d:decide (200<=log.length)=v) (w:World) (h:qc9 w b lv bm F S log waits):
 Calls prog 135 #[.pointer (some ⟨b,0,none⟩)] w λe w'=>e=.returned (.bool v)/\Below w.heap.size w w':=by
 obtain⟨i,lc,rfl,g⟩:=qa6 h.rlog;have j:=h.box.cell 7 _ rfl
 have e:decide ((200:Int)<=(log.length:Int))=v:=by rw[<-d];exact decide_eq_decide.2 (by omega)
 clear h g d;go_enter func135,ntmps135
 go_wp2_with fail
 go_ret;refine⟨?_,Below.refl _ _⟩
 first|rfl|(simp[e])
theorem qny (e:0<=s) (f:s<=3):(qb4 S lv bm)[1+s.toNat]?=some (int i64 (qao s S.a0 S.a1 S.a2 S.a3)):=by
 have d:s=0\/s=1\/s=2\/s=3:=by omega
 rcases d with rfl|rfl|rfl|rfl<;>rfl
end
section
open Go.Value Go.IntKind Go.RowKit
theorem qek {x:Int} (h:qj8 x):wrap64 (x+1)=x+1:=by
 obtain⟨a,b⟩:=h;unfold wrap64;omega
theorem qmr {b:Nat} {lv:Value} {bm:Nat} {F:Nat->Prop} {S:qaf} {log waits:List TxM} {v:Bool} (m:TxM) (w:World) (h:qc9 w b lv bm F S log waits) (o:0<=m.t.site) (p:m.t.site<=3) (j:qj8 (qao m.t.site S.a0 S.a1 S.a2 S.a3)) (c:qar S m.t=v):
 Calls Tryz.prog 150 #[.pointer (some ⟨b,0,none⟩),txV m] w λe w'=>e=.returned (.bool v)/\Below w.heap.size w w':=by
 obtain⟨⟨site,seq,wall,count,d0,d1,d2,d3,ws⟩,a,cap⟩:=m;simp only at o p j c;have hb:=boxed (Below.refl _ w) (.cells #[int i64 site,int i64 seq,int i64 wall,int i64 count,int i64 d0,int i64 d1,int i64 d2,int i64 d3,.slice a ws.length cap] 80);have d:=qag.new (w:=w) (T:=80) [int i64 site,int i64 seq,int i64 wall,int i64 count,int i64 d0,int i64 d1,int i64 d2,int i64 d3,.slice a ws.length cap] rfl;have y:=Later.one;have g:=h.later hb;have z:=Later.cell (d.cell 0 _ rfl);have B:=Later.cell (d.cell 1 _ rfl);have C:=Later.cell (d.cell 4 _ rfl);have E:=Later.cell (d.cell 5 _ rfl);have G:=Later.cell (d.cell 6 _ rfl);have H:=Later.cell (d.cell 7 _ rfl);have I:=Later.cell (g.box.cell 1 _ rfl);have J:=Later.cell (g.box.cell 2 _ rfl);have K:=Later.cell (g.box.cell 3 _ rfl);have L:=Later.cell (g.box.cell 4 _ rfl);have r:=Later.cell (g.box.cell _ _ (qny o p));have k:qar S ⟨site,seq,wall,count,d0,d1,d2,d3,ws⟩=(decide (seq=qao site S.a0 S.a1 S.a2 S.a3+1)&&qe3 S.a0 S.a1 S.a2 S.a3 d0 d1 d2 d3):=rfl;obtain⟨D,q⟩:∃D,qao site S.a0 S.a1 S.a2 S.a3=D:=⟨_,rfl⟩;rw[q]at r j k;rw[k]at c;have M:wrap64 (D+1)=D+1:=qek j;clear k h g d q;show Calls Tryz.prog 150 #[.pointer (some ⟨b,0,none⟩),.agg #[int i64 site,int i64 seq,int i64 wall,int i64 count,int i64 d0,int i64 d1,int i64 d2,int i64 d3,.slice a ws.length cap]] w _;by_cases i:seq=D+1
 ·have s:(seq==D+1)=true:=by simp[i]
  have l:decide (seq=D+1)=true:=by simp[i]
  have u:Hid (qe3 S.a0 S.a1 S.a2 S.a3 d0 d1 d2 d3=v):=by
   show _=_;rw[l]at c;simpa using c
  clear c j i;go_enter Tryz.func150,Tryz.ntmps150
  go_wp2_with fail
  refine qaa (by kernel_rfl) (by kernel_rfl) ?_
  repeat (go_big_quiet_step (first|rfl|(go_at_call 21;with_reducible exact qab (qho u.out _))))
  refine wpQuiet_nil ?_;rintro w2 ⟨⟨_,n⟩,rfl⟩
  go_wp2_with fail
  go_ret;exact⟨rfl,qac hb n⟩
 ·have s:(seq==D+1)=false:=by simp[i]
  have l:decide (seq=D+1)=false:=by simp[i]
  have x:Hid (false=v):=by
   show _=_;rw[l]at c;simpa using c
  clear c j i;go_enter Tryz.func150,Tryz.ntmps150
  go_wp2_with fail
  refine qaa (by kernel_rfl) (by kernel_rfl) ?_
  repeat (go_big_quiet_step (first|rfl|fail))
  refine wpQuiet_nil ?_;rintro w2 ⟨⟨_,n⟩,rfl⟩
  go_wp2_with fail
  go_ret;exact⟨by rw[<-x.out];rfl,qac hb n⟩
end
section
open Go.RowKit
def qer (S:qaf) (key a0 a1 a2 a3:Int):Ver×Int:=if qe3 S.a0 S.a1 S.a2 S.a3 a0 a1 a2 a3=true then qdf key a0 a1 a2 a3 S.l else (qcj,10)
variable {W:World} {b:Nat}
theorem qov {w:World} (h:Below w.heap.size w W) (a:w.heap.size<=b) (x0 x1 x2 x3:Int) (c:ByteArray) (d:Bool):Below w.heap.size w ((((((W.setCell ⟨b,0,none⟩ (.int .i64 x0)).setCell ⟨b,1,none⟩ (.int .i64 x1)).setCell ⟨b,2,none⟩ (.int .i64 x2)).setCell ⟨b,3,none⟩ (.int .i64 x3)).setCell ⟨b,4,none⟩ (.string c)).setCell ⟨b,5,none⟩ (.bool d)):=
 (((((h.setCell a _).setCell a _).setCell a _).setCell a _).setCell a _).setCell a _
theorem qub {c:Nat} {a0 a1 a2 a3:Int} (h:qbe W b a0 a1 a2 a3) (a:c≠b) (x0 x1 x2 x3:Int) (d:ByteArray) (e:Bool):qbe ((((((W.setCell ⟨c,0,none⟩ (.int .i64 x0)).setCell ⟨c,1,none⟩ (.int .i64 x1)).setCell ⟨c,2,none⟩ (.int .i64 x2)).setCell ⟨c,3,none⟩ (.int .i64 x3)).setCell ⟨c,4,none⟩ (.string d)).setCell ⟨c,5,none⟩ (.bool e)) b a0 a1 a2 a3:=
 (((((h.far ⟨c,0,none⟩ _ a).far ⟨c,1,none⟩ _ a).far ⟨c,2,none⟩ _ a).far ⟨c,3,none⟩ _ a).far ⟨c,4,none⟩ _ a).far ⟨c,5,none⟩ _ a
theorem qoo (h:qag W b (qah qcj)) (x0 x1 x2 x3:Int) (a:ByteArray) (c:Bool):qag ((((((W.setCell ⟨b,0,none⟩ (.int .i64 x0)).setCell ⟨b,1,none⟩ (.int .i64 x1)).setCell ⟨b,2,none⟩ (.int .i64 x2)).setCell ⟨b,3,none⟩ (.int .i64 x3)).setCell ⟨b,4,none⟩ (.string a)).setCell ⟨b,5,none⟩ (.bool c)) b (qah ⟨x0,x1,x2,x3,a,c⟩):=
 (((((h.set 0 _ (by simp[qah])).set 1 _ (by simp[qah])).set 2 _ (by simp[qah])).set 3 _ (by simp[qah])).set 4 _ (by simp[qah])).set 5 _ (by simp[qah])
end
section
open Tryz Go.Value Go.IntKind Go.RowKit
theorem qlp (x y:Int) (w:World):
 Calls prog 160 #[int i64 x,int i64 y] w λe w'=>e=.returned (int i64 (qb1 x y))/\w'=w:=by
 by_cases h:x<y
 ·rw[qh2 h];go_enter func160,ntmps160
  go_wp2
  go_ret;exact⟨rfl,rfl⟩
 ·rw[qh0 h];go_enter func160,ntmps160
  go_wp2
  go_ret;exact⟨rfl,rfl⟩
theorem q0h (a0 a1 a2 a3 a b c d:Int) (w:World):
 Calls prog 121 #[.agg #[int i64 a0,int i64 a1,int i64 a2,int i64 a3],.agg #[int i64 a,int i64 b,int i64 c,int i64 d],.func (.func 160) #[] #[]] w λe w'=>e=.returned (.agg #[int i64 (qb1 a0 a),int i64 (qb1 a1 b),int i64 (qb1 a2 c),int i64 (qb1 a3 d)])/\Below w.heap.size w w':=by
 go_enter func121,ntmps121
 go_wp2
 refine wp_loop_rounds 5 ?_;rw[rounds_succ]
 go_wp2
 go_region_held3 (λw'=>w'.cell? ⟨w.heap.size,0,none⟩=some (int i64 a0)/\w'.cell? ⟨w.heap.size,1,none⟩=some (int i64 a1)/\w'.cell? ⟨w.heap.size,2,none⟩=some (int i64 a2)/\w'.cell? ⟨w.heap.size,3,none⟩=some (int i64 a3)/\w'.cell? ⟨w.heap.size+1,0,none⟩=some (int i64 a)/\w'.cell? ⟨w.heap.size+1,1,none⟩=some (int i64 b)/\w'.cell? ⟨w.heap.size+1,2,none⟩=some (int i64 c)/\w'.cell? ⟨w.heap.size+1,3,none⟩=some (int i64 d)) (go_keep) ((go_at_call 160;refine(qlp _ _ _).mono ?_;rintro e wc ⟨rfl,rfl⟩))
 go_wp2
 rw[rounds_succ]
 go_wp2
 go_region_held3 (λw'=>w'.cell? ⟨w.heap.size,0,none⟩=some (int i64 a0)/\w'.cell? ⟨w.heap.size,1,none⟩=some (int i64 a1)/\w'.cell? ⟨w.heap.size,2,none⟩=some (int i64 a2)/\w'.cell? ⟨w.heap.size,3,none⟩=some (int i64 a3)/\w'.cell? ⟨w.heap.size+1,0,none⟩=some (int i64 a)/\w'.cell? ⟨w.heap.size+1,1,none⟩=some (int i64 b)/\w'.cell? ⟨w.heap.size+1,2,none⟩=some (int i64 c)/\w'.cell? ⟨w.heap.size+1,3,none⟩=some (int i64 d)) (go_keep) ((go_at_call 160;refine(qlp _ _ _).mono ?_;rintro e wc ⟨rfl,rfl⟩))
 go_wp2
 rw[rounds_succ]
 go_wp2
 go_region_held3 (λw'=>w'.cell? ⟨w.heap.size,0,none⟩=some (int i64 a0)/\w'.cell? ⟨w.heap.size,1,none⟩=some (int i64 a1)/\w'.cell? ⟨w.heap.size,2,none⟩=some (int i64 a2)/\w'.cell? ⟨w.heap.size,3,none⟩=some (int i64 a3)/\w'.cell? ⟨w.heap.size+1,0,none⟩=some (int i64 a)/\w'.cell? ⟨w.heap.size+1,1,none⟩=some (int i64 b)/\w'.cell? ⟨w.heap.size+1,2,none⟩=some (int i64 c)/\w'.cell? ⟨w.heap.size+1,3,none⟩=some (int i64 d)) (go_keep) ((go_at_call 160;refine(qlp _ _ _).mono ?_;rintro e wc ⟨rfl,rfl⟩))
 go_wp2
 rw[rounds_succ]
 go_wp2
 go_region_held3 (λw'=>w'.cell? ⟨w.heap.size,0,none⟩=some (int i64 a0)/\w'.cell? ⟨w.heap.size,1,none⟩=some (int i64 a1)/\w'.cell? ⟨w.heap.size,2,none⟩=some (int i64 a2)/\w'.cell? ⟨w.heap.size,3,none⟩=some (int i64 a3)/\w'.cell? ⟨w.heap.size+1,0,none⟩=some (int i64 a)/\w'.cell? ⟨w.heap.size+1,1,none⟩=some (int i64 b)/\w'.cell? ⟨w.heap.size+1,2,none⟩=some (int i64 c)/\w'.cell? ⟨w.heap.size+1,3,none⟩=some (int i64 d)) (go_keep) ((go_at_call 160;refine(qlp _ _ _).mono ?_;rintro e wc ⟨rfl,rfl⟩))
 go_wp2
 rw[rounds_succ]
 go_wp2
 exact bodyPost_ret (v:=.agg #[int i64 (qb1 a0 a),int i64 (qb1 a1 b),int i64 (qb1 a2 c),int i64 (qb1 a3 d)]) (by simp[results,results121,go_sem]) rfl ⟨rfl,by repeat (first|exact Below.refl _ _|apply Below.drew|apply boxed)⟩
theorem qz7 (a0 a1 a2 a3 a b c d:Int) (w:World):
 Calls prog 133 #[.agg #[int i64 a0,int i64 a1,int i64 a2,int i64 a3],.agg #[int i64 a,int i64 b,int i64 c,int i64 d]] w λe w'=>e=.returned (.agg #[int i64 (qb1 a0 a),int i64 (qb1 a1 b),int i64 (qb1 a2 c),int i64 (qb1 a3 d)])/\Below w.heap.size w w':=by
 go_enter func133,ntmps133
 go_wp2_with fail
 refine(q0h _ _ _ _ _ _ _ _ _).mono ?_;rintro e g ⟨rfl,hb⟩;obtain⟨h,i⟩:=qi6 hb
 have j:w.heap.size+2<g.heap.size:=by have:=hb.size;simp at this;omega
 go_wp2
 exact bodyPost_ret (v:=.agg #[int i64 (qb1 a0 a),int i64 (qb1 a1 b),int i64 (qb1 a2 c),int i64 (qb1 a3 d)]) (by simp[results,results133,go_sem,h]) rfl ⟨rfl,((((qtr hb).setCell (by simp;omega) _).setCell (by simp;omega) _).setCell (by simp;omega) _).setCell (by simp;omega) _⟩
end
open Go.RowKit
structure qm0 where
 is:World->(Nat->Prop)->Prop
 lt:∀w G,is w G->∀k,G k->k<w.heap.size
 kept:∀w w' G,is w G->(∀k,G k->w'.heap[k]?=w.heap[k]?)->w.heap.size<=w'.heap.size->is w' G
def qvh (p:qm0) (w:World) (G:Nat->Prop) (w':World):Prop:=∃G',p.is w' G'/\(∀k,G' k->G k\/w.heap.size<=k)/\qae G w w'
def qin (p q:qm0) (w:World) (G H Y:Nat->Prop) (w':World):Prop:=∃G' H',p.is w' G'/\q.is w' H'/\(∀k,G' k->G k\/w.heap.size<=k)/\(∀k,H' k->H k\/w.heap.size<=k)/\(∀k,G' k->¬H' k)/\(∀k,Y k->w.heap.size<=k/\k<w'.heap.size/\¬G' k)/\qae (λk=>G k\/H k) w w'
def NoY:Nat->Prop:=λ_=>False
structure qbx (w:World) (n:Nat) (ps:Nat->qm0) (Gs:Nat->Nat->Prop) (X:Nat->Prop) (o:Nat) (Y:Nat->Prop):Prop where
 is:∀i,i<n->(ps i).is w (Gs i)
 apart:∀i j k,i<n->j<n->i≠j->Gs i k->¬Gs j k
 free:∀k,X k->k<w.heap.size/\∀i,i<n->¬Gs i k
 half:∀k,Y k->k<w.heap.size/\∀i,i<n->i≠o->¬Gs i k
end Go.Proofs.YtemiamjnhoeniaaGreatDoor
