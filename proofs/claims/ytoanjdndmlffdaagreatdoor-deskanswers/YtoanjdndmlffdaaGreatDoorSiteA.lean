import Derived.Test.YtoanjdndmlffdaaGreatDoorProg
import Derived.Lib.SmallJoins
import Derived.WalkSpells
import Derived.WalkLawsBesides
import Derived.Deep.AppendLies
import Derived.Lib.Overlaps
import Derived.Lib.AppendZerosOnto
import Derived.Shelf.RegionOpen
import Derived.Lib.JoinLaws
import Derived.RangeFuncNested
import Derived.RangeFuncBound
import Derived.OwnWalkIn
import Derived.LoopNIn
import Derived.LoopIn
import Derived.Deep.RegionHeld3
set_option maxHeartbeats 8000000
set_option maxRecDepth 100000
namespace Go.Proofs.YtoanjdndmlffdaaGreatDoor
section
open Go.ChangeShapes Go.WideShapes Go.ChangeAt Go.RowKit Go.Joins
theorem own:ownKnob Tryz.prog.godebug=none:=by kernel_rfl
end
section
def qm7 (a b c d:Int):Bool:=a==c&&b==d
def qb9 (x y:Int):Int:=if x<y then y else x
def qa6 (x y:Int):Int:=if y<x then y else x
variable {x y:Int}
theorem qj1 (h:x<y):qb9 x y=y:=if_pos h
theorem qj6 (h:¬x<y):qb9 x y=x:=if_neg h
theorem ql8 (h:y<x):qa6 x y=y:=if_pos h
theorem qmg (h:¬y<x):qa6 x y=x:=if_neg h
def qfu (a0 a1 a2 a3 b0 b1 b2 b3:Int):Bool:=decide (b0<=a0)&&decide (b1<=a1)&&decide (b2<=a2)&&decide (b3<=a3)
def qsg (x y:Int):Int:=if x<y then-1 else if y<x then 1 else 0
def qkj (aw ac bw bc:Int):Int:=if qsg aw bw=0 then qsg ac bc else qsg aw bw
def qal (n:Int):Bool:=decide (0<=n)&&decide (n<=1099511627776)
theorem qzd (x y:Int):qm7 x y x y=true:=by simp[qm7]
theorem q21 (h:x<y):qsg x y= -1:=by unfold qsg;rw[if_pos h]
theorem q2q (h:y<x):qsg x y=1:=by unfold qsg;rw[if_neg (by omega),if_pos h]
theorem q3j (x:Int):qsg x x=0:=by unfold qsg;rw[if_neg (by omega),if_neg (by omega)]
def qay (a0 a1 a2 a3:Int):Bool:=qal a0&&qal a1&&qal a2&&qal a3
variable {n:Int}
theorem qh7 (a:0<=n) (b:n<=1099511627776):qal n=true:=by simp[qal,a,b]
theorem qfs:qal n=true↔0<=n/\n<=1099511627776:=by simp[qal]
theorem qka (x y:Int):(x<y/\qsg x y= -1)\/(x=y/\qsg x y=0)\/(y<x/\qsg x y=1):=by
 rcases Int.lt_trichotomy x y with h|h|h
 ·exact .inl ⟨h,q21 h⟩
 ·subst h;exact .inr (.inl ⟨rfl,q3j x⟩)
 ·exact .inr (.inr ⟨h,q2q h⟩)
theorem qet (a c b d:Int):
 ((a<b\/a=b/\c<d)/\qkj a c b d= -1)\/((a=b/\c=d)/\qkj a c b d=0)\/((b<a\/a=b/\d<c)/\qkj a c b d=1):=by
 have i:=qka a b;have j:=qka c d;unfold qkj;rcases i with ⟨h,e⟩|⟨h,e⟩|⟨h,e⟩
 ·exact .inl ⟨.inl h,by rw[e];rfl⟩
 ·rcases j with ⟨g,f⟩|⟨g,f⟩|⟨g,f⟩
  ·exact .inl ⟨.inr ⟨h,g⟩,by rw[if_pos e,f]⟩
  ·exact .inr (.inl ⟨⟨h,g⟩,by rw[if_pos e,f]⟩)
  ·exact .inr (.inr ⟨.inr ⟨h,g⟩,by rw[if_pos e,f]⟩)
 ·exact .inr (.inr ⟨.inl h,by rw[e];rfl⟩)
end
section
open Go.RowKit
structure Later (W:World) where
 val:World
 below:Below W.heap.size W val
theorem Later.one (W:World):Nonempty (Later W):=⟨⟨W,Below.refl _ _⟩⟩
variable {W:World} {v:Value}
theorem Later.cell {p:Addr} (h:W.cell? p=some v) (x:Later W):x.val.cell? p=some v:=cell_later x.below h
variable {w w1:World}
theorem qab {w2:World} (c:Below w.heap.size w w1) (d:Below w1.heap.size w1 w2):Below w.heap.size w w2:=c.trans (d.mono c.size)
theorem boxed (c:Below w.heap.size w w1) (o:Obj):Below w.heap.size w (w1.alloc o):=c.alloc c.size o
variable {P:Program}
theorem qaa {id:Nat} {Q:Exit->Act->World->Prop} {a:Act} {l:List Oper} (c:P.follows .mixedOrders=true) (d:Region.lexB .any l.toArray=true)
 (h:wpQuiet P l.toArray (λw'=>∃x:Later w,w'=x.val) (λe=>∀w',(∃x:Later w,w'=x.val)->Q .normal e w') l a):(Code.region id l.toArray true).wp P Q a w:=
 wp_region_quiet (C:=λw'=>∃x:Later w,w'=x.val) c d ⟨⟨w.drew,(Below.refl _ _).drew⟩,rfl⟩ (by simpa using h)
theorem qac {f:FuncId} {args:Array Value} {x:Later w}
 (h:Calls P f args x.val λe w'=>e=.returned v/\Below x.val.heap.size x.val w'):Calls P f args x.val λe c=>e=.returned v/\∃y:Later w,c=y.val:=
 h.mono λ_ c ⟨d,hb⟩=>⟨d,⟨c,qab x.below hb⟩,rfl⟩
theorem qhg (hb:Below W.heap.size W w1):(∀b o,b<W.heap.size->w1.cell? ⟨b,o,none⟩=W.cell? ⟨b,o,none⟩)/\(∀b o,b<W.heap.size->w1.frozen? ⟨b,o,none⟩=W.frozen? ⟨b,o,none⟩):=
 ⟨λb o h=>hb.cell (p:=⟨b,o,none⟩) h,λb o h=>hb.frozen (p:=⟨b,o,none⟩) h⟩
theorem blt (hb:Below W.heap.size W w1):∀b,b<W.heap.size->b<w1.heap.size:=λ_ h=>Nat.lt_of_lt_of_le h hb.size
theorem bne (hb:Below W.heap.size W w1):∀b,b<W.heap.size->¬b=w1.heap.size:=λb h=>Nat.ne_of_lt (blt hb b h)
theorem jej (hb:Below W.heap.size W w1):∀b,b<W.heap.size->¬w1.heap.size=b:=λb h=>Nat.ne_of_gt (blt hb b h)
variable {a b:Obj}
theorem qkq (hb:Below ((w.alloc a).alloc b).heap.size ((w.alloc a).alloc b) w1):Below w.heap.size w w1:=
 (((Below.refl _ _).alloc (Nat.le_refl _) _).alloc (by simp) _).trans (hb.mono (by simp;omega))
theorem qyo {c:Obj} (hb:Below (((w.alloc a).alloc b).alloc c).heap.size (((w.alloc a).alloc b).alloc c) w1):Below w.heap.size w w1:=
 ((((Below.refl _ _).alloc (Nat.le_refl _) _).alloc (by simp) _).alloc (by simp;omega) _).trans (hb.mono (by simp;omega))
theorem qar {B:Nat} {a:World} (n:Nat) (h:Below B a w):Below B a (w.drewN n):=⟨h.os,h.tape,h.output,h.size,h.block⟩
end
section
def qkk (n:Int):ByteArray:=⟨#[UInt8.ofNat n.toNat]⟩
def qi7:Nat->Int->ByteArray
 |0,n=>qkk n
 |f+1,n=>if n<128 then qkk n else qkk (n%128+128)++qi7 f (n/128)
variable {f:Nat} {n:Int}
theorem qwp (h:n<128):qi7 f n=qkk n:=by
 cases f with
 |zero=>rfl
 |succ f=>exact if_pos h
theorem qvg (h:¬n<128):qi7 (f+1) n=qkk (n%128+128)++qi7 f (n/128):=if_neg h
theorem qes (n:Int):(qkk n).size=1:=rfl
theorem qbv (f:Nat) (n:Int):(qi7 f n).size<=f+1:=by
 induction f generalizing n with
 |zero=>exact Nat.le_refl 1
 |succ f ih=>
  by_cases h:n<128
  ·rw[qwp h,qes];omega
  ·rw[qvg h,ByteArray.size_append,qes];have:=ih (n/128);omega
theorem qnh {P:Program} (a b:ByteArray) (h:a.size+b.size<=1000000) (w:World):(Op.stringOp .add a b).run P w=.ok (.string (a++b)) w:=
 run_string_add_sum w a b (by omega)
end
section
open Go.RowKit
def inB (n lo hi:Int):Bool:=decide (lo<=n)&&decide (n<=hi)
theorem qa5 {n lo hi:Int}:inB n lo hi=true↔lo<=n/\n<=hi:=by simp[inB]
end
section
open Go.RowKit
structure Wr where
 key:Int
 data:ByteArray
 gone:Bool
def qgi (l:List Wr) (i:Nat):Wr:=l.getD i ⟨0,⟨#[]⟩,false⟩
def qd4 (w:World) (b off:Nat) (l:List Wr):Prop:=
 ∀i,i<l.length->w.cell? ⟨b,off+i*3,none⟩=some (.int .i64 (qgi l i).key)/\w.cell? ⟨b,off+i*3+1,none⟩=some (.string (qgi l i).data)/\w.cell? ⟨b,off+i*3+1+1,none⟩=some (.bool (qgi l i).gone)
variable {w w':World} {l:List Wr}
theorem qd4.later {b a:Nat} (hb:Below w.heap.size w w') (h:qd4 w b a l):qd4 w' b a l:=λi hi=>
 ⟨cell_later hb (h i hi).1,cell_later hb (h i hi).2.1,cell_later hb (h i hi).2.2⟩
def qjr (l:List Wr) (i:Nat):Bool:=
 inB (qgi l i).key 0 7&&!(decide (0<i)&&decide ((qgi l i).key<=(qgi l (i-1)).key))&&decide ((qgi l i).data.size<=12)&&!((qgi l i).gone&&!(qgi l i).data.toList.isEmpty)
def qe8 (l:List Wr):Bool:=(List.range l.length).all (qjr l)&&inB l.length 1 5
variable {k:Nat}
theorem qf6 (a:k<l.length) (h:qjr l k=false):qe8 l=false:=by
 have e:(List.range l.length).all (qjr l)=false:=by
  rw[List.all_eq_false];exact⟨k,List.mem_range.2 a,by simp[h]⟩
 simp[qe8,e]
theorem qyk (h:∀j,j<l.length->qjr l j=true):qe8 l=inB l.length 1 5:=by
 have e:(List.range l.length).all (qjr l)=true:=by
  rw[List.all_eq_true];exact λj a=>h j (List.mem_range.1 a)
 simp[qe8,e]
def okV (k:Nat) (prev:Int) (x:Wr):Bool:=
 inB x.key 0 7&&!(decide (0<k)&&decide (x.key<=prev))&&decide (x.data.size<=12)&&!(x.gone&&!x.data.toList.isEmpty)
theorem qoi {x:Wr} (h:qgi l k=x):qjr l k=okV k (qgi l (k-1)).key x:=by rw[<-h];rfl
variable {p:Int}
theorem qw5 {key:Int} {data:ByteArray} {gone:Bool} (h:inB key 0 7=false):okV k p ⟨key,data,gone⟩=false:=by simp[okV,h]
theorem qx0 {key:Int} {data:ByteArray} {gone:Bool} (a:0<k) (h:key<=p):okV k p ⟨key,data,gone⟩=false:=by simp[okV,a,h]
theorem qv7 {key:Int} {data:ByteArray} {gone:Bool} (h:12<(data.size:Int)):okV k p ⟨key,data,gone⟩=false:=by
 have e:decide (data.size<=12)=false:=decide_eq_false (by omega);simp[okV,e]
theorem qrs {key:Int} {data:ByteArray} {gone:Bool} (h:gone=true) (a:data.toList.isEmpty=false):okV k p ⟨key,data,gone⟩=false:=by simp[okV,h,a]
theorem qj2 {key:Int} {data:ByteArray} {gone:Bool} (h:inB key 0 7=true) (a:k=0\/¬key<=p) (f:¬12<(data.size:Int)) (b:gone=false\/data.toList.isEmpty=true):okV k p ⟨key,data,gone⟩=true:=by
 have e:decide (data.size<=12)=true:=decide_eq_true (by omega)
 have c:(!(decide (0<k)&&decide (key<=p)))=true:=by
  rcases a with a|a
  ·simp[a]
  ·simp only[decide_eq_false a,Bool.and_false,Bool.not_false]
 have d:(!(gone&&!data.toList.isEmpty))=true:=by
  rcases b with b|b<;>simp[b]
 simp only[okV,h,e,c,d,Bool.and_self]
theorem qos (h:∀j,j<k->qjr l j=true) (b:qjr l k=true):∀j,j<k+1->qjr l j=true:=λj c=>by
 rcases Nat.lt_or_ge j k with a|a
 ·exact h j a
 ·obtain rfl:j=k:=by omega
  exact b
structure qaz (w:World) (a:Option Addr) (cap:Nat) (l:List Wr):Prop where
 len:l.length<=cap
 cap:cap<=9223372036854775807
 held:l=[]\/∃b off,a=some ⟨b,off,none⟩/\qd4 w b off l
theorem qaz.later {a:Option Addr} {cap:Nat} (hb:Below w.heap.size w w') (h:qaz w a cap l):qaz w' a cap l:=
 ⟨h.len,h.cap,h.held.elim .inl λ⟨b,d,e,c⟩=>.inr ⟨b,d,e,c.later hb⟩⟩
def qaq (site d0 d1 d2 d3:Int):Int:=if site=0 then d0 else if site=1 then d1 else if site=2 then d2 else d3
def qdf (site seq wall count d0 d1 d2 d3:Int) (l:List Wr):Bool:=
 inB site 0 3&&inB seq 1 1099511627776&&(qal wall&&qal count)&&qay d0 d1 d2 d3&&decide (qaq site d0 d1 d2 d3=seq-1)&&qe8 l
def q4n (g:Bool):ByteArray:=if g then ⟨#[1]⟩else ⟨#[0]⟩
def stepS (s:ByteArray) (x:Wr):ByteArray:=s++qi7 5 x.key++q4n x.gone++(qi7 5 (x.data.size:Int)++x.data)
def wrS (s:ByteArray) (l:List Wr):ByteArray:=l.foldl stepS s
def quj (site seq wall count d0 d1 d2 d3:Int) (n:Int):ByteArray:=(⟨#[116]⟩:ByteArray)++qi7 5 site++qi7 5 seq++qi7 5 wall++qi7 5 count++qi7 5 d0++qi7 5 d1++qi7 5 d2++qi7 5 d3++qi7 5 n
def txS (site seq wall count d0 d1 d2 d3:Int) (l:List Wr):ByteArray:=wrS (quj site seq wall count d0 d1 d2 d3 l.length) l
theorem qy5 (g:Bool):(q4n g).size=1:=by cases g<;>rfl
variable {s:ByteArray}
theorem qxi (a:k<l.length):wrS s (l.take (k+1))=stepS (wrS s (l.take k)) (qgi l k):=by
 unfold wrS;rw[List.take_succ_eq_append_getElem a,List.foldl_append];simp[qgi,List.getD,List.getElem?_eq_getElem a]
theorem qze (s:ByteArray) (x:Wr) (h:x.data.size<=12):(stepS s x).size<=s.size+25:=by
 have a:=qbv 5 x.key;have b:=qbv 5 (x.data.size:Int);simp only[stepS,ByteArray.size_append,qy5];omega
theorem qov (h:qjr l k=true):(qgi l k).data.size<=12:=by
 simp only[qjr,Bool.and_eq_true,decide_eq_true_eq]at h;exact h.1.2
theorem qsv (h:qjr l k=true):0<=(qgi l k).key/\(qgi l k).key<=7:=by
 simp only[qjr,Bool.and_eq_true,qa5]at h;exact h.1.1.1
theorem qsm {s:ByteArray} {l:List Wr} (h:∀j,j<l.length->qjr l j=true):∀k,k<=l.length->(wrS s (l.take k)).size<=s.size+25*k
 |0,_=>by simp[wrS]
 |k+1,hk=>by
  rw[qxi (by omega)];have a:=qsm (s:=s) h k (by omega);have b:=qze (wrS s (l.take k)) (qgi l k) (qov (h k (by omega)));omega
theorem qqn (site seq wall count d0 d1 d2 d3 n:Int):(quj site seq wall count d0 d1 d2 d3 n).size<=55:=by
 have a:=qbv 5 site;have b:=qbv 5 seq;have c:=qbv 5 wall;have d:=qbv 5 count;have e:=qbv 5 d0;have f:=qbv 5 d1;have g:=qbv 5 d2;have h:=qbv 5 d3;have i:=qbv 5 n;have z:(⟨#[116]⟩:ByteArray).size=1:=rfl;simp only[quj,ByteArray.size_append];omega
theorem ql4 (h:qe8 l=true):∀j,j<l.length->qjr l j=true:=λj a=>by
 simp only[qe8,Bool.and_eq_true,List.all_eq_true]at h;exact h.1 j (List.mem_range.2 a)
theorem qln (h:qe8 l=true):1<=l.length/\l.length<=5:=by
 simp only[qe8,Bool.and_eq_true,qa5]at h;omega
end
section
open Go.RowKit
structure Own (w:World) (B g cap:Nat) (S:ByteArray):Prop where
 base:B<=g
 lt:g<w.heap.size
 room:S.size<=cap
 most:cap<=maxLen
 have_:∀j u,(byteCells S)[j]?=some u->w.cell? ⟨g,j,none⟩=some u
 there:∀j,j<cap->(w.cell? ⟨g,j,none⟩).isSome=true
 free:∀j,j<cap->w.frozen? ⟨g,j,none⟩=false
variable {w w':World} {B g:Nat} {S:ByteArray}
theorem Own.kept {cap:Nat} (h:Own w B g cap S) (hb:w'.heap[g]?=w.heap[g]?) (hs:w.heap.size<=w'.heap.size):Own w' B g cap S:=
 ⟨h.base,Nat.lt_of_lt_of_le h.lt hs,h.room,h.most,λj u b=>by rw[World.cell?_of_block (w:=w) hb];exact h.have_ j u b,
   λj a=>by rw[World.cell?_of_block (w:=w) hb];exact h.there j a,λj a=>by rw[World.frozen?_of_block (w:=w) hb];exact h.free j a⟩
theorem Own.later {cap:Nat} (h:Own w B g cap S) (hb:Below w.heap.size w w'):Own w' B g cap S:=h.kept (hb.block g h.lt) hb.size
theorem Own.alloc {cap:Nat} (h:Own w B g cap S) (o:Obj):Own (w.alloc o) B g cap S:=h.later (boxed (Below.refl _ _) o)
theorem qfz (a b:ByteArray):byteCells (a++b)=byteCells a++byteCells b:=by
 unfold byteCells;rw[ByteArray.data_append,Array.toList_append,List.map_append]
variable {n:Int}
theorem ql9 (a:0<=n) (b:n<256):byteCells (qkk n)=[.int .u8 n]:=by
 have e:(UInt8.ofNat n.toNat).toNat=n.toNat:=by
  rw[UInt8.toNat_ofNat'];exact Nat.mod_eq_of_lt (by omega)
 show [Value.int .u8 (UInt8.ofNat n.toNat).toNat]=_;rw[e,Int.toNat_of_nonneg a]
theorem Own.mono {a cap:Nat} (h:Own w B g cap S) (b:a<=B):Own w a g cap S:=⟨Nat.le_trans b h.base,h.lt,h.room,h.most,h.have_,h.there,h.free⟩
theorem Own.one (w:World) (B:Nat) (e:TypeId) (c:0<=n) (d:n<256) (f:B<=w.heap.size):Own (w.alloc (.cells #[.int .u8 n] e (1,2))) B w.heap.size 1 (qkk n):=by
 have a:∀j,(w.alloc (.cells #[.int .u8 n] e (1,2))).cell? ⟨w.heap.size,j,none⟩=(#[Value.int .u8 n])[j]?:=λj=>cell_of_row _ w.heap.size j _ e (1,2) (heap_alloc_new w (.cells #[.int .u8 n] e (1,2)));refine⟨f,by simp,Nat.le_refl _,by simp[maxLen],λj u b=>?_,λj h=>?_,λj h=>?_⟩
 ·rw[ql9 c d]at b;rw[a];simpa using b
 ·obtain rfl:j=0:=by omega
  rw[a];rfl
 ·obtain rfl:j=0:=by omega
  have i:=heap_alloc_new w (.cells #[.int .u8 n] e (1,2));unfold World.frozen?;rw[i];rfl
abbrev qdw (g:Nat) (w w':World):Prop:=w.grownBy w' (some g)
theorem qdw.refl (g:Nat) (w:World):qdw g w w:=⟨rfl,rfl,rfl,Nat.le_refl _,λ_ _ _=>rfl⟩
theorem qdw.trans {g':Nat} {a b c:World} (h:qdw g a b) (k:qdw g' b c) (e:g'=g\/a.heap.size<=g'):qdw g a c:=
 ⟨k.os.trans h.os,k.tape.trans h.tape,k.output.trans h.output,Nat.le_trans h.size k.size,λi hi d=>
   (k.block i (Nat.lt_of_lt_of_le hi h.size) (λx=>by
     injection x with x;rcases e with e|e
     ·exact d (by rw[x,e])
     ·omega)).trans (h.block i hi d)⟩
theorem qdw.ofBelow (h:Below w.heap.size w w'):qdw g w w':=⟨h.os,h.tape,h.output,h.size,λk a _=>h.block k a⟩
theorem qdw.below (h:qdw g w w') (a:B<=g) (b:B<=w.heap.size):Below B w w':=
 ⟨h.os,h.tape,h.output,h.size,λk c=>h.block k (by omega) (λx=>by injection x with x;omega)⟩
theorem qdw.cell (h:qdw g w w') {p:Addr} {v:Value} (a:w.cell? p=some v) (b:p.block≠g):w'.cell? p=some v:=World.grownBy.cell h a (λx=>by injection x with x;exact b x)
theorem qbz (g:Nat):∀(a:List Value) (o:Nat) (w:World),qdw g w (w.setCells g o a)
 |[],_,w=>qdw.refl g w
 |v::a,o,w=>
  have b:qdw g w (w.setCell ⟨g,o,none⟩ v):=⟨rfl,rfl,rfl,by simp[World.setCell],λk _ c=>Below.heap_setCell w ⟨g,o,none⟩ v k (λe=>c (by rw[e]))⟩
  qdw.trans b (qbz g a (o+1) (w.setCell ⟨g,o,none⟩ v)) (.inl rfl)
variable {P:Program}
theorem qnq (t f o e:TypeId) (q:P.underlying t=some (.slice e)) (C:(P.info? e).map (λi=>(i.zero,i.size,i.bytes))=some (some (.int .u8 0),1,1))
 {cap:Nat} (c:Own w B g cap S) (T:ByteArray) (v:Value) (r:Src P 1 f v T.size (byteCells T) w) (Q:S.size+T.size<=1000000) (D:B<=w.heap.size):
 ∃g' s w',(Builtin.append_ #[t,f] o #[.slice (some ⟨g,0,none⟩) S.size cap,v]).run P w=.ok (.slice (some ⟨g',0,none⟩) (S++T).size s) w'/\Own w' B g' s (S++T)/\(g'=g\/g'=w.heap.size)/\qdw g w w':=by
 obtain⟨i,hi,E,d,F⟩:=info_parts C;have x:(byteCells T).length=T.size:=byteCells_length T;have p:(byteCells S).length=S.size:=byteCells_length S;rw[ByteArray.size_append];by_cases y:S.size+T.size<=cap
 ·have l:∀j,j<(byteCells T).length->(w.cell? ⟨g,0+S.size*i.size+j,none⟩).isSome=true:=λj b=>by
   rw[d,Nat.mul_one,Nat.zero_add];exact c.there _ (by omega)
  have G:∀j,j<(byteCells T).length->w.frozen? ⟨g,0+S.size*i.size+j,none⟩=false:=λj b=>by
   rw[d,Nat.mul_one,Nat.zero_add];exact c.free _ (by omega)
  have m:=run_append_room_src (P:=P) w t f o e i q hi g 0 S.size cap v T.size (byteCells T) (by rw[d];exact r) y l G;rw[d,Nat.mul_one,Nat.zero_add]at m;rw[d,Nat.mul_one,Nat.zero_add]at l;refine⟨g,cap,_,m,⟨c.base,Nat.lt_of_lt_of_le c.lt (qbz g _ _ w).size,by rw[ByteArray.size_append];exact y,c.most,?_,?_,?_⟩,.inl rfl,qbz g _ _ w⟩
  ·intro j u a;rw[qfz]at a;rcases Nat.lt_or_ge j S.size with b|b
   ·rw[List.getElem?_append_left (by omega)]at a;rw[World.cell?_setCells_out g _ _ _ _ (λ_ _=>.inl b)];exact c.have_ j u a
   ·rw[List.getElem?_append_right (by omega),p]at a
    have z:j-S.size<(byteCells T).length:=by
     rcases Nat.lt_or_ge (j-S.size) (byteCells T).length with h|h
     ·exact h
     ·rw[List.getElem?_eq_none h]at a;cases a
    have:=World.cell?_setCells_in g (byteCells T) S.size w l (j-S.size) z;rw[Nat.add_sub_cancel' b]at this;rw[this];rw[List.getElem?_eq_getElem z]at a;exact a
  ·intro j b;by_cases H:S.size<=j/\j<S.size+T.size
   ·have:=World.cell?_setCells_in g (byteCells T) S.size w l (j-S.size) (by omega);rw[Nat.add_sub_cancel' H.1]at this;rw[this];rfl
   ·rw[World.cell?_setCells_out g _ _ _ _ (λ_ _=>by rw[x];show j<S.size\/S.size+T.size<=j;omega)];exact c.there j b
  ·intro j b;rw[World.frozen?_setCells];exact c.free j b
 ·have hold:(Builtin.firstCells i.size S.size (.slice (some ⟨g,0,none⟩) S.size cap)).run P w.drew=.ok (byteCells S).toArray w.drew:=
   run_firstCells_some w.drew i.size S.size ⟨g,0,none⟩ S.size cap (byteCells S) (by rw[d,Nat.mul_one,p]) (λj u a=>by
        have I:(⟨g,0,none⟩:Addr).add j=⟨g,j,none⟩:=by unfold Addr.add;split<;>simp_all
        rw[I]
        exact c.have_ j u a)
  have m:=run_append_grow_src (P:=P) w t f o e i (.int .u8 0) q hi E (some ⟨g,0,none⟩) S.size cap (byteCells S) hold v T.size (byteCells T) (by rw[d];exact r) (by omega) (by omega) (by rw[F];exact growslice_fits (by omega) (by omega));have J:=grownCap_ge w (S.size+T.size) cap e;have K:=grownCap_le_maxLen w (S.size+T.size) cap e (by simp only[maxLen];omega)
  have L:((byteCells S++byteCells T).toArray++Builtin.zeroCells (Value.int IntKind.u8 0).cells (grownCap w (S.size+T.size) cap e-(S.size+T.size))).size=grownCap w (S.size+T.size) cap e:=by
   have M:(Value.int IntKind.u8 0).cells.size=1:=rfl;simp only[Array.size_append,List.size_toArray,List.length_append,size_zeroCells,M,x,p];omega
  have N:=heap_alloc_new w.drew (.cells ((byteCells S++byteCells T).toArray++Builtin.zeroCells (Value.int IntKind.u8 0).cells (grownCap w (S.size+T.size) cap e-(S.size+T.size))) e);have A:∀j,(w.drew.alloc (.cells ((byteCells S++byteCells T).toArray++Builtin.zeroCells (Value.int IntKind.u8 0).cells (grownCap w (S.size+T.size) cap e-(S.size+T.size))) e)).cell? ⟨w.heap.size,j,none⟩=((byteCells S++byteCells T).toArray++Builtin.zeroCells (Value.int IntKind.u8 0).cells (grownCap w (S.size+T.size) cap e-(S.size+T.size)))[j]?:=λj=>cell_of_row _ w.heap.size j _ e (0,0) N;refine⟨w.heap.size,_,_,m,⟨D,by simp,by rw[ByteArray.size_append];exact J,K,?_,?_,?_⟩,.inr rfl,⟨rfl,rfl,rfl,by simp,λk O _=>Below.heap_alloc w.drew _ k O⟩⟩
  ·intro j u a
   rw[A,Array.getElem?_append_left (by
        rcases Nat.lt_or_ge j (byteCells (S++T)).length with h|h
        ·rw[qfz]at h;simpa using h
        ·rw[List.getElem?_eq_none h]at a;cases a)]
   rw[qfz]at a;simpa using a
  ·intro j b;rw[A,Array.getElem?_eq_getElem (by rw[L];exact b)];rfl
  ·intro j _;exact World.frozen?_alloc_at _ _ _ _ rfl
theorem qdl {d:Array Oper} {rest:List Oper} {o:Oper} {a:Act} {Q:Exit->Act->World->Prop} (f:o.guard=none) (s x:Operand) (t c e:TypeId)
 (j:o.op=.call {callee:=.builtin .append,args:=#[s,x],argTypes:=#[t,c]}) (k:P.underlying t=some (.slice e)) (l:(P.info? e).map (λi=>(i.zero,i.size,i.bytes))=some (some (.int .u8 0),1,1))
 {cap:Nat} (hs:a.eval s=.slice (some ⟨g,0,none⟩) S.size cap) (m:Own w B g cap S) (T:ByteArray) (v:Value) (p:a.eval x=v) (q:Src P 1 c v T.size (byteCells T) w) (r:S.size+T.size<=1000000) (u:B<=w.heap.size)
 (h:∀S' g' b w',Hid (S'=S++T)->Own w' B g' b S'->(g'=g\/g'=w.heap.size)->qdw g w w'->wpList P d Q rest (a.put o.dst (.slice (some ⟨g',0,none⟩) S'.size b)) w'):wpList P d Q (o::rest) a w:=by
 refine wpList_plain f λK y=>?_;obtain⟨g',b,w',z,A,C,D⟩:=qnq (P:=P) t c o.type e k l m T v q r u;unfold Oper.wp execOp;simp only[j,resolve,invoke,builtin,Sem.run_bind,Sem.run_pure,Result.andThen_ok,List.map_toArray,List.map_cons,List.map_nil,hs,p,z];exact y _ _ (h _ g' b w' rfl A C D)
theorem q5w {d e:TypeId} (f:P.underlying d=some (.slice e)) {b:Nat} (h:0<=n) (i:n<256) (c:Nat) (k:w.cell? ⟨b,0,none⟩=some (.int .u8 n)):
 Src P 1 d (.slice (some ⟨b,0,none⟩) 1 c) (qkk n).size (byteCells (qkk n)) w:=by
 rw[qes,ql9 h i];refine Src.ofSlice w f _ 1 c _ rfl ?_ ?_
 ·intro j u a
  match j,a with
  |0,a=>
   injection a with a;subst a;exact k
  |j+1,a=>cases a
 ·intro u a;simp only[List.mem_singleton]at a;subst a;rfl
end
section
open Go.RowKit
structure qag (w:World) (b:Nat) (vs:List Value):Prop where
 cell:∀j v,vs[j]?=some v->w.cell? ⟨b,j,none⟩=some v
 free:∀j,j<vs.length->w.frozen? ⟨b,j,none⟩=false
 lt:b<w.heap.size
variable {w w':World} {b:Nat} {vs:List Value}
theorem qag.kept (h:qag w b vs) (e:w'.heap[b]?=w.heap[b]?) (hs:w.heap.size<=w'.heap.size):qag w' b vs:=
 ⟨λj v a=>by rw[World.cell?_of_block (w:=w) e];exact h.cell j v a,λj c=>by rw[World.frozen?_of_block (w:=w) e];exact h.free j c,Nat.lt_of_lt_of_le h.lt hs⟩
theorem qag.later (h:qag w b vs) (hb:Below w.heap.size w w'):qag w' b vs:=h.kept (hb.block b h.lt) hb.size
theorem qag.only {a:Nat} (h:qag w b vs) (c:qdw a w w') (d:b≠a):qag w' b vs:=h.kept (c.block b h.lt (λx=>by injection x with x;exact d x)) c.size
theorem qag.grown {r:Option Nat} (h:qag w b vs) (a:w.grownBy w' r) (c:some b≠r):qag w' b vs:=h.kept (a.block b h.lt c) a.size
theorem qag.far (h:qag w b vs) (p:Addr) (u:Value) (a:p.block≠b):qag (w.setCell p u) b vs:=h.kept (Below.heap_setCell _ _ _ _ (Ne.symm a)) (by simp[World.setCell])
theorem qag.boxed (h:qag w b vs) (o:Obj):qag (w.alloc o) b vs:=h.kept (Below.heap_alloc _ _ _ h.lt) (by simp)
theorem qag.drew (h:qag w b vs):qag w.drew b vs:=h.kept rfl (Nat.le_refl _)
variable {T:TypeId}
theorem qag.new {n:Nat} (vs:List Value) (a:w.heap.size=n):qag (w.alloc (.cells vs.toArray T)) n vs:=by
 subst a;have c:=heap_alloc_new w (.cells vs.toArray T);refine⟨λj v d=>?_,λj _=>World.frozen?_alloc_at _ _ _ _ rfl,by simp⟩;rw[cell_of_row _ w.heap.size j _ T (0,0) c];simpa using d
theorem qag.set (h:qag w b vs) (k:Nat) (u:Value) (d:k<vs.length):qag (w.setCell ⟨b,k,none⟩ u) b (vs.set k u):=by
 refine⟨λj v a=>?_,λj c=>by rw[World.frozen?_setCell];exact h.free j (by simpa using c),by simpa[World.setCell]using h.lt⟩;by_cases c:k=j
 ·subst c;rw[List.getElem?_set_self d]at a;injection a with a;subst a;exact World.cell?_setCell_same _ _ _ (h.cell k vs[k] (List.getElem?_eq_getElem d))
 ·rw[List.getElem?_set_ne c]at a;rw[World.cell?_setCell_other _ _ _ _ (by intro e;injection e with _ e _;exact c e)];exact h.cell j v a
def wrC (x:Wr):List Value:=[.int .i64 x.key,.string x.data,.bool x.gone]
def qhp (l:List Wr):List Value:=l.flatMap wrC
theorem qep (l:List Wr):(qhp l).length=l.length*3:=by
 induction l with
 |nil=>rfl
 |cons x l ih=>
  show (wrC x++qhp l).length=_;rw[List.length_append,ih];simp[wrC];omega
theorem qlr (l:List Wr) (x:Wr):qhp (l++[x])=qhp l++wrC x:=by simp[qhp]
theorem qwb:∀(l:List Wr) (i:Nat),i<l.length->(qhp l)[i*3]?=some (.int .i64 (qgi l i).key)/\(qhp l)[i*3+1]?=some (.string (qgi l i).data)/\(qhp l)[i*3+1+1]?=some (.bool (qgi l i).gone)
 |[],_,h=>by simp at h
 |x::l,0,_=>⟨rfl,rfl,rfl⟩
 |x::l,i+1,h=>by
  have a:=qwb l i (by simpa using h);have e:qgi (x::l) (i+1)=qgi l i:=rfl
  have c:(i+1)*3=i*3+1+1+1:=by omega
  rw[e,c];exact a
theorem qc7 (g j:Nat):(⟨g,0,none⟩:Addr).add j=⟨g,j,none⟩:=by unfold Addr.add;split<;>simp_all
theorem qdn {B:Nat} {v:Value} {l:List Wr} (h:w.ownsRow B T 3 v l.length (qhp l)):∃a cap,v=.slice a l.length cap/\qaz w a cap l:=by
 rcases h.2 with ⟨rfl,d⟩|⟨g,cap,cur,rfl,hb,n,k,m,hs,o⟩
 ·exact⟨none,0,by rw[d],⟨by omega,by omega,.inl (List.eq_nil_of_length_eq_zero d)⟩⟩
 ·refine⟨_,cap,rfl,⟨k,by simp only[maxLen]at m;omega,.inr ⟨g,0,rfl,λi hi=>?_⟩⟩⟩;have c:=h.cells (g:=g) rfl;obtain⟨a0,a1,a2⟩:=qwb l i hi;have e:=c _ _ a0;have f:=c _ _ a1;have j:=c _ _ a2;rw[qc7]at e f j;rw[Nat.zero_add];exact⟨e,f,j⟩
theorem qav {P:Program} {c:Array Oper} {o:Oper} {a:Act} {K:Act->World->Prop} {Q:Exit->Act->World->Prop} {E:Prop} (d:o.guard=none) (f:FuncId) (args:Array Value)
 (g:(execOp a.eval o).run P w=.ok (.enter f args) w) {R:Ending->World->Prop} (h:Calls P f args w R) (i:∀e w',R e w'->∃v,e=.returned v/\K (a.put o.dst v) w'):
 if Region.wanted o (yielded c a.tmps)=true then Oper.wp P o a w K Q else E:=by
 have j:Region.wanted o (yielded c a.tmps)=true:=by simp[Region.wanted,d]
 rw[if_pos j];unfold Oper.wp;rw[g]
 exact h.mono λe w' k=>by
  obtain⟨v,rfl,l⟩:=i e w' k;exact l
variable {a0 a1 a2 a3:Value}
theorem qag.c4 (h:qag w b [a0,a1,a2,a3]):w.cell? ⟨b,0,none⟩=some a0/\w.cell? ⟨b,1,none⟩=some a1/\w.cell? ⟨b,2,none⟩=some a2/\w.cell? ⟨b,3,none⟩=some a3:=⟨h.cell 0 _ rfl,h.cell 1 _ rfl,h.cell 2 _ rfl,h.cell 3 _ rfl⟩
variable {a4 a5:Value}
theorem qag.c6 (h:qag w b [a0,a1,a2,a3,a4,a5]):w.cell? ⟨b,0,none⟩=some a0/\w.cell? ⟨b,1,none⟩=some a1/\w.cell? ⟨b,2,none⟩=some a2/\w.cell? ⟨b,3,none⟩=some a3/\w.cell? ⟨b,4,none⟩=some a4/\w.cell? ⟨b,5,none⟩=some a5:=⟨h.cell 0 _ rfl,h.cell 1 _ rfl,h.cell 2 _ rfl,h.cell 3 _ rfl,h.cell 4 _ rfl,h.cell 5 _ rfl⟩
variable {a6 a7 a8:Value}
theorem qag.c9 (h:qag w b [a0,a1,a2,a3,a4,a5,a6,a7,a8]):w.cell? ⟨b,0,none⟩=some a0/\w.cell? ⟨b,1,none⟩=some a1/\w.cell? ⟨b,2,none⟩=some a2/\w.cell? ⟨b,3,none⟩=some a3/\w.cell? ⟨b,4,none⟩=some a4/\w.cell? ⟨b,5,none⟩=some a5/\w.cell? ⟨b,6,none⟩=some a6/\w.cell? ⟨b,7,none⟩=some a7/\w.cell? ⟨b,8,none⟩=some a8:=⟨h.cell 0 _ rfl,h.cell 1 _ rfl,h.cell 2 _ rfl,h.cell 3 _ rfl,h.cell 4 _ rfl,h.cell 5 _ rfl,h.cell 6 _ rfl,h.cell 7 _ rfl,h.cell 8 _ rfl⟩
theorem qag.c15 {a9 a c d e f:Value} (h:qag w b [a0,a1,a2,a3,a4,a5,a6,a7,a8,a9,a,c,d,e,f]):w.cell? ⟨b,0,none⟩=some a0/\w.cell? ⟨b,1,none⟩=some a1/\w.cell? ⟨b,2,none⟩=some a2/\w.cell? ⟨b,3,none⟩=some a3/\w.cell? ⟨b,4,none⟩=some a4/\w.cell? ⟨b,5,none⟩=some a5/\w.cell? ⟨b,6,none⟩=some a6/\w.cell? ⟨b,7,none⟩=some a7/\w.cell? ⟨b,8,none⟩=some a8/\w.cell? ⟨b,9,none⟩=some a9/\w.cell? ⟨b,10,none⟩=some a/\w.cell? ⟨b,11,none⟩=some c/\w.cell? ⟨b,12,none⟩=some d/\w.cell? ⟨b,13,none⟩=some e/\w.cell? ⟨b,14,none⟩=some f:=⟨h.cell 0 _ rfl,h.cell 1 _ rfl,h.cell 2 _ rfl,h.cell 3 _ rfl,h.cell 4 _ rfl,h.cell 5 _ rfl,h.cell 6 _ rfl,h.cell 7 _ rfl,h.cell 8 _ rfl,h.cell 9 _ rfl,h.cell 10 _ rfl,h.cell 11 _ rfl,h.cell 12 _ rfl,h.cell 13 _ rfl,h.cell 14 _ rfl⟩
theorem qag.f4 (h:qag w b [a0,a1,a2,a3]):w.frozen? ⟨b,0,none⟩=false/\w.frozen? ⟨b,1,none⟩=false/\w.frozen? ⟨b,2,none⟩=false/\w.frozen? ⟨b,3,none⟩=false:=⟨h.free 0 (by simp),h.free 1 (by simp),h.free 2 (by simp),h.free 3 (by simp)⟩
theorem qag.f9 (h:qag w b [a0,a1,a2,a3,a4,a5,a6,a7,a8]):w.frozen? ⟨b,0,none⟩=false/\w.frozen? ⟨b,1,none⟩=false/\w.frozen? ⟨b,2,none⟩=false/\w.frozen? ⟨b,3,none⟩=false/\w.frozen? ⟨b,4,none⟩=false/\w.frozen? ⟨b,5,none⟩=false/\w.frozen? ⟨b,6,none⟩=false/\w.frozen? ⟨b,7,none⟩=false/\w.frozen? ⟨b,8,none⟩=false:=⟨h.free 0 (by simp),h.free 1 (by simp),h.free 2 (by simp),h.free 3 (by simp),h.free 4 (by simp),h.free 5 (by simp),h.free 6 (by simp),h.free 7 (by simp),h.free 8 (by simp)⟩
end
section
open Go.RowKit
structure Ver where
 wall:Int
 count:Int
 site:Int
 seq:Int
 data:ByteArray
 gone:Bool
structure Hd where
 key:Int
 v:Ver
def qc6:Ver:=⟨0,0,0,0,⟨#[]⟩,false⟩
def qah (v:Ver):List Value:=[.int .i64 v.wall,.int .i64 v.count,.int .i64 v.site,.int .i64 v.seq,.string v.data,.bool v.gone]
def hdL (h:Hd):List Value:=[.int .i64 h.key,.int .i64 h.v.wall,.int .i64 h.v.count,.int .i64 h.v.site,.int .i64 h.v.seq,.string h.v.data,.bool h.v.gone]
def qt3 (l:List Hd):List Value:=l.flatMap hdL
def qgt (l:List Hd) (i:Nat):Hd:=l.getD i ⟨0,qc6⟩
theorem qjk (l:List Hd) (x:Hd):qt3 (l++[x])=qt3 l++hdL x:=by simp[qt3]
theorem q4h:∀(l:List Hd) (i r:Nat) (u:Value),i<l.length->(hdL (qgt l i))[r]?=some u->(qt3 l)[i*7+r]?=some u
 |[],_,_,_,h,_=>by simp at h
 |x::l,0,r,u,_,hu=>by
  have a:r<(hdL x).length:=(List.getElem?_eq_some_iff.1 hu).1;show (hdL x++qt3 l)[0*7+r]?=some u;rw[Nat.zero_mul,Nat.zero_add,List.getElem?_append_left a];exact hu
 |x::l,i+1,r,u,h,hu=>by
  have b:=q4h l i r u (by simpa using h) hu;show (hdL x++qt3 l)[(i+1)*7+r]?=some u
  have e:(i+1)*7+r=(hdL x).length+(i*7+r):=by simp[hdL];omega
  rw[e,List.getElem?_append_right (by omega),Nat.add_sub_cancel_left];exact b
def qao (a b:Ver):Bool:=if qkj a.wall a.count b.wall b.count=0 then decide (a.site<b.site)else decide (qkj a.wall a.count b.wall b.count<0)
def qke (a0 a1 a2 a3:Int) (v:Ver):Bool:=decide (v.seq<=qaq v.site a0 a1 a2 a3)
def qkh (key a0 a1 a2 a3:Int) (best:Option Ver) (h:Hd):Option Ver:=
 if h.key=key/\qke a0 a1 a2 a3 h.v=true/\(match best with|none=>true|some b=>qao b h.v)=true then some h.v else best
def qde (key a0 a1 a2 a3:Int) (l:List Hd):Option Ver:=l.foldl (qkh key a0 a1 a2 a3) none
variable {a0 a1 a2 a3:Int} {l:List Hd}
theorem qhw {key:Int} {k:Nat} (a:k<l.length):qde key a0 a1 a2 a3 (l.take (k+1))=qkh key a0 a1 a2 a3 (qde key a0 a1 a2 a3 (l.take k)) (qgt l k):=by
 unfold qde;rw[List.take_succ_eq_append_getElem a,List.foldl_append];simp[qgt,List.getD,List.getElem?_eq_getElem a]
variable {h:Hd}
theorem qgb {key:Int} {a:Option Ver} (c:¬(h.key=key/\qke a0 a1 a2 a3 h.v=true/\(match a with|none=>true|some b=>qao b h.v)=true)):qkh key a0 a1 a2 a3 a h=a:=if_neg c
theorem qh1 {key:Int} {a:Option Ver} (c:h.key=key/\qke a0 a1 a2 a3 h.v=true/\(match a with|none=>true|some b=>qao b h.v)=true):qkh key a0 a1 a2 a3 a h=some h.v:=if_pos c
def qd2 (v:Ver):Bool:=(qal v.wall&&qal v.count)&&inB v.site 0 3&&inB v.seq 1 1099511627776&&decide ((v.data.size:Int)<=12)&&!(v.gone&&!v.data.toList.isEmpty)
theorem qmw {v:Ver} (h:qd2 v=true):0<=v.site/\v.site<=3:=by
 simp only[qd2,Bool.and_eq_true,qa5]at h;exact h.1.1.1.2
structure jcp (w:World) (a:Option Addr) (cap:Nat) (l:List Hd):Prop where
 len:l.length<=cap
 cap:cap<=9223372036854775807
 held:l=[]\/∃b off,a=some ⟨b,off,none⟩/\∀i r u,i<l.length->(hdL (qgt l i))[r]?=some u->w.cell? ⟨b,off+(i*7+r),none⟩=some u
variable {w:World}
theorem jcp.later {w':World} {a:Option Addr} {cap:Nat} (hb:Below w.heap.size w w') (h:jcp w a cap l):jcp w' a cap l:=
 ⟨h.len,h.cap,h.held.elim .inl λ⟨b,d,e,c⟩=>.inr ⟨b,d,e,λi r u hi f=>cell_later hb (c i r u hi f)⟩⟩
theorem qjz {B:Nat} {T:TypeId} {v:Value} (h:w.ownsRow B T 7 v l.length (qt3 l)):∃a cap,v=.slice a l.length cap/\jcp w a cap l:=by
 rcases h.2 with ⟨rfl,b⟩|⟨g,cap,cur,rfl,hb,j,d,e,hs,k⟩
 ·exact⟨none,0,by rw[b],⟨by omega,by omega,.inl (List.eq_nil_of_length_eq_zero b)⟩⟩
 ·refine⟨_,cap,rfl,⟨d,by simp only[maxLen]at e;omega,.inr ⟨g,0,rfl,λi r u hi f=>?_⟩⟩⟩;have c:=h.cells (g:=g) rfl _ _ (q4h l i r u hi f);rw[qc7]at c;rw[Nat.zero_add];exact c
end
section
open Tryz Go.RowKit
theorem qfh (n:Int) (w:World):
 Calls prog 271 #[.int .i64 n] w λe w'=>e=.returned (.bool (qal n))/\w'=w:=by
 by_cases a:0<=n
 ·by_cases b:n<=1099511627776
  ·rw[qh7 a b];go_enter func271,ntmps271
   go_wp2
   go_ret;exact⟨rfl,rfl⟩
  ·have e:qal n=false:=by simp[qal,b]
   rw[e];go_enter func271,ntmps271
   go_wp2
   go_ret;exact⟨rfl,rfl⟩
 ·have e:qal n=false:=by simp[qal,a]
  rw[e];go_enter func271,ntmps271
  go_wp2
  go_ret;exact⟨rfl,rfl⟩
theorem qgr (x c:Int) (w:World):
 Calls prog 270 #[.agg #[.int .i64 x,.int .i64 c]] w λe w'=>e=.returned (.bool (qal x&&qal c))/\Below w.heap.size w w':=by
 by_cases h:qal x=true
 ·rw[h];go_enter func270,ntmps270
  go_wp2_with (go_at_call 271;refine(qfh _ _).mono ?_;rintro e w' ⟨rfl,rfl⟩)
  go_ret;exact⟨by simp,(Below.refl _ _).alloc (Nat.le_refl _) _⟩
 ·have a:qal x=false:=by simpa using h
  rw[a];go_enter func270,ntmps270
  go_wp2_with (go_at_call 271;refine(qfh _ _).mono ?_;rintro e w' ⟨rfl,rfl⟩)
  go_ret;exact⟨by simp,(Below.refl _ _).alloc (Nat.le_refl _) _⟩
end
section
open Tryz Go.Value Go.IntKind Go.RowKit
theorem qoy (x:Int) (w:World):
 Calls prog 292 #[int i64 x] w λe w'=>e=.returned (.bool false)/\w'=w:=by
 go_enter func292,ntmps292
 go_wp2
 go_ret;exact⟨by simp,rfl⟩
theorem qwt (x y:Int) (w:World):
 Calls prog 289 #[int i64 x,int i64 y] w λe w'=>e=.returned (int i64 (qsg x y))/\w'=w:=by
 rcases Int.lt_trichotomy x y with h|h|h
 ·rw[q21 h];go_enter func289,ntmps289
  go_wp2_with (go_at_call 292;refine(qoy _ _).mono ?_;rintro e w' ⟨rfl,rfl⟩)
  go_ret;exact⟨rfl,rfl⟩
 ·subst h;rw[q3j];go_enter func289,ntmps289
  go_wp2_with (go_at_call 292;refine(qoy _ _).mono ?_;rintro e w' ⟨rfl,rfl⟩)
  go_ret;exact⟨rfl,rfl⟩
 ·rw[q2q h]
  have a:¬x<y:=by omega
  go_enter func289,ntmps289
  go_wp2_with (go_at_call 292;refine(qoy _ _).mono ?_;rintro e w' ⟨rfl,rfl⟩)
  go_ret;exact⟨rfl,rfl⟩
theorem qil (a c b d:Int) (w:World):
 Calls prog 287 #[.agg #[int i64 a,int i64 c],.agg #[int i64 b,int i64 d]] w λe w'=>e=.returned (int i64 (qkj a c b d))/\Below w.heap.size w w':=by
 by_cases h:qsg a b=0
 ·have e:qkj a c b d=qsg c d:=by simp[qkj,h]
  rw[e]
  have hb:(qsg a b==0)=true:=by simp[h]
  clear h;go_enter func287,ntmps287
  go_wp2_with (go_at_call 289;refine(qwt _ _ _).mono ?_;rintro e w' ⟨rfl,rfl⟩)
  go_ret;exact⟨rfl,((Below.refl _ _).alloc (Nat.le_refl _) _).alloc (by simp) _⟩
 ·have e:qkj a c b d=qsg a b:=by simp[qkj,h]
  rw[e]
  have hb:(qsg a b==0)=false:=by simp[h]
  clear h;go_enter func287,ntmps287
  go_wp2_with (go_at_call 289;refine(qwt _ _ _).mono ?_;rintro e w' ⟨rfl,rfl⟩)
  go_ret;exact⟨rfl,((Below.refl _ _).alloc (Nat.le_refl _) _).alloc (by simp) _⟩
theorem jb8 (c d a b:Int) (w:World) (h:qkj c d a b<0):
 Calls prog 273 #[.agg #[int i64 c,int i64 d],.agg #[int i64 a,int i64 b]] w λe w'=>e=.returned (.agg #[int i64 a,int i64 b])/\Below w.heap.size w w':=by
 go_enter func273,ntmps273
 go_wp2_with fail
 refine(qil _ _ _ _ _).mono ?_;rintro e g ⟨rfl,hb⟩;obtain⟨i,j⟩:=qhg hb
 have k:w.heap.size+2<g.heap.size:=by have:=hb.size;simp at this;omega
 go_wp2
 exact bodyPost_ret (v:=.agg #[int i64 a,int i64 b]) (by simp[results,results273,go_sem,i]) rfl ⟨rfl,((qyo hb).setCell (by simp;omega) _).setCell (by simp;omega) _⟩
theorem ja6 (a b c d:Int) (w:World) (h:¬qkj a b c d<0):
 Calls prog 273 #[.agg #[int i64 a,int i64 b],.agg #[int i64 c,int i64 d]] w λe w'=>e=.returned (.agg #[int i64 a,int i64 b])/\Below w.heap.size w w':=by
 go_enter func273,ntmps273
 go_wp2_with fail
 refine(qil _ _ _ _ _).mono ?_;rintro e g ⟨rfl,hb⟩;obtain⟨i,j⟩:=qhg hb
 have k:w.heap.size+2<g.heap.size:=by have:=hb.size;simp at this;omega
 go_wp2
 exact bodyPost_ret (v:=.agg #[int i64 a,int i64 b]) (by simp[results,results273,go_sem,i]) rfl ⟨rfl,((qyo hb).setCell (by simp;omega) _).setCell (by simp;omega) _⟩
theorem qvf (lw lc now:Int) (w:World) (h:(qal lw&&qal lc)=false):
 Calls prog 243 #[.agg #[int i64 lw,int i64 lc],int i64 now] w λe w'=>e=.returned (.tuple #[.agg #[int i64 0,int i64 0],.iface 26 (int i64 2)])/\Below w.heap.size w w':=by
 go_enter func243,ntmps243
 go_wp2_with fail
 refine(qgr _ _ _).mono ?_;rintro e a ⟨rfl,hb⟩;obtain⟨b,c⟩:=qhg hb
 have d:w.heap.size+1<a.heap.size:=by have:=hb.size;simp at this;omega
 go_wp2_with (go_at_call 271;refine(qfh _ _).mono ?_;rintro e w' ⟨rfl,rfl⟩)
 exact bodyPost_ret (v:=.tuple #[.agg #[int i64 0,int i64 0],.iface 26 (int i64 2)]) (by simp[results,results243,go_sem,b]) rfl ⟨rfl,((qkq hb).setCell (by simp) _).setCell (by simp) _⟩
theorem qvi (lw lc now:Int) (w:World) (h:(qal lw&&qal lc)=true) (c:qal now=false):
 Calls prog 243 #[.agg #[int i64 lw,int i64 lc],int i64 now] w λe w'=>e=.returned (.tuple #[.agg #[int i64 0,int i64 0],.iface 26 (int i64 2)])/\Below w.heap.size w w':=by
 go_enter func243,ntmps243
 go_wp2_with fail
 refine(qgr _ _ _).mono ?_;rintro e a ⟨rfl,hb⟩;obtain⟨b,d⟩:=qhg hb
 have g:w.heap.size+1<a.heap.size:=by have:=hb.size;simp at this;omega
 go_wp2_with (go_at_call 271;refine(qfh _ _).mono ?_;rintro e w' ⟨rfl,rfl⟩)
 exact bodyPost_ret (v:=.tuple #[.agg #[int i64 0,int i64 0],.iface 26 (int i64 2)]) (by simp[results,results243,go_sem,b]) rfl ⟨rfl,((qkq hb).setCell (by simp) _).setCell (by simp) _⟩
theorem q51 (lw lc now:Int) (w:World) (h:(qal lw&&qal lc)=true) (c:qal now=true) (d:lw<now):
 Calls prog 243 #[.agg #[int i64 lw,int i64 lc],int i64 now] w λe w'=>e=.returned (.tuple #[.agg #[int i64 now,int i64 0],.nilIface])/\Below w.heap.size w w':=by
 go_enter func243,ntmps243
 go_wp2_with fail
 refine(qgr _ _ _).mono ?_;rintro e a ⟨rfl,hb⟩;obtain⟨b,g⟩:=qhg hb
 have i:w.heap.size+1<a.heap.size:=by have:=hb.size;simp at this;omega
 go_wp2_with (go_at_call 271;refine(qfh _ _).mono ?_;rintro e w' ⟨rfl,rfl⟩)
 exact bodyPost_ret (v:=.tuple #[.agg #[int i64 now,int i64 0],.nilIface]) (by simp[results,results243,go_sem,b]) rfl ⟨rfl,((qkq hb).setCell (by simp) _).setCell (by simp) _⟩
theorem q2g (lw lc now:Int) (w:World) (h:(qal lw&&qal lc)=true) (c:qal now=true) (d:¬lw<now) (g:(lc==1099511627776)=true):
 Calls prog 243 #[.agg #[int i64 lw,int i64 lc],int i64 now] w λe w'=>e=.returned (.tuple #[.agg #[int i64 0,int i64 0],.iface 26 (int i64 12)])/\Below w.heap.size w w':=by
 go_enter func243,ntmps243
 go_wp2_with fail
 refine(qgr _ _ _).mono ?_;rintro e a ⟨rfl,hb⟩;obtain⟨b,i⟩:=qhg hb
 have j:w.heap.size+1<a.heap.size:=by have:=hb.size;simp at this;omega
 go_wp2_with (go_at_call 271;refine(qfh _ _).mono ?_;rintro e w' ⟨rfl,rfl⟩)
 exact bodyPost_ret (v:=.tuple #[.agg #[int i64 0,int i64 0],.iface 26 (int i64 12)]) (by simp[results,results243,go_sem,b]) rfl ⟨rfl,((qkq hb).setCell (by simp) _).setCell (by simp) _⟩
theorem qzn (lw lc now:Int) (w:World) (h:(qal lw&&qal lc)=true) (c:qal now=true) (d:¬lw<now) (g:(lc==1099511627776)=false) (i:0<=lc) (j:lc<1099511627776):
 Calls prog 243 #[.agg #[int i64 lw,int i64 lc],int i64 now] w λe w'=>e=.returned (.tuple #[.agg #[int i64 lw,int i64 (lc+1)],.nilIface])/\Below w.heap.size w w':=by
 go_enter func243,ntmps243
 go_wp2_with fail
 refine(qgr _ _ _).mono ?_;rintro e a ⟨rfl,hb⟩;obtain⟨b,k⟩:=qhg hb
 have l:w.heap.size+1<a.heap.size:=by have:=hb.size;simp at this;omega
 go_wp2_with (go_at_call 271;refine(qfh _ _).mono ?_;rintro e w' ⟨rfl,rfl⟩)
 exact bodyPost_ret (v:=.tuple #[.agg #[int i64 lw,int i64 (lc+1)],.nilIface]) (by simp[results,results243,go_sem,b]) rfl ⟨rfl,((qkq hb).setCell (by simp) _).setCell (by simp) _⟩
end
section
open Go.RowKit
theorem jck (a b c d:Int) (w:World):(Op.equalIn 10000 79 (.agg #[.int .i64 a,.int .i64 b]) (.agg #[.int .i64 c,.int .i64 d])).run Tryz.prog w=.ok (a==c&&b==d) w:=by
 have i:=Tryz.underlying3;have a3:=Tryz.isAgg3;have z3:=Tryz.sizeOf3
 have e:Tryz.prog.underlying 79=some (.struct (Tryz.prog.fieldsOf 79)):=by kernel_rfl
 have f:Tryz.prog.stoodInHeld 79=false:=by kernel_rfl
 rw[show (10000:Nat)=9999+1 from rfl,run_equalIn_agg w 9999 79 _ _ e f];simp only[Program.fieldsOf,Tryz.underlying79]
 go_simp
 by_cases g:a=c<;>by_cases h:b=d<;>simp[g,h]
theorem qx1 (a b c d:Int) (w:World):(binOp .eql 79 (.agg #[.int .i64 a,.int .i64 b]) (.agg #[.int .i64 c,.int .i64 d])).run Tryz.prog w=.ok (.bool (qm7 a b c d)) w:=by
 rw[run_eql_struct,jck];rfl
end
section
open Go.RowKit
structure qxr (w:World) (b:Nat) (a0 a1:Int):Prop where
 c0:w.cell? ⟨b,0,none⟩=some (.int .i64 a0)
 c1:w.cell? ⟨b,1,none⟩=some (.int .i64 a1)
 f0:w.frozen? ⟨b,0,none⟩=false
 f1:w.frozen? ⟨b,1,none⟩=false
variable {w:World} {b:Nat} {a0 a1:Int}
theorem qxr.lt (h:qxr w b a0 a1):b<w.heap.size:=World.block_lt_of_cell? _ _ h.c0
theorem qxr.later {w':World} (hb:Below w.heap.size w w') (h:qxr w b a0 a1):qxr w' b a0 a1:=
 have l:=h.lt
 ⟨cell_later hb h.c0,cell_later hb h.c1,(hb.frozen (p:=⟨b,0,none⟩) l).trans h.f0,(hb.frozen (p:=⟨b,1,none⟩) l).trans h.f1⟩
theorem qxr.new (w:World) (T:TypeId) (a0 a1:Int):qxr (w.alloc (.cells #[.int .i64 a0,.int .i64 a1] T)) w.heap.size a0 a1:=by
 constructor<;>go_simp
theorem jdc {d:World} {T:TypeId} {a c:Int} (hb:Below ((w.alloc (.cells #[.int .i64 a0,.int .i64 a1] T)).alloc (.cells #[.int .i64 a,.int .i64 c] T)).heap.size ((w.alloc (.cells #[.int .i64 a0,.int .i64 a1] T)).alloc (.cells #[.int .i64 a,.int .i64 c] T)) d):
 qxr d w.heap.size a0 a1/\qxr d (w.heap.size+1) a c:=by
 refine⟨((qxr.new w T a0 a1).later (boxed (Below.refl _ _) _)).later hb,?_⟩;have y:=qxr.new (w.alloc (.cells #[.int .i64 a0,.int .i64 a1] T)) T a c;simp only[World.size_alloc]at y;exact y.later hb
end
section
open Go.Value Go.IntKind Go.RowKit
structure qa9 (w:World) (b:Nat) (a0 a1 a2 a3:Int):Prop where
 c0:w.cell? ⟨b,0,none⟩=some (int i64 a0)
 c1:w.cell? ⟨b,1,none⟩=some (int i64 a1)
 c2:w.cell? ⟨b,2,none⟩=some (int i64 a2)
 c3:w.cell? ⟨b,3,none⟩=some (int i64 a3)
 f0:w.frozen? ⟨b,0,none⟩=false
 f1:w.frozen? ⟨b,1,none⟩=false
 f2:w.frozen? ⟨b,2,none⟩=false
 f3:w.frozen? ⟨b,3,none⟩=false
variable {w:World} {b:Nat} {a0 a1 a2 a3:Int}
theorem qa9.lt (h:qa9 w b a0 a1 a2 a3):b<w.heap.size:=World.block_lt_of_cell? _ _ h.c0
theorem qa9.later {w':World} (hb:Below w.heap.size w w') (h:qa9 w b a0 a1 a2 a3):qa9 w' b a0 a1 a2 a3:=
 have l:=h.lt
 ⟨cell_later hb h.c0,cell_later hb h.c1,cell_later hb h.c2,cell_later hb h.c3,(hb.frozen (p:=⟨b,0,none⟩) l).trans h.f0,(hb.frozen (p:=⟨b,1,none⟩) l).trans h.f1,(hb.frozen (p:=⟨b,2,none⟩) l).trans h.f2,(hb.frozen (p:=⟨b,3,none⟩) l).trans h.f3⟩
theorem qa9.new (w:World) (T:TypeId) (a0 a1 a2 a3:Int):qa9 (w.alloc (.cells #[int i64 a0,int i64 a1,int i64 a2,int i64 a3] T)) w.heap.size a0 a1 a2 a3:=by
 constructor<;>go_simp
theorem qa9.far (h:qa9 w b a0 a1 a2 a3) (p:Addr) (u:Value) (a:p.block≠b):qa9 (w.setCell p u) b a0 a1 a2 a3:=by
 have e:(w.setCell p u).heap[b]?=w.heap[b]?:=Below.heap_setCell _ _ _ _ (Ne.symm a)
 constructor
 ·rw[World.cell?_of_block (w:=w) e];exact h.c0
 ·rw[World.cell?_of_block (w:=w) e];exact h.c1
 ·rw[World.cell?_of_block (w:=w) e];exact h.c2
 ·rw[World.cell?_of_block (w:=w) e];exact h.c3
 ·rw[World.frozen?_of_block (w:=w) e];exact h.f0
 ·rw[World.frozen?_of_block (w:=w) e];exact h.f1
 ·rw[World.frozen?_of_block (w:=w) e];exact h.f2
 ·rw[World.frozen?_of_block (w:=w) e];exact h.f3
theorem qa9.set0 (h:qa9 w b a0 a1 a2 a3) (x:Int):qa9 (w.setCell ⟨b,0,none⟩ (int i64 x)) b x a1 a2 a3:=
 ⟨World.cell?_setCell_same _ _ _ h.c0,(World.cell?_setCell_other _ _ _ _ (by simp)).trans h.c1,(World.cell?_setCell_other _ _ _ _ (by simp)).trans h.c2,(World.cell?_setCell_other _ _ _ _ (by simp)).trans h.c3,(World.frozen?_setCell _ _ _ _).trans h.f0,(World.frozen?_setCell _ _ _ _).trans h.f1,(World.frozen?_setCell _ _ _ _).trans h.f2,(World.frozen?_setCell _ _ _ _).trans h.f3⟩
theorem qa9.set1 (h:qa9 w b a0 a1 a2 a3) (x:Int):qa9 (w.setCell ⟨b,1,none⟩ (int i64 x)) b a0 x a2 a3:=
 ⟨(World.cell?_setCell_other _ _ _ _ (by simp)).trans h.c0,World.cell?_setCell_same _ _ _ h.c1,(World.cell?_setCell_other _ _ _ _ (by simp)).trans h.c2,(World.cell?_setCell_other _ _ _ _ (by simp)).trans h.c3,(World.frozen?_setCell _ _ _ _).trans h.f0,(World.frozen?_setCell _ _ _ _).trans h.f1,(World.frozen?_setCell _ _ _ _).trans h.f2,(World.frozen?_setCell _ _ _ _).trans h.f3⟩
theorem qa9.set2 (h:qa9 w b a0 a1 a2 a3) (x:Int):qa9 (w.setCell ⟨b,2,none⟩ (int i64 x)) b a0 a1 x a3:=
 ⟨(World.cell?_setCell_other _ _ _ _ (by simp)).trans h.c0,(World.cell?_setCell_other _ _ _ _ (by simp)).trans h.c1,World.cell?_setCell_same _ _ _ h.c2,(World.cell?_setCell_other _ _ _ _ (by simp)).trans h.c3,(World.frozen?_setCell _ _ _ _).trans h.f0,(World.frozen?_setCell _ _ _ _).trans h.f1,(World.frozen?_setCell _ _ _ _).trans h.f2,(World.frozen?_setCell _ _ _ _).trans h.f3⟩
theorem qa9.set3 (h:qa9 w b a0 a1 a2 a3) (x:Int):qa9 (w.setCell ⟨b,3,none⟩ (int i64 x)) b a0 a1 a2 x:=
 ⟨(World.cell?_setCell_other _ _ _ _ (by simp)).trans h.c0,(World.cell?_setCell_other _ _ _ _ (by simp)).trans h.c1,(World.cell?_setCell_other _ _ _ _ (by simp)).trans h.c2,World.cell?_setCell_same _ _ _ h.c3,(World.frozen?_setCell _ _ _ _).trans h.f0,(World.frozen?_setCell _ _ _ _).trans h.f1,(World.frozen?_setCell _ _ _ _).trans h.f2,(World.frozen?_setCell _ _ _ _).trans h.f3⟩
theorem qa9.boxed (h:qa9 w b a0 a1 a2 a3) (o:Obj):qa9 (w.alloc o) b a0 a1 a2 a3:=h.later (YtoanjdndmlffdaaGreatDoor.boxed (Below.refl _ _) o)
theorem qa9.drew (h:qa9 w b a0 a1 a2 a3):qa9 w.drew b a0 a1 a2 a3:=h.later (Below.refl _ _).drew
theorem qa9.newest {T:TypeId} {n:Nat} (a:w.heap.size=n):qa9 (w.alloc (.cells #[int i64 a0,int i64 a1,int i64 a2,int i64 a3] T)) n a0 a1 a2 a3:=by
 subst a;exact qa9.new w T a0 a1 a2 a3
variable {x0 x1 x2 x3:Int}
theorem qa9.set (h:qa9 w b a0 a1 a2 a3):qa9 ((((w.setCell ⟨b,0,none⟩ (int i64 x0)).setCell ⟨b,1,none⟩ (int i64 x1)).setCell ⟨b,2,none⟩ (int i64 x2)).setCell ⟨b,3,none⟩ (int i64 x3)) b x0 x1 x2 x3:=
 (((h.set0 x0).set1 x1).set2 x2).set3 x3
theorem qa9.far4 {c:Nat} (h:qa9 w b a0 a1 a2 a3) (a:c≠b):qa9 ((((w.setCell ⟨c,0,none⟩ (int i64 x0)).setCell ⟨c,1,none⟩ (int i64 x1)).setCell ⟨c,2,none⟩ (int i64 x2)).setCell ⟨c,3,none⟩ (int i64 x3)) b a0 a1 a2 a3:=
 (((h.far ⟨c,0,none⟩ (int i64 x0) a).far ⟨c,1,none⟩ (int i64 x1) a).far ⟨c,2,none⟩ (int i64 x2) a).far ⟨c,3,none⟩ (int i64 x3) a
end
section
open Go.RowKit
theorem qoz {w:World} {b:Nat} {a0 a1 a2 a3 site:Int} (h:qa9 w b a0 a1 a2 a3) (a:0<=site) (c:site<=3):w.cell? ⟨b,site.toNat,none⟩=some (.int .i64 (qaq site a0 a1 a2 a3)):=by
 have:site=0\/site=1\/site=2\/site=3:=by omega
 rcases this with rfl|rfl|rfl|rfl
 ·exact h.c0
 ·exact h.c1
 ·exact h.c2
 ·exact h.c3
def qex:Option Ver->List Value
 |none=>qah qc6
 |some v=>qah v
def qkm:Option Ver->Bool
 |none=>false
 |some _=>true
theorem qmh (a:Option Ver):qex a=qah (a.getD qc6):=by cases a<;>rfl
end
section
open Go.RowKit
def qog:Option Ver->Ver×Int
 |none=>(qc6,8)
 |some v=>if v.gone then (qc6,8)else (v,0)
def qdu (key a0 a1 a2 a3:Int) (l:List Hd):Ver×Int:=if inB key 0 7=true then qog (qde key a0 a1 a2 a3 l)else (qc6,2)
end
section
open Go.RowKit
def qfa (key:Int) (v:Ver) (h:Hd):Bool:=decide (h.key=key)&&(decide (h.v.wall=v.wall)&&decide (h.v.count=v.count))&&decide (h.v.site=v.site)
def qig (l:List Hd) (key:Int) (v:Ver):Int:=if inB key 0 7=true then (if qd2 v=true then (if l.any (qfa key v)=true then 9 else 0)else 1)else 2
def qgp (l:List Hd) (key:Int) (v:Ver):List Hd:=if qig l key v=0 then l++[⟨key,v⟩]else l
structure qae (F:Nat->Prop) (w w':World):Prop where
 os:w'.os=w.os
 tape:w'.tape=w.tape
 output:w'.output=w.output
 size:w.heap.size<=w'.heap.size
 block:∀k,k<w.heap.size->¬F k->w'.heap[k]?=w.heap[k]?
variable {F:Nat->Prop} {w w':World}
theorem qae.ofBelow (h:Below w.heap.size w w'):qae F w w':=⟨h.os,h.tape,h.output,h.size,λk a _=>h.block k a⟩
theorem qae.trans {a b c:World} (h:qae F a b) (k:qae F b c):qae F a c:=
 ⟨k.os.trans h.os,k.tape.trans h.tape,k.output.trans h.output,Nat.le_trans h.size k.size,λi hi d=>(k.block i (Nat.lt_of_lt_of_le hi h.size) d).trans (h.block i hi d)⟩
theorem qae.grown {r:Option Nat} (h:w.grownBy w' r) (a:∀k,r=some k->F k):qae F w w':=
 ⟨h.os,h.tape,h.output,h.size,λk b c=>h.block k b (λe=>c (a k e.symm))⟩
theorem qae.setCell (w:World) (p:Addr) (u:Value) (a:F p.block):qae F w (w.setCell p u):=
 ⟨rfl,rfl,rfl,by simp[World.setCell],λk _ b=>Below.heap_setCell w p u k (λe=>b (by rw[e];exact a))⟩
theorem qj9 (g o:Nat) (w:World) (v:Value):qdw g w (w.setCell ⟨g,o,none⟩ v):=⟨rfl,rfl,rfl,by simp[World.setCell],λk _ a=>Below.heap_setCell w ⟨g,o,none⟩ v k (λe=>a (by rw[e]))⟩
def q75 (sb:Nat) (v:Value) (k:Nat):Prop:=k=sb\/v.ownBlock=some k
theorem qga {B:Nat} {T:TypeId} {v:Value} {n:Nat} {xs:List Value} (h:w.ownsRow B T 7 v n xs) (hb:Below w.heap.size w w'):w'.ownsRow B T 7 v n xs:=
 h.kept (row:=none) ⟨hb.os,hb.tape,hb.output,hb.size,λk a _=>hb.block k a⟩ (by cases v.ownBlock<;>simp)
end
section
open Tryz Go.RowKit
def eqV (a b:Ver):Bool:=(a.wall==b.wall&&a.count==b.count)&&a.site==b.site&&a.seq==b.seq&&a.data.toList==b.data.toList&&a.gone==b.gone
theorem q9b (a b c d:Int) (w:World):(Op.equalIn 9999 79 (.agg #[.int .i64 a,.int .i64 b]) (.agg #[.int .i64 c,.int .i64 d])).run prog w=.ok (a==c&&b==d) w:=by
 have i:=underlying3;have a3:=Tryz.isAgg3;have z3:=Tryz.sizeOf3
 have e:prog.underlying 79=some (.struct (prog.fieldsOf 79)):=by kernel_rfl
 have f:prog.stoodInHeld 79=false:=by kernel_rfl
 rw[show (9999:Nat)=9998+1 from rfl,run_equalIn_agg w 9998 79 _ _ e f];simp only[Program.fieldsOf,underlying79]
 go_simp
 by_cases g:a=c<;>by_cases h:b=d<;>simp[g,h]
theorem q4g (a b:Ver) (w:World):(binOp .eql 130 (.agg #[.int .i64 a.wall,.int .i64 a.count,.int .i64 a.site,.int .i64 a.seq,.string a.data,.bool a.gone]) (.agg #[.int .i64 b.wall,.int .i64 b.count,.int .i64 b.site,.int .i64 b.seq,.string b.data,.bool b.gone])).run prog w=.ok (.bool (eqV a b)) w:=by
 have m:=underlying3;have a3:=Tryz.isAgg3;have z3:=Tryz.sizeOf3;have n:=underlying4;have a4:=Tryz.isAgg4;have z4:=Tryz.sizeOf4;have o:=underlying9;have a9:=Tryz.isAgg9;have z9:=Tryz.sizeOf9
 have c:prog.underlying 130=some (.struct (prog.fieldsOf 130)):=by kernel_rfl
 have d:prog.stoodInHeld 130=false:=by kernel_rfl
 have p:=q9b;have q:=Tryz.isAgg79;have r:=Tryz.sizeOf79;rw[run_eql_struct];rw[show (10000:Nat)=9999+1 from rfl,run_equalIn_agg w 9999 130 _ _ c d];simp only[Program.fieldsOf,underlying130]
 go_simp
 by_cases e:a.wall=b.wall<;>by_cases f:a.count=b.count<;>by_cases g:a.site=b.site<;>by_cases h:a.seq=b.seq<;>by_cases i:a.data.toList=b.data.toList<;>by_cases j:a.gone=b.gone<;>simp[eqV,e,f,g,h,i,j]
def qi6 (a0 a1 a2 a3:Int) (l:List Hd) (h:Hd):Bool:=!(qkm (qde h.key a0 a1 a2 a3 l))||eqV ((qde h.key a0 a1 a2 a3 l).getD qc6) h.v||!(qke a0 a1 a2 a3 h.v)
def qfr (a0 a1 a2 a3:Int) (l:List Hd):List Hd:=l.filter (qi6 a0 a1 a2 a3 l)
variable {l:List Hd} {k:Nat}
theorem qro (a:k<l.length):l.take (k+1)=l.take k++[qgt l k]:=by
 rw[List.take_succ_eq_append_getElem a];simp[qgt,List.getD,List.getElem?_eq_getElem a]
theorem qk9 {kept:List Hd} {p:Hd->Bool} (h:(l.take k).filter p=kept):kept.length<=l.length:=by
 rw[<-h];exact Nat.le_trans (List.length_filter_le _ _) (by rw[List.length_take];omega)
theorem qa9.grown4 {w w':World} {r:Option Nat} {b:Nat} {a0 a1 a2 a3:Int} (h:qa9 w b a0 a1 a2 a3) (a:w.grownBy w' r) (c:some b≠r):qa9 w' b a0 a1 a2 a3:=by
 have e:=a.block b h.lt c
 constructor
 ·rw[World.cell?_of_block (w:=w) e];exact h.c0
 ·rw[World.cell?_of_block (w:=w) e];exact h.c1
 ·rw[World.cell?_of_block (w:=w) e];exact h.c2
 ·rw[World.cell?_of_block (w:=w) e];exact h.c3
 ·rw[World.frozen?_of_block (w:=w) e];exact h.f0
 ·rw[World.frozen?_of_block (w:=w) e];exact h.f1
 ·rw[World.frozen?_of_block (w:=w) e];exact h.f2
 ·rw[World.frozen?_of_block (w:=w) e];exact h.f3
end
section
open Go.RowKit
theorem qvr (key a0 a1 a2 a3:Int) (a:Option Ver) (h:Hd):qkh key a0 a1 a2 a3 a h=a\/(qkh key a0 a1 a2 a3 a h=some h.v/\h.key=key/\qke a0 a1 a2 a3 h.v=true):=by
 by_cases c:h.key=key/\qke a0 a1 a2 a3 h.v=true/\(match a with|none=>true|some b=>qao b h.v)=true
 ·exact .inr ⟨qh1 c,c.1,c.2.1⟩
 ·exact .inl (qgb c)
theorem qqq (key a0 a1 a2 a3:Int) (v:Ver):∀(l:List Hd) (a:Option Ver),l.foldl (qkh key a0 a1 a2 a3) a=some v->a=some v\/∃h∈l,h.v=v/\h.key=key/\qke a0 a1 a2 a3 v=true
 |[],a,h=>.inl h
 |x::l,a,h=>by
  rcases qqq key a0 a1 a2 a3 v l _ h with e|⟨y,c,e⟩
  ·rcases qvr key a0 a1 a2 a3 a x with b|⟨b,d,f⟩
   ·rw[b]at e;exact .inl e
   ·rw[b]at e;injection e with e;subst e;exact .inr ⟨x,by simp,rfl,d,f⟩
  ·exact .inr ⟨y,by simp[c],e⟩
variable {a0 a1 a2 a3:Int} {l:List Hd} {v:Ver}
theorem quw {key:Int} (h:qde key a0 a1 a2 a3 l=some v):∃x∈l,x.v=v/\x.key=key/\qke a0 a1 a2 a3 v=true:=by
 rcases qqq key a0 a1 a2 a3 v l none h with e|e
 ·cases e
 ·exact e
theorem q0a (h:qd2 v=true):v.data.size<=12:=by
 simp only[qd2,Bool.and_eq_true,decide_eq_true_eq]at h;have:=h.1.2;omega
theorem qql {key:Int} (a:∀h∈l,qd2 h.v=true):(qdu key a0 a1 a2 a3 l).1.data.size<=12:=by
 have z:qc6.data.size<=12:=by decide
 unfold qdu;split
 ·cases e:qde key a0 a1 a2 a3 l with
  |none=>exact z
  |some v=>
   obtain⟨x,b,c,_⟩:=quw e;show (if v.gone=true then (qc6,(8:Int))else (v,0)).1.data.size<=12;split
   ·exact z
   ·rw[<-c];exact q0a (a x b)
 ·exact z
def qhh (a0 a1 a2 a3:Int) (l:List Hd) (key:Int):ByteArray:=if (qdu key a0 a1 a2 a3 l).2=0 then (⟨#[61]⟩:ByteArray)++(qdu key a0 a1 a2 a3 l).1.data else ⟨#[]⟩
def qhj (a0 a1 a2 a3:Int) (l:List Hd) (k:Nat):List Value:=(List.range k).map λ(i:Nat)=>Value.string (qhh a0 a1 a2 a3 l i)
theorem qju (a0 a1 a2 a3:Int) (l:List Hd) (k:Nat):qhj a0 a1 a2 a3 l (k+1)=qhj a0 a1 a2 a3 l k++[.string (qhh a0 a1 a2 a3 l k)]:=by
 unfold qhj;rw[List.range_succ,List.map_append];rfl
theorem qmq:(Tryz.prog.info? 9).map (λi=>(i.zero,i.size,i.bytes))=some (some (.string ⟨#[]⟩),1,16):=by kernel_rfl
end
section
open Go.RowKit
structure TxP where
 site:Int
 seq:Int
 wall:Int
 count:Int
 d0:Int
 d1:Int
 d2:Int
 d3:Int
 ws:List Wr
def qul (t:TxP) (x:Wr):Ver:=⟨t.wall,t.count,t.site,t.seq,x.data,x.gone⟩
def qgw (t:TxP) (ws:List Wr) (l:List Hd):List Hd:=ws.foldl (λl x=>qgp l x.key (qul t x)) l
theorem qqk {t:TxP} {ws:List Wr} {l:List Hd} {k:Nat} (a:k<ws.length):qgw t (ws.take (k+1)) l=qgp (qgw t (ws.take k) l) (qgi ws k).key (qul t (qgi ws k)):=by
 unfold qgw;rw[List.take_succ_eq_append_getElem a,List.foldl_append];simp[qgi,List.getD,List.getElem?_eq_getElem a]
theorem qg5 (t:TxP):∀(ws:List Wr) (l:List Hd),(qgw t ws l).length<=l.length+ws.length
 |[],_=>by simp[qgw]
 |x::ws,l=>by
  have a:=qg5 t ws (qgp l x.key (qul t x))
  have h:(qgp l x.key (qul t x)).length<=l.length+1:=by
   unfold qgp;split
   ·simp
   ·omega
  show (qgw t ws (qgp l x.key (qul t x))).length<=_;simp only[List.length_cons];omega
def qh4 (s x a0:Int):Int:=if s=0 then x else a0
def qhq (s x a1:Int):Int:=if s=1 then x else a1
def qhs (s x a2:Int):Int:=if s=2 then x else a2
def qh6 (s x a3:Int):Int:=if s=3 then x else a3
structure qaf where
 id:Int
 a0:Int
 a1:Int
 a2:Int
 a3:Int
 lw:Int
 lc:Int
 log:List TxP
 waits:List TxP
 l:List Hd
 oth:Nat->Int
def qcb (S:qaf) (t:TxP):qaf:=
 {S with a0:=qh4 t.site t.seq S.a0,a1:=qhq t.site t.seq S.a1,a2:=qhs t.site t.seq S.a2,a3:=qh6 t.site t.seq S.a3,
         lw:=if 0<qkj t.wall t.count S.lw S.lc then t.wall else S.lw,lc:=if 0<qkj t.wall t.count S.lw S.lc then t.count else S.lc,
         log:=S.log++[t],l:=qgw t t.ws S.l}
def qau (S:qaf) (t:TxP):Bool:=decide (t.seq=qaq t.site S.a0 S.a1 S.a2 S.a3+1)&&qfu S.a0 S.a1 S.a2 S.a3 t.d0 t.d1 t.d2 t.d3
end
section
open Go.RowKit
structure qih (w:World) (b o:Nat) (v:Value):Prop where
 cell:w.cell? ⟨b,o,none⟩=some v
 free:w.frozen? ⟨b,o,none⟩=false
 lt:b<w.heap.size
variable {w w':World} {b o:Nat} {v:Value}
theorem qih.kept (h:qih w b o v) (e:w'.heap[b]?=w.heap[b]?) (hs:w.heap.size<=w'.heap.size):qih w' b o v:=
 ⟨by rw[World.cell?_of_block (w:=w) e];exact h.cell,by rw[World.frozen?_of_block (w:=w) e];exact h.free,Nat.lt_of_lt_of_le h.lt hs⟩
theorem qih.later (h:qih w b o v) (hb:Below w.heap.size w w'):qih w' b o v:=h.kept (hb.block b h.lt) hb.size
theorem qih.grown {r:Option Nat} (h:qih w b o v) (a:w.grownBy w' r) (c:some b≠r):qih w' b o v:=h.kept (a.block b h.lt c) a.size
theorem qih.boxed (h:qih w b o v) (x:Obj):qih (w.alloc x) b o v:=h.kept (Below.heap_alloc _ _ _ h.lt) (by simp)
theorem qih.drew (h:qih w b o v):qih w.drew b o v:=h.kept rfl (Nat.le_refl _)
theorem qih.set (h:qih w b o v) (u:Value):qih (w.setCell ⟨b,o,none⟩ u) b o u:=
 ⟨World.cell?_setCell_same _ _ _ h.cell,by rw[World.frozen?_setCell];exact h.free,by simpa[World.setCell]using h.lt⟩
def qgx (sb so:Nat) (w w':World):Prop:=∀j,j≠so->w'.cell? ⟨sb,j,none⟩=w.cell? ⟨sb,j,none⟩/\w'.frozen? ⟨sb,j,none⟩=w.frozen? ⟨sb,j,none⟩
variable {sb so:Nat}
theorem qgx.ofBlock (e:w'.heap[sb]?=w.heap[sb]?):qgx sb so w w':=λ_ _=>⟨World.cell?_of_block (w:=w) e,World.frozen?_of_block (w:=w) e⟩
theorem qgx.trans {a b c:World} (h:qgx sb so a b) (k:qgx sb so b c):qgx sb so a c:=λj d=>⟨(k j d).1.trans (h j d).1,(k j d).2.trans (h j d).2⟩
theorem qgx.set (sb so:Nat) (w:World) (u:Value):qgx sb so w (w.setCell ⟨sb,so,none⟩ u):=λj a=>⟨World.cell?_setCell_other _ _ _ _ (by intro e;injection e with _ e _;exact a e.symm),World.frozen?_setCell _ _ _ _⟩
end
section
open Go.Value Go.IntKind Go.RowKit
structure TxM where
 t:TxP
 wa:Option Addr
 wc:Nat
def txC (m:TxM):List Value:=[int i64 m.t.site,int i64 m.t.seq,int i64 m.t.wall,int i64 m.t.count,int i64 m.t.d0,int i64 m.t.d1,int i64 m.t.d2,int i64 m.t.d3,.slice m.wa m.t.ws.length m.wc]
def qfi (l:List TxM):List Value:=l.flatMap txC
theorem qlp (l:List TxM) (m:TxM):qfi (l++[m])=qfi l++txC m:=by simp[qfi]
theorem qk5 (m:TxM):∀u∈txC m,u.oneCell'=true:=by
 intro u a;simp[txC]at a
 rcases a with rfl|rfl|rfl|rfl|rfl|rfl|rfl|rfl|rfl<;>rfl
def TxM.blk (m:TxM) (k:Nat):Prop:=m.t.ws≠[]/\∃off,m.wa=some ⟨k,off,none⟩
def qc5 (S:qaf) (lv wv sv:Value):List Value:=
 [int i64 S.id,int i64 S.a0,int i64 S.a1,int i64 S.a2,int i64 S.a3,int i64 S.lw,int i64 S.lc,lv,wv,sv,
  int i64 (S.oth 0),int i64 (S.oth 1),int i64 (S.oth 2),int i64 (S.oth 3),int i64 (S.oth 4),int i64 (S.oth 5),int i64 (S.oth 6),int i64 (S.oth 7),
  int i64 (S.oth 8),int i64 (S.oth 9),int i64 (S.oth 10),int i64 (S.oth 11),int i64 (S.oth 12),int i64 (S.oth 13),int i64 (S.oth 14),int i64 (S.oth 15)]
def qas (b:Nat) (lv wv sv:Value) (k:Nat):Prop:=k=b\/lv.ownBlock=some k\/wv.ownBlock=some k\/sv.ownBlock=some k
variable {w w':World}
theorem qad {B n N:Nat} {T:TypeId} {v:Value} {xs:List Value} (h:w.ownsRow B T N v n xs) (a:∀k,v.ownBlock=some k->w'.heap[k]?=w.heap[k]?):w'.ownsRow B T N v n xs:=by
 refine⟨h.1,?_⟩;rcases h.2 with b|⟨g,cap,cur,rfl,hb,c,rest⟩
 ·exact .inl b
 ·exact .inr ⟨g,cap,cur,rfl,hb,by rw[a g rfl];exact c,rest⟩
variable {m:TxM}
theorem qaz.kept (h:qaz w m.wa m.wc m.t.ws) (j:∀k,m.blk k->w'.heap[k]?=w.heap[k]?):qaz w' m.wa m.wc m.t.ws:=by
 refine⟨h.len,h.cap,?_⟩;rcases h.held with f|⟨b,d,e,c⟩
 ·exact .inl f
 ·by_cases f:m.t.ws=[]
  ·exact .inl f
  ·refine .inr ⟨b,d,e,λi hi=>?_⟩;have g:=j b ⟨f,d,e⟩;have:=c i hi;rw[World.cell?_of_block (w:=w) (a:=⟨b,d+i*3,none⟩) g,World.cell?_of_block (w:=w) (a:=⟨b,d+i*3+1,none⟩) g,World.cell?_of_block (w:=w) (a:=⟨b,d+i*3+1+1,none⟩) g];exact this
theorem qaz.blk_lt (h:qaz w m.wa m.wc m.t.ws):∀k,m.blk k->k<w.heap.size:=λk ⟨d,j,e⟩=>by
 rcases h.held with f|⟨b,l,a,c⟩
 ·exact absurd f d
 ·rw[e]at a;injection a with a;injection a with e1 e2;subst e1
  have i:0<m.t.ws.length:=by
   rcases Nat.eq_zero_or_pos m.t.ws.length with g|g
   ·exact absurd (List.eq_nil_of_length_eq_zero g) d
   ·exact g
  exact World.block_lt_of_cell? _ _ (c 0 i).1
end
section
open Go.RowKit
def qcl (x t:TxP):Bool:=decide (x.site=t.site)&&decide (x.seq=t.seq)
variable {x t:TxP}
theorem qgm:qcl x t=true↔x.site=t.site/\x.seq=t.seq:=by simp[qcl]
def qe6 (S:qaf) (s:Int):Option TxP:=S.waits.find? (λx=>decide (x.site=s)&&qau S x)
def qht (S:qaf):Option TxP:=
 match qe6 S 0 with
 |some x=>some x
 |none=>match qe6 S 1 with
  |some x=>some x
  |none=>match qe6 S 2 with
   |some x=>some x
   |none=>qe6 S 3
def qh0 (l:List TxP) (t:TxP):List TxP:=l.filter (λx=>!qcl x t)
def qnp (S:qaf) (x:TxP):qaf:=qcb {S with waits:=qh0 S.waits x} x
inductive Goes:qaf->qaf->Prop
 |full {S:qaf}:200<=S.log.length->Goes S S
 |none {S:qaf}:qht S=none->Goes S S
 |step {S S':qaf} {x:TxP}:S.log.length<200->qht S=some x->Goes (qnp S x) S'->Goes S S'
variable {S:qaf}
theorem Goes.det {A B:qaf} (h:Goes S A):Goes S B->A=B:=by
 induction h with
 |full h=>
  intro k;cases k with
  |full _=>rfl
  |none _=>rfl
  |step h1 _ _=>omega
 |none h=>
  intro k;cases k with
  |full _=>rfl
  |none _=>rfl
  |step _ h2 _=>rw[h]at h2;cases h2
 |step h1 h2 _ ih=>
  intro k;cases k with
  |full h=>omega
  |none h=>rw[h2]at h;cases h
  |step _ h4 h5=>
   rw[h2]at h4;injection h4 with h4;subst h4;exact ih h5
variable {s:Int}
theorem qdx (h:qe6 S s=some x):x∈S.waits/\x.site=s/\qau S x=true:=by
 have b:=List.mem_of_find?_eq_some h;have a:=List.find?_some h;simp at a;exact⟨b,a.1,a.2⟩
theorem qmj (h:qht S=some x):x∈S.waits/\qau S x=true:=by
 unfold qht at h;split at h
 ·rename_i y a;injection h with h;subst h;exact⟨(qdx a).1,(qdx a).2.2⟩
 ·split at h
  ·rename_i y a;injection h with h;subst h;exact⟨(qdx a).1,(qdx a).2.2⟩
  ·split at h
   ·rename_i y a;injection h with h;subst h;exact⟨(qdx a).1,(qdx a).2.2⟩
   ·exact⟨(qdx h).1,(qdx h).2.2⟩
theorem qh8 (h:qe6 S s=none):∀x∈S.waits,x.site=s->qau S x=false:=λx b hs=>by
 have a:=List.find?_eq_none.1 h x b;simp[hs]at a;exact a
theorem qk0 (h:∀x∈S.waits,x.site=s->qau S x=false):qe6 S s=none:=by
 refine List.find?_eq_none.2 λx a=>?_;by_cases e:x.site=s
 ·simp[e,h x a e]
 ·simp[e]
def qpq (l:List TxP):Prop:=l.Pairwise (λx y=>qcl x y=false)
theorem qpq.uniq:∀{l:List TxP},qpq l->∀{x y:TxP},x∈l->y∈l->x.site=y.site->x.seq=y.seq->x=y
 |[],_,_,_,hx,_,_,_=>by cases hx
 |a::l,h,x,y,hx,hy,e1,e2=>by
  obtain⟨d,g⟩:=List.pairwise_cons.1 h;rcases List.mem_cons.1 hx with e|f
  ·rcases List.mem_cons.1 hy with b|c
   ·rw[e,b]
   ·have:=d y c;rw[<-e]at this;simp[qcl,e1,e2]at this
  ·rcases List.mem_cons.1 hy with b|c
   ·have:=d x f;rw[<-b]at this;simp[qcl,e1,e2]at this
   ·exact qpq.uniq g f c e1 e2
theorem qh3 (h:qau S x=true):x.seq=qaq x.site S.a0 S.a1 S.a2 S.a3+1/\qfu S.a0 S.a1 S.a2 S.a3 x.d0 x.d1 x.d2 x.d3=true:=by
 simpa[qau]using h
theorem qzm (f:qpq S.waits) (b:x∈S.waits) (a:qau S x=true):qe6 S x.site=some x:=by
 cases h:qe6 S x.site with
 |none=>rw[qh8 h x b rfl]at a;cases a
 |some y=>
  obtain⟨g,c,i⟩:=qdx h;have e:=(qh3 a).1;have d:=(qh3 i).1;rw[c]at d;rw[f.uniq g b c (by rw[e,d])]
variable {l:List TxP}
theorem qpq.drop (h:qpq l) (t:TxP):qpq (qh0 l t):=h.filter _
theorem qpq.snoc (h:qpq l) (a:∀x∈l,qcl x t=false):qpq (l++[t]):=by
 refine List.pairwise_append.2 ⟨h,by simp,λx b y c=>?_⟩;obtain rfl:=List.mem_singleton.1 c;exact a x b
theorem qu7:x∈qh0 l t↔x∈l/\qcl x t=false:=by simp[qh0,List.mem_filter]
theorem qsi:∀{l:List TxP},qpq l->∀{i:Nat} {t:TxP},l[i]?=some t->qh0 l t=l.take i++l.drop (i+1)
 |[],_,_,_,h=>by simp at h
 |a::l,hn,0,t,h=>by
  simp at h;subst h;obtain⟨b,c⟩:=List.pairwise_cons.1 hn
  have e:qcl a a=true:=by simp[qcl]
  simp[qh0,e];intro x g;have j:qcl a x=false:=b x g;cases h4:qcl x a with
  |false=>rfl
  |true=>
   obtain⟨p,q⟩:=qgm.1 h4;simp[qcl,p,q]at j
 |a::l,hn,i+1,t,h=>by
  obtain⟨b,c⟩:=List.pairwise_cons.1 hn
  have d:l[i]?=some t:=by simpa using h
  have e:qcl a t=false:=b t (List.mem_of_getElem? d);have f:=qsi c d;unfold qh0 at f ⊢;simp[e,f]
theorem qg1 (a:qpq l) (b:t∈l):(qh0 l t).length+1=l.length:=by
 obtain⟨i,hi⟩:=List.getElem?_of_mem b;have c:i<l.length:=(List.getElem?_eq_some_iff.1 hi).1;rw[qsi a hi];simp;omega
end
section
open Tryz Go.RowKit Go.Maps
def qe3 (v:Value):Option (DataW Value×List MemPlace):=some (.held v,[])
def txV (m:TxM):Value:=.agg #[.int .i64 m.t.site,.int .i64 m.t.seq,.int .i64 m.t.wall,.int .i64 m.t.count,.int .i64 m.t.d0,.int .i64 m.t.d1,.int .i64 m.t.d2,.int .i64 m.t.d3,.slice m.wa m.t.ws.length m.wc]
def q9i:Value:=.agg #[.int .i64 0,.int .i64 0,.int .i64 0,.int .i64 0,.int .i64 0,.int .i64 0,.int .i64 0,.int .i64 0,.slice none 0 0]
theorem q2n (w:World):(zeroValue 102).run prog w=.ok q9i w:=by kernel_rfl
theorem qtx:prog.types.size=377:=by kernel_rfl
theorem qod:Keyed prog 338:=Keyed.of_law (deep_law_laid (m:=3) (by kernel_rfl) (by decide) (by rw[qtx];decide) (by kernel_rfl) (by kernel_rfl))
def q1r (s q:Int):Value:=.agg #[.int .i64 s,.int .i64 q]
def qi1 (s q:Int):Lit:=.string (keyBytes [.int .i64 s,.int .i64 q])
def wfI (x:Int):Prop:= -9223372036854775808<=x/\x<=9223372036854775807
variable {x:Int}
theorem jds (h:wfI x):(Lit.int .i64 x).wf=true:=WalkArith.wf_i64 h
theorem qyh (a:wfI x) (n:Nat):prog.keyLits (n+1) 3 [.int .i64 x]=some [.int .i64 x]:=by
 unfold Program.keyLits;rw[underlying3];simp[jds a]
variable {s q:Int}
theorem q8i (hs:wfI s) (a:wfI q) (n:Nat):prog.keyLits (n+1+1) 338 [.int .i64 s,.int .i64 q]=some [.int .i64 s,.int .i64 q]:=by
 have b:prog.cellsOf 338=2:=by kernel_rfl
 have c:prog.cellsOf 3=1:=by kernel_rfl
 unfold Program.keyLits;rw[underlying338];simp[b,c,qyh hs n,qyh a n]
theorem qum (hs:wfI s) (a:wfI q):keyOf prog 338 (q1r s q)=some (qi1 s q):=by
 have b:prog.keyType 338=true:=by kernel_rfl
 have c:prog.cellsOf 338=2:=by kernel_rfl
 have d:(q1r s q).formed prog 338=true:=by
  unfold Value.formed q1r;simp only[underlying338];rw[c];rfl
 have e:=q8i hs a (377-1);unfold keyOf;rw[underlying338,b,d,qtx];show (if (true&&true)=true then Option.map _ (prog.keyLits (377-1+1+1) 338 [.int .i64 s,.int .i64 q])else none)=_;rw[e];rfl
theorem qwm {a b:Int} (hs:wfI s) (d:wfI q) (e:wfI a) (f:wfI b) (h:qi1 s q=qi1 a b):s=a/\q=b:=by
 have c:=qod.inj (qum hs d) (by rw[h];exact qum e f);simp[q1r]at c;exact c
theorem q19 (s q:Int):WideAt.IsKeyLit (qi1 s q):=trivial
structure qw2 (D:DataW Value) (ws:List TxM):Prop where
 size:Maps.size D=ws.length
 has:∀m∈ws,Maps.has D (qi1 m.t.site m.t.seq)=true/\∀z,D.atKey (qi1 m.t.site m.t.seq) z=.held (txV m)
 no:∀s q,wfI s->wfI q->(∀m∈ws,¬(m.t.site=s/\m.t.seq=q))->Maps.has D (qi1 s q)=false
def wfN (m:TxM):Prop:=wfI m.t.site/\wfI m.t.seq
def qlg (w:World) (bm:Nat) (ws:List TxM):Prop:=(∀m∈ws,wfN m)/\qpq (ws.map (·.t))/\∃D,w.ownsMap prog 338 qe3 bm ws.length D/\qw2 D ws
variable {w:World} {bm:Nat} {ws:List TxM}
theorem qlg.lt (h:qlg w bm ws):bm<w.heap.size:=by
 obtain⟨_,_,D,h,_⟩:=h;exact h.lt
theorem qlg.kept {w':World} (h:qlg w bm ws) (e:w'.heap[bm]?=w.heap[bm]?):qlg w' bm ws:=by
 obtain⟨a,b,D,⟨es,c,hb,r⟩,d⟩:=h;exact⟨a,b,D,⟨es,c,by rw[e];exact hb,r⟩,d⟩
theorem qlg.made (w:World):qlg (w.alloc (.map #[] 0)) w.heap.size []:=
 ⟨by simp,by simp[qpq],_,World.ownsMap_made w _ _ _,⟨rfl,by simp,λ_ _ _ _ _=>rfl⟩⟩
variable {D:DataW Value} {m:TxM}
theorem q54 (d:Tidy D) (h:qw2 D ws) (i:∀m∈ws,wfN m) (b:wfN m) (j:∀x∈ws,qcl x.t m.t=false):qw2 (D.put (qi1 m.t.site m.t.seq) (.held (txV m))) (ws++[m]):=by
 have n:Maps.has D (qi1 m.t.site m.t.seq)=false:=h.no _ _ b.1 b.2 (λx a e=>by
  have:=j x a
  simp[qcl,e.1,e.2]at this)
 refine⟨by rw[size_put d,n];simp[h.size],λx a=>?_,λs q hs k a=>?_⟩
 ·rcases List.mem_append.1 a with a|a
  ·have c:qi1 x.t.site x.t.seq≠qi1 m.t.site m.t.seq:=λe=>by
        obtain⟨f,g⟩:=qwm (i x a).1 (i x a).2 b.1 b.2 e;have:=j x a;simp[qcl,f,g]at this
   exact⟨by rw[has_put_other c];exact(h.has x a).1,λz=>by rw[atKey_put_other c];exact(h.has x a).2 z⟩
  ·obtain rfl:=List.mem_singleton.1 a;exact⟨has_put_same d.isMap (q19 _ _) _,λz=>atKey_put_same d.isMap (q19 _ _) _ z⟩
 ·have c:qi1 s q≠qi1 m.t.site m.t.seq:=λe=>by
   obtain⟨f,g⟩:=qwm hs k b.1 b.2 e;exact a m (by simp) ⟨f.symm,g.symm⟩
  rw[has_put_other c];exact h.no s q hs k (λx o=>a x (by simp[o]))
def qkg (l:List TxM) (t:TxP):List TxM:=l.filter (λx=>!qcl x.t t)
theorem qoh (l:List TxM) (t:TxP):(qkg l t).map (·.t)=qh0 (l.map (·.t)) t:=by
 unfold qkg qh0;rw[List.filter_map];rfl
variable {l:List TxM}
theorem qjo {t:TxP} {x:TxM}:x∈qkg l t↔x∈l/\qcl x.t t=false:=by simp[qkg,List.mem_filter]
theorem qup (a:qpq (l.map (·.t))) (b:m∈l):(qkg l m.t).length+1=l.length:=by
 have h:=qg1 a (t:=m.t) (List.mem_map.2 ⟨m,b,rfl⟩);rw[<-qoh]at h;simpa using h
theorem q3s (g:Tidy D) (h:qw2 D ws) (b:∀m∈ws,wfN m) (i:qpq (ws.map (·.t))) (c:m∈ws):qw2 (D.del (qi1 m.t.site m.t.seq)) (qkg ws m.t):=by
 have u:=qup i c;have hs:=size_del (k:=qi1 m.t.site m.t.seq) g;rw[(h.has m c).1,h.size]at hs;refine⟨by simp at hs;omega,λx a=>?_,λs q j n a=>?_⟩
 ·obtain⟨a,d⟩:=qjo.1 a
  have d:qi1 x.t.site x.t.seq≠qi1 m.t.site m.t.seq:=λe=>by
   obtain⟨o,p⟩:=qwm (b x a).1 (b x a).2 (b m c).1 (b m c).2 e;simp[qcl,o,p]at d
  exact⟨by rw[has_del_other d];exact(h.has x a).1,λz=>by rw[atKey_del_other d];exact(h.has x a).2 z⟩
 ·by_cases e:qi1 s q=qi1 m.t.site m.t.seq
  ·rw[e];exact has_del_same
  ·rw[has_del_other e];refine h.no s q j n (λx r f=>?_);refine a x (qjo.2 ⟨r,?_⟩) f;cases hi:qcl x.t m.t with
   |false=>rfl
   |true=>
    obtain⟨p1,p2⟩:=qgm.1 hi;exact absurd (by rw[<-f.1,<-f.2,p1,p2]) e
end
section
open Go.RowKit
def qa4 (l:List Ver):List Value:=l.flatMap qah
def qb4 (l:List Ver) (i:Nat):Ver:=l.getD i qc6
theorem qcz (v:Ver):(qah v).length=6:=rfl
theorem qjb (a b:List Ver):qa4 (a++b)=qa4 a++qa4 b:=by simp[qa4]
theorem qer (x:Ver) (l:List Ver):qa4 (x::l)=qah x++qa4 l:=by simp[qa4]
theorem qjd (x:Ver):qa4 [x]=qah x:=by simp[qa4]
theorem qdg (l:List Ver):(qa4 l).length=l.length*6:=by
 induction l with
 |nil=>rfl
 |cons x l ih=>
  rw[qer,List.length_append,ih,qcz,List.length_cons];omega
variable {l:List Ver} {i:Nat}
theorem qme (h:i<l.length):qb4 l i∈l:=by
 simp only[qb4,List.getD,List.getElem?_eq_getElem h,Option.getD_some];exact List.getElem_mem h
theorem qf7 (h:i<l.length):qb4 l i=l[i]:=by simp[qb4,List.getD,List.getElem?_eq_getElem h]
theorem qnv:∀(l:List Ver) (i r:Nat) (u:Value),i<l.length->(qah (qb4 l i))[r]?=some u->(qa4 l)[i*6+r]?=some u
 |[],_,_,_,h,_=>by simp at h
 |x::l,0,r,u,_,hu=>by
  have a:r<(qah x).length:=(List.getElem?_eq_some_iff.1 hu).1;rw[qer,Nat.zero_mul,Nat.zero_add,List.getElem?_append_left a];exact hu
 |x::l,i+1,r,u,h,hu=>by
  have b:=qnv l i r u (by simpa using h) hu
  have e:(i+1)*6+r=(qah x).length+(i*6+r):=by rw[qcz];omega
  rw[qer,e,List.getElem?_append_right (by omega),Nat.add_sub_cancel_left];exact b
theorem qic (l:List Ver):∀u∈qa4 l,u.oneCell'=true:=by
 intro u a;unfold qa4 at a;obtain⟨x,_,b⟩:=List.mem_flatMap.1 a;simp[qah]at b
 rcases b with rfl|rfl|rfl|rfl|rfl|rfl<;>rfl
theorem qj8:∀(l:List Ver) (i:Nat),(qa4 l).take (i*6)=qa4 (l.take i)
 |[],i=>by simp[qa4]
 |x::l,0=>by simp[qa4]
 |x::l,i+1=>by
  have e:(i+1)*6=(qah x).length+i*6:=by rw[qcz];omega
  rw[List.take_succ_cons,qer,qer,e,List.take_append]
  congr 1
  ·exact List.take_of_length_le (by omega)
  ·rw[Nat.add_sub_cancel_left,qj8]
theorem qmm:∀(l:List Ver) (i:Nat),(qa4 l).drop (i*6)=qa4 (l.drop i)
 |[],i=>by simp[qa4]
 |x::l,0=>by simp[qa4]
 |x::l,i+1=>by
  have e:(i+1)*6=(qah x).length+i*6:=by rw[qcz];omega
  rw[List.drop_succ_cons,qer,e,<-List.drop_drop,List.drop_left];exact qmm l i
structure q6e (w:World) (a:Option Addr) (cap:Nat) (l:List Ver):Prop where
 len:l.length<=cap
 cap:cap<=9223372036854775807
 held:l=[]\/∃b,b<w.heap.size/\a=some ⟨b,0,none⟩/\∀i r u,i<l.length->(qah (qb4 l i))[r]?=some u->w.cell? ⟨b,i*6+r,none⟩=some u
variable {w w':World}
theorem q6e.later {a:Option Addr} {cap:Nat} (hb:Below w.heap.size w w') (h:q6e w a cap l):q6e w' a cap l:=
 ⟨h.len,h.cap,h.held.elim .inl λ⟨b,lt,e,c⟩=>.inr ⟨b,Nat.lt_of_lt_of_le lt hb.size,e,λi r u hi d=>cell_later hb (c i r u hi d)⟩⟩
variable {B:Nat} {T:TypeId} {v:Value}
theorem qg9 (h:w.ownsRow B T 6 v l.length (qa4 l)):∃a cap,v=.slice a l.length cap/\q6e w a cap l:=by
 rcases h.2 with ⟨rfl,b⟩|⟨g,cap,cur,rfl,hb,d,e,f,hs,k⟩
 ·exact⟨none,0,by rw[b],⟨by omega,by omega,.inl (List.eq_nil_of_length_eq_zero b)⟩⟩
 ·refine⟨_,cap,rfl,⟨e,by simp only[maxLen]at f;omega,.inr ⟨g,(Array.getElem?_eq_some_iff.1 d).1,rfl,λi r u hi j=>?_⟩⟩⟩;have c:=h.cells (g:=g) rfl _ _ (qnv l i r u hi j);rw[qc7]at c;exact c
theorem qhy {n:Nat} {xs:List Value} (h:w.ownsRow B T 6 v n xs) (hb:Below w.heap.size w w'):w'.ownsRow B T 6 v n xs:=
 h.kept (row:=none) ⟨hb.os,hb.tape,hb.output,hb.size,λk a _=>hb.block k a⟩ (by cases v.ownBlock<;>simp)
end
abbrev toL (s:ByteArray):List UInt8:=s.data.toList
theorem qj3 (a b:ByteArray):toL (a++b)=toL a++toL b:=by
 show (a++b).data.toList=_;rw[ByteArray.data_append,Array.toList_append]
theorem qww {a b:ByteArray} (h:toL a=toL b):a=b:=by
 obtain⟨⟨x⟩⟩:=a;obtain⟨⟨y⟩⟩:=b;have c:x=y:=h;rw[c]
theorem qbg (s:ByteArray):(toL s).length=s.size:=by
 show s.data.toList.length=s.data.size;rw[Array.length_toList]
theorem qek (s:ByteArray):s.toList=toL s:=by
 have a:∀(n i:Nat) (r:List UInt8),s.size-i=n->ByteArray.toList.loop s i r=r.reverse++(toL s).drop i:=by
  intro n
  induction n with
  |zero=>
   intro i r b;unfold ByteArray.toList.loop;rw[if_neg (by omega),List.drop_eq_nil_of_le (by rw[qbg];omega),List.append_nil]
  |succ n ih=>
   intro i r b;unfold ByteArray.toList.loop;rw[if_pos (by omega),ih _ _ (by omega)]
   have hi:i<(toL s).length:=by rw[qbg];omega
   rw[List.drop_eq_getElem_cons hi,List.reverse_cons,List.append_assoc]
   congr 2
   have c:i<s.data.size:=by have:=qbg s;rw[Array.length_toList]at hi;exact hi
   show [s.data[i]!]++_=s.data.toList[i]::_;rw[getElem!_pos s.data i c,Array.getElem_toList];rfl
 exact a s.size 0 [] (by omega)
theorem jdv (a b:ByteArray):(a.toList==b.toList)=decide (a=b):=by
 rw[qek,qek];by_cases h:a=b
 ·rw[h];simp
 ·rw[decide_eq_false h];exact beq_eq_false_iff_ne.2 (λe=>h (qww e))
section
open Go.RowKit
variable {a b:Ver}
theorem qc0:qao a b=true↔a.wall<b.wall\/(a.wall=b.wall/\(a.count<b.count\/(a.count=b.count/\a.site<b.site))):=by
 unfold qao;rcases qet a.wall a.count b.wall b.count with ⟨h,e⟩|⟨h,e⟩|⟨h,e⟩
 ·rw[e,if_neg (by decide)];simp only[show decide ((-1:Int)<0)=true from rfl,true_iff];omega
 ·rw[e,if_pos rfl];simp only[decide_eq_true_eq];omega
 ·rw[e,if_neg (by decide)];simp only[show decide ((1:Int)<0)=false from rfl,Bool.false_eq_true,false_iff];omega
def q7o (a b:Ver):Prop:=a.wall=b.wall/\a.count=b.count/\a.site=b.site
theorem qnd (c:qao a b=false) (d:qao b a=false):q7o a b:=by
 have n1:¬qao a b=true:=by rw[c];decide
 have n2:¬qao b a=true:=by rw[d];decide
 rw[qc0]at n1 n2;unfold q7o;omega
theorem qho (a:Ver):qao a a=false:=by
 cases h:qao a a
 ·rfl
 ·rw[qc0]at h;omega
theorem qry {c:Ver} (d:qao b a=true) (e:qao b c=false):qao a c=false:=by
 cases h:qao a c
 ·rfl
 ·exfalso
  have n2:¬qao b c=true:=by rw[e];decide
  rw[qc0]at h d n2;omega
def qom (key a0 a1 a2 a3:Int) (l:List Hd) (v:Ver):Prop:=(∃h∈l,h.v=v/\h.key=key/\qke a0 a1 a2 a3 v=true)/\∀h∈l,h.key=key->qke a0 a1 a2 a3 h.v=true->qao v h.v=false
theorem qm3 (key a0 a1 a2 a3:Int):∀(l p:List Hd) (g:Option Ver),
 (g=none->∀h∈p,h.key=key->qke a0 a1 a2 a3 h.v=false)->(∀v,g=some v->qom key a0 a1 a2 a3 p v)->
 (l.foldl (qkh key a0 a1 a2 a3) g=none->∀h∈p++l,h.key=key->qke a0 a1 a2 a3 h.v=false)/\(∀v,l.foldl (qkh key a0 a1 a2 a3) g=some v->qom key a0 a1 a2 a3 (p++l) v)
 |[],p,g,hn,hs=>by simpa using ⟨hn,hs⟩
 |x::l,p,g,hn,hs=>by
  have m:(qkh key a0 a1 a2 a3 g x=none->∀h∈p++[x],h.key=key->qke a0 a1 a2 a3 h.v=false)/\(∀v,qkh key a0 a1 a2 a3 g x=some v->qom key a0 a1 a2 a3 (p++[x]) v):=by
   cases g with
   |none=>
    by_cases d:x.key=key/\qke a0 a1 a2 a3 x.v=true
    ·have e:qkh key a0 a1 a2 a3 none x=some x.v:=qh1 ⟨d.1,d.2,rfl⟩;rw[e];refine⟨λh=>(by cases h),λv f=>?_⟩;injection f with f;subst f;refine⟨⟨x,by simp,rfl,d.1,d.2⟩,λh j i k=>?_⟩;rcases List.mem_append.1 j with c|c
     ·have:=hn rfl h c i;rw[k]at this;cases this
     ·obtain rfl:=List.mem_singleton.1 c;exact qho _
    ·have e:qkh key a0 a1 a2 a3 none x=none:=qgb (λy=>d ⟨y.1,y.2.1⟩);rw[e];refine⟨λ_ h j i=>?_,λv f=>(by cases f)⟩;rcases List.mem_append.1 j with c|c
     ·exact hn rfl h c i
     ·obtain rfl:=List.mem_singleton.1 c;cases hq:qke a0 a1 a2 a3 h.v
      ·rfl
      ·exact absurd ⟨i,hq⟩ d
   |some b=>
    obtain⟨⟨y,q,r,s,t⟩,n⟩:=hs b rfl;by_cases d:x.key=key/\qke a0 a1 a2 a3 x.v=true/\qao b x.v=true
    ·have e:qkh key a0 a1 a2 a3 (some b) x=some x.v:=qh1 d;rw[e];refine⟨λh=>(by cases h),λv f=>?_⟩;injection f with f;subst f;refine⟨⟨x,by simp,rfl,d.1,d.2.1⟩,λh j i k=>?_⟩;rcases List.mem_append.1 j with c|c
     ·exact qry d.2.2 (n h c i k)
     ·obtain rfl:=List.mem_singleton.1 c;exact qho _
    ·have e:qkh key a0 a1 a2 a3 (some b) x=some b:=qgb d;rw[e];refine⟨λh=>(by cases h),λv f=>?_⟩;injection f with f;subst f;refine⟨⟨y,by simp[q],r,s,t⟩,λh j i k=>?_⟩;rcases List.mem_append.1 j with c|c
     ·exact n h c i k
     ·obtain rfl:=List.mem_singleton.1 c;cases hq:qao b h.v
      ·rfl
      ·exact absurd ⟨i,k,hq⟩ d
  have o:=qm3 key a0 a1 a2 a3 l (p++[x]) (qkh key a0 a1 a2 a3 g x) m.1 m.2;rw[List.append_assoc,List.singleton_append]at o;exact o
variable {a0 a1 a2 a3:Int} {l:List Hd}
theorem qqo {key:Int} (h:qde key a0 a1 a2 a3 l=none):∀x∈l,x.key=key->qke a0 a1 a2 a3 x.v=false:=by
 have:=(qm3 key a0 a1 a2 a3 l [] none (λ_ h c=>(by cases c)) (λv d=>(by cases d))).1 h;simpa using this
variable {v:Ver}
theorem qm2 {key:Int} (h:qde key a0 a1 a2 a3 l=some v):qom key a0 a1 a2 a3 l v:=by
 have:=(qm3 key a0 a1 a2 a3 l [] none (λ_ h c=>(by cases c)) (λv d=>(by cases d))).2 v h;simpa using this
def qiz (l:List Hd):Prop:=∀x∈l,∀y∈l,x.key=y.key->q7o x.v y.v->x=y
theorem qzl {key:Int} {u:Ver} (g:qiz l) (h:qom key a0 a1 a2 a3 l u) (i:qom key a0 a1 a2 a3 l v):u=v:=by
 obtain⟨⟨x,c,j,d,k⟩,m⟩:=h;obtain⟨⟨y,e,n,f,o⟩,p⟩:=i;subst j n;have:=g x c y e (by rw[d,f]) (qnd (m y e f o) (p x c d k));rw[this]
theorem q4b {key:Int} (c:qiz l):qde key a0 a1 a2 a3 l=some v↔qom key a0 a1 a2 a3 l v:=by
 refine⟨qm2,λh=>?_⟩;cases e:qde key a0 a1 a2 a3 l with
 |none=>
  obtain⟨⟨x,d,f,g,i⟩,_⟩:=h;have:=qqo e x d g;rw[f,i]at this;cases this
 |some u=>rw[qzl c (qm2 e) h]
theorem q52 {key:Int} (i:qiz l):qiz (qgp l key v):=by
 unfold qgp;split
 ·rename_i h
  have j:l.any (qfa key v)=false:=by
   unfold qig at h;split at h
   ·split at h
    ·split at h
     ·cases h
     ·rename_i d;simpa using d
    ·cases h
   ·cases h
  rw[List.any_eq_false]at j;have k:∀x∈l,x.key=key->¬q7o x.v v:=λx d e c=>j x d (by simp[qfa,e,c.1,c.2.1,c.2.2]);intro x d y m e c
  rcases List.mem_append.1 d with f|f<;>rcases List.mem_append.1 m with g|g
  ·exact i x f y g e c
  ·obtain rfl:=List.mem_singleton.1 g;exact absurd c (k x f e)
  ·obtain rfl:=List.mem_singleton.1 f;exact absurd ⟨c.1.symm,c.2.1.symm,c.2.2.symm⟩ (k y g e.symm)
  ·rw[List.mem_singleton.1 f,List.mem_singleton.1 g]
 ·exact i
theorem q3z {m:List Hd} (c:qiz l) (h:∀x∈m,x∈l):qiz m:=λx d y e=>c x (h x d) y (h y e)
end
section
open Tryz Go.Value Go.IntKind Go.RowKit
variable {v:Ver} {r:Bool}
theorem qx6 {a0 a1 a2 a3:Int} (h:qke a0 a1 a2 a3 v=r) (j:0<=v.site) (k:v.site<=3) (w:World):
 Calls prog 263 #[.agg #[int i64 a0,int i64 a1,int i64 a2,int i64 a3],.agg #[int i64 v.wall,int i64 v.count,int i64 v.site,int i64 v.seq,.string v.data,.bool v.gone]] w λe w'=>e=.returned (.bool r)/\Below w.heap.size w w':=by
 have o:=Later.one;obtain⟨wl,c,st,d,g,gn⟩:=v;have H:Hid _:=h;simp only at j k
 have p:st<4:=by omega
 clear h;have l:=(qa9.new w 77 a0 a1 a2 a3).boxed (.cells #[int i64 wl,int i64 c,int i64 st,int i64 d,.string g,.bool gn] 130);have i:=qag.new (w:=w.alloc (.cells #[int i64 a0,int i64 a1,int i64 a2,int i64 a3] 77)) (T:=130) (n:=w.heap.size+1) [int i64 wl,int i64 c,int i64 st,int i64 d,.string g,.bool gn] (by simp);have hb:=boxed (boxed (Below.refl _ w) (.cells #[int i64 a0,int i64 a1,int i64 a2,int i64 a3] 77)) (.cells #[int i64 wl,int i64 c,int i64 st,int i64 d,.string g,.bool gn] 130);have c2:=Later.cell (i.cell 2 _ rfl);have c3:=Later.cell (i.cell 3 _ rfl);have q:=Later.cell (qoz l j k);clear l i;go_enter func263,ntmps263
 go_wp2_with fail
 refine qaa (by kernel_rfl) (by kernel_rfl) ?_
 repeat (go_big_quiet_step (fail))
 refine wpQuiet_nil ?_;rintro s ⟨⟨_,m⟩,rfl⟩
 go_wp2_with fail
 go_ret;exact⟨by rw[<-H.out];rfl,qab hb m⟩
def q4x (a b:Ver):Int:=if qkj a.wall a.count b.wall b.count=0 then qsg a.site b.site else qkj a.wall a.count b.wall b.count
variable {a b:Ver}
theorem qxp:q4x a b<0↔qao a b=true:=by
 rw[qc0];unfold q4x;rcases qet a.wall a.count b.wall b.count with ⟨h,e⟩|⟨h,e⟩|⟨h,e⟩
 ·rw[e,if_neg (by decide)];omega
 ·rw[e,if_pos rfl]
  rcases qka a.site b.site with ⟨g,f⟩|⟨g,f⟩|⟨g,f⟩<;>rw[f]<;>omega
 ·rw[e,if_neg (by decide)];omega
theorem q4l:q4x a b=0↔q7o a b:=by
 unfold q4x q7o;rcases qet a.wall a.count b.wall b.count with ⟨h,e⟩|⟨h,e⟩|⟨h,e⟩
 ·rw[e,if_neg (by decide)];omega
 ·rw[e,if_pos rfl]
  rcases qka a.site b.site with ⟨g,f⟩|⟨g,f⟩|⟨g,f⟩<;>rw[f]<;>omega
 ·rw[e,if_neg (by decide)];omega
theorem qsf {r:Int} (h:q4x a b=r) (w:World):
 Calls prog 285 #[.agg #[int i64 a.wall,int i64 a.count,int i64 a.site,int i64 a.seq,.string a.data,.bool a.gone],.agg #[int i64 b.wall,int i64 b.count,int i64 b.site,int i64 b.seq,.string b.data,.bool b.gone]] w λe w'=>e=.returned (int i64 r)/\Below w.heap.size w w':=by
 obtain⟨d,g,m,o,p,q⟩:=a;obtain⟨i,j,bs,s,u,x⟩:=b;have y:=(qag.new (w:=w) (T:=130) [int i64 d,int i64 g,int i64 m,int i64 o,.string p,.bool q] rfl).boxed (.cells #[int i64 i,int i64 j,int i64 bs,int i64 s,.string u,.bool x] 130);have z:=qag.new (w:=w.alloc (.cells #[int i64 d,int i64 g,int i64 m,int i64 o,.string p,.bool q] 130)) (T:=130) (n:=w.heap.size+1) [int i64 i,int i64 j,int i64 bs,int i64 s,.string u,.bool x] (by simp);have hb:=boxed (boxed (Below.refl _ w) (.cells #[int i64 d,int i64 g,int i64 m,int i64 o,.string p,.bool q] 130)) (.cells #[int i64 i,int i64 j,int i64 bs,int i64 s,.string u,.bool x] 130);simp only[q4x]at h;obtain⟨c,B⟩:∃c,qkj d g i j=c:=⟨_,rfl⟩;rw[B]at h;have C:Hid _:=B;clear B;by_cases k:c=0
 ·rw[if_pos k]at h;subst k;have H:Hid _:=h;clear h;go_enter func285,ntmps285
  go_wp2_with fail
  refine(qil d g i j _).mono ?_;rintro e D ⟨rfl,l⟩;rw[C.out];replace y:=y.later l;replace z:=z.later l;have c2:=y.cell 2 _ rfl;have d2:=z.cell 2 _ rfl
  go_wp2_with (go_at_call 289;refine(qwt _ _ _).mono ?_;rintro e w' ⟨rfl,rfl⟩)
  go_ret;exact⟨by rw[<-H.out];rfl,qab hb l⟩
 ·rw[if_neg k]at h;have E:(c==0)=false:=beq_eq_false_iff_ne.2 k;clear k;subst h;go_enter func285,ntmps285
  go_wp2_with fail
  refine(qil d g i j _).mono ?_;rintro e D ⟨rfl,l⟩;rw[C.out]
  go_wp2_with fail
  go_ret;exact⟨rfl,qab hb l⟩
theorem qlq {n:Int} (h:inB n 0 7=r) (w:World):
 Calls prog 280 #[int i64 n] w λe w'=>e=.returned (.bool r)/\w'=w:=by
 by_cases c:0<=n
 ·by_cases d:n<8
  ·have e:inB n 0 7=true:=qa5.2 ⟨c,by omega⟩;rw[e]at h;subst h;go_enter func280,ntmps280
   go_wp2
   go_ret;exact⟨rfl,rfl⟩
  ·have e:inB n 0 7=false:=by simp[inB];omega
   rw[e]at h;subst h;go_enter func280,ntmps280
   go_wp2
   go_ret;exact⟨rfl,rfl⟩
 ·have e:inB n 0 7=false:=by simp[inB,c]
  rw[e]at h;subst h;go_enter func280,ntmps280
  go_wp2
  go_ret;exact⟨rfl,rfl⟩
theorem qrg (h:qd2 v=r) (w:World):
 Calls prog 283 #[.agg #[int i64 v.wall,int i64 v.count,int i64 v.site,int i64 v.seq,.string v.data,.bool v.gone]] w λe w'=>e=.returned (.bool r)/\Below w.heap.size w w':=by
 obtain⟨wl,i,st,g,d,gn⟩:=v;have R:=qag.new (w:=w) (T:=130) [int i64 wl,int i64 i,int i64 st,int i64 g,.string d,.bool gn] rfl;have hb:=boxed (Below.refl _ w) (.cells #[int i64 wl,int i64 i,int i64 st,int i64 g,.string d,.bool gn] 130);obtain⟨t,j⟩:∃t,(qal wl&&qal i)=t:=⟨_,rfl⟩;have l:Hid _:=j
 have m:(t&&inB st 0 3&&inB g 1 1099511627776&&decide ((d.size:Int)<=12)&&!(gn&&!d.toList.isEmpty))=r:=by rw[<-j];exact h
 have H:Hid _:=m;clear h j m;go_enter func283,ntmps283
 go_wp2_with fail
 refine(qgr wl i _).mono ?_;rintro e p ⟨rfl,k⟩;rw[l.out];replace R:=R.later k;replace hb:=qab hb k;clear k l;have c2:=R.cell 2 _ rfl;have c3:=R.cell 3 _ rfl;have c4:=R.cell 4 _ rfl;have c5:=R.cell 5 _ rfl;cases t
 ·go_wp2_with fail
  go_ret;exact⟨by rw[<-H.out];rfl,hb⟩
 ·by_cases a1:st<0
  ·have e:inB st 0 3=false:=by simp[inB];omega
   have c:Hid (r=false):=by show r=false;rw[<-H.out,e];simp
   clear e
   go_wp2_with fail
   go_ret;exact⟨by rw[c.out];rfl,hb⟩
  ·by_cases a2:4<=st
   ·have e:inB st 0 3=false:=by simp[inB];omega
    have c:Hid (r=false):=by show r=false;rw[<-H.out,e];simp
    clear e
    go_wp2_with fail
    go_ret;exact⟨by rw[c.out];rfl,hb⟩
   ·have n:Hid (inB st 0 3=true):=qa5.2 (by omega);by_cases a3:g<1
    ·have e:inB g 1 1099511627776=false:=by simp[inB];omega
     have c:Hid (r=false):=by show r=false;rw[<-H.out,e];simp
     clear e
     go_wp2_with fail
     go_ret;exact⟨by rw[c.out];rfl,hb⟩
    ·by_cases a4:1099511627776<g
     ·have e:inB g 1 1099511627776=false:=by simp[inB];omega
      have c:Hid (r=false):=by show r=false;rw[<-H.out,e];simp
      clear e
      go_wp2_with fail
      go_ret;exact⟨by rw[c.out];rfl,hb⟩
     ·have o:Hid (inB g 1 1099511627776=true):=qa5.2 (by omega);cases gn
      ·have c:Hid (r=decide ((d.size:Int)<=12)):=by show r=_;rw[<-H.out,n.out,o.out];simp
       go_wp2_with fail
       go_ret;exact⟨by rw[c.out];rfl,hb⟩
      ·have c:Hid (r=d.toList.isEmpty):=by
           show r=_;rw[<-H.out,n.out,o.out];cases hd:d.toList.isEmpty
           ·simp
           ·have:d.size=0:=by
             have:d.toList.length=0:=by rw[List.isEmpty_iff.1 hd];rfl
             rwa [qek,qbg]at this
            simp[this]
       go_wp2_with fail
       go_ret;exact⟨by rw[c.out];rfl,hb⟩
end
section
open Go.RowKit
variable {P:Program}
theorem qjx (w:World) (e n p d:TypeId) (k b o f q:Nat) (a:Addr) (h r m:Nat) (c:List Value)
 (s:P.underlying e=some (.slice d)) (hs:(P.info? d).map (·.size)=some k) (t:m=Nat.min h f) (u:c.length=m*k)
 (x:∀j v,c[j]?=some v->w.cell? (a.add j)=some v) (y:∀j,j<c.length->(w.cell? ⟨b,o+j,none⟩).isSome=true) (z:∀j,j<c.length->w.frozen? ⟨b,o+j,none⟩=false) (A:∀v∈c,v.oneCell'=true):
 (Builtin.copy_ #[e,n] p #[.slice (some ⟨b,o,none⟩) f q,.slice (some a) h r]).run P w=.ok (goInt m) (w.setCells b o c):=by
 have l:=run_loadCells_list (P:=P) w a c x;have B:=run_storeCells_cells (P:=P) b o c 0 w (by simpa using y) (by simpa using z) A;rw[u]at l;cases hq:P.info? d with
 |none=>simp[hq]at hs
 |some i=>
  have hi:i.size=k:=by simpa[hq]using hs
  simp[Builtin.copy_,run_underlying s,Builtin.lenOf,Builtin.firstCells,sizeOf,typeInfo,hq,hi,<-t,l,B]
variable {o:Oper} {a:Act} {K:Act->World->Prop} {Q:Exit->Act->World->Prop} {v':Value} {w':World}
theorem qoe (w:World) (d s:Operand) (t b:TypeId)
 (c:o.op=.call {callee:=.builtin .copy,args:=#[d,s],argTypes:=#[t,b]}) (v u:Value) (e:a.eval d=v) (hs:a.eval s=u)
 (f:(Builtin.copy_ #[t,b] o.type #[v,u]).run P w=.ok v' w') (h:K (a.put o.dst v') w'):o.wp P a w K Q:=by
 unfold Oper.wp execOp;simp only[c,resolve,invoke,builtin,Sem.run_bind,Sem.run_pure,Result.andThen_ok,List.map_toArray,List.map_cons,List.map_nil,e,hs,f];exact h
theorem qjf (w:World) {c:Array Oper} {rest:List Oper} (e:o.guard=none) (d s:Operand) (t b:TypeId)
 (f:o.op=.call {callee:=.builtin .copy,args:=#[d,s],argTypes:=#[t,b]}) (v u:Value) (i:a.eval d=v) (hs:a.eval s=u)
 (j:(Builtin.copy_ #[t,b] o.type #[v,u]).run P w=.ok v' w') (h:wpList P c Q rest (a.put o.dst v') w'):wpList P c Q (o::rest) a w:=
 wpList_plain e λ_ k=>qoe w d s t b f v u i hs j (k _ _ h)
variable {w:World}
theorem ql2 {e:Array Oper} {E:Prop}
 (f:o.guard=none) (d x:Operand) (b c:TypeId) (h:o.op=Op.call {callee:=Callee.builtin Builtin.copy,args:=#[d,x],argTypes:=#[b,c]})
 (v u:Value) (i:a.eval d=v) (j:a.eval x=u) (k:(Builtin.copy_ #[b,c] o.type #[v,u]).run P w=.ok v' w') (l:K (a.put o.dst v') w'):
 if Region.wanted o (yielded e a.tmps)=true then Oper.wp P o a w K Q else E:=by
 have m:Region.wanted o (yielded e a.tmps)=true:=by simp[Region.wanted,f]
 rw[if_pos m];exact qoe w d x b c h v u i j k l
theorem qct (g:Nat):∀(b:List Value) (o:Nat) (w:World) {cur:Array Value} {T:TypeId},w.heap[g]?=some (.cells cur T (0,0))->∃d,(w.setCells g o b).heap[g]?=some (.cells d T (0,0))/\d.size=cur.size
 |[],_,_,cur,_,h=>⟨cur,h,rfl⟩
 |v::b,o,w,cur,T,h=>by
  obtain⟨c,e,f⟩:=qct g b (o+1) (w.setCell ⟨g,o,none⟩ v) (heap_setCell_same w g o cur T v h);exact⟨c,e,by simpa using f⟩
variable {g:Nat} {T:TypeId}
theorem qg4 {B n cap k:Nat} {cur:Array Value} {xs:List Value} (e:B<=g) (b:w.heap[g]?=some (.cells cur T (0,0))) (f:cap<=maxLen) (hs:cur.size=cap*k) (c:n<=cap) (d:xs.length=n*k)
 (h:∀j u,xs[j]?=some u->w.cell? ⟨g,j,none⟩=some u):w.ownsRow B T k (.slice (some ⟨g,0,none⟩) n cap) n xs:=by
 refine⟨d,.inr ⟨g,cap,cur,rfl,e,b,c,f,hs,?_⟩⟩
 have m:n*k<=cur.size:=by rw[hs];exact Nat.mul_le_mul_right _ c
 apply List.ext_getElem
 ·rw[List.length_take,Array.length_toList,d];omega
 ·intro i p l;have:=h i xs[i] (List.getElem?_eq_getElem l);rw[cell_of_row w g i cur T (0,0) b]at this;rw[List.getElem_take,Array.getElem_toList];rw[Array.getElem?_eq_getElem (by omega)]at this;injection this
theorem qjt (g:Nat) (b:List Value) (o:Nat) (w:World) (h:∀j,j<b.length->(w.cell? ⟨g,o+j,none⟩).isSome=true) (k:Nat) (c:(w.cell? ⟨g,k,none⟩).isSome=true):((w.setCells g o b).cell? ⟨g,k,none⟩).isSome=true:=by
 by_cases d:o<=k/\k<o+b.length
 ·have:=World.cell?_setCells_in g b o w h (k-o) (by omega);rw[show o+(k-o)=k by omega]at this;rw[this];rfl
 ·rw[World.cell?_setCells_out g b o w ⟨g,k,none⟩ (λ_ _=>by show k<o\/o+b.length<=k;omega)];exact c
theorem qxt {b:List Value} {o:Nat} (h:∀j,j<b.length->(w.cell? ⟨g,o+j,none⟩).isSome=true) {j:Nat} {u:Value} (c:b[j]?=some u):(w.setCells g o b).cell? ⟨g,o+j,none⟩=some u:=by
 obtain⟨d,e⟩:=List.getElem?_eq_some_iff.1 c;rw[World.cell?_setCells_in g b o w h j d,e]
theorem qvd (A V D:List Value) (h:∀j u,A[j]?=some u->w.cell? ⟨g,j,none⟩=some u) (e:∀j,j<A.length+V.length+D.length->(w.cell? ⟨g,j,none⟩).isSome=true):
 ∀j u,(A++V++D)[j]?=some u->((w.setCells g (A.length+V.length) D).setCells g A.length V).cell? ⟨g,j,none⟩=some u:=by
 intro j u b;have f:∀t,t<D.length->(w.cell? ⟨g,A.length+V.length+t,none⟩).isSome=true:=λt i=>e _ (by omega);have k:∀t,t<V.length->((w.setCells g (A.length+V.length) D).cell? ⟨g,A.length+t,none⟩).isSome=true:=λt i=>qjt g D _ w f _ (e _ (by omega));rcases Nat.lt_or_ge j (A.length+V.length)with c|c
 ·rw[List.getElem?_append_left (by simpa using c)]at b;rcases Nat.lt_or_ge j A.length with d|d
  ·rw[List.getElem?_append_left d]at b;rw[World.cell?_setCells_out g V _ _ _ (λ_ _=>.inl d),World.cell?_setCells_out g D _ _ _ (λ_ _=>.inl (by show j<_;omega))];exact h j u b
  ·rw[List.getElem?_append_right d]at b;have:=qxt k b
   rwa [show A.length+(j-A.length)=j by omega]at this
 ·rw[List.getElem?_append_right (by simpa using c),List.length_append]at b;rw[World.cell?_setCells_out g V _ _ _ (λ_ _=>.inr c)];have:=qxt f b
  rwa [show A.length+V.length+(j-(A.length+V.length))=j by omega]at this
theorem qnk (A V D:List Value) (h:∀j u,A[j]?=some u->w.cell? ⟨g,j,none⟩=some u) (e:∀j,j<A.length+V.length+D.length->(w.cell? ⟨g,j,none⟩).isSome=true):
 ∀j u,(A++V++D)[j]?=some u->((w.setCells g A.length V).setCells g (A.length+V.length) D).cell? ⟨g,j,none⟩=some u:=by
 intro j u b;have f:∀t,t<V.length->(w.cell? ⟨g,A.length+t,none⟩).isSome=true:=λt i=>e _ (by omega);have k:∀t,t<D.length->((w.setCells g A.length V).cell? ⟨g,A.length+V.length+t,none⟩).isSome=true:=λt i=>qjt g V _ w f _ (e _ (by omega));rcases Nat.lt_or_ge j (A.length+V.length)with c|c
 ·rw[List.getElem?_append_left (by simpa using c)]at b;rw[World.cell?_setCells_out g D _ _ _ (λ_ _=>.inl c)];rcases Nat.lt_or_ge j A.length with d|d
  ·rw[List.getElem?_append_left d]at b;rw[World.cell?_setCells_out g V _ _ _ (λ_ _=>.inl d)];exact h j u b
  ·rw[List.getElem?_append_right d]at b;have:=qxt f b
   rwa [show A.length+(j-A.length)=j by omega]at this
 ·rw[List.getElem?_append_right (by simpa using c),List.length_append]at b;have:=qxt k b
  rwa [show A.length+V.length+(j-(A.length+V.length))=j by omega]at this
end
section
open Tryz Go.RowKit
theorem q5m:(prog.info? 130).map (λi=>(i.zero,i.size,i.bytes))=some (some (.agg #[.int .i64 0,.int .i64 0,.int .i64 0,.int .i64 0,.string ⟨#[]⟩,.bool false]),6,56):=by kernel_rfl
theorem qsh:(prog.info? 130).map (·.size)=some 6:=by kernel_rfl
def qhn (w:World) (sv:Value) (L':List Ver) (g cap:Nat) (w':World):Prop:=
 w'.ownsRow 0 130 6 (.slice (some ⟨g,0,none⟩) L'.length cap) L'.length (qa4 L')/\w.grownBy w' sv.ownBlock/\(sv.ownBlock=some g\/w.heap.size<=g)
def qsw (L:List Ver) (p:Nat) (v:Ver):List Ver:=L.take p++[v]++L.drop p
variable {L:List Ver} {p:Nat}
theorem qik (v:Ver) (h:p<=L.length):(qsw L p v).length=L.length+1:=by
 simp[qsw];omega
theorem quk (L:List Ver) (p:Nat) (v:Ver):qa4 (qsw L p v)=qa4 (L.take p)++qah v++qa4 (L.drop p):=by
 unfold qsw;rw[qjb,qjb,qjd]
theorem qz7 {sv:Value} (v:Ver) (i:Nat) (w:World) (k:w.ownsRow 0 130 6 sv L.length (qa4 L)) (H:L.length<=1000) (s:w.heap[i]?=some (.cells (qah v).toArray 130 (0,0))):
 Calls prog 286 #[sv,.int .i64 L.length,.slice (some ⟨i,0,none⟩) 1 1] w λe w'=>
  ∃g cap,e=.returned (.slice (some ⟨g,0,none⟩) (L.length+1) cap)/\qhn w sv (L++[v]) g cap w':=by
 obtain⟨i0,hi,B,C,D⟩:=info_parts q5m
 have E:∀j u,(qah v)[j]?=some u->w.cell? ((⟨i,0,none⟩:Addr).add j)=some u:=λj u x=>by
  rw[qc7,cell_of_row w i j _ 130 (0,0) s];simpa using x
 have r:∀u∈qah v,u.oneCell'=true:=λu x=>qic [v] u (by rw[qjd];exact x);obtain⟨a,cap,rfl,y⟩:=qg9 k;have I:=y.len;have Q:=y.cap;have F:Hid (∀j u,(qah v)[j]?=some u->w.cell? ((⟨i,0,none⟩:Addr).add j)=some u):=E;have R:Hid _:=s;clear E s y;obtain⟨n,l⟩:∃n,L.length=n:=⟨_,rfl⟩;have J:Hid _:=l;rw[l]at k I H ⊢;clear l
 have hs:(Value.slice a n cap=.slice none 0 0)\/∃g,a=some ⟨g,0,none⟩:=by
  rcases k.2 with ⟨h,_⟩|⟨g,c,cur,h,_⟩
  ·exact .inl h
  ·injection h with h _ _;exact .inr ⟨g,h⟩
 have G:Hid (∀g b d,d.ownsRow 0 130 6 (.slice (some ⟨g,0,none⟩) (n+1) b) (n+1) (qa4 L++qah v)->w.grownBy d (Value.slice a n cap).ownBlock->((Value.slice a n cap).ownBlock=some g\/g=w.heap.size)->qhn w (.slice a n cap) (L++[v]) g b d):=λg b d r K M=>
  ⟨by rw[qjb,qjd,List.length_append,J.out];exact r,K,M.imp_right (λe=>by omega)⟩
 rcases hs with N|⟨O,rfl⟩
 ·injection N with ha l hcp;subst ha l hcp;go_enter func286,ntmps286
  go_wp2_with (at_builtin;refine wpList_append_lies _ rfl _ _ 215 rfl 0 130 i0 (.agg #[.int .i64 0,.int .i64 0,.int .i64 0,.int .i64 0,.string ⟨#[]⟩,.bool false]) 6 56 underlying215 hi B C D rfl (by decide) _ _ (qa4 L) rfl k ⟨i,0,none⟩ 1 1 (qah v) rfl rfl F.out r (by decide) (by simp only[maxLen];omega) (by omega) (by omega) _ rfl ?_;intro g b d m o q P;have z:Hid (qhn w (.slice none 0 0) (L++[v]) g b d):=G.out g b d m o q;clear m o q)
  go_ret;exact⟨g,b,rfl,z.out⟩
 ·go_enter func286,ntmps286
  go_wp2_with (at_builtin;refine wpList_append_lies _ rfl _ _ 215 rfl 0 130 i0 (.agg #[.int .i64 0,.int .i64 0,.int .i64 0,.int .i64 0,.string ⟨#[]⟩,.bool false]) 6 56 underlying215 hi B C D rfl (by decide) _ _ (qa4 L) rfl k ⟨i,0,none⟩ 1 1 (qah v) rfl rfl F.out r (by decide) (by simp only[maxLen];omega) (by omega) (by omega) _ rfl ?_;intro g b d m o q P;have z:Hid (qhn w (.slice (some ⟨O,0,none⟩) n cap) (L++[v]) g b d):=G.out g b d m o q;clear m o q)
  all_goals
   go_ret;exact⟨g,b,rfl,z.out⟩
theorem qs1 {g n cap:Nat} (v:Ver) (b:Nat) (w:World) (q:w.ownsRow 0 130 6 (.slice (some ⟨g,0,none⟩) n cap) n (qa4 L)) (r:L.length=n) (Z:n<=1000) (hp:p<n) (hroom:n+1<=cap) (k:w.heap[b]?=some (.cells (qah v).toArray 130 (0,0))) (D:b≠g):
 Calls prog 286 #[.slice (some ⟨g,0,none⟩) n cap,.int .i64 p,.slice (some ⟨b,0,none⟩) 1 1] w λe w'=>
  ∃g' E,e=.returned (.slice (some ⟨g',0,none⟩) (n+1) E)/\qhn w (.slice (some ⟨g,0,none⟩) n cap) (qsw L p v) g' E w':=by
 obtain⟨g1,cap1,cur,F,N,l,hnc,G,O,P⟩:=q.2.resolve_left (λh=>by simp at h);simp only[Value.slice.injEq,Option.some.injEq,Addr.mk.injEq,and_true,true_and]at F;obtain⟨rfl,rfl⟩:=F
 have hc63:cap<=9223372036854775807:=by simp only[maxLen]at G;omega
 have s:(qa4 (L.drop p)).length=(n-p)*6:=by rw[qdg,List.length_drop,r]
 have y:(qa4 (L.take p)).length=p*6:=by rw[qdg,List.length_take];omega
 have z:∀j u,(qa4 L)[j]?=some u->w.cell? ⟨g,j,none⟩=some u:=λj u m=>by have:=q.cells (g:=g) rfl j u m;rwa [qc7]at this
 have o:∀j,j<cap*6->(w.cell? ⟨g,j,none⟩).isSome=true:=λj a=>by rw[cell_of_row w g j cur _ (0,0) l,Array.getElem?_eq_getElem (by omega)];rfl
 have B:∀j,w.frozen? ⟨g,j,none⟩=false:=λj=>frozen_of_row w g j cur _ l
 have H:∀j u,(qah v)[j]?=some u->w.cell? ⟨b,j,none⟩=some u:=λj u m=>by
  rw[cell_of_row w b j _ 130 (0,0) k];simpa using m
 have I:∀u∈qah v,u.oneCell'=true:=λu m=>qic [v] u (by rw[qjd];exact m)
 have Q:∀lb cb,(callFunc 290 #[.slice (some ⟨b,0,none⟩) 1 1,.slice (some ⟨g,(p+1)*6,none⟩) lb cb]).run prog w=.ok (.value (.bool false)) w:=λlb cb=>by
  rw[run_callFunc_extern func290 (by kernel_rfl) (by kernel_rfl) (by kernel_rfl) (e:=Extern.SlicesOverlaps.overlaps #[215,215] #[4]) (by kernel_rfl),
   Lib.run_overlaps_apart w 215 4 130 underlying215 6 Tryz.sizeOf130 ⟨b,0,none⟩ ⟨g,(p+1)*6,none⟩ 1 1 lb cb D 130 130 6 cur.size (by simp[World.shape?,k,qah]) (by simp[World.shape?,l]) (by omega) (by simp[World.frozen?,k]) (by simp[World.frozen?,k])]
  rfl
 have J:∀c d C,(Builtin.copy_ #[215,215] c #[.slice (some ⟨g,(p+1)*6,none⟩) (n-p) d,.slice (some ⟨g,p*6,none⟩) (n+1-p) C]).run prog w.drew=.ok (goInt (n-p:Nat)) (w.drew.setCells g ((p+1)*6) (qa4 (L.drop p))):=λc d C=>
  qjx w.drew _ _ c 130 6 g ((p+1)*6) (n-p) d ⟨g,p*6,none⟩ (n+1-p) C (n-p) (qa4 (L.drop p)) underlying215 qsh (by simp only[Nat.min_def];split<;>omega) s
   (λj u a=>by rw[Addr.add_lit];exact z (p*6+j) u (by rw[<-qmm,List.getElem?_drop]at a;exact a))
   (λj a=>o _ (by omega)) (λj _=>B _) (qic _)
 obtain⟨W1,i⟩:∃W1,W1=w.drew.setCells g ((p+1)*6) (qa4 (L.drop p)):=⟨_,rfl⟩
 have K:∀(W:World),(∀x,W.cell? x=W1.cell? x)->(∀x,W.frozen? x=W1.frozen? x)->∀c d,(Builtin.copy_ #[215,215] c #[.slice (some ⟨g,p*6,none⟩) (n+1-p) d,.slice (some ⟨b,0,none⟩) 1 1]).run prog W=.ok (goInt 1) (W.setCells g (p*6) (qah v)):=λW M R c d=>
  qjx W _ _ c 130 6 g (p*6) (n+1-p) d ⟨b,0,none⟩ 1 1 1 (qah v) underlying215 qsh (by simp only[Nat.min_def];split<;>omega) rfl
   (λj u a=>by
        rw[qc7,M,i,World.cell?_setCells_out g _ _ _ _ (λh _=>absurd h D)]
        exact H j u a)
   (λj a=>by
        rw[M,i]
        exact qjt g (qa4 (L.drop p)) ((p+1)*6) w.drew (λt ht=>o ((p+1)*6+t) (by omega)) (p*6+j) (o (p*6+j) (by simp[qah]at a;omega)))
   (λj a=>by rw[R,i,World.frozen?_setCells];exact B _) I
 have S:Hid (qhn w (.slice (some ⟨g,0,none⟩) n cap) (qsw L p v) g cap (W1.setCells g (p*6) (qah v))):=by
  obtain⟨c1,U,q2⟩:=qct g (qa4 (L.drop p)) ((p+1)*6) w.drew (cur:=cur) (T:=130) l;obtain⟨c2,V,q4⟩:=qct g (qah v) (p*6) (w.drew.setCells g ((p+1)*6) (qa4 (L.drop p))) U;rw[i];refine⟨qg4 (Nat.zero_le _) V G (by omega) (by rw[qik v (by omega)];omega) (qdg _) ?_,?_,.inl rfl⟩
  ·rw[quk];have:=qvd (w:=w.drew) (g:=g) (qa4 (L.take p)) (qah v) (qa4 (L.drop p)) (λj u a=>z j u (by rw[<-qj8,List.getElem?_take]at a;split at a;exact a;cases a)) (λj a=>o j (by rw[y,s,qcz]at a;omega));rw[y,qcz,show p*6+6=(p+1)*6 by omega]at this;exact this
  ·have X:qdw g w w.drew:=qdw.ofBelow (Below.refl _ _).drew;exact(X.trans (qbz g _ _ _) (.inl rfl)).trans (qbz g _ _ _) (.inl rfl)
 rw[<-i]at J;have Y:=K W1 (λ_=>rfl) (λ_=>rfl);clear i K
 have hw1:IntKind.i64.wrap ((p:Int)+1)=(p:Int)+1:=by rw[IntKind.wrap_i64];omega
 have hb1:(0:Int)<=(p:Int)+1:=by omega
 have hin:p<=n:=by omega
 have htn:((p:Int)+1).toNat=p+1:=by omega
 have hb2:¬(cap=p+1):=by omega
 have hb3:(p:Int)<=(n:Int)+1:=by omega
 have hb4:¬(cap=p):=by omega
 have hz2:¬((p:Int)=(n:Int)):=by omega
 have EL:Hid _:=r;clear s y z o B H I P q O N l k r;go_enter func286,ntmps286
 go_wp2_with (simp only[Q])
 go_region_law (refine ql2 rfl _ _ 215 215 rfl _ _ (by simp[Act.eval,Act.put]) (by simp[Act.eval,Act.put]) (J _ _ _) ?_)
 go_wp2_with (at_builtin;refine qjf _ rfl _ _ 215 215 rfl _ _ rfl rfl (Y _ _) ?_)
 go_ret;exact⟨g,cap,rfl,S.out⟩
end
section
open Go.Value Go.IntKind Go.RowKit
def Sorted (L:List Ver):Prop:=L.Pairwise λa b=>qao a b=true
variable {L:List Ver} {i j:Nat}
theorem Sorted.at (h:Sorted L) (b:i<j) (a:j<L.length):qao (qb4 L i) (qb4 L j)=true:=by
 rw[qf7 a,qf7 (by omega)];exact List.pairwise_iff_getElem.1 h i j (by omega) a b
theorem Sorted.mono (h:Sorted L) {t:Ver} (b:i<=j) (a:j<L.length) (hb:qao (qb4 L j) t=true):qao (qb4 L i) t=true:=by
 rcases Nat.lt_or_ge i j with g|g
 ·have:=h.at g a;rw[qc0]at this hb ⊢;omega
 ·obtain rfl:i=j:=by omega
  exact hb
def q9j (L:List Ver) (t:Ver) (p:Nat):Prop:=p<=L.length/\(∀j,j<p->qao (qb4 L j) t=true)/\(∀j,p<=j->j<L.length->qao (qb4 L j) t=false)
def qhu (L:List Ver) (t:Ver) (p:Nat):Bool:=decide (p<L.length)&&decide (q4x (qb4 L p) t=0)
theorem q1f {a:Option Addr} {cap:Nat} (t:Ver) (w:World) (J:q6e w a cap L) (hs:Sorted L) (Z:L.length<=1000):
 Calls Tryz.prog 284 #[.slice a L.length cap,.agg #[int i64 t.wall,int i64 t.count,int i64 t.site,int i64 t.seq,.string t.data,.bool t.gone],.func (.func 285) #[] #[]] w λe w'=>
  ∃p:Nat,e=.returned (.tuple #[int i64 p,.bool (qhu L t p)])/\q9j L t p/\Below w.heap.size w w':=by
 have aa:=Later.one;have z:=qag.new (w:=w) (T:=130) (qah t) rfl;have hb:=boxed (Below.refl _ w) (.cells (qah t).toArray 130);have F:Hid (Sorted L):=hs;clear hs;go_enter Tryz.func284,Tryz.ntmps284
 go_wp2_with fail
 change qag (w.alloc (.cells #[int i64 t.wall,int i64 t.count,int i64 t.site,int i64 t.seq,.string t.data,.bool t.gone] 130)) w.heap.size (qah t)at z;change Below w.heap.size w (w.alloc (.cells #[int i64 t.wall,int i64 t.count,int i64 t.site,int i64 t.seq,.string t.data,.bool t.gone] 130))at hb
 go_loopw [9,10] (λK N wr=>∃lo hi:Nat,K=int i64 lo/\N=int i64 hi/\lo<=hi/\hi<=L.length/\Hid ((∀j,j<lo->qao (qb4 L j) t=true)/\(∀j,hi<=j->j<L.length->qao (qb4 L j) t=false))/\qag wr w.heap.size (qah t)/\Below w.heap.size w wr) (λi j _=>(intOf j).toNat-(intOf i).toNat)
 case atStart=>exact⟨0,L.length,rfl,rfl,by omega,by omega,(⟨λj O=>by omega,λj P q=>by omega⟩:(∀j,j<0->qao (qb4 L j) t=true)/\(∀j,L.length<=j->j<L.length->qao (qb4 L j) t=false)),z,hb⟩
 case round=>
  clear z hb;obtain⟨lo,hi,rfl,rfl,P,q,I,R,hb⟩:=hrel;have s:=J.later hb;have d0:=Later.cell (R.cell 0 _ rfl);have d1:=Later.cell (R.cell 1 _ rfl);have d2:=Later.cell (R.cell 2 _ rfl);have d3:=Later.cell (R.cell 3 _ rfl);have d4:=Later.cell (R.cell 4 _ rfl);have d5:=Later.cell (R.cell 5 _ rfl);by_cases hlt:lo<hi
  ·obtain⟨b,Q,rfl,g⟩:∃b,b<wr.heap.size/\a=some ⟨b,0,none⟩/\∀i r u,i<L.length->(qah (qb4 L i))[r]?=some u->wr.cell? ⟨b,i*6+r,none⟩=some u:=by
        rcases s.held with k|k
        ·rw[k]at q;simp at q;omega
        ·exact k
   obtain⟨m,G⟩:∃m,(lo+hi)/2=m:=⟨_,rfl⟩
   have n:m<L.length:=by omega
   obtain⟨y,d⟩:∃y,qb4 L m=y:=⟨_,rfl⟩;have x0:wr.cell? ⟨b,m*6,none⟩=some (int i64 y.wall):=g m 0 _ n (by rw[d];rfl);have x1:wr.cell? ⟨b,m*6+1,none⟩=some (int i64 y.count):=g m 1 _ n (by rw[d];rfl);have x2:wr.cell? ⟨b,m*6+2,none⟩=some (int i64 y.site):=g m 2 _ n (by rw[d];rfl);have x3:wr.cell? ⟨b,m*6+3,none⟩=some (int i64 y.seq):=g m 3 _ n (by rw[d];rfl);have v:wr.cell? ⟨b,m*6+4,none⟩=some (.string y.data):=g m 4 _ n (by rw[d];rfl);have x:wr.cell? ⟨b,m*6+5,none⟩=some (.bool y.gone):=g m 5 _ n (by rw[d];rfl);replace x0:=Later.cell x0;replace x1:=Later.cell x1;replace x2:=Later.cell x2;replace x3:=Later.cell x3;replace v:=Later.cell v;replace x:=Later.cell x;have M:Hid ((lo+hi)/2=m):=G;have Y:Hid (qb4 L m=y):=d
   have e1:((lo:Int)+(hi:Int))/2=(m:Int):=by omega
   obtain⟨c,o⟩:∃c,q4x y t=c:=⟨_,rfl⟩;have C:Hid (q4x y t=c):=o;clear d G o g s;by_cases S:c<0
   ·go_wp2_with fail
    refine qaa (by kernel_rfl) (by kernel_rfl) ?_
    repeat (go_big_quiet_step ((go_at_call 285;with_reducible exact qac (qsf C.out _))))
    refine wpQuiet_nil ?_;rintro B ⟨⟨_,l⟩,rfl⟩
    go_wp2_with fail
    go_roundw
    case rel=>
     have D:qao y t=true:=qxp.1 (by rw[C.out];exact S);exact⟨m+1,hi,by go_num,rfl,by have:=M.out;omega,q,(⟨λj O=>F.out.mono (by omega) n (by rw[Y.out];exact D),I.out.2⟩:_/\_),R.later l,qab hb l⟩
    case measure=>simp[intOf];have:=M.out;omega
   ·go_wp2_with fail
    refine qaa (by kernel_rfl) (by kernel_rfl) ?_
    repeat (go_big_quiet_step ((go_at_call 285;with_reducible exact qac (qsf C.out _))))
    refine wpQuiet_nil ?_;rintro B ⟨⟨_,l⟩,rfl⟩
    go_wp2_with fail
    go_roundw
    case rel=>
     have D:qao y t=false:=by
      cases hq:qao y t
      ·rfl
      ·exfalso
       have:=qxp.2 hq;rw[C.out]at this;omega
     exact⟨lo,m,rfl,rfl,by have:=M.out;omega,by omega,(⟨I.out.1,λj U V=>by
      cases hq:qao (qb4 L j) t
      ·rfl
      ·have:=F.out.mono U V hq;rw[Y.out,D]at this
       cases this⟩:_/\_),R.later l,qab hb l⟩
    case measure=>simp[intOf];have:=M.out;omega
  ·obtain rfl:hi=lo:=by omega
   have H:Hid (q9j L t hi):=⟨q,I.out.1,I.out.2⟩
   have hnl:¬(hi:Int)<(hi:Int):=by omega
   by_cases h:hi<L.length
   ·obtain⟨b,Q,rfl,g⟩:∃b,b<wr.heap.size/\a=some ⟨b,0,none⟩/\∀i r u,i<L.length->(qah (qb4 L i))[r]?=some u->wr.cell? ⟨b,i*6+r,none⟩=some u:=by
     rcases s.held with k|k
     ·rw[k]at h;simp at h
     ·exact k
    obtain⟨y,d⟩:∃y,qb4 L hi=y:=⟨_,rfl⟩;have x0:wr.cell? ⟨b,hi*6,none⟩=some (int i64 y.wall):=g hi 0 _ h (by rw[d];rfl);have x1:wr.cell? ⟨b,hi*6+1,none⟩=some (int i64 y.count):=g hi 1 _ h (by rw[d];rfl);have x2:wr.cell? ⟨b,hi*6+2,none⟩=some (int i64 y.site):=g hi 2 _ h (by rw[d];rfl);have x3:wr.cell? ⟨b,hi*6+3,none⟩=some (int i64 y.seq):=g hi 3 _ h (by rw[d];rfl);have v:wr.cell? ⟨b,hi*6+4,none⟩=some (.string y.data):=g hi 4 _ h (by rw[d];rfl);have x:wr.cell? ⟨b,hi*6+5,none⟩=some (.bool y.gone):=g hi 5 _ h (by rw[d];rfl);replace x0:=Later.cell x0;replace x1:=Later.cell x1;replace x2:=Later.cell x2;replace x3:=Later.cell x3;replace v:=Later.cell v;replace x:=Later.cell x;obtain⟨c,o⟩:∃c,q4x y t=c:=⟨_,rfl⟩;have C:Hid (q4x y t=c):=o
    have W:(hi:Int)<(L.length:Int):=by omega
    have X:decide ((hi:Int)<(L.length:Int))=true:=decide_eq_true W
    have E:Hid (qhu L t hi=(c==0)):=by
     show qhu L t hi=_;unfold qhu;rw[d,o,decide_eq_true h,Bool.true_and]
     by_cases k:c=0<;>simp[k]
    clear d o g s
    go_wp2_with fail
    refine qaa (by kernel_rfl) (by kernel_rfl) ?_
    repeat (go_big_quiet_step ((go_at_call 285;with_reducible exact qac (qsf C.out _))))
    refine wpQuiet_nil ?_;rintro B ⟨⟨_,l⟩,rfl⟩
    go_wp2_with fail
    go_ret2;exact⟨hi,by rw[E.out];rfl,H.out,qab hb l⟩
   ·have X:decide ((hi:Int)<(L.length:Int))=false:=decide_eq_false (by omega)
    have E:Hid (qhu L t hi=false):=by
     show qhu L t hi=_;unfold qhu;rw[decide_eq_false h,Bool.false_and]
    clear s
    go_wp2_with fail
    refine qaa (by kernel_rfl) (by kernel_rfl) ?_
    repeat (go_big_quiet_step (fail))
    refine wpQuiet_nil ?_;rintro B ⟨⟨_,l⟩,rfl⟩
    go_wp2_with fail
    go_ret2;exact⟨hi,by rw[E.out];rfl,H.out,qab hb l⟩
end
section
open Tryz Go.Value Go.IntKind Go.RowKit Go.Shelf
attribute [local go_sem] Oper.semAt_some
abbrev SV:={v:Ver//0<=v.site/\v.site<=3}
def qeo {α:Type} (L:List α) (k:Nat):List α:=L.reverse.take k
variable {α:Type} {L:List α} {k:Nat}
theorem qtv (h:k<L.length):qeo L (k+1)=qeo L k++[L[L.length-1-k]]:=by
 unfold qeo;rw[List.take_succ_eq_append_getElem (by simpa using h),List.getElem_reverse]
theorem qp2 (h:k<=L.length):(qeo L k).length=k:=by
 unfold qeo;rw[List.length_take,List.length_reverse];omega
def qvn (n₀:Nat) (W:World) (sv:Value) (L:List Ver):Prop:=
 ∃a cap,sv=.slice a L.length cap/\L.length<=cap/\cap<=9223372036854775807/\(L=[]\/∃b,b<n₀/\a=some ⟨b,0,none⟩/\∀i r u,i<L.length->(qah (qb4 L i))[r]?=some u->W.cell? ⟨b,i*6+r,none⟩=some u)
theorem qy4 (F:Fence) (n:Nat) (T:F.fn 288) (U:F.round=none) (hn:1<=n) (l j s:Nat) (sv:Value) (L:List SV) (hl:L.length<=1000) (J G:List SV->World->Prop)
 (H:j<s) (I:∀d x W,J d W->d.length<L.length->YieldAt F (n-1) prog l #[.agg #[int i64 x.1.wall,int i64 x.1.count,int i64 x.1.site,int i64 x.1.seq,.string x.1.data,.bool x.1.gone]] W λe W'=>
  (e=.returned (.bool true)/\J (d++[x]) W'/\Below s W W')\/(e=.returned (.bool false)/\G (d++[x]) W'))
 (W:World) (K:W.cell? ⟨j,0,none⟩=some sv) (V:qvn s W sv (L.map (·.1))) (X:J [] W):
 CallsIn F n prog 288 #[.func (.yield l) #[] #[],.pointer (some ⟨j,0,none⟩)] W λe W'=>(∃v,e=.returned v)/\
  ((∃M,M=L.reverse/\J M W')\/(∃d,(∃k,k<L.length/\d=qeo L (k+1))/\G d W')):=by
 obtain⟨a,cap,rfl,Y,hc2,N⟩:=V;rw[List.length_map]at K Y N;have HB:Hid _:=H;refine callsIn_of_wp func288 rfl T ?_ U;simp only[ntmps288,List.size_toArray,List.length_cons,List.length_nil,Nat.reduceAdd,Nat.reduceSub,Array.replicate_succ,Array.replicate_zero,List.push_toArray,List.append_toArray,List.nil_append,List.cons_append]
 gi_wp2
 gi_loopw [3] (λi wr=>∃(k:Nat) (z:Int),k<=L.length/\z=(L.length:Int)-1-k/\i=int i64 z/\J (qeo L k) wr/\Below s W wr) (λi _=>(intOf i+1).toNat)
 case atStart=>exact⟨0,(L.length:Int)-1,Nat.zero_le _,by omega,by go_num,X,Below.refl _ _⟩
 case round=>
  obtain⟨k,z,Z,t,rfl,C,D⟩:=hrel;have HZ:Hid _:=t;have hB2:wr.cell? ⟨j,0,none⟩=some (.slice a L.length cap):=(D.cell (p:=⟨j,0,none⟩) H).trans K;by_cases o:k<L.length
  ·obtain⟨b,hb,rfl,O⟩:=N.resolve_left (λh=>by rw[List.map_eq_nil_iff]at h;rw[h]at o;simp at o);obtain⟨m,P⟩:∃m,L.length-1-k=m:=⟨_,rfl⟩
   have Q:m<L.length:=by omega
   have hzm:z.toNat=m:=by omega
   have hz0:0<=z:=by omega
   have hz1:z<(L.length:Int):=by omega
   obtain⟨⟨y,R⟩,E⟩:∃y,L[m]=y:=⟨_,rfl⟩
   have g:qb4 (L.map (·.1)) m=y:=by rw[qf7 (by simpa using Q),List.getElem_map,E]
   have q:=λr u h=>(D.cell (p:=⟨b,m*6+r,none⟩) hb).trans (O m r u Q h);have x0:wr.cell? ⟨b,m*6,none⟩=some (int i64 y.wall):=q 0 _ (by rw[g];rfl);have x1:wr.cell? ⟨b,m*6+1,none⟩=some (int i64 y.count):=q 1 _ (by rw[g];rfl);have x2:wr.cell? ⟨b,m*6+2,none⟩=some (int i64 y.site):=q 2 _ (by rw[g];rfl);have x3:wr.cell? ⟨b,m*6+3,none⟩=some (int i64 y.seq):=q 3 _ (by rw[g];rfl);have x4:wr.cell? ⟨b,m*6+4,none⟩=some (.string y.data):=q 4 _ (by rw[g];rfl);have x5:wr.cell? ⟨b,m*6+5,none⟩=some (.bool y.gone):=q 5 _ (by rw[g];rfl)
   have S:Hid (qeo L (k+1)=qeo L k++[⟨y,R⟩]):=by
        show qeo L (k+1)=_;rw[qtv o,<-E];simp only[P]
   obtain⟨fn,tmps,assign,body,hyy,hR⟩:=I _ ⟨y,R⟩ wr C (by rw[qp2 Z];exact o);clear q O t g P I E
   dsimp only at hyy
   gi_wp2
   refine hR.mono ?_;rintro e W3 (⟨rfl,hJ3,hk3⟩|⟨rfl,hJx3⟩)
   ·gi_wp2
    go_roundw
    case rel=>exact⟨k+1,z-1,by omega,by have:=HZ.out;omega,by go_num,by rw[S.out];exact hJ3,D.trans hk3⟩
    case measure=>simp[intOf];omega
   ·gi_wp2
    refine bodyPost_ret (results_none rfl _ _ _) rfl ?_;exact⟨⟨_,rfl⟩,.inr ⟨_,⟨k,o,rfl⟩,by rw[S.out];exact hJx3⟩⟩
  ·have hzn:¬0<=z:=by omega
   clear t
   have ALL:Hid (qeo L k=L.reverse):=by show qeo L k=L.reverse;unfold qeo;rw[List.take_of_length_le (by rw[List.length_reverse];omega)]
   gi_wp2
   go_end0;rw[ALL.out]at C;exact⟨⟨_,rfl⟩,.inl C⟩
theorem qru (F:Fence) (n:Nat) (d:F.fn 281) (g:F.round=none) (a:Option Addr) (len cap:Nat) (w:World):
 CallsIn F n prog 281 #[.slice a len cap] w λe w'=>e=.returned (.func (.func 288) #[] #[.pointer (some ⟨w.heap.size,0,none⟩)])/\w'=w.alloc (.cells #[.slice a len cap] 215):=by
 refine callsIn_of_wp func281 rfl d ?_ g;simp only[ntmps281,List.size_toArray,List.length_cons,List.length_nil,Nat.reduceAdd,Nat.reduceSub,Array.replicate_succ,Array.replicate_zero,List.push_toArray,List.append_toArray,List.nil_append,List.cons_append]
 gi_wp2
 go_ret;exact⟨rfl,rfl⟩
theorem qug (F:Fence) (n:Nat) (m:F.fn 288) (o:F.round=none) (q:1<=n) (d g:Nat) (sv:Value) (L:List SV) (s:L.length<=1000) (w:World) (h:d<g) (t:g<=w.heap.size)
 (v:w.cell? ⟨d,0,none⟩=some sv) (y:qvn g w sv (L.map (·.1))):
 SeqStopsK F n prog 288 #[.pointer (some ⟨d,0,none⟩)] (λx:SV=>#[Value.agg #[int i64 x.1.wall,int i64 x.1.count,int i64 x.1.site,int i64 x.1.seq,.string x.1.data,.bool x.1.gone]]) (Below g) (λz=>z=L.reverse) (λC=>∃k,k<L.length/\C=qeo L (k+1)) L.length w:=λl J D W E _ _ G H=>by
 have hb:=E.mono t;have I:=(hb.cell (p:=⟨d,0,none⟩) h).trans v;obtain⟨a,cap,rfl,K,M,N⟩:=y;exact qy4 F n m o q l d g _ L s J D h G W I ⟨a,cap,rfl,K,M,N.imp_right λ⟨b,j,e,O⟩=>⟨b,j,e,λi r u hi P=>(hb.cell (p:=⟨b,i*6+r,none⟩) j).trans (O i r u hi P)⟩⟩ H
def qgv (a0 a1 a2 a3:Int) (L:List Ver):Option Ver:=L.reverse.find? (qke a0 a1 a2 a3)
variable {w:World} {b c:Nat}
theorem qkt {tmps:Array Value} {v:Ver} {sv:Bool} (h:qag w b (qah v)) (a:w.cell? ⟨c,0,none⟩=some (.bool sv)) (d:tmps[4]?=some (.pointer (some ⟨b,0,none⟩))) (e:tmps[5]?=some (.pointer (some ⟨c,0,none⟩))):
 (results f260 tmps).run prog w=.ok (.tuple #[.agg (qah v).toArray,.bool sv]) w:=by
 obtain⟨z0,g,z2,z3,z4,z5⟩:=h.c6;simp[results,results260,go_sem,a,d,e,z0,g,z2,z3,z4,z5,qah]
variable {vs:List Value}
theorem qag.abides {X Y:World} {row:Option Nat} (h:qag X b vs) (a:X.grownBy Y row) (d:∀r,row=some r->∃o:Obj,X.heap[r]?=some o/\o.isCells=false) (f:0<vs.length):qag Y b vs:=by
 refine h.kept (a.block b h.lt λe=>?_) a.size;obtain⟨o,g,i⟩:=d b e.symm;have:=h.cell 0 vs[0] (List.getElem?_eq_getElem f);unfold World.cell? at this;rw[g]at this
 cases o<;>simp_all [Obj.isCells]
theorem qag.verSet {y:Ver} (h:qag w b (qah y)) (x:Ver):qag ((((((w.setCell ⟨b,0,none⟩ (int i64 x.wall)).setCell ⟨b,1,none⟩ (int i64 x.count)).setCell ⟨b,2,none⟩ (int i64 x.site)).setCell ⟨b,3,none⟩ (int i64 x.seq)).setCell ⟨b,4,none⟩ (.string x.data)).setCell ⟨b,5,none⟩ (.bool x.gone)) b (qah x):=
 (((((h.set 0 _ (by simp[qah])).set 1 _ (by simp[qah])).set 2 _ (by simp[qah])).set 3 _ (by simp[qah])).set 4 _ (by simp[qah])).set 5 _ (by simp[qah])
abbrev q34 (w:World) (b:Nat) (x:Ver):World:=(((((w.setCell ⟨b,0,none⟩ (int i64 x.wall)).setCell ⟨b,1,none⟩ (int i64 x.count)).setCell ⟨b,2,none⟩ (int i64 x.site)).setCell ⟨b,3,none⟩ (int i64 x.seq)).setCell ⟨b,4,none⟩ (.string x.data)).setCell ⟨b,5,none⟩ (.bool x.gone)
theorem qag.verFar (h:qag w b vs) (a:c≠b) (x:Ver):qag (q34 w c x) b vs:=
 (((((h.far ⟨c,0,none⟩ _ a).far ⟨c,1,none⟩ _ a).far ⟨c,2,none⟩ _ a).far ⟨c,3,none⟩ _ a).far ⟨c,4,none⟩ _ a).far ⟨c,5,none⟩ _ a
theorem qng (W:World) (b:Nat) (x:Ver):KeepsOthers W (q34 W b x):=
 (((((KeepsOthers.setCell _ _ _).trans (KeepsOthers.setCell _ _ _)).trans (KeepsOthers.setCell _ _ _)).trans (KeepsOthers.setCell _ _ _)).trans (KeepsOthers.setCell _ _ _)).trans (KeepsOthers.setCell _ _ _)
variable {B:Nat} {W:World}
theorem qa2 (h:Below B w W) (a:B<=b) (x:Ver):Below B w (q34 W b x):=
 (((((h.setCell (p:=⟨b,0,none⟩) a _).setCell (p:=⟨b,1,none⟩) a _).setCell (p:=⟨b,2,none⟩) a _).setCell (p:=⟨b,3,none⟩) a _).setCell (p:=⟨b,4,none⟩) a _).setCell (p:=⟨b,5,none⟩) a _
def qw4 (a0 a1 a2 a3:Int) (pre:List SV) (x:SV):Prop:=∃p,pre=p++[x]/\(∀y∈p,qke a0 a1 a2 a3 y.1=false)/\qke a0 a1 a2 a3 x.1=true
variable {a0 a1 a2 a3:Int} {LS:List SV}
theorem qw4.find {x:SV} (h:qw4 a0 a1 a2 a3 (qeo LS k) x):qgv a0 a1 a2 a3 (LS.map (·.1))=some x.1:=by
 obtain⟨p,e,a,d⟩:=h
 have f:LS.reverse=(p++[x])++LS.reverse.drop k:=by rw[<-e];exact(List.take_append_drop k _).symm
 unfold qgv;rw[<-List.map_reverse,f];simp only[List.map_append,List.find?_append,List.append_assoc]
 have g:(p.map (·.1)).find? (qke a0 a1 a2 a3)=none:=by
  rw[List.find?_eq_none];intro v i;obtain⟨y,j,rfl⟩:=List.mem_map.1 i;rw[a y j]
  decide
 rw[g];simp[d]
theorem q5f (h:∀x∈LS.reverse,qke a0 a1 a2 a3 x.1=false):qgv a0 a1 a2 a3 (LS.map (·.1))=none:=by
 unfold qgv;rw[List.find?_eq_none];intro v a;rw[List.mem_reverse]at a;obtain⟨y,d,rfl⟩:=List.mem_map.1 a;rw[h y (by simpa using d)]
 decide
theorem qi4 {W':World} (h:Below W.heap.size W W'):KeepsFrom B W W':=⟨h.size,λk _ _ a _=>(h.block k (Array.getElem?_eq_some_iff.1 a).1).trans a⟩
theorem qyc {a:Option Addr} {cap:Nat} {L:List Ver} (a0 a1 a2 a3:Int) (w:World) (J:q6e w a cap L) (hok:∀v∈L,0<=v.site/\v.site<=3) (hl:L.length<=1000):
 Calls prog 260 #[.slice a L.length cap,.agg #[int i64 a0,int i64 a1,int i64 a2,int i64 a3]] w λe w'=>
  e=.returned (.tuple #[.agg (qex (qgv a0 a1 a2 a3 L)).toArray,.bool (qkm (qgv a0 a1 a2 a3 L))])/\Below w.heap.size w w':=by
 refine(callsIn_wide (n:=6)).1 ?_;obtain⟨LS,M⟩:∃LS:List SV,LS.map (·.1)=L:=⟨L.attachWith _ hok,by simp⟩
 have hLl:LS.length=L.length:=by rw[<-M,List.length_map]
 have RA:=(((qa9.new w 77 a0 a1 a2 a3).boxed (.cells #[int i64 0,int i64 0,int i64 0,int i64 0,.string ⟨#[]⟩,.bool false] 130)).boxed (.cells #[.bool false] 4)).boxed (.cells #[.slice a L.length cap] 215);have RR:=((qag.new (w:=w.alloc (.cells #[int i64 a0,int i64 a1,int i64 a2,int i64 a3] 77)) (T:=130) (n:=w.heap.size+1) (qah qc6) (by simp)).boxed (.cells #[.bool false] 4)).boxed (.cells #[.slice a L.length cap] 215);have RF:=(qag.new (w:=(w.alloc (.cells #[int i64 a0,int i64 a1,int i64 a2,int i64 a3] 77)).alloc (.cells (qah qc6).toArray 130)) (T:=4) (n:=w.heap.size+1+1) [.bool false] (by simp)).boxed (.cells #[.slice a L.length cap] 215);have RL:=qag.new (w:=((w.alloc (.cells #[int i64 a0,int i64 a1,int i64 a2,int i64 a3] 77)).alloc (.cells (qah qc6).toArray 130)).alloc (.cells #[.bool false] 4)) (T:=215) (n:=w.heap.size+1+1+1) [.slice a L.length cap] (by simp);have hb:=boxed (boxed (boxed (boxed (Below.refl _ w) (.cells #[int i64 a0,int i64 a1,int i64 a2,int i64 a3] 77)) (.cells (qah qc6).toArray 130)) (.cells #[.bool false] 4)) (.cells #[.slice a L.length cap] 215);refine callsIn_of_wp_marks func260 rfl trivial ?_ rfl;simp only[ntmps260,List.size_toArray,List.length_cons,List.length_nil,Nat.reduceAdd,Nat.reduceSub,Array.replicate_succ,Array.replicate_zero,List.push_toArray,List.append_toArray,List.nil_append,List.cons_append]
 gi_wp2_with (refine⟨trivial,?_⟩;gi_at_call 281;refine(qru Fence.wide _ trivial rfl _ _ _ _).mono ?_;rintro e w' ⟨rfl,rfl⟩)
 have hsz:((((w.alloc (.cells #[int i64 a0,int i64 a1,int i64 a2,int i64 a3] 77)).alloc (.cells (qah qc6).toArray 130)).alloc (.cells #[.bool false] 4)).alloc (.cells #[.slice a L.length cap] 215)).heap.size=w.heap.size+4:=by simp
 obtain⟨j,z⟩:∃j,(((w.alloc (.cells #[int i64 a0,int i64 a1,int i64 a2,int i64 a3] 77)).alloc (.cells #[int i64 0,int i64 0,int i64 0,int i64 0,.string ⟨#[]⟩,.bool false] 130)).alloc (.cells #[.bool false] 4)).alloc (.cells #[.slice a L.length cap] 215)=j:=⟨_,rfl⟩
 have RA0:qag j w.heap.size [int i64 a0,int i64 a1,int i64 a2,int i64 a3]:=by
  rw[<-z];exact(((qag.new (w:=w) (T:=77) [int i64 a0,int i64 a1,int i64 a2,int i64 a3] rfl).boxed _).boxed _).boxed _
 have RR0:qag j (w.heap.size+1) (qah qc6):=by rw[<-z];exact RR
 have RF0:qag j (w.heap.size+1+1) [.bool false]:=by rw[<-z];exact RF
 have RL0:qag j (w.heap.size+1+1+1) [.slice a L.length cap]:=by rw[<-z];exact RL
 have S:Below w.heap.size w j:=by rw[<-z];exact hb
 have hsz0:j.heap.size=w.heap.size+4:=by rw[<-z];exact hsz
 rw[z];clear RA RR RF RL hb hsz z
 have N:qvn (w.heap.size+4) j (.slice a L.length cap) (LS.map (·.1)):=by
  rw[M];exact⟨a,cap,rfl,J.len,J.cap,J.held.imp_right λ⟨b,hb1,e,hcc⟩=>⟨b,by omega,e,λi r u hi hu=>cell_later S (hcc i r u hi hu)⟩⟩
 have HLS:Hid _:=M;have HLL:Hid _:=hLl;clear M hLl J
 refine wpIn_rangeFunc_ownH rfl (by decide) (gf:=288) (lb:=#[.pointer (some ⟨w.heap.size+1+1+1,0,none⟩)]) rfl trivial (enters_of func288 (by kernel_rfl) rfl)
  (qug Fence.wide 5 trivial rfl (by decide) (w.heap.size+1+1+1) (w.heap.size+4) (.slice a L.length cap) LS (by have:=HLL.out;omega) j (by omega) (by omega) (RL0.cell 0 _ rfl) N) belowK_t (belowK_b (by omega)) (Below.refl _ _) (λ_=>rfl)
  (λE W=>Below j.heap.size j W/\∀x∈E,qke a0 a1 a2 a3 x.1=false)
  (λc E W=>(∃x:SV,c=.ret/\(qag W (w.heap.size+1) (qah x.1)/\qag W (w.heap.size+1+1) [.bool true])/\qw4 a0 a1 a2 a3 E x)/\Below w.heap.size w W)
  (OwnFrom.and (ownFrom_below (Nat.le_refl _) (Nat.le_refl _)) (ownFrom_pure _ _))
  (λc=>OwnFrom.and (Own.from (λs A B row hs O H=>by obtain⟨x,e,⟨U,V⟩,Z⟩:=hs;exact⟨x,e,⟨U.abides O H (by simp[qah]),V.abides O H (by simp)⟩,Z⟩) _) (ownFrom_below (Nat.le_refl _) (by omega)))
  ⟨Below.refl _ _,by simp⟩
  (λx a' W=>∃G,w.heap.size+1+1<G/\qag W G (qah x.1)/\a'={tmps:=#[.slice a L.length cap,.agg #[int i64 a0,int i64 a1,int i64 a2,int i64 a3],undef,.pointer (some ⟨w.heap.size,0,none⟩),.pointer (some ⟨w.heap.size+1,0,none⟩),.pointer (some ⟨w.heap.size+1+1,0,none⟩),.pointer (some ⟨G,0,none⟩),.slice a L.length cap,.func (.func 288) #[] #[.pointer (some ⟨w.heap.size+1+1+1,0,none⟩)],.agg #[int i64 x.1.wall,int i64 x.1.count,int i64 x.1.site,int i64 x.1.seq,.string x.1.data,.bool x.1.gone],undef,undef,undef,undef,undef],defers:=[]})
  (λx a' _ X Y row hs O H=>by obtain⟨G,U,V,Z⟩:=hs;exact⟨G,U,V.abides O (λr e=>(H r e).2) (by simp[qah]),Z⟩)
  ?assign ?body ?done ?stop
 case assign=>
  rintro l E x W K ⟨g,F⟩ C;have s1:=g.size
  gi_wp2
  exact C _ _ ((KeepsOthers.alloc _ _).from _) ((Below.refl _ W).alloc (by omega) _) ⟨boxed g _,F⟩ ⟨W.heap.size,by omega,qag.new (w:=W) (T:=130) (qah x.1) rfl,rfl⟩
 case body=>
  rintro l E ⟨x,P,Q⟩ a' W hl ⟨r,H⟩ ⟨g,F⟩ ⟨G,hBx,m,rfl⟩ hlt;have NN:Hid _:=F;clear F N;simp only at m P Q;have RA1:=RA0.later g;obtain⟨c0,c1,c2,c3⟩:=RA1.c4;obtain⟨x0,x1,x2,x3,x4,x5⟩:=m.c6;have d:=RR0.later g;have o:=RF0.later g;cases hh:qke a0 a1 a2 a3 x
  ·have I:Hid _:=hh;clear hh
   gi_wp2_with (refine⟨trivial,?_⟩;gi_at_call 263;refine(CallsIn.inRound l (callsIn_wide.2 (qx6 I.out P Q _))).mono ?_;rintro e w' ⟨rfl,q⟩)
   exact⟨qi4 q,q.mono (by have:=g.size;omega),qab g q,λy hy=>by
        rcases List.mem_append.1 hy with h|h
        ·exact NN.out y h
        ·obtain rfl:=List.mem_singleton.1 h
         exact I.out⟩
  ·have I:Hid _:=hh;clear hh
   gi_wp2_with (refine⟨trivial,?_⟩;gi_at_call 263;refine(CallsIn.inRound l (callsIn_wide.2 (qx6 I.out P Q _))).mono ?_;rintro e w' ⟨rfl,q⟩;replace m:=m.later q;replace d:=d.later q;replace o:=o.later q;have y0:=m.cell 0 _ rfl;have y1:=m.cell 1 _ rfl;have y2:=m.cell 2 _ rfl;have y3:=m.cell 3 _ rfl;have y4:=m.cell 4 _ rfl;have y5:=m.cell 5 _ rfl;have r0:=d.cell 0 _ rfl;have r1:=d.cell 1 _ rfl;have r2:=d.cell 2 _ rfl;have r3:=d.cell 3 _ rfl;have r4:=d.cell 4 _ rfl;have r5:=d.cell 5 _ rfl;have f0:=o.cell 0 _ rfl;have g0:=d.free 0 (by simp[qah]);have g1:=d.free 1 (by simp[qah]);have g2:=d.free 2 (by simp[qah]);have g3:=d.free 3 (by simp[qah]);have g4:=d.free 4 (by simp[qah]);have g5:=d.free 5 (by simp[qah]);have g6:=o.free 0 (by simp))
   have hB7:Below w.heap.size w w':=qab (qab S g) (q.mono (Nat.le_refl _));refine⟨(qi4 q).trans (((qng w' (w.heap.size+1) x).trans (KeepsOthers.setCell _ ⟨w.heap.size+1+1,0,none⟩ (.bool true))).from _),⟨⟨x,P,Q⟩,rfl,⟨(d.verSet x).far ⟨w.heap.size+1+1,0,none⟩ (.bool true) (by simp),?_⟩,⟨E,rfl,NN.out,I.out⟩⟩,(qa2 hB7 (b:=w.heap.size+1) (by omega) x).setCell (p:=⟨w.heap.size+1+1,0,none⟩) (by simp;omega) _⟩;exact(o.verFar (c:=w.heap.size+1) (by omega) x).set 0 (.bool true) (by simp)
 case done=>
  rintro D ys W hD rfl ⟨g,F⟩ C;have d:=RR0.later g;have o:=RF0.later g;obtain⟨r0,r1,r2,r3,r4,r5⟩:=d.c6;have f0:=o.cell 0 _ rfl;have g0:=d.free 0 (by simp[qah]);have g1:=d.free 1 (by simp[qah]);have g2:=d.free 2 (by simp[qah]);have g3:=d.free 3 (by simp[qah]);have g4:=d.free 4 (by simp[qah]);have g5:=d.free 5 (by simp[qah]);have g6:=o.free 0 (by simp)
  have LN:Hid (qgv a0 a1 a2 a3 L=none):=by show _=_;rw[<-HLS.out];exact q5f F
  have BW:Below w.heap.size w W:=qab S g;clear F N
  gi_wp2
  have R:=((qng W (w.heap.size+1) qc6).trans (KeepsOthers.setCell _ ⟨w.heap.size+1+1,0,none⟩ (.bool false))).same D _ C rfl;refine⟨by simp,.inl ⟨_,_,rfl,run_takeDeferred R,?_⟩⟩;have R2:=((d.verSet qc6).far ⟨w.heap.size+1+1,0,none⟩ (.bool false) (by simp)).abides (grownBy_putObj' _ D (.deferred none)) (λr e=>by cases e;exact⟨_,R,rfl⟩) (by simp[qah]);have R3:=((o.verFar (c:=w.heap.size+1) (by omega) qc6).set 0 (.bool false) (by simp)).abides (grownBy_putObj' _ D (.deferred none)) (λr e=>by cases e;exact⟨_,R,rfl⟩) (by simp);rw[LN.out];exact⟨_,qkt (v:=qc6) R2 (R3.cell 0 _ rfl) rfl rfl,rfl,((qa2 BW (b:=w.heap.size+1) (by omega) qc6).setCell (p:=⟨w.heap.size+1+1,0,none⟩) (by simp;omega) _).trans (belowK_b (w:=w) (Nat.le_refl _) _ D _ _ (by omega) R rfl rfl)⟩
 case stop=>
  rintro D c E W hD ⟨k,hk,rfl⟩ ⟨⟨x,rfl,⟨R1,R2⟩,hf⟩,hB⟩ C
  have LN:Hid (qgv a0 a1 a2 a3 L=some x.1):=by show _=_;rw[<-HLS.out];exact hf.find
  clear hf N
  gi_wp2
  refine⟨by simp,.inl ⟨_,_,rfl,run_takeDeferred C,?_⟩⟩;have R3:=R1.abides (grownBy_putObj' _ D (.deferred none)) (λr e=>by cases e;exact⟨_,C,rfl⟩) (by simp[qah]);have R4:=R2.abides (grownBy_putObj' _ D (.deferred none)) (λr e=>by cases e;exact⟨_,C,rfl⟩) (by simp);rw[LN.out];exact⟨_,qkt (v:=x.1) R3 (R4.cell 0 _ rfl) rfl rfl,rfl,hB.trans (belowK_b (w:=w) (Nat.le_refl _) _ D _ _ (by omega) C rfl rfl)⟩
end
section
open Go.Value Go.IntKind Go.RowKit
theorem jdd (a b:Ver) (w:World):(binOp .neq 130 (.agg #[int i64 a.wall,int i64 a.count,int i64 a.site,int i64 a.seq,.string a.data,.bool a.gone]) (.agg #[int i64 b.wall,int i64 b.count,int i64 b.site,int i64 b.seq,.string b.data,.bool b.gone])).run Tryz.prog w=.ok (.bool (!eqV a b)) w:=by
 have h:=q4g a b w;rw[run_eql_struct]at h;rw[run_neq_struct]
 generalize (Op.equalIn 10000 130 _ _).run Tryz.prog w=r at*
 cases r with
 |ok b w1=>
  simp only[Result.andThen]at h ⊢;injection h with h1 h2;injection h1 with h1;rw[h1,h2]
 |halt x w1=>simp[Result.andThen]at h
def qp7 (a0 a1 a2 a3:Int) (st v:Ver):Bool:=qke a0 a1 a2 a3 v&&!eqV v st
variable {a0 a1 a2 a3:Int} {st:Ver} {A S:Nat}
theorem qx4 {v:Ver} {r:Bool} (h:qp7 a0 a1 a2 a3 st v=r) (d:0<=v.site) (g:v.site<=3) (w:World) (j:qag w A [int i64 a0,int i64 a1,int i64 a2,int i64 a3]) (RS:qag w S (qah st)):
 Calls Tryz.prog 262 #[.agg #[int i64 v.wall,int i64 v.count,int i64 v.site,int i64 v.seq,.string v.data,.bool v.gone],.pointer (some ⟨A,0,none⟩),.pointer (some ⟨S,0,none⟩)] w λe w'=>e=.returned (.bool r)/\Below w.heap.size w w':=by
 have p:=jdd;have i:=qag.new (w:=w) (T:=130) (qah v) rfl;have hb:=boxed (Below.refl _ w) (.cells (qah v).toArray 130);change qag (w.alloc (.cells #[int i64 v.wall,int i64 v.count,int i64 v.site,int i64 v.seq,.string v.data,.bool v.gone] 130)) w.heap.size (qah v)at i;change Below w.heap.size w (w.alloc (.cells #[int i64 v.wall,int i64 v.count,int i64 v.site,int i64 v.seq,.string v.data,.bool v.gone] 130))at hb;have k:=j.later hb;have l:=RS.later hb;obtain⟨c0,c1,c2,c3⟩:=k.c4;have H:Hid _:=h;clear h;cases hh:qke a0 a1 a2 a3 v
 ·have b:Hid _:=hh
  have c:Hid (r=false):=by show r=false;rw[<-H.out,qp7,hh];rfl
  clear hh;go_enter Tryz.func262,Tryz.ntmps262
  go_wp2_with fail
  refine(qx6 b.out d g _).mono ?_;rintro e m ⟨rfl,a⟩
  go_wp2_with fail
  go_ret;exact⟨by rw[c.out];rfl,qab hb a⟩
 ·have b:Hid _:=hh
  have c:Hid (r=!eqV v st):=by show r=_;rw[<-H.out,qp7,hh];rfl
  clear hh;go_enter Tryz.func262,Tryz.ntmps262
  go_wp2_with fail
  refine(qx6 b.out d g _).mono ?_;rintro e m ⟨rfl,a⟩;have n:=i.later a;have o:=l.later a;obtain⟨x0,x1,x2,x3,q,s⟩:=n.c6;obtain⟨u,x,y,z,B,C⟩:=o.c6
  go_wp2_with fail
  go_ret;exact⟨by rw[c.out];rfl,qab hb a⟩
def jcg (a0 a1 a2 a3:Int) (st:Ver) (L:List Ver) (r:Int):Prop:=
 (r= -1/\∀v∈L,qp7 a0 a1 a2 a3 st v=false)\/∃k:Nat,k<L.length/\r=k/\qp7 a0 a1 a2 a3 st (qb4 L k)=true/\∀j,j<k->qp7 a0 a1 a2 a3 st (qb4 L j)=false
theorem q1v {a:Option Addr} {cap:Nat} {L:List Ver} (w:World) (E:q6e w a cap L) (t:∀v∈L,0<=v.site/\v.site<=3) (K:L.length<=1000) (F:qag w A [int i64 a0,int i64 a1,int i64 a2,int i64 a3]) (RS:qag w S (qah st)):
 Calls Tryz.prog 282 #[.slice a L.length cap,.func (.func 262) #[] #[.pointer (some ⟨A,0,none⟩),.pointer (some ⟨S,0,none⟩)]] w λe w'=>
  ∃r:Int,e=.returned (int i64 r)/\jcg a0 a1 a2 a3 st L r/\Below w.heap.size w w':=by
 have G:Hid _:=t;clear t;go_enter Tryz.func282,Tryz.ntmps282
 go_wp2_with fail
 go_loopw [8] (λiv wr=>∃(k:Nat) (z:Int),k<=L.length/\z=k/\iv=int i64 z/\Hid (∀j,j<k->qp7 a0 a1 a2 a3 st (qb4 L j)=false)/\Below w.heap.size w wr) (λi _=>L.length-(intOf i).toNat)
 case atStart=>exact⟨0,0,by omega,rfl,rfl,(λj H=>by omega:∀j,j<0->qp7 a0 a1 a2 a3 st (qb4 L j)=false),Below.refl _ _⟩
 case round=>
  obtain⟨k,z,M,n,rfl,o,hb⟩:=hrel;have x:Hid _:=n;by_cases c:k<L.length
  ·have N:z<(L.length:Int):=by omega
   have O:z.toNat=k:=by omega
   have P:0<=z:=by omega
   clear n;have B:=E.later hb
   obtain⟨b,Q,rfl,h⟩:∃b,b<wr.heap.size/\a=some ⟨b,0,none⟩/\∀i r u,i<L.length->(qah (qb4 L i))[r]?=some u->wr.cell? ⟨b,i*6+r,none⟩=some u:=by
        rcases B.held with p|p
        ·rw[p]at c;simp at c
        ·exact p
   obtain⟨y,d⟩:∃y,qb4 L k=y:=⟨_,rfl⟩;have q:=G.out _ (qme c);rw[d]at q;have x0:wr.cell? ⟨b,k*6,none⟩=some (int i64 y.wall):=h k 0 _ c (by rw[d];rfl);have x1:wr.cell? ⟨b,k*6+1,none⟩=some (int i64 y.count):=h k 1 _ c (by rw[d];rfl);have x2:wr.cell? ⟨b,k*6+2,none⟩=some (int i64 y.site):=h k 2 _ c (by rw[d];rfl);have x3:wr.cell? ⟨b,k*6+3,none⟩=some (int i64 y.seq):=h k 3 _ c (by rw[d];rfl);have R:wr.cell? ⟨b,k*6+4,none⟩=some (.string y.data):=h k 4 _ c (by rw[d];rfl);have T:wr.cell? ⟨b,k*6+5,none⟩=some (.bool y.gone):=h k 5 _ c (by rw[d];rfl);have Y:Hid _:=d;have m:Hid _:=q;have C:=F.later hb;have D:=RS.later hb;clear d h B q;cases hd:qp7 a0 a1 a2 a3 st y
   ·have l:Hid _:=hd;clear hd
    go_wp2_with fail
    refine(qx4 l.out m.out.1 m.out.2 _ C D).mono ?_;rintro e I ⟨rfl,s⟩
    go_wp2_with fail
    go_roundw
    case rel=>exact⟨k+1,z+1,by omega,by have:=x.out;omega,by go_num,(λj H=>by
     rcases Nat.lt_or_ge j k with g|g
     ·exact o.out j g
     ·obtain rfl:j=k:=by omega
      rw[Y.out,l.out]:∀j,j<k+1->qp7 a0 a1 a2 a3 st (qb4 L j)=false),qab hb s⟩
    case measure=>simp[intOf];omega
   ·have l:Hid _:=hd;clear hd
    go_wp2_with fail
    refine(qx4 l.out m.out.1 m.out.2 _ C D).mono ?_;rintro e I ⟨rfl,s⟩
    go_wp2_with fail
    go_ret;exact⟨z,rfl,.inr ⟨k,c,x.out,by rw[Y.out,l.out],o.out⟩,qab hb s⟩
  ·have U:¬z<(L.length:Int):=by omega
   clear n
   go_wp2_with fail
   go_ret;refine⟨-1,rfl,.inl ⟨rfl,λv J=>?_⟩,hb⟩;obtain⟨i,hi,rfl⟩:=List.mem_iff_getElem.1 J;have e:=o.out i (by omega)
   rwa [qf7 hi]at e
end
section
open Go.Value Go.IntKind Go.RowKit
theorem qoa {P:Program} (w:World) (t e d:TypeId) (z:Value) (f:P.underlying t=some (.slice e)) (h:∀w,(zeroValue e).run P w=.ok z w) (b o n c:Nat) (s:0<n)
 (l:∀u∈(Builtin.zeroCells z.cells n).toList,u.oneCell'=true) (q:∀j,j<(Builtin.zeroCells z.cells n).size->(w.cell? ⟨b,o+j,none⟩).isSome=true) (r:∀j,j<(Builtin.zeroCells z.cells n).size->w.frozen? ⟨b,o+j,none⟩=false):
 (Builtin.clear_ #[t] d #[.slice (some ⟨b,o,none⟩) n c]).run P w=.ok (.tuple #[]) (w.setCells b o (Builtin.zeroCells z.cells n).toList):=by
 have a:=run_storeCells_cells (P:=P) b o (Builtin.zeroCells z.cells n).toList 0 w (by simpa using q) (by simpa using r) l;simp only[Nat.add_zero]at a;obtain⟨m,rfl⟩:∃m,n=m+1:=⟨n-1,by omega⟩;simp[Builtin.clear_,run_underlying f,h,a]
theorem qvj (n:Nat):∀u∈(Builtin.zeroCells (Value.agg #[int i64 0,int i64 0,int i64 0,int i64 0,.string ⟨#[]⟩,.bool false]).cells n).toList,u.oneCell'=true:=by
 intro u a;simp only[Builtin.zeroCells,Array.toList_map,List.mem_map]at a;obtain⟨i,_,rfl⟩:=a;have b:(Value.agg #[int i64 0,int i64 0,int i64 0,int i64 0,.string ⟨#[]⟩,.bool false]).cells=#[int i64 0,int i64 0,int i64 0,int i64 0,.string ⟨#[]⟩,.bool false]:=rfl;rw[b];have hi:i%6<6:=Nat.mod_lt _ (by decide);have e:(#[Value.int .i64 0,int i64 0,int i64 0,int i64 0,.string ⟨#[]⟩,.bool false]:Array Value).size=6:=rfl;rw[e]
 generalize i%6=m at hi
 match m,hi with
 |0,_=>rfl
 |1,_=>rfl
 |2,_=>rfl
 |3,_=>rfl
 |4,_=>rfl
 |5,_=>rfl
theorem qt8:∀(M:List Ver) (i:Nat) (v:Ver),qa4 (M.set i v)=((((((qa4 M).set (i*6) (int i64 v.wall)).set (i*6+1) (int i64 v.count)).set (i*6+2) (int i64 v.site)).set (i*6+3) (int i64 v.seq)).set (i*6+4) (.string v.data)).set (i*6+5) (.bool v.gone)
 |[],i,v=>by simp[qa4]
 |x::M,0,v=>by simp[qa4,qah]
 |x::M,i+1,v=>by
  have e:∀r,(i+1)*6+r=(qah x).length+(i*6+r):=λr=>by rw[qcz];omega
  have a:(i+1)*6=(qah x).length+i*6:=by rw[qcz];omega
  rw[List.set_cons_succ,qer,qer,e 1,e 2,e 3,e 4,e 5,a,qt8 M i v];simp only[List.set_append_right _ _ (Nat.le_add_right _ _),Nat.add_sub_cancel_left]
abbrev qti (w:World) (g o:Nat) (x:Ver):World:=(((((w.setCell ⟨g,o,none⟩ (int i64 x.wall)).setCell ⟨g,o+1,none⟩ (int i64 x.count)).setCell ⟨g,o+2,none⟩ (int i64 x.site)).setCell ⟨g,o+3,none⟩ (int i64 x.seq)).setCell ⟨g,o+4,none⟩ (.string x.data)).setCell ⟨g,o+5,none⟩ (.bool x.gone)
variable {w:World} {g n i:Nat} {M:List Ver}
theorem qj7 {cap:Nat} {T:TypeId} (h:w.ownsRow 0 T 6 (.slice (some ⟨g,0,none⟩) n cap) n (qa4 M)) (v:Ver):(qti w g (i*6) v).ownsRow 0 T 6 (.slice (some ⟨g,0,none⟩) n cap) n (qa4 (M.set i v))/\qdw g w (qti w g (i*6) v):=by
 have s0:=h.stored (i*6) (int i64 v.wall);have s1:=s0.1.stored (i*6+1) (int i64 v.count);have s2:=s1.1.stored (i*6+2) (int i64 v.site);have s3:=s2.1.stored (i*6+3) (int i64 v.seq);have a:=s3.1.stored (i*6+4) (.string v.data);have b:=a.1.stored (i*6+5) (.bool v.gone);refine⟨by rw[qt8];exact b.1,?_⟩;exact(((((show qdw g _ _ from s0.2).trans s1.2 (.inl rfl)).trans s2.2 (.inl rfl)).trans s3.2 (.inl rfl)).trans a.2 (.inl rfl)).trans b.2 (.inl rfl)
def qo1 (w:World) (sv:Value) (L':List Ver) (v':Value) (w':World):Prop:=
 w'.ownsRow 0 130 6 v' L'.length (qa4 L')/\w.grownBy w' sv.ownBlock/\v'.ownBlock=sv.ownBlock
structure qhr (w:World) (g n cap:Nat) (L:List Ver) (p:Ver->Bool) (i k:Nat) (M:List Ver):Prop where
 own:w.ownsRow 0 130 6 (.slice (some ⟨g,0,none⟩) n cap) n (qa4 M)
 len:M.length=n
 head:M.take i=(L.take k).filter p
 tail:M.drop k=L.drop k
 lt:i<k
variable {L:List Ver} {p:Ver->Bool} {k:Nat}
theorem qhr.at {cap:Nat} (h:qhr w g n cap L p i k M):qb4 M k=qb4 L k:=by
 have e:=congrArg List.head? h.tail;rw[List.head?_drop,List.head?_drop]at e;simp only[qb4,List.getD,e]
theorem qrn (a:k<L.length):L.take (k+1)=L.take k++[qb4 L k]:=by
 rw[List.take_succ_eq_append_getElem a,qf7 a]
theorem q0o (b:k<=L.length) (h:∀j,j<k->p (qb4 L j)=true):(L.take k).filter p=L.take k:=by
 rw[List.filter_eq_self];intro v a;obtain⟨i,hi,rfl⟩:=List.mem_iff_getElem.1 a;rw[List.length_take]at hi;have:=h i (by omega);rw[qf7 (by omega)]at this;rw[List.getElem_take];exact this
theorem qhr.later {w':World} {cap:Nat} (h:qhr w g n cap L p i k M) (hb:Below w.heap.size w w'):qhr w' g n cap L p i k M:=⟨qhy h.own hb,h.len,h.head,h.tail,h.lt⟩
theorem qhr.skip {cap:Nat} (h:qhr w g n cap L p i k M) (a:k<L.length) (b:p (qb4 L k)=false):qhr w g n cap L p i (k+1) M:=by
 refine⟨h.own,h.len,?_,?_,Nat.lt_succ_of_lt h.lt⟩
 ·rw[qrn a,List.filter_append,h.head];simp[b]
 ·rw[<-List.drop_drop,h.tail,List.drop_drop]
theorem qhr.keep {cap:Nat} (h:qhr w g n cap L p i k M) (c:L.length=n) (a:k<L.length) (b:p (qb4 L k)=true):qhr (qti w g (i*6) (qb4 L k)) g n cap L p (i+1) (k+1) (M.set i (qb4 L k)):=by
 have hi:i<M.length:=by have:=h.lt;have:=h.len;omega
 refine⟨(qj7 h.own (qb4 L k)).1,by rw[List.length_set];exact h.len,?_,?_,Nat.succ_lt_succ h.lt⟩
 ·rw[qrn a,List.filter_append,<-h.head,List.take_succ_eq_append_getElem (by simpa using hi),List.getElem_set_self,List.take_set_of_le (Nat.le_refl _)];simp[b]
 ·rw[List.drop_set_of_lt (by have:=h.lt;omega),<-List.drop_drop,h.tail,List.drop_drop]
theorem qzh {sv:Value} {a0 a1 a2 a3:Int} {st:Ver} {A S:Nat} (w:World) (X:w.ownsRow 0 130 6 sv L.length (qa4 L)) (hok:∀v∈L,0<=v.site/\v.site<=3) (hl:L.length<=1000) (D:qag w A [int i64 a0,int i64 a1,int i64 a2,int i64 a3]) (RS:qag w S (qah st)) (hA:sv.ownBlock≠some A) (hS:sv.ownBlock≠some S):
 Calls Tryz.prog 261 #[sv,.func (.func 262) #[] #[.pointer (some ⟨A,0,none⟩),.pointer (some ⟨S,0,none⟩)]] w λe w'=>
  ∃v',e=.returned v'/\qo1 w sv (L.filter λv=>!qp7 a0 a1 a2 a3 st v) v' w':=by
 obtain⟨a,cap,rfl,J⟩:=qg9 X;have hix:=q1v w J hok hl D RS;have HOK:Hid _:=hok;obtain⟨P,hP⟩:∃P:Ver->Bool,P=λv=>!qp7 a0 a1 a2 a3 st v:=⟨_,rfl⟩;have K:Hid _:=hP;rw[<-hP];clear hok hP;go_enter Tryz.func261,Tryz.ntmps261
 go_wp2_with fail
 refine hix.mono ?_;rintro e w1 ⟨r,rfl,hI,m⟩;rcases hI with ⟨rfl,hall⟩|⟨k,H,rfl,E,hnt⟩
 ·have FE:Hid (L.filter P=L):=by
   show L.filter P=L;rw[List.filter_eq_self,K.out];intro v hv;simp[hall v hv]
  have own1:=qhy X m;clear hall
  go_wp2_with fail
  go_ret;rw[FE.out];exact⟨_,rfl,own1,⟨m.os,m.tape,m.output,m.size,λk H _=>m.block k H⟩,rfl⟩
 ·obtain⟨g,hgl,rfl,hcc⟩:∃b,b<w.heap.size/\a=some ⟨b,0,none⟩/\∀i r u,i<L.length->(qah (qb4 L i))[r]?=some u->w.cell? ⟨b,i*6+r,none⟩=some u:=by
   rcases J.held with h0|h0
   ·rw[h0]at H;simp at H
   ·exact h0
  obtain⟨n,Z⟩:∃n,L.length=n:=⟨_,rfl⟩;have hc1:=J.len;have hc2:=J.cap
  have D0:qhr w1 g n cap L P k (k+1) L:=by
   rw[<-Z];refine⟨qhy X m,rfl,?_,rfl,Nat.lt_succ_self _⟩;rw[qrn H,List.filter_append,q0o (by omega) (λj hj=>by rw[K.out];simp[hnt j hj]),K.out];simp[E]
  have hgA:A≠g:=λe=>hA (by rw[e];rfl);have hgS:S≠g:=λe=>hS (by rw[e];rfl);have N:Hid _:=Z;rw[Z]at hl hc1 H ⊢;have ne1:((k:Int)== -1)=false:=beq_eq_false_iff_ne.2 (by omega);have F:=D.later m;have G:=RS.later m;have Q:qdw g w w1:=qdw.ofBelow m;clear hcc J X hnt E Z hix D RS m hA hS
  go_wp2_with fail
  go_loopw [5,6] (λs5 s6 wr=>∃(i j:Nat) (c s:Int) (M:List Ver),j<=n/\c=i/\s=j/\s5=int i64 c/\s6=int i64 s/\Hid (qhr wr g n cap L P i j M)/\qag wr A [int i64 a0,int i64 a1,int i64 a2,int i64 a3]/\qag wr S (qah st)/\qdw g w wr) (λ_ j _=>n-(intOf j).toNat)
  case atStart=>exact⟨k,k+1,k,(k:Int)+1,L,by omega,rfl,by omega,rfl,by go_num,D0,F,G,Q⟩
  case round=>
   clear D0 F G Q;obtain⟨i,j,c,s,M,hj,hzi,hzj,rfl,rfl,DD,D,RS,O⟩:=hrel;have o:=DD.out;have hij:=o.lt
   have hil:i<n:=by omega
   have HZ:Hid (c=i/\s=j):=⟨hzi,hzj⟩;by_cases hlt:j<n
   ·have h1:s<(n:Int):=by omega
    have h2:s.toNat=j:=by omega
    have h3:0<=s:=by omega
    have h4:c<(n:Int):=by omega
    have h5:c.toNat=i:=by omega
    have h6:0<=c:=by omega
    clear hzi hzj;obtain⟨y,hy⟩:∃y,qb4 L j=y:=⟨_,rfl⟩;have hsy:=HOK.out _ (qme (l:=L) (i:=j) (by rw[N.out];exact hlt));rw[hy]at hsy;have hMy:qb4 M j=y:=o.at.trans hy;have q:=λr u (h:(qah (qb4 M j))[r]?=some u)=>(o.own.cells (g:=g) rfl _ u (qnv M j r u (by rw[o.len];exact hlt) h));have C:=λr u (h:(qah y)[r]?=some u)=>(by have:=q r u (by rw[hMy];exact h);rwa [qc7]at this:wr.cell? ⟨g,j*6+r,none⟩=some u);have x0:wr.cell? ⟨g,j*6,none⟩=some (int i64 y.wall):=C 0 _ rfl;have x1:wr.cell? ⟨g,j*6+1,none⟩=some (int i64 y.count):=C 1 _ rfl;have x2:wr.cell? ⟨g,j*6+2,none⟩=some (int i64 y.site):=C 2 _ rfl;have x3:wr.cell? ⟨g,j*6+3,none⟩=some (int i64 y.seq):=C 3 _ rfl;have x4:wr.cell? ⟨g,j*6+4,none⟩=some (.string y.data):=C 4 _ rfl;have x5:wr.cell? ⟨g,j*6+5,none⟩=some (.bool y.gone):=C 5 _ rfl;have Y:Hid _:=hy;have HS:Hid _:=hsy;have hbx:=boxed (Below.refl _ wr) (.cells #[int i64 y.wall,int i64 y.count,int i64 y.site,int i64 y.seq,.string y.data,.bool y.gone] 130);have RX:=qag.new (w:=wr) (T:=130) (qah y) rfl;change qag (wr.alloc (.cells #[int i64 y.wall,int i64 y.count,int i64 y.site,int i64 y.seq,.string y.data,.bool y.gone] 130)) wr.heap.size (qah y)at RX;have F:=D.later hbx;have G:=RS.later hbx;have DR1:=o.later hbx;have Q:=O.trans (qdw.ofBelow (g:=g) hbx) (.inl rfl)
    have hgw:g<wr.heap.size:=by have:=O.size;omega
    clear hy hsy hMy q C o DD D RS O;have D1:Hid _:=DR1;clear DR1;cases E:qp7 a0 a1 a2 a3 st y
    ·have R:Hid _:=E;clear E
     go_wp2_with fail
     refine(qx4 R.out HS.out.1 HS.out.2 _ F G).mono ?_;rintro e w2 ⟨rfl,d⟩;have x:=D1.out.later d;have RA2:=F.later d;have RS2:=G.later d;have RX2:=RX.later d;have O2:=Q.trans (qdw.ofBelow (g:=g) d) (.inl rfl);obtain⟨z,hold⟩:∃z,qb4 M i=z:=⟨_,rfl⟩
     have q:=λr u (h:(qah z)[r]?=some u)=>(by
         have:=(x.own.cells (g:=g) rfl _ u (qnv M i r u (by rw[x.len];exact hil) (by rw[hold];exact h)))
         rwa [qc7]at this:w2.cell? ⟨g,i*6+r,none⟩=some u)
     have z0:w2.cell? ⟨g,i*6,none⟩=some (int i64 z.wall):=q 0 _ rfl;have z1:w2.cell? ⟨g,i*6+1,none⟩=some (int i64 z.count):=q 1 _ rfl;have z2:w2.cell? ⟨g,i*6+2,none⟩=some (int i64 z.site):=q 2 _ rfl;have z3:w2.cell? ⟨g,i*6+3,none⟩=some (int i64 z.seq):=q 3 _ rfl;have z4:w2.cell? ⟨g,i*6+4,none⟩=some (.string z.data):=q 4 _ rfl;have z5:w2.cell? ⟨g,i*6+5,none⟩=some (.bool z.gone):=q 5 _ rfl;have fz:=λt=>x.own.frozenAt t;obtain⟨y0,y1,y2,y3,y4,y5⟩:=RX2.c6;have DK:=x.keep N.out (by rw[N.out];exact hlt) (by rw[Y.out,K.out];simp[R.out]);rw[Y.out]at DK;have O3:=O2.trans (qj7 (i:=i) x.own y).2 (.inl rfl);have RA3:qag (qti w2 g (i*6) y) A [int i64 a0,int i64 a1,int i64 a2,int i64 a3]:=RA2.only (qj7 (i:=i) x.own y).2 hgA;have RS3:qag (qti w2 g (i*6) y) S (qah st):=RS2.only (qj7 (i:=i) x.own y).2 hgS;have DK':Hid _:=DK;clear q hold x RA2 RS2 O2 DK RX2 d
     go_wp2_with fail
     go_roundw
     case rel=>exact⟨i+1,j+1,c+1,s+1,M.set i y,by omega,by have:=HZ.out;omega,by have:=HZ.out;omega,by go_num,by go_num,DK',RA3,RS3,O3⟩
     case measure=>simp[intOf];omega
    ·have R:Hid _:=E;clear E
     go_wp2_with fail
     refine(qx4 R.out HS.out.1 HS.out.2 _ F G).mono ?_;rintro e w2 ⟨rfl,d⟩;have x:Hid _:=(D1.out.later d).skip (by rw[N.out];exact hlt) (by rw[Y.out,K.out];simp[R.out]);have RA2:=F.later d;have RS2:=G.later d;have O2:=Q.trans (qdw.ofBelow (g:=g) d) (.inl rfl);clear d
     go_wp2_with fail
     go_roundw
     case rel=>exact⟨i,j+1,c,s+1,M,by omega,by have:=HZ.out;omega,by have:=HZ.out;omega,rfl,by go_num,x,RA2,RS2,O2⟩
     case measure=>simp[intOf];omega
   ·have hjn:j=n:=by omega
    have h1:¬s<(n:Int):=by omega
    have h5:c.toNat=i:=by omega
    have h6:0<=c:=by omega
    have h7:c<=(n:Int):=by omega
    have h8:¬(cap=i):=by omega
    obtain⟨g1,cap1,cur,h',hB,hg,hnc,hcm,hcs,htake⟩:=o.own.2.resolve_left (λh=>by simp at h);simp only[Value.slice.injEq,Option.some.injEq,Addr.mk.injEq,and_true,true_and]at h';obtain⟨rfl,rfl⟩:=h';have hz6:(Value.agg #[int i64 0,int i64 0,int i64 0,int i64 0,.string ⟨#[]⟩,.bool false]).cells.size=6:=rfl;obtain⟨I,hZS⟩:∃I,I=Builtin.zeroCells (Value.agg #[int i64 0,int i64 0,int i64 0,int i64 0,.string ⟨#[]⟩,.bool false]).cells (n-i):=⟨_,rfl⟩
    have hZl:I.size=(n-i)*6:=by rw[hZS,size_zeroCells,hz6]
    have hcl:∀ty,(Builtin.clear_ #[215] ty #[.slice (some ⟨g,i*6,none⟩) (n-i) (cap-i)]).run Tryz.prog wr=.ok (.tuple #[]) (wr.setCells g (i*6) I.toList):=λty=>by
     rw[hZS];refine qoa wr _ 130 ty _ Tryz.underlying215 Tryz.zeroValue130 g (i*6) (n-i) (cap-i) (by omega) (qvj _) (λt U=>?_) (λt U=>frozen_of_row wr g _ cur _ hg);rw[size_zeroCells,hz6]at U;rw[cell_of_row wr g _ cur _ (0,0) hg,Array.getElem?_eq_getElem (by omega)];rfl
    obtain⟨V,W⟩:∃V,V=wr.setCells g (i*6) I.toList:=⟨_,rfl⟩
    have hLF:L.filter P=M.take i:=by
     rw[o.head,List.take_of_length_le (by rw[N.out];omega)]
    have hLl:(M.take i).length=i:=by rw[List.length_take,o.len];omega
    have OUT:Hid (qo1 w (.slice (some ⟨g,0,none⟩) n cap) (L.filter P) (.slice (some ⟨g,0,none⟩) i cap) V):=by
     obtain⟨c1,q1,C⟩:=qct g I.toList (i*6) wr hg;rw[<-W]at q1
     have OK:=qg4 (w:=V) (B:=0) (n:=i) (cap:=cap) (k:=6) (xs:=qa4 (M.take i)) (Nat.zero_le _) q1 hcm (by omega) (by omega) (by rw[qdg,hLl]) (λt u hu=>by
         have U:t<i*6:=by have:=(List.getElem?_eq_some_iff.1 hu).1;rwa [qdg,hLl]at this
         rw[W,World.cell?_setCells_out g _ _ _ _ (λ_ _=>.inl U)];have:=o.own.cells (g:=g) rfl t u (by rw[<-qj8,List.getElem?_take,if_pos U]at hu;exact hu)
         rwa [qc7]at this)
     rw[hLF];refine⟨by rw[hLl];exact OK,?_,rfl⟩
     have o2:qdw g wr V:=by rw[W];exact qbz _ _ _ _
     exact O.trans o2 (.inl rfl)
    rw[<-W]at hcl;clear W hZS hZl hz6 hLF hLl hB hg hnc hcm hcs htake o DD O D RS hzi hzj
    go_wp2_with fail
    go_ret;exact⟨_,rfl,OUT.out⟩
end
section
open Tryz Go.RowKit
variable {p:Nat} {L:List Ver}
theorem qvv {g n cap:Nat} (v:Ver) (i:Nat) (w:World) (K:w.ownsRow 0 130 6 (.slice (some ⟨g,0,none⟩) n cap) n (qa4 L)) (M:L.length=n) (hl:n<=1000) (hp:p<n) (hroom:¬n+1<=cap) (N:w.heap[i]?=some (.cells (qah v).toArray 130 (0,0))):
 Calls prog 286 #[.slice (some ⟨g,0,none⟩) n cap,.int .i64 p,.slice (some ⟨i,0,none⟩) 1 1] w λe w'=>
  ∃g' Z,e=.returned (.slice (some ⟨g',0,none⟩) (n+1) Z)/\qhn w (.slice (some ⟨g,0,none⟩) n cap) (qsw L p v) g' Z w':=by
 obtain⟨g1,cap1,cur,h',hB,hg,hnc,hcm,hcs,htake⟩:=K.2.resolve_left (λh=>by simp at h);simp only[Value.slice.injEq,Option.some.injEq,Addr.mk.injEq,and_true,true_and]at h';obtain⟨rfl,rfl⟩:=h'
 obtain rfl:cap=n:=by omega
 obtain⟨i0,hi0,hz0,hzs,O⟩:=info_parts q5m
 have P:(qa4 (L.drop p)).length=(cap-p)*6:=by rw[qdg,List.length_drop,M]
 have r:(qa4 (L.take p)).length=p*6:=by rw[qdg,List.length_take];omega
 have Q:∀j u,(qa4 L)[j]?=some u->w.cell? ⟨g,j,none⟩=some u:=λj u b=>by have:=K.cells (g:=g) rfl j u b;rwa [qc7]at this
 have hnews:∀j u,(qah v)[j]?=some u->w.cell? ⟨i,j,none⟩=some u:=λj u b=>by
  rw[cell_of_row w i j _ 130 (0,0) N];simpa using b
 have h1:∀u∈qah v,u.oneCell'=true:=λu b=>qic [v] u (by rw[qjd];exact b);have hbw:g<w.heap.size:=(Array.getElem?_eq_some_iff.1 hg).1;have hvw:i<w.heap.size:=(Array.getElem?_eq_some_iff.1 N).1
 have hold:(Builtin.firstCells i0.size p (.slice (some ⟨g,0,none⟩) p cap)).run prog w.drew=.ok (qa4 (L.take p)).toArray w.drew:=by
  rw[hzs]
  exact run_firstCells_some w.drew 6 p ⟨g,0,none⟩ p cap (qa4 (L.take p)) r (λj u a=>by
   rw[qc7];rw[<-qj8,List.getElem?_take]at a;split at a
   ·exact Q j u a
   ·cases a)
 obtain⟨G,E⟩:∃G,G=grownCap w (cap+1) cap 130:=⟨_,rfl⟩
 have hGn:cap+1<=G:=by rw[E];exact grownCap_ge w _ _ _
 have R:G<=maxLen:=by rw[E];exact grownCap_le_maxLen w (cap+1) cap _ (by unfold maxLen;omega)
 obtain⟨d,F⟩:∃d:Array Value,d=(qa4 (L.take p)).toArray++Builtin.zeroCells (Value.agg #[.int .i64 0,.int .i64 0,.int .i64 0,.int .i64 0,.string ⟨#[]⟩,.bool false]).cells (cap+1-p)++Builtin.zeroCells (Value.agg #[.int .i64 0,.int .i64 0,.int .i64 0,.int .i64 0,.string ⟨#[]⟩,.bool false]).cells (G-(cap+1)):=⟨_,rfl⟩;have hz6:(Value.agg #[.int .i64 0,.int .i64 0,.int .i64 0,.int .i64 0,.string ⟨#[]⟩,.bool false]).cells.size=6:=rfl
 have hRs:d.size=G*6:=by
  rw[F];simp only[Array.size_append,List.size_toArray,size_zeroCells,hz6,r];omega
 have hRA:∀j u,(qa4 (L.take p))[j]?=some u->d[j]?=some u:=λj u b=>by
  have a:j<(qa4 (L.take p)).length:=(List.getElem?_eq_some_iff.1 b).1;rw[F,Array.append_assoc,Array.getElem?_append_left (by simpa using a)];simpa using b
 have hkk:(cap:Int)+1-(p:Int)=((cap+1-p:Nat):Int):=by omega
 have S:p+(cap+1-p)=cap+1:=by omega
 have hrz:∀c,(Builtin.append_ #[215,3] c #[.slice (some ⟨g,0,none⟩) p cap,.int .i64 ((cap:Int)+1-(p:Int))]).run prog w=
  .ok (.slice (some ⟨w.heap.size,0,none⟩) (cap+1) G) (w.drew.alloc (.cells d 130)):=λc=>by
  have h:=Lib.run_append_grow_zeros w 215 3 c 130 i0 _ .i64 .i64 underlying215 underlying3 hi0 hz0 (some ⟨g,0,none⟩) p cap (qa4 (L.take p)) hold (cap+1-p) (by omega) (by omega) (by omega) (by omega) (by rw[O];omega) (by rw[O,S];exact growslice_fits (by omega) (by omega));rw[S,<-E,<-F]at h;rw[hkk];exact h
 obtain⟨W1,H⟩:∃W1,W1=w.drew.alloc (.cells d 130):=⟨_,rfl⟩
 have s:W1.heap[w.heap.size]?=some (.cells d 130 (0,0)):=by rw[H];exact heap_alloc_new w.drew _
 have y:∀j,j<G*6->(W1.cell? ⟨w.heap.size,j,none⟩).isSome=true:=λj a=>by
  rw[cell_of_row W1 w.heap.size j d _ (0,0) s,Array.getElem?_eq_getElem (by omega)];rfl
 have hNA:∀j u,(qa4 (L.take p))[j]?=some u->W1.cell? ⟨w.heap.size,j,none⟩=some u:=λj u b=>by
  rw[cell_of_row W1 w.heap.size j d _ (0,0) s];exact hRA j u b
 have U:∀j,W1.frozen? ⟨w.heap.size,j,none⟩=false:=λj=>frozen_of_row W1 w.heap.size j d _ s
 have I:Below w.heap.size w W1:=by rw[H];exact boxed (Below.refl _ w).drew _
 have hcpA:∀(W:World),(∀x,W.cell? x=W1.cell? x)->(∀x,W.frozen? x=W1.frozen? x)->∀c l,(Builtin.copy_ #[215,215] c #[.slice (some ⟨w.heap.size,p*6,none⟩) (cap+1-p) l,.slice (some ⟨i,0,none⟩) 1 1]).run prog W=.ok (goInt 1) (W.setCells w.heap.size (p*6) (qah v)):=λW z V c l=>
  qjx W _ _ c 130 6 w.heap.size (p*6) (cap+1-p) l ⟨i,0,none⟩ 1 1 1 (qah v) underlying215 qsh (by simp only[Nat.min_def];split<;>omega) rfl
   (λj u a=>by
        rw[qc7,z]
        exact cell_later I (hnews j u a))
   (λj a=>by rw[z];exact y _ (by simp[qah]at a;omega))
   (λj a=>by rw[V];exact U _) h1
 have hcpB:∀(W:World),(∀x,W.cell? x=(W1.setCells w.heap.size (p*6) (qah v)).cell? x)->(∀x,W.frozen? x=(W1.setCells w.heap.size (p*6) (qah v)).frozen? x)->∀c l Y,(Builtin.copy_ #[215,215] c #[.slice (some ⟨w.heap.size,(p+1)*6,none⟩) (cap-p) l,.slice (some ⟨g,p*6,none⟩) (cap-p) Y]).run prog W=.ok (goInt (cap-p:Nat)) (W.setCells w.heap.size ((p+1)*6) (qa4 (L.drop p))):=λW z V c l Y=>
  qjx W _ _ c 130 6 w.heap.size ((p+1)*6) (cap-p) l ⟨g,p*6,none⟩ (cap-p) Y (cap-p) (qa4 (L.drop p)) underlying215 qsh (by simp) P
   (λj u a=>by
        rw[Addr.add_lit,z,World.cell?_setCells_out _ _ _ _ _ (λh _=>absurd h (by show g≠w.heap.size;omega))]
        exact cell_later I (Q (p*6+j) u (by rw[<-qmm,List.getElem?_drop]at a;exact a)))
   (λj a=>by
        rw[z]
        exact qjt w.heap.size (qah v) (p*6) W1 (λt ht=>y (p*6+t) (by simp[qah]at ht;omega)) ((p+1)*6+j) (y ((p+1)*6+j) (by omega)))
   (λj a=>by rw[V,World.frozen?_setCells];exact U _) (qic _)
 obtain⟨m,q⟩:∃m,m=W1.setCells w.heap.size (p*6) (qah v):=⟨_,rfl⟩;obtain⟨J,B⟩:∃J,J=m.drew.setCells w.heap.size ((p+1)*6) (qa4 (L.drop p)):=⟨_,rfl⟩
 have OUT:Hid (qhn w (.slice (some ⟨g,0,none⟩) cap cap) (qsw L p v) w.heap.size G J):=by
  obtain⟨c1,q1,q2⟩:=qct w.heap.size (qah v) (p*6) W1 s;rw[<-q]at q1;obtain⟨c2,q3,q4⟩:=qct w.heap.size (qa4 (L.drop p)) ((p+1)*6) m.drew (cur:=c1) (T:=130) q1;rw[<-B]at q3;refine⟨qg4 (Nat.zero_le _) q3 R (by omega) (by rw[qik v (by omega)];omega) (qdg _) ?_,?_,.inr (Nat.le_refl _)⟩
  ·rw[quk];have:=qnk (w:=W1) (g:=w.heap.size) (qa4 (L.take p)) (qah v) (qa4 (L.drop p)) hNA (λj a=>y j (by rw[r,P,qcz]at a;omega));rw[r,qcz,show p*6+6=(p+1)*6 by omega,<-q]at this;intro j u b;rw[B];have e:=this j u b;rw[<-e]
   have hh:∀(C:List Value) (o:Nat) (X:World),(X.drew.setCells w.heap.size o C).heap=(X.setCells w.heap.size o C).heap:=by
        intro C
        induction C with
        |nil=>intro o X;rfl
        |cons u C ih=>intro o X;exact ih (o+1) (X.setCell ⟨w.heap.size,o,none⟩ u)
   unfold World.cell?;rw[hh]
  ·have o1:qdw w.heap.size W1 m:=by rw[q];exact qbz _ _ _ _
   have o2:qdw w.heap.size m J:=by rw[B];exact(qdw.ofBelow (Below.refl _ _).drew).trans (qbz _ _ _ _) (.inl rfl)
   have D:=(qdw.ofBelow (g:=w.heap.size) I).trans (o1.trans o2 (.inl rfl)) (.inl rfl);exact⟨D.os,D.tape,D.output,D.size,λk hk _=>D.block k hk (λe=>by injection e;omega)⟩
 have hA3:=hcpA W1 (λ_=>rfl) (λ_=>rfl);have hB3:=hcpB m.drew (λx=>by rw[<-q];rfl) (λx=>by rw[<-q];rfl);rw[<-q]at hA3;rw[<-B]at hB3;rw[<-H]at hrz
 have hw1:IntKind.i64.wrap ((p:Int)+1)=(p:Int)+1:=by rw[IntKind.wrap_i64];omega
 have hw2:(0:Int)<=(p:Int)+1:=by omega
 have hin:p<=cap:=by omega
 have htn:((p:Int)+1).toNat=p+1:=by omega
 have hG63:G<=9223372036854775807:=by simp only[maxLen]at R;omega
 have hG1:¬(G=p+1):=by omega
 have hG2:¬(G=p):=by omega
 have hc1:¬(cap=p):=by omega
 have hb3:(p:Int)<=(cap:Int)+1:=by omega
 have hb5:(p:Int)<=(cap:Int):=by omega
 have hz2:¬((p:Int)=(cap:Int)):=by omega
 have hz3:(cap:Int)<(cap:Int)+1:=by omega
 have EL:Hid _:=M;clear P r Q hnews h1 htake K hcs hB hg N M hold F E hRs hRA hz6 H q B s y hNA U hcpA hcpB hkk S hi0 hz0 hzs O I hnc hcm R;go_enter func286,ntmps286
 go_wp2_with (first
  |(at_builtin;refine Lib.wpList_append_run _ rfl _ _ _ _ rfl _ _ rfl rfl _ _ (hrz _) ?_)
  |(at_builtin;refine qjf _ rfl _ _ 215 215 rfl _ _ rfl rfl (hA3 _ _) ?_))
 go_region_law (refine ql2 rfl _ _ 215 215 rfl _ _ (by simp[Act.eval,Act.put]) (by simp[Act.eval,Act.put]) (hB3 _ _ _) ?_)
 go_wp2_with fail
 go_ret;exact⟨w.heap.size,G,rfl,OUT.out⟩
theorem q7t (L:List Ver) (v:Ver):qsw L L.length v=L++[v]:=by simp[qsw]
theorem qy8 {sv:Value} (v:Ver) (a:Nat) (w:World) (b:w.ownsRow 0 130 6 sv L.length (qa4 L)) (k:p<=L.length) (c:L.length<=1000) (d:w.heap[a]?=some (.cells (qah v).toArray 130 (0,0))) (j:sv.ownBlock≠some a):
 Calls prog 286 #[sv,.int .i64 p,.slice (some ⟨a,0,none⟩) 1 1] w λe w'=>
  ∃g cap,e=.returned (.slice (some ⟨g,0,none⟩) (L.length+1) cap)/\qhn w sv (qsw L p v) g cap w':=by
 rcases Nat.lt_or_ge p L.length with h|h
 ·rcases b.2 with ⟨_,l⟩|⟨g,cap,cur,rfl,_⟩
  ·omega
  ·by_cases i:L.length+1<=cap
   ·exact qs1 v a w b rfl c h i d (λe=>j (by rw[e];rfl))
   ·exact qvv v a w b rfl c h i d
 ·obtain rfl:p=L.length:=by omega
  rw[q7t];exact qz7 v a w b c d
end
section
open Go.RowKit
def qlh (l:List Hd) (k:Nat):List Ver:=(l.filter λh=>decide (h.key=(k:Int))).map (·.v)
variable {l:List Hd} {k:Nat}
theorem q7f {v:Ver}:v∈qlh l k↔(⟨k,v⟩:Hd)∈l:=by
 unfold qlh;rw[List.mem_map]
 constructor
 ·rintro ⟨⟨key,u⟩,h,rfl⟩;have:=List.mem_filter.1 h;have e:key=(k:Int):=of_decide_eq_true this.2;subst e;exact this.1
 ·intro h;exact⟨⟨k,v⟩,List.mem_filter.2 ⟨h,by simp⟩,rfl⟩
theorem qn9 (a b:List Hd) (k:Nat):qlh (a++b) k=qlh a k++qlh b k:=by simp[qlh]
theorem qtk (k:Nat) (v:Ver):qlh [⟨k,v⟩] k=[v]:=by simp[qlh]
theorem qrh {key:Int} (v:Ver) (h:key≠(k:Int)):qlh [⟨key,v⟩] k=[]:=by simp[qlh,h]
theorem qox:∀(l:List Hd),(∀h∈l,inB h.key 0 7=true)->(qlh l 0).length+(qlh l 1).length+(qlh l 2).length+(qlh l 3).length+(qlh l 4).length+(qlh l 5).length+(qlh l 6).length+(qlh l 7).length=l.length
 |[],_=>rfl
 |⟨key,v⟩::l,h=>by
  have d:=qox l (λx b=>h x (List.mem_cons_of_mem _ b));have c:=qa5.1 (h ⟨key,v⟩ (List.mem_cons_self ..));simp only at c;have e:∀k,qlh (⟨key,v⟩::l) k=qlh [⟨key,v⟩] k++qlh l k:=λk=>qn9 [⟨key,v⟩] l k
  have s:∀k:Nat,(qlh [⟨key,v⟩] k).length=if key=(k:Int)then 1 else 0:=λk=>by
   by_cases a:key=(k:Int)
   ·rw[if_pos a,a,qtk];rfl
   ·rw[if_neg a,qrh v a];rfl
  simp only[e,List.length_append,s,List.length_cons]
  have:key=0\/key=1\/key=2\/key=3\/key=4\/key=5\/key=6\/key=7:=by omega
  rcases this with rfl|rfl|rfl|rfl|rfl|rfl|rfl|rfl<;>simp<;>omega
theorem qr0 {a b:Ver} (h:qao a b=true):qao b a=false:=by
 cases hq:qao b a
 ·rfl
 ·rw[qc0]at h hq;omega
variable {L:List Ver} {t:Ver} {p:Nat}
theorem qu8 (hs:Sorted L) (e:q9j L t p):qhu L t p=true↔∃y∈L,q7o y t:=by
 unfold qhu;rw[Bool.and_eq_true,decide_eq_true_eq,decide_eq_true_eq,q4l]
 constructor
 ·rintro ⟨b,c⟩;exact⟨_,qme b,c⟩
 ·rintro ⟨y,f,a⟩;obtain⟨j,d,rfl⟩:=List.mem_iff_getElem.1 f;rw[<-qf7 d]at a
  have nb:¬qao (qb4 L j) t=true:=by
   rw[qc0];obtain⟨g,i,m⟩:=a;omega
  have n:p<=j:=by
   rcases Nat.lt_or_ge j p with h|h
   ·exact absurd (e.2.1 j h) nb
   ·exact h
  rcases Nat.lt_or_ge p j with h|h
  ·have b:=hs.at h d;have c:=e.2.2 p (Nat.le_refl _) (by omega)
   have:qao (qb4 L p) t=true:=by
        rw[qc0]at b ⊢;obtain⟨g,i,m⟩:=a;omega
   rw[c]at this;cases this
  ·obtain rfl:p=j:=by omega
   exact⟨d,a⟩
theorem q04 (hs:Sorted L) (e:q9j L t p) (n:qhu L t p=false):Sorted (qsw L p t):=by
 have nt:∀y∈L,¬q7o y t:=λy c o=>by
  have:=(qu8 hs e).2 ⟨y,c,o⟩;rw[n]at this;cases this
 have f:∀y∈L.take p,qao y t=true:=λy c=>by
  obtain⟨i,hi,rfl⟩:=List.mem_iff_getElem.1 c;rw[List.length_take]at hi;rw[List.getElem_take,<-qf7 (by omega)];exact e.2.1 i (by omega)
 have g:∀y∈L.drop p,qao t y=true:=λy c=>by
  have j:=List.mem_of_mem_drop c;obtain⟨i,hi,rfl⟩:=List.mem_iff_getElem.1 c;rw[List.length_drop]at hi;rw[List.getElem_drop]at j ⊢;have m:=e.2.2 (p+i) (by omega) (by omega);rw[qf7 (by omega)]at m;cases hq:qao t L[p+i]
  ·exact absurd (qnd m hq) (nt _ j)
  ·rfl
 unfold Sorted qsw at*;rw[List.append_assoc,List.pairwise_append,List.pairwise_append];refine⟨hs.sublist (List.take_sublist _ _),⟨List.pairwise_singleton _ _,hs.sublist (List.drop_sublist _ _),λa d b hb=>?_⟩,λa d b hb=>?_⟩
 ·rw[List.mem_singleton.1 d];exact g b hb
 ·rcases List.mem_append.1 hb with h|h
  ·rw[List.mem_singleton.1 h];exact f a d
  ·have q:=f a d;have r:=g b h;rw[qc0]at q r ⊢;omega
theorem q56 (L:List Ver) (p:Nat) (t:Ver):(L++[t]).Perm (qsw L p t):=by
 unfold qsw;have e:L=L.take p++L.drop p:=(List.take_append_drop p L).symm
 have:(L++[t]).Perm (L.take p++L.drop p++[t]):=by rw[<-e]
 refine this.trans ?_;rw[List.append_assoc,List.append_assoc];exact List.Perm.append_left _ List.perm_append_comm
variable {a0 a1 a2 a3:Int}
theorem q8g (j:qiz l) (hs:Sorted L) (a:∀v,v∈L↔(⟨k,v⟩:Hd)∈l):qde k a0 a1 a2 a3 l=qgv a0 a1 a2 a3 L:=by
 cases hb:qgv a0 a1 a2 a3 L with
 |none=>
  unfold qgv at hb;rw[List.find?_eq_none]at hb;cases hl:qde k a0 a1 a2 a3 l with
  |none=>rfl
  |some v=>
   obtain⟨⟨h,m,e,d,b⟩,_⟩:=qm2 hl;obtain⟨key,u⟩:=h;simp only at e d;subst e d;exact absurd b (hb u (List.mem_reverse.2 ((a u).2 m)))
 |some v=>
  unfold qgv at hb;obtain⟨b,xs,n,e,o⟩:=List.find?_eq_some_iff_append.1 hb
  have c:L=n.reverse++v::xs.reverse:=by
   have:=congrArg List.reverse e;rw[List.reverse_reverse]at this;rw[this];simp
  rw[q4b j]
  have q:v∈L:=by rw[c];simp
  refine⟨⟨⟨k,v⟩,(a v).1 q,rfl,rfl,b⟩,?_⟩;rintro ⟨key,u⟩ r f g;simp only at f g;subst f;have i:=(a u).2 r;rw[c]at i;unfold Sorted at hs;rw[c,List.pairwise_append]at hs;rcases List.mem_append.1 i with h|h
  ·exact qr0 (hs.2.2 u h v (by simp))
  ·rcases List.mem_cons.1 h with h|h
   ·rw[h];exact qho v
   ·have:=o u (List.mem_reverse.1 h);rw[g]at this;cases this
theorem q7n (a b:Ver):eqV a b=eqV b a:=by
 unfold eqV;rw[Bool.eq_iff_iff];simp only[Bool.and_eq_true,beq_iff_eq]
 constructor<;>(rintro ⟨⟨⟨⟨⟨c,d⟩,e⟩,f⟩,g⟩,h⟩;exact⟨⟨⟨⟨⟨c.symm,d.symm⟩,e.symm⟩,f.symm⟩,g.symm⟩,h.symm⟩)
theorem q2a (c:(qlh l k).Perm L) (a:qde k a0 a1 a2 a3 l=qgv a0 a1 a2 a3 L):
 (qlh (qfr a0 a1 a2 a3 l) k).Perm (L.filter λv=>!qp7 a0 a1 a2 a3 ((qgv a0 a1 a2 a3 L).getD qc6) v):=by
 have e:qlh (qfr a0 a1 a2 a3 l) k=(qlh l k).filter λv=>!qp7 a0 a1 a2 a3 ((qgv a0 a1 a2 a3 L).getD qc6) v:=by
  unfold qlh qfr;rw[List.filter_map,List.filter_filter,List.filter_filter]
  congr 1
  apply List.filter_congr
  rintro ⟨key,v⟩ d;by_cases b:key=(k:Int)
  ·subst b;simp only[decide_true,Bool.true_and,Bool.and_true,Function.comp];unfold qi6 qp7;rw[a];simp only;cases hb:qgv a0 a1 a2 a3 L with
   |none=>
    rw[hb]at a;have:=qqo a ⟨k,v⟩ d rfl;simp only at this;simp[qkm,this]
   |some u=>
    simp only[qkm,Option.getD_some,Bool.not_true,Bool.false_or];rw[q7n u v]
    cases qke a0 a1 a2 a3 v<;>cases eqV v u<;>rfl
  ·simp[b]
 rw[e];exact c.filter _
theorem qrx (h:Sorted L) (p:Ver->Bool):Sorted (L.filter p):=List.Pairwise.filter p h
end
section
open Go.RowKit
def qbq (n:Int):Value:=if n=0 then .nilIface else .iface 26 (.int .i64 n)
structure qba (X:Nat->Prop) (w w':World):Prop where
 os:w'.os=w.os
 tape:w'.tape=w.tape
 output:w'.output=w.output
 size:w.heap.size<=w'.heap.size
 block:∀k,X k->w'.heap[k]?=w.heap[k]?
theorem qba.refl (X:Nat->Prop) (w:World):qba X w w:=⟨rfl,rfl,rfl,Nat.le_refl _,λ_ _=>rfl⟩
variable {X:Nat->Prop}
theorem qba.trans {a b c:World} (h:qba X a b) (k:qba X b c):qba X a c:=⟨k.os.trans h.os,k.tape.trans h.tape,k.output.trans h.output,Nat.le_trans h.size k.size,λi hi=>(k.block i hi).trans (h.block i hi)⟩
variable {w w':World}
theorem qba.below {B:Nat} (h:qba X w w') (a:∀k,k<B->X k):Below B w w':=⟨h.os,h.tape,h.output,h.size,λk b=>h.block k (a k b)⟩
theorem qag.keeps {b:Nat} {a:List Value} (h:qag w b a) (c:qba X w w') (d:X b):qag w' b a:=h.kept (c.block b d) c.size
variable {l:List Hd} {a0 a1 a2 a3:Int}
theorem qwk (h:qiz l):qiz (qfr a0 a1 a2 a3 l):=q3z h λ_ a=>(List.mem_filter.1 a).1
theorem qr1:(qfr a0 a1 a2 a3 l).length<=l.length:=List.length_filter_le _ _
end
section
open Go.RowKit
def upd {α:Type} (f:Nat->α) (k:Nat) (x:α):Nat->α:=λi=>if i=k then x else f i
variable {α:Type}
theorem qfl (f:Nat->α) (k:Nat) (x:α):upd f k x k=x:=if_pos rfl
variable {k:Nat}
theorem qdc (f:Nat->α) {i:Nat} (x:α) (h:i≠k):upd f k x i=f i:=if_neg h
def qkn (b:Nat) (vs:Nat->Value) (k:Nat):Prop:=k=b\/∃i,i<8/\(vs i).ownBlock=some k
theorem jaw (h:k<8):k=0\/k=1\/k=2\/k=3\/k=4\/k=5\/k=6\/k=7:=by omega
theorem qss {w w':World} {B n:Nat} {T:TypeId} {v:Value} {xs:List Value} (h:w.ownsRow B T 6 v n xs) (a:∀k,v.ownBlock=some k->w'.heap[k]?=w.heap[k]?):w'.ownsRow B T 6 v n xs:=by
 refine⟨h.1,?_⟩;rcases h.2 with b|⟨g,cap,cur,rfl,hb,c,rest⟩
 ·exact .inl b
 ·exact .inr ⟨g,cap,cur,rfl,hb,by rw[a g rfl];exact c,rest⟩
theorem jeu (a:Nat->Value) (b:k<8) (x:Value):[a 0,a 1,a 2,a 3,a 4,a 5,a 6,a 7].set k x=[upd a k x 0,upd a k x 1,upd a k x 2,upd a k x 3,upd a k x 4,upd a k x 5,upd a k x 6,upd a k x 7]:=by
 rcases jaw b with rfl|rfl|rfl|rfl|rfl|rfl|rfl|rfl<;>rfl
structure qea (Ls:Nat->List Ver) (l:List Hd):Prop where
 perm:∀k,k<8->(qlh l k).Perm (Ls k)
 keys:∀h∈l,inB h.key 0 7=true
variable {Ls:Nat->List Ver} {l:List Hd}
theorem qea.mem (h:qea Ls l) (a:k<8) (v:Ver):v∈Ls k↔(⟨k,v⟩:Hd)∈l:=by rw[<-q7f,(h.perm k a).mem_iff]
theorem qea.len (h:qea Ls l) (a:k<8):(Ls k).length<=l.length:=by
 rw[<-(h.perm k a).length_eq];unfold qlh;rw[List.length_map];exact List.length_filter_le _ _
theorem qea.sites (h:qea Ls l) (a:∀x∈l,qd2 x.v=true) (b:k<8):∀v∈Ls k,0<=v.site/\v.site<=3:=λv c=>qmw (a _ ((h.mem b v).1 c))
theorem qea.count (h:qea Ls l):(Ls 0).length+(Ls 1).length+(Ls 2).length+(Ls 3).length+(Ls 4).length+(Ls 5).length+(Ls 6).length+(Ls 7).length=l.length:=by
 have:=qox l h.keys;rw[(h.perm 0 (by omega)).length_eq,(h.perm 1 (by omega)).length_eq,(h.perm 2 (by omega)).length_eq,(h.perm 3 (by omega)).length_eq,(h.perm 4 (by omega)).length_eq,(h.perm 5 (by omega)).length_eq,(h.perm 6 (by omega)).length_eq,(h.perm 7 (by omega)).length_eq]at this;exact this
theorem qea.put (h:qea Ls l) (c:k<8) (v:Ver) (p:Nat):qea (upd Ls k (qsw (Ls k) p v)) (l++[⟨k,v⟩]):=by
 refine⟨λi hi=>?_,λx b=>?_⟩
 ·rw[qn9];by_cases e:i=k
  ·subst e;rw[qfl,qtk];exact((h.perm i hi).append_right [v]).trans (q56 _ _ _)
  ·rw[qdc _ _ e,qrh v (by omega),List.append_nil];exact h.perm i hi
 ·rcases List.mem_append.1 b with a|a
  ·exact h.keys x a
  ·rw[List.mem_singleton.1 a];exact qa5.2 (by simp only;omega)
theorem q8y (h:qea Ls l) (d:k<8) (v:Ver):l.any (qfa k v)=true↔∃y∈Ls k,q7o y v:=by
 rw[List.any_eq_true]
 constructor
 ·rintro ⟨⟨key,u⟩,f,e⟩;simp only[qfa,Bool.and_eq_true,decide_eq_true_eq]at e;obtain⟨⟨rfl,a,b⟩,c⟩:=e;exact⟨u,(h.mem d u).2 f,a,b,c⟩
 ·rintro ⟨y,g,a,b,c⟩;exact⟨⟨k,y⟩,(h.mem d y).1 g,by simp[qfa,a,b,c]⟩
variable {L:List Ver} {t:Ver} {p:Nat}
theorem q7r {q:Nat} (c:q9j L t p) (d:q9j L t q):p=q:=by
 rcases Nat.lt_trichotomy p q with h|h|h
 ·have a:=c.2.2 p (Nat.le_refl _) (by have:=d.1;omega);have b:=d.2.1 p h;rw[a]at b;cases b
 ·exact h
 ·have a:=d.2.2 q (Nat.le_refl _) (by have:=c.1;omega);have b:=c.2.1 q h;rw[a]at b;cases b
theorem qtt:∀{L:List Ver} (t:Ver),Sorted L->∃p,q9j L t p
 |[],_,_=>⟨0,Nat.le_refl _,λj a=>by omega,λj _ a=>by simp at a⟩
 |x::L,t,hs=>by
  unfold Sorted at hs;rw[List.pairwise_cons]at hs;cases hx:qao x t
  ·refine⟨0,Nat.zero_le _,λj a=>by omega,λj _ a=>?_⟩;cases j with
   |zero=>exact hx
   |succ j=>
    have c:j<L.length:=by simpa using a
    have e:qb4 (x::L) (j+1)=qb4 L j:=rfl;rw[e];cases hq:qao (qb4 L j) t
    ·rfl
    ·have b:=hs.1 _ (qme c)
     have:qao x t=true:=by
       rw[qc0]at b hq ⊢;omega
     rw[hx]at this;cases this
  ·obtain⟨p,b,d,f⟩:=qtt t (show Sorted L from hs.2);refine⟨p+1,by simpa using b,λj a=>?_,λj a g=>?_⟩
   ·cases j with
    |zero=>exact hx
    |succ j=>exact d j (by omega)
   ·cases j with
    |zero=>omega
    |succ j=>exact f j (by omega) (by simpa using g)
theorem q5t {a:Option Addr} {cap:Nat} (b:q9j L t p) (w:World) (c:q6e w a cap L) (hs:Sorted L) (d:L.length<=1000):
 Calls Tryz.prog 284 #[.slice a L.length cap,.agg #[.int .i64 t.wall,.int .i64 t.count,.int .i64 t.site,.int .i64 t.seq,.string t.data,.bool t.gone],.func (.func 285) #[] #[]] w λe w'=>
  e=.returned (.tuple #[.int .i64 p,.bool (qhu L t p)])/\Below w.heap.size w w':=
 (q1f t w c hs d).mono λe w' ⟨q,g,h,hb⟩=>by
  obtain rfl:=q7r b h;exact⟨g,hb⟩
end
section
open Go.RowKit
structure qr8 (w:World) (b o:Nat) (vs:List Value):Prop where
 cell:∀j v,vs[j]?=some v->w.cell? ⟨b,o+j,none⟩=some v
 free:∀j,j<vs.length->w.frozen? ⟨b,o+j,none⟩=false
 lt:b<w.heap.size
variable {w w':World} {b o:Nat}
theorem qr8.kept {vs:List Value} (h:qr8 w b o vs) (e:w'.heap[b]?=w.heap[b]?) (hs:w.heap.size<=w'.heap.size):qr8 w' b o vs:=
 ⟨λj v a=>by rw[World.cell?_of_block (w:=w) e];exact h.cell j v a,λj c=>by rw[World.frozen?_of_block (w:=w) e];exact h.free j c,Nat.lt_of_lt_of_le h.lt hs⟩
theorem qr8.grown {r:Option Nat} {vs:List Value} (h:qr8 w b o vs) (a:w.grownBy w' r) (c:some b≠r):qr8 w' b o vs:=h.kept (a.block b h.lt c) a.size
theorem qr8.boxed {vs:List Value} (h:qr8 w b o vs) (x:Obj):qr8 (w.alloc x) b o vs:=h.kept (Below.heap_alloc _ _ _ h.lt) (by simp)
theorem qr8.drew {vs:List Value} (h:qr8 w b o vs):qr8 w.drew b o vs:=h.kept rfl (Nat.le_refl _)
theorem qr8.set {vs:List Value} (h:qr8 w b o vs) (k:Nat) (u:Value) (d:k<vs.length):qr8 (w.setCell ⟨b,o+k,none⟩ u) b o (vs.set k u):=by
 refine⟨λj v a=>?_,λj c=>by rw[World.frozen?_setCell];exact h.free j (by simpa using c),by simpa[World.setCell]using h.lt⟩;by_cases c:k=j
 ·subst c;rw[List.getElem?_set_self d]at a;injection a with a;subst a;exact World.cell?_setCell_same _ _ _ (h.cell k vs[k] (List.getElem?_eq_getElem d))
 ·rw[List.getElem?_set_ne c]at a;rw[World.cell?_setCell_other _ _ _ _ (by intro e;injection e with _ e _;omega)];exact h.cell j v a
def qkl (b so:Nat) (w w':World):Prop:=∀j,(j<so\/so+8<=j)->w'.cell? ⟨b,j,none⟩=w.cell? ⟨b,j,none⟩/\w'.frozen? ⟨b,j,none⟩=w.frozen? ⟨b,j,none⟩
variable {so:Nat}
theorem qkl.ofBlock (e:w'.heap[b]?=w.heap[b]?):qkl b so w w':=λ_ _=>⟨World.cell?_of_block (w:=w) e,World.frozen?_of_block (w:=w) e⟩
theorem qkl.trans {x y z:World} (h:qkl b so x y) (k:qkl b so y z):qkl b so x z:=λj a=>⟨(k j a).1.trans (h j a).1,(k j a).2.trans (h j a).2⟩
theorem qkl.set (b so k:Nat) (a:k<8) (w:World) (u:Value):qkl b so w (w.setCell ⟨b,so+k,none⟩ u):=λj c=>⟨World.cell?_setCell_other _ _ _ _ (by intro e;injection e with _ e _;omega),World.frozen?_setCell _ _ _ _⟩
structure qrl (w:World) (b so:Nat) (vs:Nat->Value) (Ls:Nat->List Ver):Prop where
 box:qr8 w b so [vs 0,vs 1,vs 2,vs 3,vs 4,vs 5,vs 6,vs 7]
 own:∀k,k<8->w.ownsRow 0 130 6 (vs k) (Ls k).length (qa4 (Ls k))
 sorted:∀k,k<8->Sorted (Ls k)
 apart:∀k,k<8->(vs k).ownBlock≠some b
 apart2:∀i j,i<8->j<8->i≠j->∀g,(vs i).ownBlock=some g->(vs j).ownBlock≠some g
variable {vs:Nat->Value} {Ls:Nat->List Ver} {k:Nat}
theorem qrl.cell (h:qrl w b so vs Ls) (a:k<8):w.cell? ⟨b,so+k,none⟩=some (vs k):=
 h.box.cell k (vs k) (by rcases jaw a with rfl|rfl|rfl|rfl|rfl|rfl|rfl|rfl<;>rfl)
theorem qrl.free (h:qrl w b so vs Ls) (a:k<8):w.frozen? ⟨b,so+k,none⟩=false:=h.box.free k (by simpa using a)
theorem qrl.lt (h:qrl w b so vs Ls):∀k,qkn b vs k->k<w.heap.size:=λk a=>by
 rcases a with rfl|⟨i,hi,e⟩
 ·exact h.box.lt
 ·exact((h.own i hi).lt k e).2
theorem qrl.kept (h:qrl w b so vs Ls) (a:∀k,qkn b vs k->w'.heap[k]?=w.heap[k]?) (hs:w.heap.size<=w'.heap.size):qrl w' b so vs Ls:=
 ⟨h.box.kept (a b (.inl rfl)) hs,λk c=>qss (h.own k c) (λg e=>a g (.inr ⟨k,c,e⟩)),h.sorted,h.apart,h.apart2⟩
theorem qrl.later (h:qrl w b so vs Ls) (hb:Below w.heap.size w w'):qrl w' b so vs Ls:=h.kept (λk a=>hb.block k (h.lt k a)) hb.size
theorem qrl.change {c:World} (h:qrl w b so vs Ls) (l:k<8) {v':Value} {L':List Ver} (d:qae (λj=>(vs k).ownBlock=some j) w c)
 (x:c.ownsRow 0 130 6 v' L'.length (qa4 L')) (hb:∀g,v'.ownBlock=some g->(vs k).ownBlock=some g\/w.heap.size<=g) (hs:Sorted L'):
 qrl (c.setCell ⟨b,so+k,none⟩ v') b so (upd vs k v') (upd Ls k L')/\qae (qkn b vs) w (c.setCell ⟨b,so+k,none⟩ v')/\(∀j,qkn b (upd vs k v') j->qkn b vs j\/w.heap.size<=j)/\qkl b so w (c.setCell ⟨b,so+k,none⟩ v'):=by
 have y:=h.box.lt;have q:c.heap[b]?=w.heap[b]?:=d.block b y (h.apart k l)
 have r:v'.ownBlock≠some b:=λe=>by
  rcases hb b e with a|a
  ·exact h.apart k l a
  ·omega
 have z:=h.box.kept q d.size;have s:=qj9 b (so+k) c v';refine⟨⟨?_,λi hi=>?_,λi hi=>?_,λi hi=>?_,λi j hi f n g e=>?_⟩,?_,λj f=>?_,?_⟩
 ·rw[<-jeu vs l];exact z.set k v' (by simpa using l)
 ·by_cases e:i=k
  ·subst e;rw[qfl,qfl];exact x.kept s (.inr (λe=>r e))
  ·rw[qdc _ _ e,qdc _ _ e];refine(qss (h.own i hi) (λg u=>d.block g ((h.own i hi).lt g u).2 (h.apart2 i k hi l e g u))).kept s (.inr (h.apart i hi))
 ·by_cases e:i=k
  ·subst e;rw[qfl];exact hs
  ·rw[qdc _ _ e];exact h.sorted i hi
 ·by_cases e:i=k
  ·subst e;rw[qfl];exact r
  ·rw[qdc _ _ e];exact h.apart i hi
 ·by_cases m:i=k
  ·subst m;rw[qfl]at e;rw[qdc _ _ (Ne.symm n)];rcases hb g e with a|a
   ·exact h.apart2 i j hi f n g a
   ·intro p;have:=((h.own j f).lt g p).2;omega
  ·rw[qdc _ _ m]at e;by_cases v:j=k
   ·subst v;rw[qfl];intro p;rcases hb g p with a|a
    ·exact h.apart2 i j hi f n g e a
    ·have:=((h.own i hi).lt g e).2;omega
   ·rw[qdc _ _ v];exact h.apart2 i j hi f n g e
 ·have A:qae (qkn b vs) w c:=⟨d.os,d.tape,d.output,d.size,λj f B=>d.block j f (λe=>B (.inr ⟨k,l,e⟩))⟩;exact A.trans (qae.setCell c ⟨b,so+k,none⟩ v' (.inl rfl))
 ·rcases f with rfl|⟨i,hi,e⟩
  ·exact .inl (.inl rfl)
  ·by_cases m:i=k
   ·subst m;rw[qfl]at e;rcases hb j e with a|a
    ·exact .inl (.inr ⟨i,hi,a⟩)
    ·exact .inr a
   ·rw[qdc _ _ m]at e;exact .inl (.inr ⟨i,hi,e⟩)
 ·exact(qkl.ofBlock q).trans (qkl.set b so k l c v')
def qp6 (w:World) (b so:Nat) (F:Nat->Prop) (l:List Hd):Prop:=∃vs Ls,qrl w b so vs Ls/\qea Ls l/\∀k,F k↔qkn b vs k
theorem qea.qlast {l:List Hd} (h:qea Ls l) (R:qrl w b so vs Ls) (c:qiz l) (a:k<8) (a0 a1 a2 a3:Int):qde k a0 a1 a2 a3 l=qgv a0 a1 a2 a3 (Ls k):=q8g c (R.sorted k a) (h.mem a)
end
section
open Tryz Go.Value Go.IntKind Go.RowKit
def qld (w:World) (b so:Nat) (F:Nat->Prop) (l':List Hd) (w':World):Prop:=∃F',qp6 w' b so F' l'/\(∀k,F' k->F k\/w.heap.size<=k)/\qae F w w'/\qkl b so w w'
variable {w w':World} {b so:Nat} {F:Nat->Prop} {l:List Hd}
theorem qp6.kept (h:qp6 w b so F l) (c:∀k,F k->w'.heap[k]?=w.heap[k]?) (hs:w.heap.size<=w'.heap.size):qp6 w' b so F l:=by
 obtain⟨d,e,R,H,a⟩:=h;exact⟨d,e,R.kept (λk f=>c k ((a k).2 f)) hs,H,a⟩
theorem qp6.lt (h:qp6 w b so F l):∀k,F k->k<w.heap.size:=by
 obtain⟨d,e,R,H,a⟩:=h;exact λk c=>R.lt k ((a k).1 c)
theorem qld.same (h:qp6 w b so F l) (hb:Below w.heap.size w w'):qld w b so F l w':=
 ⟨F,h.kept (λk a=>hb.block k (h.lt k a)) hb.size,λ_ a=>.inl a,qae.ofBelow hb,by
   obtain⟨c,d,R,H,e⟩:=h
   exact qkl.ofBlock (hb.block b R.box.lt)⟩
theorem q09 {key:Int} (h:inB key 0 7=false) (v:Ver) (w:World) (c:qp6 w b so F l):
 Calls prog 272 #[.pointer (some ⟨b,so,none⟩),int i64 key,.agg #[int i64 v.wall,int i64 v.count,int i64 v.site,int i64 v.seq,.string v.data,.bool v.gone]] w λe w'=>e=.returned (qbq (qig l key v))/\qld w b so F (qgp l key v) w':=by
 have e:qig l key v=2:=by unfold qig;rw[h];rfl
 have a:qgp l key v=l:=by unfold qgp;rw[e];rfl
 rw[e,a];have H:Hid _:=h;clear h e a;go_enter func272,ntmps272
 go_wp2_with fail
 refine(qlq H.out _).mono ?_;rintro e d ⟨rfl,rfl⟩
 go_wp2_with fail
 go_ret;exact⟨rfl,qld.same c (boxed (Below.refl _ _) _)⟩
theorem q6y {key:Int} (h:inB key 0 7=true) (v:Ver) (a:qd2 v=false) (w:World) (d:qp6 w b so F l):
 Calls prog 272 #[.pointer (some ⟨b,so,none⟩),int i64 key,.agg #[int i64 v.wall,int i64 v.count,int i64 v.site,int i64 v.seq,.string v.data,.bool v.gone]] w λe w'=>e=.returned (qbq (qig l key v))/\qld w b so F (qgp l key v) w':=by
 have e:qig l key v=1:=by unfold qig;rw[h,a];rfl
 have c:qgp l key v=l:=by unfold qgp;rw[e];rfl
 rw[e,c];have H:Hid _:=h;have g:Hid _:=a;clear h a e c;go_enter func272,ntmps272
 go_wp2_with fail
 refine(qlq H.out _).mono ?_;rintro e i ⟨rfl,rfl⟩
 go_wp2_with fail
 refine(qrg g.out _).mono ?_;rintro e i ⟨rfl,j⟩
 go_wp2_with fail
 go_ret;exact⟨rfl,qld.same d (qab (boxed (Below.refl _ _) _) j)⟩
theorem jb4 {key:Int} (h:inB key 0 7=true) (v:Ver) (V:qd2 v=true) (w:World) (W:qp6 w b so F l) (hl:l.length<=1000):
 Calls prog 272 #[.pointer (some ⟨b,so,none⟩),int i64 key,.agg #[int i64 v.wall,int i64 v.count,int i64 v.site,int i64 v.seq,.string v.data,.bool v.gone]] w λe w'=>e=.returned (qbq (qig l key v))/\qld w b so F (qgp l key v) w':=by
 have hne:=Later.one;obtain⟨I,c,R,J,X⟩:=id W;have hk:=qa5.1 h;obtain⟨k,rfl⟩:∃k:Nat,key=(k:Int):=⟨key.toNat,by omega⟩
 have d:k<8:=by omega
 have hkz:(k:Int)<8:=by omega
 obtain⟨p,B⟩:=qtt v (R.sorted k d);have s:=qu8 (R.sorted k d) B;rw[<-q8y J d v]at s;obtain⟨a,cap,o,hV⟩:=qg9 (R.own k d);have Y:(c k).length<=1000:=Nat.le_trans (J.len d) hl;have m:=qag.new (w:=w) (T:=130) (qah v) rfl;have hb:=boxed (Below.refl _ w) (.cells #[int i64 v.wall,int i64 v.count,int i64 v.site,int i64 v.seq,.string v.data,.bool v.gone] 130);change qag (w.alloc (.cells #[int i64 v.wall,int i64 v.count,int i64 v.site,int i64 v.seq,.string v.data,.bool v.gone] 130)) w.heap.size (qah v)at m;have H:Hid _:=h;have K:Hid _:=V;clear h V hk;go_enter func272,ntmps272
 go_wp2_with fail
 refine(qlq H.out _).mono ?_;rintro e L ⟨rfl,rfl⟩
 go_wp2_with fail
 refine(qrg K.out _).mono ?_;rintro e L ⟨rfl,M⟩;replace m:=m.later M;replace hb:=qab hb M;clear M;have Z:=R.later hb
 have k0:L.cell? ⟨b,so+k,none⟩=some (.slice a (c k).length cap):=by rw[<-o];exact Z.cell d
 have l0:=Later.cell k0;have x0:=Later.cell (m.cell 0 _ rfl);have x1:=Later.cell (m.cell 1 _ rfl);have x2:=Later.cell (m.cell 2 _ rfl);have x3:=Later.cell (m.cell 3 _ rfl);have x4:=Later.cell (m.cell 4 _ rfl);have x5:=Later.cell (m.cell 5 _ rfl)
 have C:Hid (∀x:Later L,Calls prog 284 #[.slice a (c k).length cap,.agg #[int i64 v.wall,int i64 v.count,int i64 v.site,int i64 v.seq,.string v.data,.bool v.gone],.func (.func 285) #[] #[]] x.val λe w'=>e=.returned (.tuple #[int i64 p,.bool (qhu (c k) v p)])/\Below x.val.heap.size x.val w'):=
  λx=>q5t B x.val ((hV.later hb).later x.below) (R.sorted k d) Y
 obtain⟨fb,N⟩:∃fb,qhu (c k) v p=fb:=⟨_,rfl⟩;rw[N]at C s;have FB:Hid _:=N;have D:Hid _:=B;clear N B;cases fb
 ·have y:Hid (qig l k v=0):=by
   show qig l k v=0;unfold qig
   have:l.any (qfa k v)=false:=by
        cases hq:l.any (qfa k v)
        ·rfl
        ·have:=s.2 hq;cases this
   rw[H.out,K.out,this];rfl
  have O:Hid (qgp l k v=l++[⟨k,v⟩]):=by show qgp l k v=_;unfold qgp;rw[y.out];rfl
  clear s
  go_wp2_with fail
  refine qaa (by kernel_rfl) (by kernel_rfl) ?_
  repeat (go_big_quiet_step ((go_at_call 284;with_reducible exact qac (C.out _))))
  refine wpQuiet_nil ?_;rintro i ⟨⟨_,z⟩,rfl⟩;have hb5:=qab hb z;have RX5:=m.later z;have q:=Z.later z
  have k5:i.cell? ⟨b,so+k,none⟩=some (.slice a (c k).length cap):=by rw[<-o];exact q.cell d
  obtain⟨y0,y1,y2,y3,y4,y5⟩:=RX5.c6
  have ownA:(i.drew.alloc (.cells #[int i64 v.wall,int i64 v.count,int i64 v.site,int i64 v.seq,.string v.data,.bool v.gone] 130)).ownsRow 0 130 6 (.slice a (c k).length cap) (c k).length (qa4 (c k)):=by
   rw[<-o];exact World.ownsRow.alloc (show i.drew.ownsRow 0 130 6 (I k) (c k).length (qa4 (c k))from q.own k d) _
  have vbne:(Value.slice a (c k).length cap).ownBlock≠some i.heap.size:=by
   rw[<-o];intro e;have:=((q.own k d).lt _ e).2;omega
  have IN:Hid (Calls prog 286 #[.slice a (c k).length cap,int i64 p,.slice (some ⟨i.heap.size,0,none⟩) 1 1] (i.drew.alloc (.cells #[int i64 v.wall,int i64 v.count,int i64 v.site,int i64 v.seq,.string v.data,.bool v.gone] 130)) λe w'=>
   ∃g u,e=.returned (.slice (some ⟨g,0,none⟩) ((c k).length+1) u)/\qhn (i.drew.alloc (.cells #[int i64 v.wall,int i64 v.count,int i64 v.site,int i64 v.seq,.string v.data,.bool v.gone] 130)) (.slice a (c k).length cap) (qsw (c k) p v) g u w'):=
   qy8 v i.heap.size _ ownA D.out.1 Y (heap_alloc_new i.drew _) vbne
  have bfree:=q.free d;have hbl:=q.box.lt;have P:=q.apart k d;rw[o]at P;clear ownA vbne x0 x1 x2 x3 x4 x5 l0 k0 C
  go_wp2_with fail
  go_region_law (
   refine qav rfl 286 #[.slice a (c k).length cap,int i64 p,.slice (some ⟨i.heap.size,0,none⟩) 1 1] (by go_simp) IN.out ?_;rintro e E ⟨g,u,rfl,G⟩;refine⟨_,rfl,?_⟩;have Q:Hid _:=G;have B8:=((q.box.drew).boxed (.cells #[int i64 v.wall,int i64 v.count,int i64 v.site,int i64 v.seq,.string v.data,.bool v.gone] 130)).grown G.2.1 (λe=>P e.symm)
   have c8:E.cell? ⟨b,so+k,none⟩=some (.slice a (c k).length cap):=by rw[World.cell?_of_block (w:=i) ((G.2.1.block b (by simp;omega) (λe=>P e.symm)).trans (Below.heap_alloc i.drew _ b hbl)),k5]
   have f8:E.frozen? ⟨b,so+k,none⟩=false:=B8.free k (by simpa using d)
   clear G)
  all_goals
   have TW:qae (λj=>(I k).ownBlock=some j) w E:=by
        rw[o];exact((qae.ofBelow hb5).trans (qae.ofBelow (boxed ((Below.refl _ i).drew) _))).trans (qae.grown Q.out.2.1 (λj r=>r))
   have S:=Q.out.1;rw[qik v D.out.1]at S
   have n:=R.change d (v':=.slice (some ⟨g,0,none⟩) ((c k).length+1) u) (L':=qsw (c k) p v) TW (by rw[qik v D.out.1];exact S) (λj r=>by
        have e:g=j:=by simpa[Value.ownBlock]using r
        subst e;rcases Q.out.2.2 with U|U
        ·left
         rw[o];exact U
        ·right
         have:=hb5.size;simp at U
         omega) (q04 (R.sorted k d) D.out FB.out)
   have FIN:Hid (qld w b so F (l++[⟨k,v⟩]) (E.setCell ⟨b,so+k,none⟩ (.slice (some ⟨g,0,none⟩) ((c k).length+1) u))):=
        ⟨qkn b (upd I k (.slice (some ⟨g,0,none⟩) ((c k).length+1) u)),⟨_,_,n.1,J.put d v p,λ_=>Iff.rfl⟩,λj r=>(n.2.2.1 j r).imp_left (X j).2,⟨n.2.1.os,n.2.1.tape,n.2.1.output,n.2.1.size,λj r hn=>n.2.1.block j r (λe=>hn ((X j).2 e))⟩,n.2.2.2⟩
   clear n S TW
   go_wp2_with fail
   go_ret;rw[y.out,O.out];exact⟨rfl,FIN.out⟩
 ·have y:Hid (qig l k v=9):=by
   show qig l k v=9;unfold qig;rw[H.out,K.out,s.1 rfl];rfl
  have O:Hid (qgp l k v=l):=by show qgp l k v=_;unfold qgp;rw[y.out];rfl
  clear s
  go_wp2_with fail
  refine qaa (by kernel_rfl) (by kernel_rfl) ?_
  repeat (go_big_quiet_step ((go_at_call 284;with_reducible exact qac (C.out _))))
  refine wpQuiet_nil ?_;rintro i ⟨⟨_,z⟩,rfl⟩
  go_wp2_with fail
  go_ret;rw[y.out,O.out];exact⟨rfl,qld.same W (qab hb z)⟩
theorem q9e (key:Int) (v:Ver) (w:World) (a:qp6 w b so F l) (c:l.length<=1000):
 Calls prog 272 #[.pointer (some ⟨b,so,none⟩),int i64 key,.agg #[int i64 v.wall,int i64 v.count,int i64 v.site,int i64 v.seq,.string v.data,.bool v.gone]] w λe w'=>e=.returned (qbq (qig l key v))/\qld w b so F (qgp l key v) w':=by
 cases h:inB key 0 7
 ·exact q09 h v w a
 ·cases hv:qd2 v
  ·exact q6y h v hv w a
  ·exact jb4 h v hv w a c
end
section
open Go.RowKit
theorem qae.more {F F':Nat->Prop} {w a w2:World} (h:qae F w a) (k:qae F' a w2) (f:∀j,F' j->F j\/w.heap.size<=j):qae F w w2:=
 ⟨k.os.trans h.os,k.tape.trans h.tape,k.output.trans h.output,Nat.le_trans h.size k.size,λj b c=>(k.block j (Nat.lt_of_lt_of_le b h.size) (λe=>by
   rcases f j e with d|d
   ·exact c d
   ·omega)).trans (h.block j b c)⟩
structure ApB (tb xb:Nat) (ts xs:List Value) (w:World):Prop where
 t:qag w tb ts
 x:qag w xb xs
theorem qsz:(Tryz.prog.info? 102).map (λi=>(i.zero,i.size,i.bytes))=some (some (.agg #[.int .i64 0,.int .i64 0,.int .i64 0,.int .i64 0,.int .i64 0,.int .i64 0,.int .i64 0,.int .i64 0,.slice none 0 0]),9,88):=by kernel_rfl
end
section
open Go.Value Go.IntKind Go.RowKit
def qck (S:qaf) (lv:Value) (bm:Nat):List Value:=
 [int i64 S.id,int i64 S.a0,int i64 S.a1,int i64 S.a2,int i64 S.a3,int i64 S.lw,int i64 S.lc,lv,.map (some bm),
  int i64 (S.oth 0),int i64 (S.oth 1),int i64 (S.oth 2),int i64 (S.oth 3),int i64 (S.oth 4),int i64 (S.oth 5),int i64 (S.oth 6),int i64 (S.oth 7),
  int i64 (S.oth 8),int i64 (S.oth 9),int i64 (S.oth 10),int i64 (S.oth 11),int i64 (S.oth 12),int i64 (S.oth 13),int i64 (S.oth 14),int i64 (S.oth 15)]
def qbb (b:Nat) (lv:Value) (bm:Nat) (F:Nat->Prop) (k:Nat):Prop:=k=b\/lv.ownBlock=some k\/k=bm\/F k
structure qd0 (w:World) (b:Nat) (lv:Value) (bm:Nat) (F:Nat->Prop) (S:qaf) (log waits:List TxM):Prop where
 box:qag w b (qck S lv bm)
 st:qp6 w b 25 F S.l
 rlog:w.ownsRow 0 102 9 lv log.length (qfi log)
 map:qlg w bm waits
 nl:lv.ownBlock≠some b
 nm:bm≠b
 lm:lv.ownBlock≠some bm
 lf:∀k,lv.ownBlock=some k->¬F k
 mf:¬F bm
 hold:∀m∈log++waits,qaz w m.wa m.wc m.t.ws/\∀k,m.blk k->¬qbb b lv bm F k
variable {w:World} {b bm:Nat} {lv:Value} {F:Nat->Prop} {S:qaf}
theorem qd0.lt {log waits:List TxM} (h:qd0 w b lv bm F S log waits):∀k,qbb b lv bm F k->k<w.heap.size:=λk a=>by
 rcases a with rfl|a|rfl|a
 ·exact h.box.lt
 ·exact(h.rlog.lt k a).2
 ·exact h.map.lt
 ·exact h.st.lt k a
variable {w':World}
theorem qd0.kept {log waits:List TxM} (h:qd0 w b lv bm F S log waits) (a:∀k,(qbb b lv bm F k\/∃m∈log++waits,m.blk k)->w'.heap[k]?=w.heap[k]?) (hs:w.heap.size<=w'.heap.size):qd0 w' b lv bm F S log waits:=
 ⟨h.box.kept (a b (.inl (.inl rfl))) hs,h.st.kept (λk e=>a k (.inl (.inr (.inr (.inr e))))) hs,qad h.rlog (λk e=>a k (.inl (.inr (.inl e)))),h.map.kept (a bm (.inl (.inr (.inr (.inl rfl))))),h.nl,h.nm,h.lm,h.lf,h.mf,
   λm c=>⟨(h.hold m c).1.kept (λk e=>a k (.inr ⟨m,c,e⟩)),(h.hold m c).2⟩⟩
theorem qd0.later {log waits:List TxM} (h:qd0 w b lv bm F S log waits) (hb:Below w.heap.size w w'):qd0 w' b lv bm F S log waits:=
 h.kept (λk a=>hb.block k (by
  rcases a with a|⟨m,c,e⟩
  ·exact h.lt k a
  ·exact(h.hold m c).1.blk_lt k e)) hb.size
theorem qd0.hold' {c:Value} {F':Nat->Prop} {m:TxM} (a:qaz w m.wa m.wc m.t.ws/\∀k,m.blk k->¬qbb b lv bm F k) (f:qae (qbb b lv bm F) w w') (g:∀k,qbb b c bm F' k->qbb b lv bm F k\/w.heap.size<=k):
 qaz w' m.wa m.wc m.t.ws/\∀k,m.blk k->¬qbb b c bm F' k:=
 ⟨a.1.kept (λk e=>f.block k (a.1.blk_lt k e) (a.2 k e)),λk e h=>by
   rcases g k h with d|d
   ·exact a.2 k e d
   ·have:=a.1.blk_lt k e
    omega⟩
theorem qd0.store {log waits:List TxM} {n:List Hd} (h:qd0 w b lv bm F S log waits) (s:qld w b 25 F n w'):
 ∃F',qd0 w' b lv bm F' {S with l:=n} log waits/\(∀k,qbb b lv bm F' k->qbb b lv bm F k\/w.heap.size<=k)/\qae (qbb b lv bm F) w w':=by
 obtain⟨F',st,i,d,o⟩:=s
 have p:∀k,qbb b lv bm F' k->qbb b lv bm F k\/w.heap.size<=k:=λk a=>by
  rcases a with a|a|a|a
  ·exact .inl (.inl a)
  ·exact .inl (.inr (.inl a))
  ·exact .inl (.inr (.inr (.inl a)))
  ·rcases i k a with c|c
   ·exact .inl (.inr (.inr (.inr c)))
   ·exact .inr c
 have q:qae (qbb b lv bm F) w w':=⟨d.os,d.tape,d.output,d.size,λk a g=>d.block k a (λe=>g (.inr (.inr (.inr e))))⟩;have t:∀k,lv.ownBlock=some k->w'.heap[k]?=w.heap[k]?:=λk e=>d.block k (h.rlog.lt k e).2 (h.lf k e);refine⟨F',⟨⟨λj v r=>?_,λj f=>?_,Nat.lt_of_lt_of_le h.box.lt d.size⟩,st,qad h.rlog t,h.map.kept (d.block bm h.map.lt h.mf),h.nl,h.nm,h.lm,λk e g=>?_,λg=>?_,λm u=>qd0.hold' (h.hold m u) q p⟩,p,q⟩
 ·have f:j<25:=by
   have:=(List.getElem?_eq_some_iff.1 r).1;simpa[qck]using this
  rw[(o j (.inl f)).1];exact h.box.cell j v r
 ·have f:j<25:=by simpa[qck]using f
  rw[(o j (.inl f)).2];exact h.box.free j (by simpa[qck]using f)
 ·rcases i k g with c|c
  ·exact h.lf k e c
  ·have:=(h.rlog.lt k e).2;omega
 ·rcases i bm g with c|c
  ·exact h.mf c
  ·have:=h.map.lt;omega
theorem qr8.other {o:Nat} {a:List Value} (h:qr8 w b o a) (k:Nat) (u:Value) (f:k<o):qr8 (w.setCell ⟨b,k,none⟩ u) b o a:=
 ⟨λj v c=>by rw[World.cell?_setCell_other _ _ _ _ (by intro e;injection e with _ e _;omega)];exact h.cell j v c,λj d=>by rw[World.frozen?_setCell];exact h.free j d,by simpa[World.setCell]using h.lt⟩
theorem qp6.other {l:List Hd} (h:qp6 w b 25 F l) (k:Nat) (u:Value) (a:k<25):qp6 (w.setCell ⟨b,k,none⟩ u) b 25 F l:=by
 obtain⟨c,d,R,f,j⟩:=h;exact⟨c,d,⟨R.box.other k u a,λi hi=>qss (R.own i hi) (λg e=>Below.heap_setCell _ _ _ _ (λ(x:g=b)=>R.apart i hi (by rw[<-x];exact e))),R.sorted,R.apart,R.apart2⟩,f,j⟩
theorem qd0.cell {S':qaf} {log waits:List TxM} (h:qd0 w b lv bm F S log waits) (k:Nat) (u:Value) (c:k<25) (d:(qck S lv bm).set k u=qck S' lv bm) (f:S'.l=S.l):qd0 (w.setCell ⟨b,k,none⟩ u) b lv bm F S' log waits:=
 ⟨by rw[<-d];exact h.box.set k u (by simpa[qck]using c),by rw[f];exact h.st.other k u c,qad h.rlog (λg e=>Below.heap_setCell _ _ _ _ (λ(x:g=b)=>h.nl (by rw[<-x];exact e))),h.map.kept (Below.heap_setCell _ _ _ _ h.nm),h.nl,h.nm,h.lm,h.lf,h.mf,
   λm a=>⟨(h.hold m a).1.kept (λg e=>Below.heap_setCell _ _ _ _ (λx=>(h.hold m a).2 g e (.inl x))),(h.hold m a).2⟩⟩
theorem qd0.seq {log waits:List TxM} (h:qd0 w b lv bm F S log waits) {s:Int} (x:Int) (c:0<=s) (d:s<=3):
 qd0 (w.setCell ⟨b,1+s.toNat,none⟩ (int i64 x)) b lv bm F {S with a0:=qh4 s x S.a0,a1:=qhq s x S.a1,a2:=qhs s x S.a2,a3:=qh6 s x S.a3} log waits:=by
 refine h.cell (1+s.toNat) (int i64 x) (by omega) ?_ rfl
 have a:s=0\/s=1\/s=2\/s=3:=by omega
 rcases a with rfl|rfl|rfl|rfl<;>rfl
theorem qd0.last {log waits:List TxM} (h:qd0 w b lv bm F S log waits) (x y:Int):
 qd0 ((w.setCell ⟨b,5,none⟩ (int i64 x)).setCell ⟨b,6,none⟩ (int i64 y)) b lv bm F {S with lw:=x,lc:=y} log waits:=
 (h.cell (S':={S with lw:=x}) 5 (int i64 x) (by omega) rfl rfl).cell 6 (int i64 y) (by omega) rfl rfl
theorem qd0.append {f:World} {log waits:List TxM} (h:qd0 w b lv bm F S log waits) (m:TxM) (s:qaz w m.wa m.wc m.t.ws/\∀k,m.blk k->¬qbb b lv bm F k) {g d:Nat} (gr:w.grownBy f lv.ownBlock)
 (u:f.ownsRow 0 102 9 (.slice (some ⟨g,0,none⟩) (log.length+1) d) (log.length+1) (qfi log++txC m)) (j:lv.ownBlock=some g\/w.heap.size<=g):
 qd0 (f.setCell ⟨b,7,none⟩ (.slice (some ⟨g,0,none⟩) (log.length+1) d)) b (.slice (some ⟨g,0,none⟩) (log.length+1) d) bm F S (log++[m]) waits/\(∀k,qbb b (.slice (some ⟨g,0,none⟩) (log.length+1) d) bm F k->qbb b lv bm F k\/w.heap.size<=k)/\
  qae (qbb b lv bm F) w (f.setCell ⟨b,7,none⟩ (.slice (some ⟨g,0,none⟩) (log.length+1) d)):=by
 have gk:∀k,(Value.slice (some ⟨g,0,none⟩) (log.length+1) d).ownBlock=some k->g=k:=λk a=>by simpa[Value.ownBlock]using a
 have n:∀k,qbb b (.slice (some ⟨g,0,none⟩) (log.length+1) d) bm F k->qbb b lv bm F k\/w.heap.size<=k:=λk a=>by
  rcases a with a|a|a
  ·exact .inl (.inl a)
  ·obtain rfl:=gk k a;rcases j with c|c
   ·exact .inl (.inr (.inl c))
   ·exact .inr c
  ·exact .inl (.inr (.inr a))
 have gn:∀k,k<w.heap.size->lv.ownBlock≠some k->g≠k:=λk a c e=>by
  rcases j with i|i
  ·exact c (by rw[<-e];exact i)
  ·omega
 have o:qae (qbb b lv bm F) w (f.setCell ⟨b,7,none⟩ (.slice (some ⟨g,0,none⟩) (log.length+1) d)):=(qae.grown gr (λk a=>.inr (.inl a))).trans (qae.setCell f ⟨b,7,none⟩ _ (.inl rfl));have p:g≠b:=gn b h.box.lt h.nl;have v:qp6 f b 25 F S.l:=h.st.kept (λk e=>gr.block k (h.st.lt k e) (λx=>h.lf k x.symm e)) gr.size;refine⟨⟨(h.box.grown gr (λe=>h.nl e.symm)).set 7 _ (by simp[qck]),v.other 7 _ (by omega),?_,(h.map.kept (gr.block bm h.map.lt (λx=>h.lm x.symm))).kept (Below.heap_setCell _ _ _ _ h.nm),λe=>p (gk b e),h.nm,λe=>gn bm h.map.lt h.lm (gk bm e),λk e q=>?_,h.mf,λr y=>qd0.hold' (lv:=lv) (F:=F) (w:=w) ?_ o n⟩,n,o⟩
 ·have:=u.kept (row:=some b) (qj9 b 7 f (.slice (some ⟨g,0,none⟩) (log.length+1) d)) (.inr (λe=>p (gk b e)));rw[qlp,List.length_append];exact this
 ·obtain rfl:=gk k e;rcases j with c|c
  ·exact h.lf _ c q
  ·have:=h.st.lt _ q;omega
 ·rcases List.mem_append.1 y with c|c
  ·rcases List.mem_append.1 c with i|i
   ·exact h.hold r (List.mem_append.2 (.inl i))
   ·obtain rfl:=List.mem_singleton.1 i;exact s
  ·exact h.hold r (List.mem_append.2 (.inr c))
theorem qd0.turn {log waits c:List TxM} (h:qd0 w b lv bm F S log waits) (gr:w.grownBy w' (some bm)) (i:qlg w' bm c) (j:∀m∈c,m∈waits\/(qaz w m.wa m.wc m.t.ws/\∀k,m.blk k->¬qbb b lv bm F k)):qd0 w' b lv bm F S log c:=
 have ne:∀k,k≠bm->k<w.heap.size->w'.heap[k]?=w.heap[k]?:=λk l n=>gr.block k n (λe=>l (by injection e));have d:∀m:TxM,(qaz w m.wa m.wc m.t.ws/\∀k,m.blk k->¬qbb b lv bm F k)->(qaz w' m.wa m.wc m.t.ws/\∀k,m.blk k->¬qbb b lv bm F k):=λm a=>⟨a.1.kept (λk e=>ne k (λx=>a.2 k e (.inr (.inr (.inl x)))) (a.1.blk_lt k e)),a.2⟩
 ⟨h.box.kept (ne b (Ne.symm h.nm) h.box.lt) gr.size,h.st.kept (λk e=>ne k (λx=>h.mf (by rw[<-x];exact e)) (h.st.lt k e)) gr.size,qad h.rlog (λk e=>ne k (λx=>h.lm (by rw[<-x];exact e)) (h.rlog.lt k e).2),i,h.nl,h.nm,h.lm,h.lf,h.mf,
   λm a=>by
    rcases List.mem_append.1 a with f|f
    ·exact d m (h.hold m (List.mem_append.2 (.inl f)))
    ·rcases j m f with g|g
     ·exact d m (h.hold m (List.mem_append.2 (.inr g)))
     ·exact d m g⟩
end
section
open Go.RowKit
def okT (t:TxP):Bool:=qdf t.site t.seq t.wall t.count t.d0 t.d1 t.d2 t.d3 t.ws
variable {t:TxP}
theorem qei (h:okT t=true):(0<=t.site/\t.site<=3)/\(1<=t.seq/\t.seq<=1099511627776)/\1<=t.ws.length/\t.ws.length<=5:=by
 simp only[okT,qdf,Bool.and_eq_true,qa5,qe8]at h;refine⟨h.1.1.1.1.1,h.1.1.1.1.2,?_⟩;have:=h.2.2;omega
def qd5 (x:Int):Prop:=0<=x/\x<=1099511627776
structure qcx (S:qaf):Prop where
 id0:0<=S.id
 id3:S.id<=3
 nums:qpq S.waits
 wt:∀x∈S.waits,okT x=true/\x.site≠S.id
 a0:qd5 S.a0
 a1:qd5 S.a1
 a2:qd5 S.a2
 a3:qd5 S.a3
 own:qaq S.id S.a0 S.a1 S.a2 S.a3<=S.log.length
 log:S.log.length<=200
 lsite:∀x∈S.log,(0<=x.site/\x.site<=3)/\1<=x.ws.length/\x.ws.length<=5
 len:S.l.length<=5*S.log.length
 apart:qiz S.l
 ok:∀h∈S.l,qd2 h.v=true
variable {S:qaf}
theorem qcx.dep (h:qcx S) (s:Int):qd5 (qaq s S.a0 S.a1 S.a2 S.a3):=by
 unfold qaq;split
 ·exact h.a0
 ·split
  ·exact h.a1
  ·split
   ·exact h.a2
   ·exact h.a3
theorem ja0 {l:List Hd} {key:Int} {v:Ver} (h:∀x∈l,qd2 x.v=true):∀x∈qgp l key v,qd2 x.v=true:=by
 unfold qgp;split
 ·rename_i e;intro x b;rcases List.mem_append.1 b with a|a
  ·exact h x a
  ·obtain rfl:=List.mem_singleton.1 a;unfold qig at e;split at e
   ·split at e
    ·rename_i c;exact c
    ·cases e
   ·cases e
 ·exact h
theorem qtr (t:TxP):∀(ws:List Wr) (l:List Hd),qiz l->(∀x∈l,qd2 x.v=true)->qiz (qgw t ws l)/\∀x∈qgw t ws l,qd2 x.v=true
 |[],_,h1,h2=>⟨h1,h2⟩
 |x::ws,l,h1,h2=>qtr t ws (qgp l x.key (qul t x)) (q52 h1) (ja0 h2)
theorem q8p (t:TxP) (s:Int) (b:0<=s) (c:s<=3):qaq s (qcb S t).a0 (qcb S t).a1 (qcb S t).a2 (qcb S t).a3=if s=t.site then t.seq else qaq s S.a0 S.a1 S.a2 S.a3:=by
 have a:s=0\/s=1\/s=2\/s=3:=by omega
 rcases a with rfl|rfl|rfl|rfl<;>simp[qcb,qaq,qh4,qhq,qhs,qh6,eq_comm]
theorem qcx.applied (h:qcx S) (hs:0<=t.site/\t.site<=3) (a:qd5 t.seq) (d:1<=t.ws.length/\t.ws.length<=5) (f:t.site=S.id->t.seq<=S.log.length+1) (i:S.log.length<200):qcx (qcb S t):=by
 have c:=qtr t t.ws S.l h.apart h.ok;refine⟨h.id0,h.id3,h.nums,h.wt,?_,?_,?_,?_,?_,?_,?_,?_,c.1,c.2⟩
 ·show qd5 (qh4 _ _ _);unfold qh4;split;exact a;exact h.a0
 ·show qd5 (qhq _ _ _);unfold qhq;split;exact a;exact h.a1
 ·show qd5 (qhs _ _ _);unfold qhs;split;exact a;exact h.a2
 ·show qd5 (qh6 _ _ _);unfold qh6;split;exact a;exact h.a3
 ·show qaq S.id _ _ _ _<=_;rw[q8p t S.id h.id0 h.id3];have:=h.own;split
  ·rename_i e;have:=f e.symm;simp[qcb];omega
  ·simp[qcb];omega
 ·simp[qcb];omega
 ·intro x g;rcases List.mem_append.1 (show x∈S.log++[t]from g)with b|b
  ·exact h.lsite x b
  ·obtain rfl:=List.mem_singleton.1 b;exact⟨hs,d⟩
 ·have:=qg5 t t.ws S.l;have:=h.len;simp[qcb];omega
theorem qcx.drop (h:qcx S) (t:TxP):qcx {S with waits:=qh0 S.waits t}:=
 ⟨h.id0,h.id3,h.nums.drop t,λx a=>h.wt x (qu7.1 a).1,h.a0,h.a1,h.a2,h.a3,h.own,h.log,h.lsite,h.len,h.apart,h.ok⟩
theorem qcx.wait (h:qcx S) (b:okT t=true) (c:t.site≠S.id) (d:∀x∈S.waits,qcl x t=false):qcx {S with waits:=S.waits++[t]}:=
 ⟨h.id0,h.id3,h.nums.snoc d,λx e=>by
   rcases List.mem_append.1 e with a|a
   ·exact h.wt x a
   ·obtain rfl:=List.mem_singleton.1 a
    exact⟨b,c⟩,h.a0,h.a1,h.a2,h.a3,h.own,h.log,h.lsite,h.len,h.apart,h.ok⟩
theorem qcx.gone (h:qcx S) {x:TxP} (a:x∈S.waits) (b:S.log.length<200):qcx (qnp S x):=by
 obtain⟨c,d⟩:=h.wt x a;obtain⟨p1,p2,p3⟩:=qei c;exact(h.drop x).applied p1 ⟨by omega,p2.2⟩ p3 (λe=>absurd e d) b
theorem Goes.inv {S':qaf} (h:Goes S S'):qcx S->qcx S':=by
 induction h with
 |full _=>exact id
 |none _=>exact id
 |step h1 h2 _ ih=>exact λk=>ih (k.gone (qmj h2).1 h1)
theorem qcx.swept (h:qcx S) (x0 x1 x2 x3:Int):qcx {S with l:=qfr x0 x1 x2 x3 S.l}:=
 ⟨h.id0,h.id3,h.nums,h.wt,h.a0,h.a1,h.a2,h.a3,h.own,h.log,h.lsite,Nat.le_trans qr1 h.len,qwk h.apart,λx a=>h.ok x (List.mem_filter.1 a).1⟩
theorem qcx.knows (h:qcx S) (f:Nat->Int):qcx {S with oth:=f}:=
 ⟨h.id0,h.id3,h.nums,h.wt,h.a0,h.a1,h.a2,h.a3,h.own,h.log,h.lsite,h.len,h.apart,h.ok⟩
def qpo (id:Int):qaf:=⟨id,0,0,0,0,0,0,[],[],[],λ_=>0⟩
theorem qz9 (s:Int):qaq s 0 0 0 0=0:=by
 unfold qaq;split
 ·rfl
 ·split
  ·rfl
  ·split<;>rfl
theorem qkb:qd5 0:=⟨by omega,by omega⟩
theorem qcx.new {id:Int} (a:0<=id) (b:id<=3):qcx (qpo id):=
 ⟨a,b,by simp[qpo,qpq],by simp[qpo],qkb,qkb,qkb,qkb,by show qaq id 0 0 0 0<=_;rw[qz9];simp,by simp[qpo],by simp[qpo],by simp[qpo],λx c=>by simp[qpo]at c,by simp[qpo]⟩
end
section
open Go.RowKit
theorem q31:∀(l:List TxM) (i:Nat) (m:TxM) (r:Nat) (u:Value),l[i]?=some m->(txC m)[r]?=some u->(qfi l)[i*9+r]?=some u
 |[],_,_,_,_,h,_=>by simp at h
 |x::l,0,m,r,u,h,hu=>by
  obtain rfl:x=m:=by simpa using h
  have a:r<(txC x).length:=(List.getElem?_eq_some_iff.1 hu).1;show (txC x++qfi l)[0*9+r]?=some u;rw[Nat.zero_mul,Nat.zero_add,List.getElem?_append_left a];exact hu
 |x::l,i+1,m,r,u,h,hu=>by
  have b:=q31 l i m r u (by simpa using h) hu;show (txC x++qfi l)[(i+1)*9+r]?=some u
  have e:(i+1)*9+r=(txC x).length+(i*9+r):=by simp[txC];omega
  rw[e,List.getElem?_append_right (by omega),Nat.add_sub_cancel_left];exact b
structure qew (w:World) (a:Option Addr) (cap:Nat) (l:List TxM):Prop where
 len:l.length<=cap
 cap:cap<=9223372036854775807
 held:l=[]\/∃b off,a=some ⟨b,off,none⟩/\∀i m r u,l[i]?=some m->(txC m)[r]?=some u->w.cell? ⟨b,off+(i*9+r),none⟩=some u
variable {w:World} {l:List TxM}
theorem qew.later {w':World} {a:Option Addr} {cap:Nat} (hb:Below w.heap.size w w') (h:qew w a cap l):qew w' a cap l:=
 ⟨h.len,h.cap,h.held.elim .inl λ⟨b,d,e,c⟩=>.inr ⟨b,d,e,λi m r u hi f=>cell_later hb (c i m r u hi f)⟩⟩
theorem qbl {B:Nat} {T:TypeId} {v:Value} (h:w.ownsRow B T 9 v l.length (qfi l)):∃a cap,v=.slice a l.length cap/\qew w a cap l:=by
 rcases h.2 with ⟨rfl,b⟩|⟨g,cap,cur,rfl,hb,j,d,e,hs,k⟩
 ·exact⟨none,0,by rw[b],⟨by omega,by omega,.inl (List.eq_nil_of_length_eq_zero b)⟩⟩
 ·refine⟨_,cap,rfl,⟨d,by simp only[maxLen]at e;omega,.inr ⟨g,0,rfl,λi m r u hi f=>?_⟩⟩⟩;have c:=h.cells (g:=g) rfl _ _ (q31 l i m r u hi f);rw[qc7]at c;rw[Nat.zero_add];exact c
def qgl (h0 h1 h2 h3:Int) (m:TxM):Bool:=decide (qaq m.t.site h0 h1 h2 h3<m.t.seq)
end
section
open Go.Value Go.IntKind Go.RowKit
def qfp (lw lc now:Int):Int×Int×Int:=
 if (qal lw&&qal lc)=false then (0,0,2)else if qal now=false then (0,0,2)else if lw<now then (now,0,0)else if 1099511627776<lc+1 then (0,0,12)else (lw,lc+1,0)
def qa1 (S:qaf) (n:Nat) (now d0 d1 d2 d3:Int) (ws:List Wr):Int:=
 if qe8 ws=false then 1 else if qay d0 d1 d2 d3=false then 10 else if qfu S.a0 S.a1 S.a2 S.a3 d0 d1 d2 d3=false then 10 else if 200<=n then 12 else (qfp S.lw S.lc now).2.2
def qcd (S:qaf) (now d0 d1 d2 d3:Int) (ws:List Wr):TxP:=
 ⟨S.id,qaq S.id S.a0 S.a1 S.a2 S.a3+1,(qfp S.lw S.lc now).1,(qfp S.lw S.lc now).2.1,qh4 S.id (qaq S.id S.a0 S.a1 S.a2 S.a3) d0,qhq S.id (qaq S.id S.a0 S.a1 S.a2 S.a3) d1,qhs S.id (qaq S.id S.a0 S.a1 S.a2 S.a3) d2,qh6 S.id (qaq S.id S.a0 S.a1 S.a2 S.a3) d3,ws⟩
def txZ:List Value:=[int i64 0,int i64 0,int i64 0,int i64 0,int i64 0,int i64 0,int i64 0,int i64 0,.slice none 0 0]
abbrev qbu (w:World) (b:Nat) (x0 x1 x2 x3 x4 x5 x6 x7:Int) (v:Value):World:=
 ((((((((w.setCell ⟨b,0,none⟩ (int i64 x0)).setCell ⟨b,1,none⟩ (int i64 x1)).setCell ⟨b,2,none⟩ (int i64 x2)).setCell ⟨b,3,none⟩ (int i64 x3)).setCell ⟨b,4,none⟩ (int i64 x4)).setCell ⟨b,5,none⟩ (int i64 x5)).setCell ⟨b,6,none⟩ (int i64 x6)).setCell ⟨b,7,none⟩ (int i64 x7)).setCell ⟨b,8,none⟩ v
variable {w W:World} {b:Nat}
theorem qg3 (h:Below w.heap.size w W) (a:w.heap.size<=b) (x0 x1 x2 x3 c d e f:Int) (v:Value):Below w.heap.size w (qbu W b x0 x1 x2 x3 c d e f v):=
 ((((((((h.setCell a _).setCell a _).setCell a _).setCell a _).setCell a _).setCell a _).setCell a _).setCell a _).setCell a _
theorem qb3 {xs:List Value} (h:qag W b xs) (f:xs.length=9) (x0 x1 x2 x3 a c d e:Int) (v:Value):qag (qbu W b x0 x1 x2 x3 a c d e v) b [int i64 x0,int i64 x1,int i64 x2,int i64 x3,int i64 a,int i64 c,int i64 d,int i64 e,v]:=by
 match xs,f with
 |[_,_,_,_,_,_,_,_,_],_=>exact((((((((h.set 0 _ (by simp)).set 1 _ (by simp)).set 2 _ (by simp)).set 3 _ (by simp)).set 4 _ (by simp)).set 5 _ (by simp)).set 6 _ (by simp)).set 7 _ (by simp)).set 8 _ (by simp)
variable {a0 a1 a2 a3 s:Int}
theorem qx8 (h:qa9 w b a0 a1 a2 a3) (c:0<=s) (d:s<=3):w.frozen? ⟨b,s.toNat,none⟩=false:=by
 have a:s=0\/s=1\/s=2\/s=3:=by omega
 rcases a with rfl|rfl|rfl|rfl
 ·exact h.f0
 ·exact h.f1
 ·exact h.f2
 ·exact h.f3
theorem q2s (h:qa9 w b a0 a1 a2 a3) (c:0<=s) (d:s<=3) (x:Int):qa9 (w.setCell ⟨b,s.toNat,none⟩ (int i64 x)) b (qh4 s x a0) (qhq s x a1) (qhs s x a2) (qh6 s x a3):=by
 have a:s=0\/s=1\/s=2\/s=3:=by omega
 rcases a with rfl|rfl|rfl|rfl
 ·exact h.set0 x
 ·exact h.set1 x
 ·exact h.set2 x
 ·exact h.set3 x
theorem qmy {S:qaf} {lv wv sv:Value} (h:qag w b (qc5 S lv wv sv)) (c:0<=s) (d:s<=3):w.cell? ⟨b,1+s.toNat,none⟩=some (int i64 (qaq s S.a0 S.a1 S.a2 S.a3)):=by
 have a:s=0\/s=1\/s=2\/s=3:=by omega
 rcases a with rfl|rfl|rfl|rfl
 ·exact h.cell 1 _ rfl
 ·exact h.cell 2 _ rfl
 ·exact h.cell 3 _ rfl
 ·exact h.cell 4 _ rfl
end
section
open Go.RowKit
variable {n:Nat}
theorem qjh {S:qaf} {now d0 d1 d2 d3:Int} {ws:List Wr} (h:qa1 S n now d0 d1 d2 d3 ws=0):qe8 ws=true/\qay d0 d1 d2 d3=true/\qfu S.a0 S.a1 S.a2 S.a3 d0 d1 d2 d3=true/\¬200<=n/\(qfp S.lw S.lc now).2.2=0:=by
 unfold qa1 at h;cases h1:qe8 ws
 ·rw[if_pos h1]at h;cases h
 ·rw[if_neg (by rw[h1];decide)]at h;cases h2:qay d0 d1 d2 d3
  ·rw[if_pos h2]at h;cases h
  ·rw[if_neg (by rw[h2];decide)]at h;cases h3:qfu S.a0 S.a1 S.a2 S.a3 d0 d1 d2 d3
   ·rw[if_pos h3]at h;cases h
   ·rw[if_neg (by rw[h3];decide)]at h;by_cases a:200<=n
    ·rw[if_pos a]at h;cases h
    ·rw[if_neg a]at h;exact⟨rfl,rfl,rfl,a,h⟩
theorem qsa {w:World} {b c:Nat} {l:List Wr} (h:qd4 w b c l):∀j u,(qhp l)[j]?=some u->w.cell? ((⟨b,c,none⟩:Addr).add j)=some u:=λj u a=>by
 have d:(⟨b,c,none⟩:Addr).add j=⟨b,c+j,none⟩:=by unfold Addr.add;split<;>simp_all
 have g:j<l.length*3:=by
  have:=(List.getElem?_eq_some_iff.1 a).1;rw[qep]at this;exact this
 have hi:j/3<l.length:=by omega
 obtain⟨a0,a1,a2⟩:=qwb l (j/3) hi;obtain⟨c0,c1,c2⟩:=h (j/3) hi;rw[d]
 have f:j=j/3*3\/j=j/3*3+1\/j=j/3*3+2:=by omega
 rcases f with e|e|e
 ·rw[<-e]at a0 c0;rw[a0]at a;injection a with a;rw[<-a];exact c0
 ·rw[<-e]at a1;rw[Nat.add_assoc,<-e]at c1;rw[a1]at a;injection a with a;rw[<-a];exact c1
 ·rw[show j/3*3+1+1=j/3*3+2 from rfl,<-e]at a2;rw[show c+j/3*3+1+1=c+(j/3*3+2) by omega,<-e]at c2;rw[a2]at a;injection a with a;rw[<-a];exact c2
theorem qj0 (l:List Wr):∀u∈qhp l,u.oneCell'=true:=by
 intro u b;obtain⟨x,_,a⟩:=List.mem_flatMap.1 b;simp[wrC]at a
 rcases a with rfl|rfl|rfl<;>rfl
theorem qpf:(Tryz.prog.info? 100).map (λi=>(i.zero,i.size,i.bytes))=some (some (.agg #[.int .i64 0,.string ⟨#[]⟩,.bool false]),3,32):=by kernel_rfl
theorem qkc (w:World) (T:TypeId) (a:w.heap.size=n) (B:Nat) (b:B<=n):(w.alloc (.cells #[] T)).ownsRow B T 3 (.slice (some ⟨n,0,none⟩) 0 0) 0 []:=by
 subst a;exact⟨rfl,.inr ⟨w.heap.size,0,#[],rfl,b,heap_alloc_new w (.cells #[] T),Nat.le_refl _,by decide,rfl,rfl⟩⟩
end
section
open Tryz Go.RowKit
theorem qq1 (a0 a1 a2 a3 a b c d:Int) (w:World):
 Calls prog 205 #[.agg #[.int .i64 a0,.int .i64 a1,.int .i64 a2,.int .i64 a3],.agg #[.int .i64 a,.int .i64 b,.int .i64 c,.int .i64 d]] w λe w'=>e=.returned (.bool (qfu a0 a1 a2 a3 a b c d))/\Below w.heap.size w w':=by
 by_cases g:a0<a
 ·have e:qfu a0 a1 a2 a3 a b c d=false:=by simp[qfu];omega
  rw[e];clear e;go_enter func205,ntmps205
  go_wp2
  refine wp_loop_rounds 5 ?_;rw[rounds_succ]
  go_wp2
  go_quiet (fail)
  go_wp2
  go_ret;exact⟨rfl,by repeat (first|exact Below.refl _ _|apply qar|apply boxed)⟩
 by_cases h:a1<b
 ·have e:qfu a0 a1 a2 a3 a b c d=false:=by simp[qfu];omega
  rw[e];clear e;go_enter func205,ntmps205
  go_wp2
  refine wp_loop_rounds 5 ?_;rw[rounds_succ]
  go_wp2
  go_quiet (fail)
  go_wp2
  rw[rounds_succ]
  go_wp2
  go_quiet (fail)
  go_wp2
  go_ret;exact⟨rfl,by repeat (first|exact Below.refl _ _|apply qar|apply boxed)⟩
 by_cases i:a2<c
 ·have e:qfu a0 a1 a2 a3 a b c d=false:=by simp[qfu];omega
  rw[e];clear e;go_enter func205,ntmps205
  go_wp2
  refine wp_loop_rounds 5 ?_;rw[rounds_succ]
  go_wp2
  go_quiet (fail)
  go_wp2
  rw[rounds_succ]
  go_wp2
  go_quiet (fail)
  go_wp2
  rw[rounds_succ]
  go_wp2
  go_quiet (fail)
  go_wp2
  go_ret;exact⟨rfl,by repeat (first|exact Below.refl _ _|apply qar|apply boxed)⟩
 by_cases j:a3<d
 ·have e:qfu a0 a1 a2 a3 a b c d=false:=by simp[qfu];omega
  rw[e];clear e;go_enter func205,ntmps205
  go_wp2
  refine wp_loop_rounds 5 ?_;rw[rounds_succ]
  go_wp2
  go_quiet (fail)
  go_wp2
  rw[rounds_succ]
  go_wp2
  go_quiet (fail)
  go_wp2
  rw[rounds_succ]
  go_wp2
  go_quiet (fail)
  go_wp2
  rw[rounds_succ]
  go_wp2
  go_quiet (fail)
  go_wp2
  go_ret;exact⟨rfl,by repeat (first|exact Below.refl _ _|apply qar|apply boxed)⟩
 have e:qfu a0 a1 a2 a3 a b c d=true:=by simp[qfu];omega
 rw[e];clear e;go_enter func205,ntmps205
 go_wp2
 refine wp_loop_rounds 5 ?_;rw[rounds_succ]
 go_wp2
 go_quiet (fail)
 go_wp2
 rw[rounds_succ]
 go_wp2
 go_quiet (fail)
 go_wp2
 rw[rounds_succ]
 go_wp2
 go_quiet (fail)
 go_wp2
 rw[rounds_succ]
 go_wp2
 go_quiet (fail)
 go_wp2
 rw[rounds_succ]
 go_wp2
 go_ret;exact⟨rfl,by repeat (first|exact Below.refl _ _|apply qar|apply boxed)⟩
theorem qjq {a0 a1 a2 a3 a b c d:Int} {v:Bool} (h:qfu a0 a1 a2 a3 a b c d=v) (w:World):
 Calls prog 205 #[.agg #[.int .i64 a0,.int .i64 a1,.int .i64 a2,.int .i64 a3],.agg #[.int .i64 a,.int .i64 b,.int .i64 c,.int .i64 d]] w λe w'=>e=.returned (.bool v)/\Below w.heap.size w w':=by
 subst h;exact qq1 _ _ _ _ _ _ _ _ w
end
section
open Tryz Go.Value Go.IntKind Go.RowKit Go.Maps
def jaz (w:World) (ws:List Wr) (e:Ending) (w':World):Prop:=∃g c,e=.returned (.slice (some ⟨g,0,none⟩) ws.length c)/\qaz w' (some ⟨g,0,none⟩) c ws/\w.heap.size<=g/\Below w.heap.size w w'
theorem jd6 (p:Addr) (n c:Nat) (w:World):(binOp .eql 88 (.slice (some p) n c) (.slice none 0 0)).run prog w=.ok (.bool false) w:=by kernel_rfl
variable {ws:List Wr}
theorem q23 {a:Option Addr} {cap:Nat} (w:World) (k:qaz w a cap ws) (i:1<=ws.length) (z:ws.length<=1000):
 Calls prog 274 #[.slice a ws.length cap] w (jaz w ws):=by
 obtain⟨b,d,rfl,B⟩:∃b d,a=some ⟨b,d,none⟩/\qd4 w b d ws:=by
  rcases k.held with e|e
  ·rw[e]at i;simp at i
  ·exact e
 have P:=k.len;obtain⟨i0,hi,E,F,G⟩:=info_parts qpf;have H:=qkc w 100 rfl w.heap.size (Nat.le_refl _);have p:=boxed (Below.refl _ w) (.cells #[] 100);have I:Hid (∀j u,(qhp ws)[j]?=some u->(w.alloc (.cells #[] 100)).cell? ((⟨b,d,none⟩:Addr).add j)=some u):=qsa (B.later p);have x:Hid (1<=ws.length/\ws.length<=1000):=⟨i,z⟩;clear B k i z;have R:=jd6;go_enter func274,ntmps274
 go_wp2_with (at_builtin;refine wpList_append_lies _ rfl (.tmp 5) (.tmp 6) 88 rfl w.heap.size 100 i0 (.agg #[int i64 0,.string ⟨#[]⟩,.bool false]) 3 32 underlying88 hi E F G rfl (by decide) (.slice (some ⟨w.heap.size,0,none⟩) 0 0) 0 [] rfl H ⟨b,d,none⟩ ws.length cap (qhp ws) rfl (qep ws) I.out (qj0 ws) (by have:=x.out;omega) (by have:=x.out;simp only[maxLen];omega) (by have:=x.out;omega) (by simp) _ rfl ?_;intro g J T C K L U)
 go_ret;rw[Nat.zero_add,List.nil_append]at C;obtain⟨a2,c2,y,M⟩:=qdn C;injection y with y _ e3;subst y e3
 have N:w.heap.size<=g:=by
  rcases L with h|h
  ·simp[Value.ownBlock]at h;omega
  ·simp at h;omega
 refine⟨g,J,rfl,M,N,?_⟩;exact p.grown K p.size (λj O=>by simp[Value.ownBlock]at O;omega)
variable {W:World} {b:Nat}
theorem qem {k:Nat} (h:k≠b) (x0 x1 x2 x3 d e f g:Int) (v:Value):(qbu W b x0 x1 x2 x3 d e f g v).heap[k]?=W.heap[k]?:=
 (Below.heap_setCell _ _ _ _ h).trans ((Below.heap_setCell _ _ _ _ h).trans ((Below.heap_setCell _ _ _ _ h).trans ((Below.heap_setCell _ _ _ _ h).trans ((Below.heap_setCell _ _ _ _ h).trans ((Below.heap_setCell _ _ _ _ h).trans ((Below.heap_setCell _ _ _ _ h).trans ((Below.heap_setCell _ _ _ _ h).trans (Below.heap_setCell _ _ _ _ h))))))))
variable {c:Nat}
theorem qvq {d:List Value} (h:qag W b d) (e:b≠c) (x0 x1 x2 x3 f g i j:Int) (v:Value):qag (qbu W c x0 x1 x2 x3 f g i j v) b d:=
 h.kept (qem e _ _ _ _ _ _ _ _ _) (by simp[qbu,World.setCell])
variable {w:World} {r:Option Nat}
theorem qd7 {p:Addr} (h:w.grownBy W r) (f:w.heap.size<=p.block) (v:Value):w.grownBy (W.setCell p v) r:=
 ⟨h.os,h.tape,h.output,by simpa[World.setCell]using h.size,λk d e=>(Below.heap_setCell _ _ _ _ (by omega)).trans (h.block k d e)⟩
theorem q9c (h:w.grownBy W r) (d:w.heap.size<=b) (x0 x1 x2 x3 e f g i:Int) (v:Value):w.grownBy (qbu W b x0 x1 x2 x3 e f g i v) r:=
 qd7 (qd7 (qd7 (qd7 (qd7 (qd7 (qd7 (qd7 (qd7 h d _) d _) d _) d _) d _) d _) d _) d _) d _
def q2f (w:World) (t:TxP) (e:Ending) (w':World):Prop:=∃m,m.t=t/\e=.returned (txV m)/\qaz w' m.wa m.wc m.t.ws/\(∀k,m.blk k->w.heap.size<=k)/\Below w.heap.size w w'
theorem q8w {d:World} {g:Nat} {site seq wall count d0 d1 d2 d3:Int} {v:Value} (W1:qaz d (some ⟨g,0,none⟩) c ws) (t:w.heap.size+2<=g) (hb:Below w.heap.size w d):
 q2f w ⟨site,seq,wall,count,d0,d1,d2,d3,ws⟩ (.returned (txV ⟨⟨site,seq,wall,count,d0,d1,d2,d3,ws⟩,some ⟨g,0,none⟩,c⟩)) (qbu (d.setCell ⟨w.heap.size,8,none⟩ v) (w.heap.size+1) site seq wall count d0 d1 d2 d3 v):=by
 have f:=hb.setCell (p:=⟨w.heap.size,8,none⟩) (Nat.le_refl _) v;have h:=qg3 f (Nat.le_succ _) site seq wall count d0 d1 d2 d3 v
 have n1:g≠w.heap.size+1:=by omega
 have i:g≠w.heap.size:=by omega
 have j:(qbu (d.setCell ⟨w.heap.size,8,none⟩ v) (w.heap.size+1) site seq wall count d0 d1 d2 d3 v).heap[g]?=d.heap[g]?:=(qem n1 site seq wall count d0 d1 d2 d3 v).trans (Below.heap_setCell _ _ _ _ i)
 generalize qbu (d.setCell ⟨w.heap.size,8,none⟩ v) (w.heap.size+1) site seq wall count d0 d1 d2 d3 v=W at*
 refine⟨⟨⟨site,seq,wall,count,d0,d1,d2,d3,ws⟩,some ⟨g,0,none⟩,c⟩,rfl,rfl,?_,?_,h⟩
 ·refine qaz.kept (m:=⟨⟨site,seq,wall,count,d0,d1,d2,d3,ws⟩,some ⟨g,0,none⟩,c⟩) (w:=d) W1 (λk e=>?_);obtain⟨_,o,e⟩:=e;injection e with e;injection e with e1 e2;rw[<-e1];exact j
 ·rintro k ⟨_,o,e⟩;injection e with e;injection e with e1 e2;omega
variable {m:TxM}
theorem qut {tmps:Array Value} (h:qag w b (txC m)) (d:tmps[2]?=some (.pointer (some ⟨b,0,none⟩))):
 (results f245 tmps).run prog w=.ok (txV m) w:=by
 obtain⟨z0,e,z2,z3,z4,z5,g,i,j⟩:=h.c9;simp[results,results245,go_sem,d,z0,e,z2,z3,z4,z5,g,i,j,txV]
theorem qib (m:TxM) (w:World) (k:qaz w m.wa m.wc m.t.ws) (i:1<=m.t.ws.length) (p:m.t.ws.length<=1000):
 Calls prog 245 #[txV m] w (q2f w m.t):=by
 obtain⟨⟨site,seq,wall,count,d0,d1,d2,d3,ws⟩,a,cap⟩:=m;simp only at k i p;show Calls prog 245 #[.agg #[int i64 site,int i64 seq,int i64 wall,int i64 count,int i64 d0,int i64 d1,int i64 d2,int i64 d3,.slice a ws.length cap]] w _;have d:=(qag.new (w:=w) (T:=102) [int i64 site,int i64 seq,int i64 wall,int i64 count,int i64 d0,int i64 d1,int i64 d2,int i64 d3,.slice a ws.length cap] rfl).boxed (.cells #[int i64 0,int i64 0,int i64 0,int i64 0,int i64 0,int i64 0,int i64 0,int i64 0,.slice none 0 0] 102);have h:=qag.new (w:=w.alloc (.cells #[int i64 site,int i64 seq,int i64 wall,int i64 count,int i64 d0,int i64 d1,int i64 d2,int i64 d3,.slice a ws.length cap] 102)) (T:=102) (n:=w.heap.size+1) [int i64 0,int i64 0,int i64 0,int i64 0,int i64 0,int i64 0,int i64 0,int i64 0,.slice none 0 0] (by simp);have hb:=boxed (boxed (Below.refl _ w) (.cells #[int i64 site,int i64 seq,int i64 wall,int i64 count,int i64 d0,int i64 d1,int i64 d2,int i64 d3,.slice a ws.length cap] 102)) (.cells #[int i64 0,int i64 0,int i64 0,int i64 0,int i64 0,int i64 0,int i64 0,int i64 0,.slice none 0 0] 102);have x:=k.later hb;have B:=d.cell 8 _ rfl;go_enter func245,ntmps245
 go_wp2_with fail
 refine(q23 _ x i p).mono ?_;rintro e y ⟨g,c,rfl,W1,z,j⟩;replace d:=d.later j;replace h:=h.later j;replace hb:=qab hb j;have f8:=d.free 8 (by simp);have RS:=d.set 8 (.slice (some ⟨g,0,none⟩) ws.length c) (by simp);have C:=h.far ⟨w.heap.size,8,none⟩ (.slice (some ⟨g,0,none⟩) ws.length c) (by simp)
 have I:g<y.heap.size:=by
  rcases W1.held with e|⟨J,K,e,E⟩
  ·rw[e]at i;simp at i
  ·injection e with e;injection e with e1 e2;subst e1;exact World.block_lt_of_cell? _ _ (E 0 (by omega)).1
 have F:w.heap.size+2<=g:=by simpa using z
 obtain⟨c0,c1,c2,c3,c4,c5,c6,L,M⟩:=d.c9;obtain⟨z0,N,z2,z3,z4,z5,O,P,R⟩:=h.f9;obtain⟨U,V,X,Y,Z,y5,y6,y7,y8⟩:=h.c9;have G:=qb3 C rfl site seq wall count d0 d1 d2 d3 (.slice (some ⟨g,0,none⟩) ws.length c);have H:Hid (q2f w ⟨site,seq,wall,count,d0,d1,d2,d3,ws⟩ (.returned (txV ⟨⟨site,seq,wall,count,d0,d1,d2,d3,ws⟩,some ⟨g,0,none⟩,c⟩)) (qbu (y.setCell ⟨w.heap.size,8,none⟩ (.slice (some ⟨g,0,none⟩) ws.length c)) (w.heap.size+1) site seq wall count d0 d1 d2 d3 (.slice (some ⟨g,0,none⟩) ws.length c))):=q8w W1 F hb;clear j B d h hb x k W1 z
 go_wp2_with fail
 exact bodyPost_ret (qut (m:=⟨⟨site,seq,wall,count,d0,d1,d2,d3,ws⟩,some ⟨g,0,none⟩,c⟩) G rfl) rfl H.out
variable {w':World} {bm:Nat} {D:DataW Value}
theorem qlg.put {ws:List TxM} (e:∀x∈ws,wfN x) (i:qpq (ws.map (·.t))) (j:w.ownsMap prog 338 qe3 bm ws.length D) (k:qw2 D ws) (f:wfN m) (g:∀x∈ws,qcl x.t m.t=false)
 (p:w'.ownsMap prog 338 qe3 bm (ws.length+1) (D.put (qi1 m.t.site m.t.seq) (.held (txV m)))):qlg w' bm (ws++[m]):=by
 refine⟨λx d=>?_,?_,_,by rw[List.length_append];exact p,q54 (j.tidy qod) k e f g⟩
 ·rcases List.mem_append.1 d with h|h
  ·exact e x h
  ·rw[List.mem_singleton.1 h];exact f
 ·rw[List.map_append];refine qpq.snoc i (λx d=>?_);obtain⟨y,z,rfl⟩:=List.mem_map.1 d;exact g y z
theorem qlg.del {ws:List TxM} (d:∀x∈ws,wfN x) (e:qpq (ws.map (·.t))) (h:w.ownsMap prog 338 qe3 bm ws.length D) (i:qw2 D ws) (j:m∈ws)
 (k:w'.ownsMap prog 338 qe3 bm ws.length (D.del (qi1 m.t.site m.t.seq))):qlg w' bm (qkg ws m.t):=by
 have f:=q3s (h.tidy qod) i d e j;refine⟨λx p=>d x (qjo.1 p).1,by rw[qoh];exact e.drop _,_,?_,f⟩;obtain⟨es,y,z,B,C,g⟩:=k;refine⟨es,y,z,B,?_,g⟩;have:=f.size;rw[g]at this;simp[Maps.size,length_sorted]at this;omega
variable {l:List TxM}
theorem q55 (m:TxM) (w:World) (y:qlg w bm l) (d:wfN m) (h:∀x∈l,qcl x.t m.t=false) (i:l.length<=1000):
 Calls prog 255 #[.map (some bm),txV m] w λe w'=>e=.returned (.tuple #[])/\qlg w' bm (l++[m])/\w.grownBy w' (some bm):=by
 obtain⟨j,k,D,g,p⟩:=y;have z:Hid (∀w',_->qlg w' bm (l++[m])):=λw'=>qlg.put (w':=w') j k g p d h;have B:Hid (keyOf prog 338 (q1r m.t.site m.t.seq)=some (qi1 m.t.site m.t.seq)):=qum d.1 d.2;have C:Hid (l.length<=1000):=i;obtain⟨⟨site,seq,wall,count,d0,d1,d2,d3,ws⟩,a,cap⟩:=m;have E:=World.grownBy_alloc w (.cells #[int i64 site,int i64 seq,int i64 wall,int i64 count,int i64 d0,int i64 d1,int i64 d2,int i64 d3,.slice a ws.length cap] 102) (some bm);have F:=g.alloc (.cells #[int i64 site,int i64 seq,int i64 wall,int i64 count,int i64 d0,int i64 d1,int i64 d2,int i64 d3,.slice a ws.length cap] 102);show Calls prog 255 #[.map (some bm),.agg #[int i64 site,int i64 seq,int i64 wall,int i64 count,int i64 d0,int i64 d1,int i64 d2,int i64 d3,.slice a ws.length cap]] w _;clear j k g p d h i;go_enter func255,ntmps255
 go_wp2_with (at_mapUpdate;refine wpList_mapUpdate_in _ rfl _ _ _ 214 rfl 338 102 qod underlying214 qe3 bm l.length D rfl F (by have:=C.out;simp only[maxLen];omega) _ _ _ rfl rfl B.out _ _ rfl ?_;intro w2 G H)
 go_end0;exact⟨rfl,z.out w2 G,E.trans H.grown⟩
theorem qol {v:Value} {d:DataW Value} {ps:List MemPlace} (h:qe3 v=some (d,ps)):d=.held v:=by
 unfold qe3 at h;injection h with h;injection h with h1 h2;exact h1.symm
variable {o:Oper} {a:Act} {Q:Exit->Act->World->Prop} {n:Nat} {s q:Int} {u:Value} {v:Bool}
theorem qv8 {g:Array Oper} {rest:List Oper} (w:World) (h:o.guard=none) (d f:Operand) (i:o.op=Op.lookup 214 d f true)
 (j:a.eval d=.map (some bm)) (k:w.ownsMap prog 338 qe3 bm n D) (p:a.eval f=q1r s q) (x:keyOf prog 338 (q1r s q)=some (qi1 s q)) (y:Maps.has D (qi1 s q)=v) (z:D.atKey (qi1 s q) (.held q9i)=.held u)
 (B:wpList prog g Q rest (a.put o.dst (.tuple #[u,.bool v])) w):wpList prog g Q (o::rest) a w:=by
 refine wpList_lookup_own_ok w h d f 214 i 338 102 qod underlying214 qe3 (q2n w) (.held q9i) [] rfl bm n D j k (q1r s q) (qi1 s q) p x ?_;intro E ps C;have e:=qol C;rw[z]at e;injection e with e;rw[<-e,y];exact B
theorem qt1 {d:Array Oper} {rest:List Oper} (w:World) (h:o.guard=none) (f g:Operand) (i:o.op=Op.lookup 214 f g false)
 (j:a.eval f=.map (some bm)) (k:w.ownsMap prog 338 qe3 bm n D) (p:a.eval g=q1r s q) (x:keyOf prog 338 (q1r s q)=some (qi1 s q)) (y:D.atKey (qi1 s q) (.held q9i)=.held u)
 (z:wpList prog d Q rest (a.put o.dst u) w):wpList prog d Q (o::rest) a w:=by
 refine wpList_plain h λF B=>?_;obtain⟨G,ps,C,E⟩:=k.lookup qod underlying214 (q2n w) (zd:=.held q9i) (zp:=[]) rfl x;have e:=qol E;rw[y]at e;injection e with e;subst e;unfold Oper.wp;simp[execOp,i,j,p,C,Result.andThen];exact B _ _ z
theorem qud {tmps:Array Value} (h:qag w b (txC m)) (d:tmps[6]?=some (.pointer (some ⟨b,0,none⟩))) (e:tmps[7]?=some (.bool v)):
 (results f276 tmps).run prog w=.ok (.tuple #[txV m,.bool v]) w:=by
 obtain⟨z0,g,z2,z3,z4,z5,i,j,k⟩:=h.c9;simp[results,results276,go_sem,d,e,z0,g,z2,z3,z4,z5,i,j,k,txV]
def tx0:TxM:=⟨⟨0,0,0,0,0,0,0,0,[]⟩,none,0⟩
structure qtb (l:List TxM) (s q:Int) (m:TxM) (v:Bool):Prop where
 yes:v=true->m∈l/\m.t.site=s/\m.t.seq=q
 no:v=false->m=tx0/\∀x∈l,¬(x.t.site=s/\x.t.seq=q)
theorem q4s (l:List TxM) (s q:Int):∃m v,qtb l s q m v:=by
 by_cases h:∃m∈l,m.t.site=s/\m.t.seq=q
 ·obtain⟨m,d,f,g⟩:=h;exact⟨m,true,λ_=>⟨d,f,g⟩,λe=>by cases e⟩
 ·exact⟨tx0,false,λe=>(by cases e),λ_=>⟨rfl,λx i e=>h ⟨x,i,e⟩⟩⟩
theorem qx7 (d:qtb l s q m v) (hs:wfI s) (g:wfI q) (w:World) (p:qlg w bm l):
 Calls prog 276 #[.map (some bm),int i64 s,int i64 q] w λe w'=>e=.returned (.tuple #[txV m,.bool v])/\Below w.heap.size w w':=by
 obtain⟨x,y,D,i,h⟩:=p;have z:Hid (keyOf prog 338 (q1r s q)=some (qi1 s q)):=qum hs g
 have B:Maps.has D (qi1 s q)=v/\D.atKey (qi1 s q) (.held q9i)=.held (txV m):=by
  cases v with
  |true=>
   obtain⟨p1,p2,p3⟩:=d.yes rfl;have:=h.has m p1;rw[p2,p3]at this;exact⟨this.1,this.2 _⟩
  |false=>
   obtain⟨p1,p2⟩:=d.no rfl;have e:=h.no s q hs g p2;exact⟨e,by rw[atKey_of_not_has e,p1];rfl⟩
 obtain⟨j,k⟩:=B;have C:=i.alloc (.cells #[int i64 0,int i64 0,int i64 0,int i64 0,int i64 0,int i64 0,int i64 0,int i64 0,.slice none 0 0] 102);have hb:=boxed (boxed (Below.refl _ w) (.cells #[int i64 0,int i64 0,int i64 0,int i64 0,int i64 0,int i64 0,int i64 0,int i64 0,.slice none 0 0] 102)) (.cells #[int i64 0,int i64 0,int i64 0,int i64 0,int i64 0,int i64 0,int i64 0,int i64 0,.slice none 0 0] 102);have E:Hid (D.atKey (qi1 s q) (.held q9i)=.held (txV m)):=k;have F:Hid (Maps.has D (qi1 s q)=v):=j;obtain⟨⟨site,seq,wall,count,d0,d1,d2,d3,ws⟩,a,cap⟩:=m;have G:=(qag.new (w:=w) (T:=102) [int i64 site,int i64 seq,int i64 wall,int i64 count,int i64 d0,int i64 d1,int i64 d2,int i64 d3,.slice a ws.length cap] rfl).boxed (.cells #[int i64 site,int i64 seq,int i64 wall,int i64 count,int i64 d0,int i64 d1,int i64 d2,int i64 d3,.slice a ws.length cap] 102);have H:=boxed (boxed (Below.refl _ w) (.cells #[int i64 site,int i64 seq,int i64 wall,int i64 count,int i64 d0,int i64 d1,int i64 d2,int i64 d3,.slice a ws.length cap] 102)) (.cells #[int i64 site,int i64 seq,int i64 wall,int i64 count,int i64 d0,int i64 d1,int i64 d2,int i64 d3,.slice a ws.length cap] 102);clear d x y i h j k hs g hb;go_enter func276,ntmps276
 go_wp2_with (at_lookup;refine qv8 _ rfl _ _ rfl (u:=.agg #[int i64 site,int i64 seq,int i64 wall,int i64 count,int i64 d0,int i64 d1,int i64 d2,int i64 d3,.slice a ws.length cap]) rfl C rfl z.out F.out E.out ?_)
 exact bodyPost_ret (qud (m:=⟨⟨site,seq,wall,count,d0,d1,d2,d3,ws⟩,a,cap⟩) G rfl rfl) rfl ⟨rfl,H⟩
theorem ja3 (d:qtb l s q m v) (hs:wfI s) (g:wfI q) (w:World) (h:qlg w bm l):
 Calls prog 253 #[.map (some bm),int i64 s,int i64 q] w λe w'=>e=.returned (.bool v)/\Below w.heap.size w w':=by
 have F:=qx7 d hs g w h;obtain⟨⟨site,seq,wall,count,d0,d1,d2,d3,ws⟩,a,cap⟩:=m;clear d;go_enter func253,ntmps253
 go_wp2_with fail
 refine F.mono ?_;rintro e j ⟨rfl,i⟩;simp only[txV]
 go_wp2_with fail
 go_ret;exact⟨rfl,boxed i _⟩
theorem qtc {tmps:Array Value} (h:qag w b (txC m)) (d:tmps[6]?=some (.pointer (some ⟨b,0,none⟩))):
 (results f279 tmps).run prog w=.ok (txV m) w:=by
 obtain⟨z0,e,z2,z3,z4,z5,g,i,j⟩:=h.c9;simp[results,results279,go_sem,d,z0,e,z2,z3,z4,z5,g,i,j,txV]
theorem q70 (h:m∈l) (w:World) (x:qlg w bm l):
 Calls prog 279 #[.map (some bm),int i64 m.t.site,int i64 m.t.seq] w λe w'=>e=.returned (txV m)/\qlg w' bm (qkg l m.t)/\w.grownBy w' (some bm):=by
 have C:=x.lt;obtain⟨i,y,D,j,k⟩:=x;have z:Hid (keyOf prog 338 (q1r m.t.site m.t.seq)=some (qi1 m.t.site m.t.seq)):=qum (i m h).1 (i m h).2;have E:Hid (D.atKey (qi1 m.t.site m.t.seq) (.held q9i)=.held (txV m)):=(k.has m h).2 _;have F:Hid (∀w',w'.ownsMap prog 338 qe3 bm l.length (D.del (qi1 m.t.site m.t.seq))->qlg w' bm (qkg l m.t)):=λw'=>qlg.del (w':=w') i y j k h;have B:=j.alloc (.cells #[int i64 0,int i64 0,int i64 0,int i64 0,int i64 0,int i64 0,int i64 0,int i64 0,.slice none 0 0] 102);obtain⟨⟨site,seq,wall,count,d0,d1,d2,d3,ws⟩,a,cap⟩:=m;have G:=B.alloc (.cells #[int i64 site,int i64 seq,int i64 wall,int i64 count,int i64 d0,int i64 d1,int i64 d2,int i64 d3,.slice a ws.length cap] 102);have H:=qag.new (w:=w.alloc (.cells #[int i64 0,int i64 0,int i64 0,int i64 0,int i64 0,int i64 0,int i64 0,int i64 0,.slice none 0 0] 102)) (T:=102) (n:=w.heap.size+1) [int i64 site,int i64 seq,int i64 wall,int i64 count,int i64 d0,int i64 d1,int i64 d2,int i64 d3,.slice a ws.length cap] (by simp);have I:=(qag.new (w:=w) (T:=102) [int i64 0,int i64 0,int i64 0,int i64 0,int i64 0,int i64 0,int i64 0,int i64 0,.slice none 0 0] rfl).boxed (.cells #[int i64 site,int i64 seq,int i64 wall,int i64 count,int i64 d0,int i64 d1,int i64 d2,int i64 d3,.slice a ws.length cap] 102);have J:=(World.grownBy_alloc w (.cells #[int i64 0,int i64 0,int i64 0,int i64 0,int i64 0,int i64 0,int i64 0,int i64 0,.slice none 0 0] 102) (some bm)).trans (World.grownBy_alloc _ (.cells #[int i64 site,int i64 seq,int i64 wall,int i64 count,int i64 d0,int i64 d1,int i64 d2,int i64 d3,.slice a ws.length cap] 102) (some bm));clear i y j k h;go_enter func279,ntmps279
 go_wp2_with (first|(at_lookup;refine qt1 _ rfl _ _ rfl (u:=.agg #[int i64 site,int i64 seq,int i64 wall,int i64 count,int i64 d0,int i64 d1,int i64 d2,int i64 d3,.slice a ws.length cap]) rfl B rfl z.out E.out ?_)|(at_delete;refine wpList_delete_own _ rfl _ _ 214 338 rfl 102 qod underlying214 qe3 bm l.length D rfl G _ _ rfl z.out ?_;intro K L p;have g:=H.grown p.grown (λe=>by injection e with e;omega);have d:=I.grown p.grown (λe=>by injection e with e;omega);have c0:=g.cell 0 _ rfl;have M:=d.cell 0 _ rfl;have z0:=d.free 0 (by simp);have c1:=g.cell 1 _ rfl;have N:=d.cell 1 _ rfl;have O:=d.free 1 (by simp);have c2:=g.cell 2 _ rfl;have P:=d.cell 2 _ rfl;have z2:=d.free 2 (by simp);have c3:=g.cell 3 _ rfl;have R:=d.cell 3 _ rfl;have z3:=d.free 3 (by simp);have c4:=g.cell 4 _ rfl;have U:=d.cell 4 _ rfl;have z4:=d.free 4 (by simp);have c5:=g.cell 5 _ rfl;have V:=d.cell 5 _ rfl;have z5:=d.free 5 (by simp);have c6:=g.cell 6 _ rfl;have X:=d.cell 6 _ rfl;have Y:=d.free 6 (by simp);have Z:=g.cell 7 _ rfl;have y7:=d.cell 7 _ rfl;have z7:=d.free 7 (by simp);have c8:=g.cell 8 _ rfl;have y8:=d.cell 8 _ rfl;have z8:=d.free 8 (by simp)))
 exact bodyPost_ret (qtc (m:=⟨⟨site,seq,wall,count,d0,d1,d2,d3,ws⟩,a,cap⟩) (qb3 d rfl site seq wall count d0 d1 d2 d3 (.slice a ws.length cap)) rfl) rfl ⟨rfl,(F.out K L).kept (qem (Nat.ne_of_lt C) _ _ _ _ _ _ _ _ _),q9c (J.trans p.grown) (Nat.le_refl _) _ _ _ _ _ _ _ _ _⟩
variable {lv:Value} {S:qaf}
theorem qgd {F:Nat->Prop} {log waits:List TxM} (d:decide (200<=log.length)=v) (w:World) (h:qd0 w b lv bm F S log waits):
 Calls prog 242 #[.pointer (some ⟨b,0,none⟩)] w λe w'=>e=.returned (.bool v)/\Below w.heap.size w w':=by
 obtain⟨i,lc,rfl,g⟩:=qbl h.rlog;have j:=h.box.cell 7 _ rfl
 have e:decide ((200:Int)<=(log.length:Int))=v:=by rw[<-d];exact decide_eq_decide.2 (by omega)
 clear h g d;go_enter func242,ntmps242
 go_wp2_with fail
 go_ret;refine⟨?_,Below.refl _ _⟩
 first|rfl|(simp[e])
theorem qqr (e:0<=s) (f:s<=3):(qck S lv bm)[1+s.toNat]?=some (int i64 (qaq s S.a0 S.a1 S.a2 S.a3)):=by
 have d:s=0\/s=1\/s=2\/s=3:=by omega
 rcases d with rfl|rfl|rfl|rfl<;>rfl
end
section
open Go.Value Go.IntKind Go.RowKit
theorem qfq {x:Int} (h:qd5 x):wrap64 (x+1)=x+1:=by
 obtain⟨a,b⟩:=h;unfold wrap64;omega
theorem qoc {b:Nat} {lv:Value} {bm:Nat} {F:Nat->Prop} {S:qaf} {log waits:List TxM} {v:Bool} (m:TxM) (w:World) (h:qd0 w b lv bm F S log waits) (o:0<=m.t.site) (p:m.t.site<=3) (j:qd5 (qaq m.t.site S.a0 S.a1 S.a2 S.a3)) (c:qau S m.t=v):
 Calls Tryz.prog 254 #[.pointer (some ⟨b,0,none⟩),txV m] w λe w'=>e=.returned (.bool v)/\Below w.heap.size w w':=by
 obtain⟨⟨site,seq,wall,count,d0,d1,d2,d3,ws⟩,a,cap⟩:=m;simp only at o p j c;have hb:=boxed (Below.refl _ w) (.cells #[int i64 site,int i64 seq,int i64 wall,int i64 count,int i64 d0,int i64 d1,int i64 d2,int i64 d3,.slice a ws.length cap] 102);have d:=qag.new (w:=w) (T:=102) [int i64 site,int i64 seq,int i64 wall,int i64 count,int i64 d0,int i64 d1,int i64 d2,int i64 d3,.slice a ws.length cap] rfl;have y:=Later.one;have g:=h.later hb;have t0:=Later.cell (d.cell 0 _ rfl);have z:=Later.cell (d.cell 1 _ rfl);have t4:=Later.cell (d.cell 4 _ rfl);have t5:=Later.cell (d.cell 5 _ rfl);have B:=Later.cell (d.cell 6 _ rfl);have C:=Later.cell (d.cell 7 _ rfl);have E:=Later.cell (g.box.cell 1 _ rfl);have G:=Later.cell (g.box.cell 2 _ rfl);have H:=Later.cell (g.box.cell 3 _ rfl);have I:=Later.cell (g.box.cell 4 _ rfl);have r:=Later.cell (g.box.cell _ _ (qqr o p));have k:qau S ⟨site,seq,wall,count,d0,d1,d2,d3,ws⟩=(decide (seq=qaq site S.a0 S.a1 S.a2 S.a3+1)&&qfu S.a0 S.a1 S.a2 S.a3 d0 d1 d2 d3):=rfl;obtain⟨D,q⟩:∃D,qaq site S.a0 S.a1 S.a2 S.a3=D:=⟨_,rfl⟩;rw[q]at r j k;rw[k]at c;have J:wrap64 (D+1)=D+1:=qfq j;clear k h g d q;show Calls Tryz.prog 254 #[.pointer (some ⟨b,0,none⟩),.agg #[int i64 site,int i64 seq,int i64 wall,int i64 count,int i64 d0,int i64 d1,int i64 d2,int i64 d3,.slice a ws.length cap]] w _;by_cases i:seq=D+1
 ·have s:(seq==D+1)=true:=by simp[i]
  have l:decide (seq=D+1)=true:=by simp[i]
  have u:Hid (qfu S.a0 S.a1 S.a2 S.a3 d0 d1 d2 d3=v):=by
   show _=_;rw[l]at c;simpa using c
  clear c j i;go_enter Tryz.func254,Tryz.ntmps254
  go_wp2_with fail
  refine qaa (by kernel_rfl) (by kernel_rfl) ?_
  repeat (go_big_quiet_step (first|rfl|(go_at_call 205;with_reducible exact qac (qjq u.out _))))
  refine wpQuiet_nil ?_;rintro w2 ⟨⟨_,n⟩,rfl⟩
  go_wp2_with fail
  go_ret;exact⟨rfl,qab hb n⟩
 ·have s:(seq==D+1)=false:=by simp[i]
  have l:decide (seq=D+1)=false:=by simp[i]
  have x:Hid (false=v):=by
   show _=_;rw[l]at c;simpa using c
  clear c j i;go_enter Tryz.func254,Tryz.ntmps254
  go_wp2_with fail
  refine qaa (by kernel_rfl) (by kernel_rfl) ?_
  repeat (go_big_quiet_step (first|rfl|fail))
  refine wpQuiet_nil ?_;rintro w2 ⟨⟨_,n⟩,rfl⟩
  go_wp2_with fail
  go_ret;exact⟨by rw[<-x.out];rfl,qab hb n⟩
end
section
open Go.RowKit
def qfe (S:qaf) (key a0 a1 a2 a3:Int):Ver×Int:=if qfu S.a0 S.a1 S.a2 S.a3 a0 a1 a2 a3=true then qdu key a0 a1 a2 a3 S.l else (qc6,10)
variable {W:World} {b:Nat}
theorem qse {w:World} (h:Below w.heap.size w W) (a:w.heap.size<=b) (x0 x1 x2 x3:Int) (c:ByteArray) (d:Bool):Below w.heap.size w ((((((W.setCell ⟨b,0,none⟩ (.int .i64 x0)).setCell ⟨b,1,none⟩ (.int .i64 x1)).setCell ⟨b,2,none⟩ (.int .i64 x2)).setCell ⟨b,3,none⟩ (.int .i64 x3)).setCell ⟨b,4,none⟩ (.string c)).setCell ⟨b,5,none⟩ (.bool d)):=
 (((((h.setCell a _).setCell a _).setCell a _).setCell a _).setCell a _).setCell a _
theorem qxk {c:Nat} {a0 a1 a2 a3:Int} (h:qa9 W b a0 a1 a2 a3) (a:c≠b) (x0 x1 x2 x3:Int) (d:ByteArray) (e:Bool):qa9 ((((((W.setCell ⟨c,0,none⟩ (.int .i64 x0)).setCell ⟨c,1,none⟩ (.int .i64 x1)).setCell ⟨c,2,none⟩ (.int .i64 x2)).setCell ⟨c,3,none⟩ (.int .i64 x3)).setCell ⟨c,4,none⟩ (.string d)).setCell ⟨c,5,none⟩ (.bool e)) b a0 a1 a2 a3:=
 (((((h.far ⟨c,0,none⟩ _ a).far ⟨c,1,none⟩ _ a).far ⟨c,2,none⟩ _ a).far ⟨c,3,none⟩ _ a).far ⟨c,4,none⟩ _ a).far ⟨c,5,none⟩ _ a
theorem qsq (h:qag W b (qah qc6)) (x0 x1 x2 x3:Int) (a:ByteArray) (c:Bool):qag ((((((W.setCell ⟨b,0,none⟩ (.int .i64 x0)).setCell ⟨b,1,none⟩ (.int .i64 x1)).setCell ⟨b,2,none⟩ (.int .i64 x2)).setCell ⟨b,3,none⟩ (.int .i64 x3)).setCell ⟨b,4,none⟩ (.string a)).setCell ⟨b,5,none⟩ (.bool c)) b (qah ⟨x0,x1,x2,x3,a,c⟩):=
 (((((h.set 0 _ (by simp[qah])).set 1 _ (by simp[qah])).set 2 _ (by simp[qah])).set 3 _ (by simp[qah])).set 4 _ (by simp[qah])).set 5 _ (by simp[qah])
end
section
open Tryz Go.Value Go.IntKind Go.RowKit
theorem qn0 (x y:Int) (w:World):
 Calls prog 268 #[int i64 x,int i64 y] w λe w'=>e=.returned (int i64 (qb9 x y))/\w'=w:=by
 by_cases h:x<y
 ·rw[qj1 h];go_enter func268,ntmps268
  go_wp2
  go_ret;exact⟨rfl,rfl⟩
 ·rw[qj6 h];go_enter func268,ntmps268
  go_wp2
  go_ret;exact⟨rfl,rfl⟩
theorem q8c (a0 a1 a2 a3 a b c d:Int) (w:World):
 Calls prog 219 #[.agg #[int i64 a0,int i64 a1,int i64 a2,int i64 a3],.agg #[int i64 a,int i64 b,int i64 c,int i64 d],.func (.func 268) #[] #[]] w λe w'=>e=.returned (.agg #[int i64 (qb9 a0 a),int i64 (qb9 a1 b),int i64 (qb9 a2 c),int i64 (qb9 a3 d)])/\Below w.heap.size w w':=by
 go_enter func219,ntmps219
 go_wp2
 refine wp_loop_rounds 5 ?_;rw[rounds_succ]
 go_wp2
 go_region_held3 (λw'=>w'.cell? ⟨w.heap.size,0,none⟩=some (int i64 a0)/\w'.cell? ⟨w.heap.size,1,none⟩=some (int i64 a1)/\w'.cell? ⟨w.heap.size,2,none⟩=some (int i64 a2)/\w'.cell? ⟨w.heap.size,3,none⟩=some (int i64 a3)/\w'.cell? ⟨w.heap.size+1,0,none⟩=some (int i64 a)/\w'.cell? ⟨w.heap.size+1,1,none⟩=some (int i64 b)/\w'.cell? ⟨w.heap.size+1,2,none⟩=some (int i64 c)/\w'.cell? ⟨w.heap.size+1,3,none⟩=some (int i64 d)) (go_keep) ((go_at_call 268;refine(qn0 _ _ _).mono ?_;rintro e wc ⟨rfl,rfl⟩))
 go_wp2
 rw[rounds_succ]
 go_wp2
 go_region_held3 (λw'=>w'.cell? ⟨w.heap.size,0,none⟩=some (int i64 a0)/\w'.cell? ⟨w.heap.size,1,none⟩=some (int i64 a1)/\w'.cell? ⟨w.heap.size,2,none⟩=some (int i64 a2)/\w'.cell? ⟨w.heap.size,3,none⟩=some (int i64 a3)/\w'.cell? ⟨w.heap.size+1,0,none⟩=some (int i64 a)/\w'.cell? ⟨w.heap.size+1,1,none⟩=some (int i64 b)/\w'.cell? ⟨w.heap.size+1,2,none⟩=some (int i64 c)/\w'.cell? ⟨w.heap.size+1,3,none⟩=some (int i64 d)) (go_keep) ((go_at_call 268;refine(qn0 _ _ _).mono ?_;rintro e wc ⟨rfl,rfl⟩))
 go_wp2
 rw[rounds_succ]
 go_wp2
 go_region_held3 (λw'=>w'.cell? ⟨w.heap.size,0,none⟩=some (int i64 a0)/\w'.cell? ⟨w.heap.size,1,none⟩=some (int i64 a1)/\w'.cell? ⟨w.heap.size,2,none⟩=some (int i64 a2)/\w'.cell? ⟨w.heap.size,3,none⟩=some (int i64 a3)/\w'.cell? ⟨w.heap.size+1,0,none⟩=some (int i64 a)/\w'.cell? ⟨w.heap.size+1,1,none⟩=some (int i64 b)/\w'.cell? ⟨w.heap.size+1,2,none⟩=some (int i64 c)/\w'.cell? ⟨w.heap.size+1,3,none⟩=some (int i64 d)) (go_keep) ((go_at_call 268;refine(qn0 _ _ _).mono ?_;rintro e wc ⟨rfl,rfl⟩))
 go_wp2
 rw[rounds_succ]
 go_wp2
 go_region_held3 (λw'=>w'.cell? ⟨w.heap.size,0,none⟩=some (int i64 a0)/\w'.cell? ⟨w.heap.size,1,none⟩=some (int i64 a1)/\w'.cell? ⟨w.heap.size,2,none⟩=some (int i64 a2)/\w'.cell? ⟨w.heap.size,3,none⟩=some (int i64 a3)/\w'.cell? ⟨w.heap.size+1,0,none⟩=some (int i64 a)/\w'.cell? ⟨w.heap.size+1,1,none⟩=some (int i64 b)/\w'.cell? ⟨w.heap.size+1,2,none⟩=some (int i64 c)/\w'.cell? ⟨w.heap.size+1,3,none⟩=some (int i64 d)) (go_keep) ((go_at_call 268;refine(qn0 _ _ _).mono ?_;rintro e wc ⟨rfl,rfl⟩))
 go_wp2
 rw[rounds_succ]
 go_wp2
 exact bodyPost_ret (v:=.agg #[int i64 (qb9 a0 a),int i64 (qb9 a1 b),int i64 (qb9 a2 c),int i64 (qb9 a3 d)]) (by simp[results,results219,go_sem]) rfl ⟨rfl,by repeat (first|exact Below.refl _ _|apply Below.drew|apply boxed)⟩
theorem q4p (a0 a1 a2 a3 a b c d:Int) (w:World):
 Calls prog 240 #[.agg #[int i64 a0,int i64 a1,int i64 a2,int i64 a3],.agg #[int i64 a,int i64 b,int i64 c,int i64 d]] w λe w'=>e=.returned (.agg #[int i64 (qb9 a0 a),int i64 (qb9 a1 b),int i64 (qb9 a2 c),int i64 (qb9 a3 d)])/\Below w.heap.size w w':=by
 go_enter func240,ntmps240
 go_wp2_with fail
 refine(q8c _ _ _ _ _ _ _ _ _).mono ?_;rintro e g ⟨rfl,hb⟩;obtain⟨h,i⟩:=qhg hb
 have j:w.heap.size+2<g.heap.size:=by have:=hb.size;simp at this;omega
 go_wp2
 exact bodyPost_ret (v:=.agg #[int i64 (qb9 a0 a),int i64 (qb9 a1 b),int i64 (qb9 a2 c),int i64 (qb9 a3 d)]) (by simp[results,results240,go_sem,h]) rfl ⟨rfl,((((qyo hb).setCell (by simp;omega) _).setCell (by simp;omega) _).setCell (by simp;omega) _).setCell (by simp;omega) _⟩
end
section
open Go.RowKit
structure qnm where
 is:World->(Nat->Prop)->Prop
 lt:∀w G,is w G->∀k,G k->k<w.heap.size
 kept:∀w w' G,is w G->(∀k,G k->w'.heap[k]?=w.heap[k]?)->w.heap.size<=w'.heap.size->is w' G
def qg0 (p:qnm) (w:World) (G:Nat->Prop) (w':World):Prop:=∃G',p.is w' G'/\(∀k,G' k->G k\/w.heap.size<=k)/\qae G w w'
def qki (p q:qnm) (w:World) (G H Y:Nat->Prop) (w':World):Prop:=∃G' H',p.is w' G'/\q.is w' H'/\(∀k,G' k->G k\/w.heap.size<=k)/\(∀k,H' k->H k\/w.heap.size<=k)/\(∀k,G' k->¬H' k)/\(∀k,Y k->w.heap.size<=k/\k<w'.heap.size/\¬G' k)/\qae (λk=>G k\/H k) w w'
def NoY:Nat->Prop:=λ_=>False
structure qci (w:World) (n:Nat) (ps:Nat->qnm) (Gs:Nat->Nat->Prop) (X:Nat->Prop) (o:Nat) (Y:Nat->Prop):Prop where
 is:∀i,i<n->(ps i).is w (Gs i)
 apart:∀i j k,i<n->j<n->i≠j->Gs i k->¬Gs j k
 free:∀k,X k->k<w.heap.size/\∀i,i<n->¬Gs i k
 half:∀k,Y k->k<w.heap.size/\∀i,i<n->i≠o->¬Gs i k
end
def jcq (site a0 a1 a2 a3:Int):ByteArray:=(⟨#[97]⟩:ByteArray)++qi7 5 site++qi7 5 a0++qi7 5 a1++qi7 5 a2++qi7 5 a3
end Go.Proofs.YtoanjdndmlffdaaGreatDoor
