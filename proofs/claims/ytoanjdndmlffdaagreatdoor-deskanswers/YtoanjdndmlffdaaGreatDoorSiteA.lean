import Derived.Test.YtoanjdndmlffdaaGreatDoorProg
import Derived.Lib.SmallJoins
import Derived.WalkSpells
import Derived.WalkLawsBesides
import Derived.Deep.AppendLies
import Derived.Lib.Overlaps
import Derived.Lib.AppendZerosOnto
import Derived.Shelf.RegionOpen
import Derived.Lib.JoinLaws
import Derived.RangeFuncNested
import Derived.RangeFuncBound
import Derived.OwnWalkIn
import Derived.LoopNIn
import Derived.LoopIn
import Derived.Deep.RegionHeld3
set_option maxHeartbeats 8000000
set_option maxRecDepth 100000
namespace Go.Proofs.YtoanjdndmlffdaaGreatDoor
section
open Go.Value Go.IntKind Go.RowKit
variable {A:Prop}
theorem hd1 (a:A):Hid (A):=a
variable {B:Prop}
theorem hd2 (a:A) (b:B):Hid (A/\B):=⟨a,b⟩
variable {C:Prop}
theorem hd3 (a:A) (b:B) (c:C):Hid (A/\B/\C):=⟨a,b,c⟩
variable {D:Prop}
theorem hd4 (a:A) (b:B) (c:C) (d:D):Hid (A/\B/\C/\D):=⟨a,b,c,d⟩
variable {E:Prop}
theorem hd5 (a:A) (b:B) (c:C) (d:D) (e:E):Hid (A/\B/\C/\D/\E):=⟨a,b,c,d,e⟩
variable {F:Prop}
theorem hd6 (a:A) (b:B) (c:C) (d:D) (e:E) (f:F):Hid (A/\B/\C/\D/\E/\F):=⟨a,b,c,d,e,f⟩
variable {G:Prop}
theorem hd7 (a:A) (b:B) (c:C) (d:D) (e:E) (f:F) (g:G):Hid (A/\B/\C/\D/\E/\F/\G):=⟨a,b,c,d,e,f,g⟩
variable {H:Prop}
theorem hd8 (a:A) (b:B) (c:C) (d:D) (e:E) (f:F) (g:G) (h:H):Hid (A/\B/\C/\D/\E/\F/\G/\H):=⟨a,b,c,d,e,f,g,h⟩
theorem hd9 {I:Prop} (a:A) (b:B) (c:C) (d:D) (e:E) (f:F) (g:G) (h:H) (i:I):Hid (A/\B/\C/\D/\E/\F/\G/\H/\I):=⟨a,b,c,d,e,f,g,h,i⟩
abbrev Bw (w w':World):Prop:=Below w.heap.size w w'
abbrev U (x:Int):Value:=int i64 x
abbrev AD (b o:Nat):Addr:=⟨b,o,none⟩
abbrev PT (b:Nat):Option Addr:=some ⟨b,0,none⟩
abbrev PP (b:Nat):Value:=.pointer (some ⟨b,0,none⟩)
abbrev Ca (f:FuncId) (a:Array Value) (w:World) (Q:Ending->World->Prop):Prop:=Calls Tryz.prog f a w Q
abbrev ZA:Array Value:=#[int i64 0,int i64 0,int i64 0,int i64 0,int i64 0,int i64 0,int i64 0,int i64 0,.slice none 0 0]
abbrev ZL:List Value:=[int i64 0,int i64 0,int i64 0,int i64 0,int i64 0,int i64 0,int i64 0,int i64 0,.slice none 0 0]
abbrev YA:Array Value:=#[int i64 0,int i64 0,int i64 0,int i64 0,.string ⟨#[]⟩,.bool false]
abbrev YL:List Value:=[int i64 0,int i64 0,int i64 0,int i64 0,.string ⟨#[]⟩,.bool false]
abbrev T9 (a b c d e f g h:Int) (p:Option Addr) (n k:Nat):List Value:=[int i64 a,int i64 b,int i64 c,int i64 d,int i64 e,int i64 f,int i64 g,int i64 h,.slice p n k]
abbrev Rn (v:Value) (w:World) (e:Ending) (w':World):Prop:=e=.returned v/\Below w.heap.size w w'
abbrev _root_.Go.World.nu (w:World) (a:Array Value) (T:TypeId):World:=w.alloc (.cells a T)
theorem jde:type_of% @Array.getElem?_eq_getElem:=@Array.getElem?_eq_getElem
theorem jcs:type_of% @Array.getElem?_eq_some_iff:=@Array.getElem?_eq_some_iff
theorem jc6:type_of% @Go.RowKit.Below.drew:=@Go.RowKit.Below.drew
theorem jd0:type_of% @Go.RowKit.Below.grown:=@Go.RowKit.Below.grown
theorem jdg:type_of% @Go.RowKit.Below.heap_alloc:=@Go.RowKit.Below.heap_alloc
theorem jce:type_of% @Go.RowKit.Below.heap_setCell:=@Go.RowKit.Below.heap_setCell
theorem jcc:type_of% @Go.RowKit.Below.refl:=@Go.RowKit.Below.refl
theorem jdz:type_of% @Go.RowKit.Below.setCell:=@Go.RowKit.Below.setCell
theorem jct:type_of% @Bool.and_eq_true:=@Bool.and_eq_true
theorem jc4:type_of% @ByteArray.size_append:=@ByteArray.size_append
theorem jdl:type_of% @Iff.rfl:=@Iff.rfl
theorem jcy:type_of% @List.append_assoc:=@List.append_assoc
theorem jdx:type_of% @List.append_nil:=@List.append_nil
theorem jdj:type_of% @List.cons_append:=@List.cons_append
theorem jdy:type_of% @List.drop_eq_getElem_cons:=@List.drop_eq_getElem_cons
theorem jdw:type_of% @List.drop_eq_nil_of_le:=@List.drop_eq_nil_of_le
theorem jc2:type_of% @List.eq_nil_of_length_eq_zero:=@List.eq_nil_of_length_eq_zero
theorem jdf:type_of% @List.eraseIdx_eq_take_drop_succ:=@List.eraseIdx_eq_take_drop_succ
theorem jdk:type_of% @List.filter_append:=@List.filter_append
theorem jdp:type_of% @List.getD_eq_getElem?_getD:=@List.getD_eq_getElem?_getD
theorem jc3:type_of% @List.getElem?_append_left:=@List.getElem?_append_left
theorem jc0:type_of% @List.getElem?_append_right:=@List.getElem?_append_right
theorem jcg:type_of% @List.getElem?_eq_getElem:=@List.getElem?_eq_getElem
theorem jck:type_of% @List.getElem?_eq_some_iff:=@List.getElem?_eq_some_iff
theorem jcv:type_of% @List.getElem?_map:=@List.getElem?_map
theorem jdr:type_of% @List.getElem_mem:=@List.getElem_mem
theorem jcl:type_of% @List.length_append:=@List.length_append
theorem jdt:type_of% @List.length_drop:=@List.length_drop
theorem jdo:type_of% @List.length_filter_le:=@List.length_filter_le
theorem jdh:type_of% @List.length_map:=@List.length_map
theorem jc5:type_of% @List.length_take:=@List.length_take
theorem jdb:type_of% @List.map_append:=@List.map_append
theorem jcf:type_of% @List.mem_append:=@List.mem_append
theorem jdd:type_of% @List.mem_cons:=@List.mem_cons
theorem jdc:type_of% @List.mem_cons_of_mem:=@List.mem_cons_of_mem
theorem jdq:type_of% @List.mem_filter:=@List.mem_filter
theorem jdm:type_of% @List.mem_iff_getElem:=@List.mem_iff_getElem
theorem jcz:type_of% @List.mem_map:=@List.mem_map
theorem jcq:type_of% @List.mem_of_getElem?:=@List.mem_of_getElem?
theorem jdn:type_of% @List.mem_of_mem_eraseIdx:=@List.mem_of_mem_eraseIdx
theorem jcj:type_of% @List.mem_singleton:=@List.mem_singleton
theorem jda:type_of% @List.nil_append:=@List.nil_append
theorem jdv:type_of% @List.pairwise_cons:=@List.pairwise_cons
theorem jdu:type_of% @List.take_add_one:=@List.take_add_one
theorem jds:type_of% @List.take_append_drop:=@List.take_append_drop
theorem jc9:type_of% @List.take_length:=@List.take_length
theorem jc1:type_of% @List.take_succ_eq_append_getElem:=@List.take_succ_eq_append_getElem
theorem jcd:type_of% @Nat.le_refl:=@Nat.le_refl
theorem jcn:type_of% @Nat.le_trans:=@Nat.le_trans
theorem jci:type_of% @Nat.lt_of_lt_of_le:=@Nat.lt_of_lt_of_le
theorem jc7:type_of% @Nat.lt_or_ge:=@Nat.lt_or_ge
theorem jcw:type_of% @Nat.zero_le:=@Nat.zero_le
theorem jcu:type_of% @Option.some.inj:=@Option.some.inj
theorem jcr:type_of% @Go.World.block_lt_of_cell?:=@Go.World.block_lt_of_cell?
theorem jch:type_of% @Go.World.cell?_of_block:=@Go.World.cell?_of_block
theorem jco:type_of% @Go.World.cell?_setCell_other:=@Go.World.cell?_setCell_other
theorem jc8:type_of% @Go.World.cell?_setCell_same:=@Go.World.cell?_setCell_same
theorem jcp:type_of% @Go.World.frozen?_of_block:=@Go.World.frozen?_of_block
theorem jcm:type_of% @Go.World.frozen?_setCell:=@Go.World.frozen?_setCell
theorem jcx:type_of% @Go.World.ownsRow_nil:=@Go.World.ownsRow_nil
theorem jdi:type_of% @Go.World.size_alloc:=@Go.World.size_alloc
end
section
open Go.ChangeShapes Go.WideShapes Go.ChangeAt Go.RowKit Go.Joins
theorem own:ownKnob Tryz.prog.godebug=none:=by kernel_rfl
end
section
def qhi (a b c d:Int):Bool:=a==c&&b==d
def jd (x y:Int):Int:=if x<y then y else x
def qm (x y:Int):Int:=if y<x then y else x
variable {x y:Int}
theorem qia (h:x<y):jd x y=y:=if_pos h
theorem qh1 (h:¬x<y):jd x y=x:=if_neg h
theorem qj1 (h:y<x):qm x y=y:=if_pos h
theorem qjp (h:¬y<x):qm x y=x:=if_neg h
def qa8 (a0 a1 a2 a3 b0 b1 b2 b3:Int):Bool:=decide (b0<=a0)&&decide (b1<=a1)&&decide (b2<=a2)&&decide (b3<=a3)
def qic (x y:Int):Int:=if x<y then-1 else if y<x then 1 else 0
def qdr (aw ac bw bc:Int):Int:=if qic aw bw=0 then qic ac bc else qic aw bw
def qi (n:Int):Bool:=decide (0<=n)&&decide (n<=1099511627776)
theorem qxz (x y:Int):qhi x y x y=true:=by simp[qhi]
theorem qz9 (h:x<y):qic x y= -1:=by unfold qic;rw[if_pos h]
theorem qz3 (h:y<x):qic x y=1:=by unfold qic;rw[if_neg (by omega),if_pos h]
theorem q0h (x:Int):qic x x=0:=by unfold qic;rw[if_neg (by omega),if_neg (by omega)]
def jb (a0 a1 a2 a3:Int):Bool:=qi a0&&qi a1&&qi a2&&qi a3
variable {n:Int}
theorem qf7 (a:0<=n) (b:n<=1099511627776):qi n=true:=by simp[qi,a,b]
theorem qdz:qi n=true↔0<=n/\n<=1099511627776:=by simp[qi]
theorem qil (x y:Int):(x<y/\qic x y= -1)\/(x=y/\qic x y=0)\/(y<x/\qic x y=1):=by
 rcases Int.lt_trichotomy x y with h|h|h
 ·exact .inl ⟨h,qz9 h⟩
 ·subst h;exact .inr (.inl ⟨rfl,q0h x⟩)
 exact .inr (.inr ⟨h,qz3 h⟩)
theorem qcw (a c b d:Int):
 ((a<b\/a=b/\c<d)/\qdr a c b d= -1)\/((a=b/\c=d)/\qdr a c b d=0)\/((b<a\/a=b/\d<c)/\qdr a c b d=1):=by
 have i:=qil a b;have j:=qil c d;unfold qdr;rcases i with ⟨h,e⟩|⟨h,e⟩|⟨h,e⟩
 ·exact .inl ⟨.inl h,by rw[e];rfl⟩
 ·rcases j with ⟨g,f⟩|⟨g,f⟩|⟨g,f⟩
  ·exact .inl ⟨.inr ⟨h,g⟩,by rw[if_pos e,f]⟩
  ·exact .inr (.inl ⟨⟨h,g⟩,by rw[if_pos e,f]⟩)
  exact .inr (.inr ⟨.inr ⟨h,g⟩,by rw[if_pos e,f]⟩)
 exact .inr (.inr ⟨.inl h,by rw[e];rfl⟩)
end
section
open Go.RowKit
structure qb (W:World) where
 val:World
 below:Bw W val
theorem qb.one (W:World):Nonempty (qb W):=⟨⟨W,jcc _ _⟩⟩
variable {W:World} {v:Value}
theorem qb.cell {p:Addr} (h:W.cell? p=some v) (x:qb W):x.val.cell? p=some v:=cell_later x.below h
variable {w w1:World}
theorem qa {w2:World} (c:Bw w w1) (d:Bw w1 w2):Bw w w2:=c.trans (d.mono c.size)
theorem boxed (c:Bw w w1) (o:Obj):Bw w (w1.alloc o):=c.alloc c.size o
variable {P:Program} {id:Nat} {Q:Exit->Act->World->Prop} {a:Act} {l:List Oper}
theorem qnr (c:P.follows .mixedOrders=true) (d:Region.lexB .any l.toArray=true)
 (h:wpQuiet P l.toArray (λw'=>∃x:qb w,w'=x.val) (λe=>∀w',(∃x:qb w,w'=x.val)->Q .normal e w') l a):(Code.region id l.toArray true).wp P Q a w:=
 wp_region_quiet (C:=λw'=>∃x:qb w,w'=x.val) c d ⟨⟨w.drew,(jcc _ _).drew⟩,rfl⟩ (by simpa using h)
theorem qg {f:FuncId} {args:Array Value} {x:qb w}
 (h:Calls P f args x.val λe w'=>e=.returned v/\Below x.val.heap.size x.val w'):Calls P f args x.val λe c=>e=.returned v/\∃y:qb w,c=y.val:=
 h.mono λ_ c ⟨d,g⟩=>⟨d,⟨c,qa x.below g⟩,rfl⟩
theorem qdb (c:Bw W w1):(∀b o,b<W.heap.size->w1.cell? (AD b o)=W.cell? (AD b o))/\(∀b o,b<W.heap.size->w1.frozen? (AD b o)=W.frozen? (AD b o)):=
 ⟨λb o h=>c.cell (p:=AD b o) h,λb o h=>c.frozen (p:=AD b o) h⟩
theorem blt (c:Bw W w1):∀b,b<W.heap.size->b<w1.heap.size:=λ_ h=>jci h c.size
theorem bne (c:Bw W w1):∀b,b<W.heap.size->¬b=w1.heap.size:=λb h=>Nat.ne_of_lt (blt c b h)
theorem jbf (c:Bw W w1):∀b,b<W.heap.size->¬w1.heap.size=b:=λb h=>Nat.ne_of_gt (blt c b h)
variable {b:Obj}
theorem qhb {a:Obj} (c:Below ((w.alloc a).alloc b).heap.size ((w.alloc a).alloc b) w1):Bw w w1:=
 (((jcc _ _).alloc (jcd _) _).alloc (by simp) _).trans (c.mono (by simp;omega))
theorem qs1 {a c:Obj} (d:Below (((w.alloc a).alloc b).alloc c).heap.size (((w.alloc a).alloc b).alloc c) w1):Bw w w1:=
 ((((jcc _ _).alloc (jcd _) _).alloc (by simp) _).alloc (by simp;omega) _).trans (d.mono (by simp;omega))
theorem jy {B:Nat} {a:World} (n:Nat) (h:Below B a w):Below B a (w.drewN n):=⟨h.os,h.tape,h.output,h.size,h.block⟩
theorem wrl (h:wpQuiet P l.toArray (λw'=>∃x:qb w,w'=x.val) (λc=>∀w',(∃x:qb w,w'=x.val)->Q .normal c w') l a) (d:P.follows .mixedOrders=true:=by kernel_rfl) (hB:Region.lexB .any l.toArray=true:=by kernel_rfl):(Code.region id l.toArray true).wp P Q a w:=qnr d hB h
end
section
def qft (n:Int):ByteArray:=⟨#[UInt8.ofNat n.toNat]⟩
def qcq:Nat->Int->ByteArray
 |0,n=>qft n
 |f+1,n=>if n<128 then qft n else qft (n%128+128)++qcq f (n/128)
variable {f:Nat} {n:Int}
theorem qtw (h:n<128):qcq f n=qft n:=by
 cases f with
 |zero=>rfl
 |succ f=>exact if_pos h
theorem qr8 (h:¬n<128):qcq (f+1) n=qft (n%128+128)++qcq f (n/128):=if_neg h
theorem qcx (n:Int):(qft n).size=1:=rfl
theorem vo (f:Nat) (n:Int):(qcq f n).size<=f+1:=by
 induction f generalizing n with
 |zero=>exact jcd 1
 |succ f ih=>
  by_cases h:n<128
  ·rw[qtw h,qcx];omega
  rw[qr8 h,jc4,qcx];have:=ih (n/128);omega
theorem qfi {P:Program} (a b:ByteArray) (h:a.size+b.size<=1000000) (w:World):(Op.stringOp .add a b).run P w=.ok (.string (a++b)) w:=
 run_string_add_sum w a b (by omega)
end
section
open Go.RowKit
def inB (n lo hi:Int):Bool:=decide (lo<=n)&&decide (n<=hi)
theorem jk {n lo hi:Int}:inB n lo hi=true↔lo<=n/\n<=hi:=by simp[inB]
end
section
open Go.RowKit
structure Wr where
 key:Int
 data:ByteArray
 gone:Bool
def qa7 (l:List Wr) (i:Nat):Wr:=l.getD i ⟨0,⟨#[]⟩,false⟩
def qbo (w:World) (b off:Nat) (l:List Wr):Prop:=
 ∀i,i<l.length->w.cell? (AD b (off+i*3))=some (U (qa7 l i).key)/\w.cell? (AD b (off+i*3+1))=some (.string (qa7 l i).data)/\w.cell? (AD b (off+i*3+1+1))=some (.bool (qa7 l i).gone)
variable {w w':World} {l:List Wr}
theorem qbo.later {b c:Nat} (a:Bw w w') (h:qbo w b c l):qbo w' b c l:=λi hi=>
 ⟨cell_later a (h i hi).1,cell_later a (h i hi).2.1,cell_later a (h i hi).2.2⟩
def qdd (l:List Wr) (i:Nat):Bool:=
 inB (qa7 l i).key 0 7&&!(decide (0<i)&&decide ((qa7 l i).key<=(qa7 l (i-1)).key))&&decide ((qa7 l i).data.size<=12)&&!((qa7 l i).gone&&!(qa7 l i).data.toList.isEmpty)
def qad (l:List Wr):Bool:=(List.range l.length).all (qdd l)&&inB l.length 1 5
variable {k:Nat}
theorem qef (a:k<l.length) (h:qdd l k=false):qad l=false:=by
 have e:(List.range l.length).all (qdd l)=false:=by
  rw[List.all_eq_false];exact⟨k,List.mem_range.2 a,by simp[h]⟩
 simp[qad,e]
theorem qvh (h:∀j,j<l.length->qdd l j=true):qad l=inB l.length 1 5:=by
 have e:(List.range l.length).all (qdd l)=true:=by
  rw[List.all_eq_true];exact λj a=>h j (List.mem_range.1 a)
 simp[qad,e]
def okV (k:Nat) (prev:Int) (x:Wr):Bool:=
 inB x.key 0 7&&!(decide (0<k)&&decide (x.key<=prev))&&decide (x.data.size<=12)&&!(x.gone&&!x.data.toList.isEmpty)
theorem ql6 {x:Wr} (h:qa7 l k=x):qdd l k=okV k (qa7 l (k-1)).key x:=by rw[<-h];rfl
variable {p:Int}
theorem qso {key:Int} {data:ByteArray} {gone:Bool} (h:inB key 0 7=false):okV k p ⟨key,data,gone⟩=false:=by simp[okV,h]
theorem qvf {key:Int} {data:ByteArray} {gone:Bool} (a:0<k) (h:key<=p):okV k p ⟨key,data,gone⟩=false:=by simp[okV,a,h]
theorem qtz {key:Int} {data:ByteArray} {gone:Bool} (h:12<(data.size:Int)):okV k p ⟨key,data,gone⟩=false:=by
 have e:decide (data.size<=12)=false:=decide_eq_false (by omega);simp[okV,e]
theorem qpo {key:Int} {data:ByteArray} {gone:Bool} (h:gone=true) (a:data.toList.isEmpty=false):okV k p ⟨key,data,gone⟩=false:=by simp[okV,h,a]
theorem qhr {key:Int} {data:ByteArray} {gone:Bool} (h:inB key 0 7=true) (a:k=0\/¬key<=p) (f:¬12<(data.size:Int)) (b:gone=false\/data.toList.isEmpty=true):okV k p ⟨key,data,gone⟩=true:=by
 have e:decide (data.size<=12)=true:=decide_eq_true (by omega)
 have c:(!(decide (0<k)&&decide (key<=p)))=true:=by
  rcases a with a|a
  ·simp[a]
  simp only[decide_eq_false a,Bool.and_false,Bool.not_false]
 have d:(!(gone&&!data.toList.isEmpty))=true:=by
  rcases b with b|b<;>simp[b]
 simp only[okV,h,e,c,d,Bool.and_self]
theorem qmg (h:∀j,j<k->qdd l j=true) (b:qdd l k=true):∀j,j<k+1->qdd l j=true:=λj c=>by
 rcases jc7 j k with a|a
 ·exact h j a
 obtain rfl:j=k:=by omega
 exact b
structure qr (w:World) (a:Option Addr) (cap:Nat) (l:List Wr):Prop where
 len:l.length<=cap
 cap:cap<=9223372036854775807
 held:l=[]\/∃b off,a=some (AD b off)/\qbo w b off l
theorem qr.later {a:Option Addr} {cap:Nat} (d:Bw w w') (h:qr w a cap l):qr w' a cap l:=
 ⟨h.len,h.cap,h.held.elim .inl λ⟨b,f,e,c⟩=>.inr ⟨b,f,e,c.later d⟩⟩
def qp (site d0 d1 d2 d3:Int):Int:=if site=0 then d0 else if site=1 then d1 else if site=2 then d2 else d3
def jt (site seq wall count d0 d1 d2 d3:Int) (l:List Wr):Bool:=
 inB site 0 3&&inB seq 1 1099511627776&&(qi wall&&qi count)&&jb d0 d1 d2 d3&&decide (qp site d0 d1 d2 d3=seq-1)&&qad l
def qv6 (g:Bool):ByteArray:=if g then ⟨#[1]⟩else ⟨#[0]⟩
def stepS (s:ByteArray) (x:Wr):ByteArray:=s++qcq 5 x.key++qv6 x.gone++(qcq 5 (x.data.size:Int)++x.data)
def wrS (s:ByteArray) (l:List Wr):ByteArray:=l.foldl stepS s
def qnh (site seq wall count d0 d1 d2 d3:Int) (n:Int):ByteArray:=(⟨#[116]⟩:ByteArray)++qcq 5 site++qcq 5 seq++qcq 5 wall++qcq 5 count++qcq 5 d0++qcq 5 d1++qcq 5 d2++qcq 5 d3++qcq 5 n
def txS (site seq wall count d0 d1 d2 d3:Int) (l:List Wr):ByteArray:=wrS (qnh site seq wall count d0 d1 d2 d3 l.length) l
theorem qw1 (g:Bool):(qv6 g).size=1:=by cases g<;>rfl
variable {s:ByteArray}
theorem qu5 (a:k<l.length):wrS s (l.take (k+1))=stepS (wrS s (l.take k)) (qa7 l k):=by
 unfold wrS;rw[jc1 a,List.foldl_append];simp[qa7,List.getD,List.getElem?_eq_getElem a]
theorem qw4 (s:ByteArray) (x:Wr) (h:x.data.size<=12):(stepS s x).size<=s.size+25:=by
 have a:=vo 5 x.key;have b:=vo 5 (x.data.size:Int);simp only[stepS,jc4,qw1];omega
theorem qmq (h:qdd l k=true):(qa7 l k).data.size<=12:=by
 simp only[qdd,jct,decide_eq_true_eq]at h;exact h.1.2
theorem qoy (h:qdd l k=true):0<=(qa7 l k).key/\(qa7 l k).key<=7:=by
 simp only[qdd,jct,jk]at h;exact h.1.1.1
theorem qor {s:ByteArray} {l:List Wr} (h:∀j,j<l.length->qdd l j=true):∀k,k<=l.length->(wrS s (l.take k)).size<=s.size+25*k
 |0,_=>by simp[wrS]
 |k+1,hk=>by
  rw[qu5 (by omega)];have a:=qor (s:=s) h k (by omega);have b:=qw4 (wrS s (l.take k)) (qa7 l k) (qmq (h k (by omega)));omega
theorem qos (j m wall o q r t u n:Int):(qnh j m wall o q r t u n).size<=55:=by
 have a:=vo 5 j;have b:=vo 5 m;have c:=vo 5 wall;have d:=vo 5 o;have e:=vo 5 q;have f:=vo 5 r;have g:=vo 5 t;have h:=vo 5 u;have i:=vo 5 n;have z:(⟨#[116]⟩:ByteArray).size=1:=rfl;simp only[qnh,jc4];omega
theorem qkl (h:qad l=true):∀j,j<l.length->qdd l j=true:=λj a=>by
 simp only[qad,jct,List.all_eq_true]at h;exact h.1 j (List.mem_range.2 a)
theorem qjz (h:qad l=true):1<=l.length/\l.length<=5:=by
 simp only[qad,jct,jk]at h;omega
end
section
open Go.RowKit
structure Own (w:World) (B g cap:Nat) (S:ByteArray):Prop where
 base:B<=g
 lt:g<w.heap.size
 room:S.size<=cap
 most:cap<=maxLen
 have_:∀j u,(byteCells S)[j]?=some u->w.cell? (AD g j)=some u
 there:∀j,j<cap->(w.cell? (AD g j)).isSome=true
 free:∀j,j<cap->w.frozen? (AD g j)=false
variable {w w':World} {B g:Nat} {S:ByteArray}
theorem Own.kept {cap:Nat} (h:Own w B g cap S) (a:w'.heap[g]?=w.heap[g]?) (c:w.heap.size<=w'.heap.size):Own w' B g cap S:=
 ⟨h.base,jci h.lt c,h.room,h.most,λj u d=>by rw[jch (w:=w) a];exact h.have_ j u d,
   λj b=>by rw[jch (w:=w) a];exact h.there j b,λj b=>by rw[jcp (w:=w) a];exact h.free j b⟩
theorem Own.later {cap:Nat} (h:Own w B g cap S) (a:Bw w w'):Own w' B g cap S:=h.kept (a.block g h.lt) a.size
theorem Own.alloc {cap:Nat} (h:Own w B g cap S) (o:Obj):Own (w.alloc o) B g cap S:=h.later (boxed (jcc _ _) o)
theorem qe4 (a b:ByteArray):byteCells (a++b)=byteCells a++byteCells b:=by
 unfold byteCells;rw[ByteArray.data_append,Array.toList_append,jdb]
variable {n:Int}
theorem qkx (a:0<=n) (b:n<256):byteCells (qft n)=[.int .u8 n]:=by
 have e:(UInt8.ofNat n.toNat).toNat=n.toNat:=by
  rw[UInt8.toNat_ofNat'];exact Nat.mod_eq_of_lt (by omega)
 show [Value.int .u8 (UInt8.ofNat n.toNat).toNat]=_;rw[e,Int.toNat_of_nonneg a]
theorem Own.mono {a cap:Nat} (h:Own w B g cap S) (b:a<=B):Own w a g cap S:=⟨jcn b h.base,h.lt,h.room,h.most,h.have_,h.there,h.free⟩
theorem Own.one (w:World) (B:Nat) (e:TypeId) (c:0<=n) (d:n<256) (f:B<=w.heap.size):Own (w.alloc (.cells #[.int .u8 n] e (1,2))) B w.heap.size 1 (qft n):=by
 have a:=λj=>cell_of_row _ w.heap.size j _ e (1,2) (heap_alloc_new w (.cells #[.int .u8 n] e (1,2)));refine⟨f,by simp,jcd _,by simp[maxLen],λj u b=>?_,λj h=>?_,λj h=>?_⟩
 ·rw[qkx c d]at b;rw[a];simpa using b
 ·obtain rfl:j=0:=by omega
  rw[a];rfl
 obtain rfl:j=0:=by omega
 have i:=heap_alloc_new w (.cells #[.int .u8 n] e (1,2));unfold World.frozen?;rw[i];rfl
abbrev yu (g:Nat) (w w':World):Prop:=w.grownBy w' (some g)
theorem yu.refl (g:Nat) (w:World):yu g w w:=⟨rfl,rfl,rfl,jcd _,λ_ _ _=>rfl⟩
theorem yu.trans {g':Nat} {a b c:World} (h:yu g a b) (k:yu g' b c) (e:g'=g\/a.heap.size<=g'):yu g a c:=
 ⟨k.os.trans h.os,k.tape.trans h.tape,k.output.trans h.output,jcn h.size k.size,λi hi d=>
   (k.block i (jci hi h.size) (λx=>by
     injection x with x;rcases e with e|e
     ·exact d (by rw[x,e])
     omega)).trans (h.block i hi d)⟩
theorem yu.ofBelow (h:Bw w w'):yu g w w':=⟨h.os,h.tape,h.output,h.size,λk a _=>h.block k a⟩
theorem yu.below (h:yu g w w') (a:B<=g) (b:B<=w.heap.size):Below B w w':=
 ⟨h.os,h.tape,h.output,h.size,λk c=>h.block k (by omega) (λx=>by injection x with x;omega)⟩
theorem yu.cell (h:yu g w w') {p:Addr} {v:Value} (a:w.cell? p=some v) (b:p.block≠g):w'.cell? p=some v:=World.grownBy.cell h a (λx=>by injection x with x;exact b x)
theorem zg (g:Nat):∀(a:List Value) (o:Nat) (w:World),yu g w (w.setCells g o a)
 |[],_,w=>yu.refl g w
 |v::a,o,w=>
  have b:yu g w (w.setCell (AD g o) v):=⟨rfl,rfl,rfl,by simp[World.setCell],λk _ c=>jce w (AD g o) v k (λe=>c (by rw[e]))⟩
  yu.trans b (zg g a (o+1) (w.setCell (AD g o) v)) (.inl rfl)
variable {P:Program}
theorem qmy (t f o e:TypeId) (q:P.underlying t=some (.slice e)) (C:(P.info? e).map (λi=>(i.zero,i.size,i.bytes))=some (some (.int .u8 0),1,1))
 {cap:Nat} (c:Own w B g cap S) (T:ByteArray) (v:Value) (r:Src P 1 f v T.size (byteCells T) w) (R:S.size+T.size<=1000000) (D:B<=w.heap.size):
 ∃g' s w',(Builtin.append_ #[t,f] o #[.slice (PT g) S.size cap,v]).run P w=.ok (.slice (PT g') (S++T).size s) w'/\Own w' B g' s (S++T)/\(g'=g\/g'=w.heap.size)/\yu g w w':=by
 obtain⟨i,hi,E,d,F⟩:=info_parts C;have x:=byteCells_length T;have p:=byteCells_length S;rw[jc4];by_cases y:S.size+T.size<=cap
 ·have l:∀j,j<(byteCells T).length->(w.cell? (AD g (0+S.size*i.size+j))).isSome=true:=λj b=>by
   rw[d,Nat.mul_one,Nat.zero_add];exact c.there _ (by omega)
  have G:∀j,j<(byteCells T).length->w.frozen? (AD g (0+S.size*i.size+j))=false:=λj b=>by
   rw[d,Nat.mul_one,Nat.zero_add];exact c.free _ (by omega)
  have m:=run_append_room_src (P:=P) w t f o e i q hi g 0 S.size cap v T.size (byteCells T) (by rw[d];exact r) y l G;rw[d,Nat.mul_one,Nat.zero_add]at m;rw[d,Nat.mul_one,Nat.zero_add]at l;refine⟨g,cap,_,m,⟨c.base,jci c.lt (zg g _ _ w).size,by rw[jc4];exact y,c.most,?_,?_,?_⟩,.inl rfl,zg g _ _ w⟩
  ·intro j u a;rw[qe4]at a;rcases jc7 j S.size with b|b
   ·rw[jc3 (by omega)]at a;rw[World.cell?_setCells_out g _ _ _ _ (λ_ _=>.inl b)];exact c.have_ j u a
   rw[jc0 (by omega),p]at a
   have z:j-S.size<(byteCells T).length:=by
        rcases jc7 (j-S.size) (byteCells T).length with h|h
        ·exact h
        rw[List.getElem?_eq_none h]at a;cases a
   have:=World.cell?_setCells_in g (byteCells T) S.size w l (j-S.size) z;rw[Nat.add_sub_cancel' b]at this;rw[this];rw[jcg z]at a;exact a
  ·intro j b;by_cases H:S.size<=j/\j<S.size+T.size
   ·have:=World.cell?_setCells_in g (byteCells T) S.size w l (j-S.size) (by omega);rw[Nat.add_sub_cancel' H.1]at this;rw[this];rfl
   rw[World.cell?_setCells_out g _ _ _ _ (λ_ _=>by rw[x];show j<S.size\/S.size+T.size<=j;omega)];exact c.there j b
  intro j b;rw[World.frozen?_setCells];exact c.free j b
 have I:(Builtin.firstCells i.size S.size (.slice (PT g) S.size cap)).run P w.drew=.ok (byteCells S).toArray w.drew:=
  run_firstCells_some w.drew i.size S.size (AD g 0) S.size cap (byteCells S) (by rw[d,Nat.mul_one,p]) (λj u a=>by
   have J:((AD g 0):Addr).add j=(AD g j):=by unfold Addr.add;split<;>simp_all
   rw[J]
   exact c.have_ j u a)
 have m:=run_append_grow_src (P:=P) w t f o e i (.int .u8 0) q hi E (PT g) S.size cap (byteCells S) I v T.size (byteCells T) (by rw[d];exact r) (by omega) (by omega) (by rw[F];exact growslice_fits (by omega) (by omega));have K:=grownCap_ge w (S.size+T.size) cap e;have L:=grownCap_le_maxLen w (S.size+T.size) cap e (by simp only[maxLen];omega)
 have M:((byteCells S++byteCells T).toArray++Builtin.zeroCells (Value.int IntKind.u8 0).cells (grownCap w (S.size+T.size) cap e-(S.size+T.size))).size=grownCap w (S.size+T.size) cap e:=by
  have N:(Value.int IntKind.u8 0).cells.size=1:=rfl;simp only[Array.size_append,List.size_toArray,jcl,size_zeroCells,N,x,p];omega
 have O:=heap_alloc_new w.drew (.cells ((byteCells S++byteCells T).toArray++Builtin.zeroCells (Value.int IntKind.u8 0).cells (grownCap w (S.size+T.size) cap e-(S.size+T.size))) e);have A:=λj=>cell_of_row _ w.heap.size j _ e (0,0) O;refine⟨w.heap.size,_,_,m,⟨D,by simp,by rw[jc4];exact K,L,?_,?_,?_⟩,.inr rfl,⟨rfl,rfl,rfl,by simp,λk Q _=>jdg w.drew _ k Q⟩⟩
 ·intro j u a
  rw[A,Array.getElem?_append_left (by
   rcases jc7 j (byteCells (S++T)).length with h|h
   ·rw[qe4]at h;simpa using h
   rw[List.getElem?_eq_none h]at a;cases a)]
  rw[qe4]at a;simpa using a
 ·intro j b;rw[A,jde (by rw[M];exact b)];rfl
 intro j _;exact World.frozen?_alloc_at _ _ _ _ rfl
theorem qbn {d:Array Oper} {rest:List Oper} {o:Oper} {a:Act} {Q:Exit->Act->World->Prop} (f:o.guard=none) (s x:Operand) (t c e:TypeId)
 (j:o.op=.call {callee:=.builtin .append,args:=#[s,x],argTypes:=#[t,c]}) (k:P.underlying t=some (.slice e)) (l:(P.info? e).map (λi=>(i.zero,i.size,i.bytes))=some (some (.int .u8 0),1,1))
 {cap:Nat} (m:a.eval s=.slice (PT g) S.size cap) (p:Own w B g cap S) (T:ByteArray) (v:Value) (q:a.eval x=v) (r:Src P 1 c v T.size (byteCells T) w) (u:S.size+T.size<=1000000) (y:B<=w.heap.size)
 (h:∀S' g' b w',Hid (S'=S++T)->Own w' B g' b S'->(g'=g\/g'=w.heap.size)->yu g w w'->wpList P d Q rest (a.put o.dst (.slice (PT g') S'.size b)) w'):wpList P d Q (o::rest) a w:=by
 refine wpList_plain f λK z=>?_;obtain⟨g',b,w',A,C,D,E⟩:=qmy (P:=P) t c o.type e k l p T v r u y;unfold Oper.wp execOp;simp only[j,resolve,invoke,builtin,Sem.run_bind,Sem.run_pure,Result.andThen_ok,List.map_toArray,List.map_cons,List.map_nil,m,q,A];exact z _ _ (h _ g' b w' rfl C D E)
theorem q0w {d e:TypeId} (f:P.underlying d=some (.slice e)) {b:Nat} (h:0<=n) (i:n<256) (c:Nat) (k:w.cell? (AD b 0)=some (.int .u8 n)):
 Src P 1 d (.slice (PT b) 1 c) (qft n).size (byteCells (qft n)) w:=by
 rw[qcx,qkx h i];refine Src.ofSlice w f _ 1 c _ rfl ?_ ?_
 ·intro j u a
  match j,a with
  |0,a=>
   injection a with a;subst a;exact k
  |j+1,a=>cases a
 intro u a;simp only[jcj]at a;subst a;rfl
end
section
open Go.RowKit
structure qd (w:World) (b:Nat) (vs:List Value):Prop where
 cell:∀j v,vs[j]?=some v->w.cell? (AD b j)=some v
 free:∀j,j<vs.length->w.frozen? (AD b j)=false
 lt:b<w.heap.size
variable {w w':World} {b:Nat} {vs:List Value}
theorem qd.kept (h:qd w b vs) (e:w'.heap[b]?=w.heap[b]?) (a:w.heap.size<=w'.heap.size):qd w' b vs:=
 ⟨λj v c=>by rw[jch (w:=w) e];exact h.cell j v c,λj d=>by rw[jcp (w:=w) e];exact h.free j d,jci h.lt a⟩
theorem qd.later (h:qd w b vs) (a:Bw w w'):qd w' b vs:=h.kept (a.block b h.lt) a.size
theorem qd.only {a:Nat} (h:qd w b vs) (c:yu a w w') (d:b≠a):qd w' b vs:=h.kept (c.block b h.lt (λx=>by injection x with x;exact d x)) c.size
theorem qd.grown {r:Option Nat} (h:qd w b vs) (a:w.grownBy w' r) (c:some b≠r):qd w' b vs:=h.kept (a.block b h.lt c) a.size
theorem qd.far (h:qd w b vs) (p:Addr) (u:Value) (a:p.block≠b):qd (w.setCell p u) b vs:=h.kept (jce _ _ _ _ (Ne.symm a)) (by simp[World.setCell])
theorem qd.boxed (h:qd w b vs) (o:Obj):qd (w.alloc o) b vs:=h.kept (jdg _ _ _ h.lt) (by simp)
theorem qd.drew (h:qd w b vs):qd w.drew b vs:=h.kept rfl (jcd _)
variable {T:TypeId}
theorem qd.new {n:Nat} (vs:List Value) (a:w.heap.size=n):qd (w.alloc (.cells vs.toArray T)) n vs:=by
 subst a;have c:=heap_alloc_new w (.cells vs.toArray T);refine⟨λj v d=>?_,λj _=>World.frozen?_alloc_at _ _ _ _ rfl,by simp⟩;rw[cell_of_row _ w.heap.size j _ T (0,0) c];simpa using d
theorem qd.set (h:qd w b vs) (k:Nat) (u:Value) (d:k<vs.length):qd (w.setCell (AD b k) u) b (vs.set k u):=by
 refine⟨λj v a=>?_,λj c=>by rw[jcm];exact h.free j (by simpa using c),by simpa[World.setCell]using h.lt⟩;by_cases c:k=j
 ·subst c;rw[List.getElem?_set_self d]at a;injection a with a;subst a;exact jc8 _ _ _ (h.cell k vs[k] (jcg d))
 rw[List.getElem?_set_ne c]at a;rw[jco _ _ _ _ (by intro e;injection e with _ e _;exact c e)];exact h.cell j v a
def wrC (x:Wr):List Value:=[U x.key,.string x.data,.bool x.gone]
def qcf (l:List Wr):List Value:=l.flatMap wrC
theorem qdt (l:List Wr):(qcf l).length=l.length*3:=by
 induction l with
 |nil=>rfl
 |cons x l ih=>
  show (wrC x++qcf l).length=_;rw[jcl,ih];simp[wrC];omega
theorem qkh (l:List Wr) (x:Wr):qcf (l++[x])=qcf l++wrC x:=by simp[qcf]
theorem qr5:∀(l:List Wr) (i:Nat),i<l.length->(qcf l)[i*3]?=some (U (qa7 l i).key)/\(qcf l)[i*3+1]?=some (.string (qa7 l i).data)/\(qcf l)[i*3+1+1]?=some (.bool (qa7 l i).gone)
 |[],_,h=>by simp at h
 |x::l,0,_=>⟨rfl,rfl,rfl⟩
 |x::l,i+1,h=>by
  have a:=qr5 l i (by simpa using h);have e:qa7 (x::l) (i+1)=qa7 l i:=rfl
  have c:(i+1)*3=i*3+1+1+1:=by omega
  rw[e,c];exact a
theorem qal (g j:Nat):((AD g 0):Addr).add j=(AD g j):=by unfold Addr.add;split<;>simp_all
variable {v:Value}
theorem qbg {B:Nat} {l:List Wr} (h:w.ownsRow B T 3 v l.length (qcf l)):∃a cap,v=.slice a l.length cap/\qr w a cap l:=by
 rcases h.2 with ⟨rfl,d⟩|⟨g,cap,cur,rfl,n,o,k,m,p,q⟩
 ·exact⟨none,0,by rw[d],⟨by omega,by omega,.inl (jc2 d)⟩⟩
 refine⟨_,cap,rfl,⟨k,by simp only[maxLen]at m;omega,.inr ⟨g,0,rfl,λi hi=>?_⟩⟩⟩;have c:=h.cells (g:=g) rfl;obtain⟨a0,a1,a2⟩:=qr5 l i hi;have e:=c _ _ a0;have f:=c _ _ a1;have j:=c _ _ a2;rw[qal]at e f j;rw[Nat.zero_add];exact⟨e,f,j⟩
theorem je {P:Program} {c:Array Oper} {o:Oper} {a:Act} {K:Act->World->Prop} {Q:Exit->Act->World->Prop} {E:Prop} (d:o.guard=none) (f:FuncId) (args:Array Value)
 (g:(execOp a.eval o).run P w=.ok (.enter f args) w) {R:Ending->World->Prop} (h:Calls P f args w R) (i:∀e w',R e w'->∃v,e=.returned v/\K (a.put o.dst v) w'):
 if Region.wanted o (yielded c a.tmps)=true then Oper.wp P o a w K Q else E:=by
 have j:Region.wanted o (yielded c a.tmps)=true:=by simp[Region.wanted,d]
 rw[if_pos j];unfold Oper.wp;rw[g]
 exact h.mono λe w' k=>by
  obtain⟨v,rfl,l⟩:=i e w' k;exact l
theorem qd.c (h:qd w b vs) (j:Nat) (e:vs[j]?=some v:=by rfl):w.cell? ⟨b,j,none⟩=some v:=h.cell j v e
theorem qd.f (h:qd w b vs) (j:Nat) (e:j<vs.length:=by simp):w.frozen? ⟨b,j,none⟩=false:=h.free j e
variable {a0 a1 a2 a3:Value}
theorem qd.c4 (h:qd w b [a0,a1,a2,a3]):w.cell? ⟨b,0,none⟩=some a0/\w.cell? ⟨b,1,none⟩=some a1/\w.cell? ⟨b,2,none⟩=some a2/\w.cell? ⟨b,3,none⟩=some a3:=⟨h.cell 0 _ rfl,h.cell 1 _ rfl,h.cell 2 _ rfl,h.cell 3 _ rfl⟩
variable {a4 a5:Value}
theorem qd.c6 (h:qd w b [a0,a1,a2,a3,a4,a5]):w.cell? ⟨b,0,none⟩=some a0/\w.cell? ⟨b,1,none⟩=some a1/\w.cell? ⟨b,2,none⟩=some a2/\w.cell? ⟨b,3,none⟩=some a3/\w.cell? ⟨b,4,none⟩=some a4/\w.cell? ⟨b,5,none⟩=some a5:=⟨h.cell 0 _ rfl,h.cell 1 _ rfl,h.cell 2 _ rfl,h.cell 3 _ rfl,h.cell 4 _ rfl,h.cell 5 _ rfl⟩
variable {a6 a7 a8:Value}
theorem qd.c9 (h:qd w b [a0,a1,a2,a3,a4,a5,a6,a7,a8]):w.cell? ⟨b,0,none⟩=some a0/\w.cell? ⟨b,1,none⟩=some a1/\w.cell? ⟨b,2,none⟩=some a2/\w.cell? ⟨b,3,none⟩=some a3/\w.cell? ⟨b,4,none⟩=some a4/\w.cell? ⟨b,5,none⟩=some a5/\w.cell? ⟨b,6,none⟩=some a6/\w.cell? ⟨b,7,none⟩=some a7/\w.cell? ⟨b,8,none⟩=some a8:=⟨h.cell 0 _ rfl,h.cell 1 _ rfl,h.cell 2 _ rfl,h.cell 3 _ rfl,h.cell 4 _ rfl,h.cell 5 _ rfl,h.cell 6 _ rfl,h.cell 7 _ rfl,h.cell 8 _ rfl⟩
variable {a9:Value}
theorem qd.c15 {a c d e f:Value} (h:qd w b [a0,a1,a2,a3,a4,a5,a6,a7,a8,a9,a,c,d,e,f]):w.cell? ⟨b,0,none⟩=some a0/\w.cell? ⟨b,1,none⟩=some a1/\w.cell? ⟨b,2,none⟩=some a2/\w.cell? ⟨b,3,none⟩=some a3/\w.cell? ⟨b,4,none⟩=some a4/\w.cell? ⟨b,5,none⟩=some a5/\w.cell? ⟨b,6,none⟩=some a6/\w.cell? ⟨b,7,none⟩=some a7/\w.cell? ⟨b,8,none⟩=some a8/\w.cell? ⟨b,9,none⟩=some a9/\w.cell? ⟨b,10,none⟩=some a/\w.cell? ⟨b,11,none⟩=some c/\w.cell? ⟨b,12,none⟩=some d/\w.cell? ⟨b,13,none⟩=some e/\w.cell? ⟨b,14,none⟩=some f:=⟨h.cell 0 _ rfl,h.cell 1 _ rfl,h.cell 2 _ rfl,h.cell 3 _ rfl,h.cell 4 _ rfl,h.cell 5 _ rfl,h.cell 6 _ rfl,h.cell 7 _ rfl,h.cell 8 _ rfl,h.cell 9 _ rfl,h.cell 10 _ rfl,h.cell 11 _ rfl,h.cell 12 _ rfl,h.cell 13 _ rfl,h.cell 14 _ rfl⟩
theorem qd.f4 (h:qd w b [a0,a1,a2,a3]):w.frozen? ⟨b,0,none⟩=false/\w.frozen? ⟨b,1,none⟩=false/\w.frozen? ⟨b,2,none⟩=false/\w.frozen? ⟨b,3,none⟩=false:=⟨h.free 0 (by simp),h.free 1 (by simp),h.free 2 (by simp),h.free 3 (by simp)⟩
theorem qd.f6 (h:qd w b [a0,a1,a2,a3,a4,a5]):w.frozen? ⟨b,0,none⟩=false/\w.frozen? ⟨b,1,none⟩=false/\w.frozen? ⟨b,2,none⟩=false/\w.frozen? ⟨b,3,none⟩=false/\w.frozen? ⟨b,4,none⟩=false/\w.frozen? ⟨b,5,none⟩=false:=⟨h.free 0 (by simp),h.free 1 (by simp),h.free 2 (by simp),h.free 3 (by simp),h.free 4 (by simp),h.free 5 (by simp)⟩
theorem qd.f9 (h:qd w b [a0,a1,a2,a3,a4,a5,a6,a7,a8]):w.frozen? ⟨b,0,none⟩=false/\w.frozen? ⟨b,1,none⟩=false/\w.frozen? ⟨b,2,none⟩=false/\w.frozen? ⟨b,3,none⟩=false/\w.frozen? ⟨b,4,none⟩=false/\w.frozen? ⟨b,5,none⟩=false/\w.frozen? ⟨b,6,none⟩=false/\w.frozen? ⟨b,7,none⟩=false/\w.frozen? ⟨b,8,none⟩=false:=⟨h.free 0 (by simp),h.free 1 (by simp),h.free 2 (by simp),h.free 3 (by simp),h.free 4 (by simp),h.free 5 (by simp),h.free 6 (by simp),h.free 7 (by simp),h.free 8 (by simp)⟩
theorem qd.f15 {a c d e f:Value} (h:qd w b [a0,a1,a2,a3,a4,a5,a6,a7,a8,a9,a,c,d,e,f]):w.frozen? ⟨b,0,none⟩=false/\w.frozen? ⟨b,1,none⟩=false/\w.frozen? ⟨b,2,none⟩=false/\w.frozen? ⟨b,3,none⟩=false/\w.frozen? ⟨b,4,none⟩=false/\w.frozen? ⟨b,5,none⟩=false/\w.frozen? ⟨b,6,none⟩=false/\w.frozen? ⟨b,7,none⟩=false/\w.frozen? ⟨b,8,none⟩=false/\w.frozen? ⟨b,9,none⟩=false/\w.frozen? ⟨b,10,none⟩=false/\w.frozen? ⟨b,11,none⟩=false/\w.frozen? ⟨b,12,none⟩=false/\w.frozen? ⟨b,13,none⟩=false/\w.frozen? ⟨b,14,none⟩=false:=⟨h.free 0 (by simp),h.free 1 (by simp),h.free 2 (by simp),h.free 3 (by simp),h.free 4 (by simp),h.free 5 (by simp),h.free 6 (by simp),h.free 7 (by simp),h.free 8 (by simp),h.free 9 (by simp),h.free 10 (by simp),h.free 11 (by simp),h.free 12 (by simp),h.free 13 (by simp),h.free 14 (by simp)⟩
end
section
open Go.RowKit
structure Ver where
 wall:Int
 count:Int
 site:Int
 seq:Int
 data:ByteArray
 gone:Bool
structure Hd where
 key:Int
 v:Ver
def jq:Ver:=⟨0,0,0,0,⟨#[]⟩,false⟩
def qh (v:Ver):List Value:=[U v.wall,U v.count,U v.site,U v.seq,.string v.data,.bool v.gone]
def hdL (h:Hd):List Value:=[U h.key,U h.v.wall,U h.v.count,U h.v.site,U h.v.seq,.string h.v.data,.bool h.v.gone]
def qjb (l:List Hd):List Value:=l.flatMap hdL
def qbd (l:List Hd) (i:Nat):Hd:=l.getD i ⟨0,jq⟩
theorem qh8 (l:List Hd) (x:Hd):qjb (l++[x])=qjb l++hdL x:=by simp[qjb]
theorem q0r:∀(l:List Hd) (i r:Nat) (u:Value),i<l.length->(hdL (qbd l i))[r]?=some u->(qjb l)[i*7+r]?=some u
 |[],_,_,_,h,_=>by simp at h
 |x::l,0,r,u,_,hu=>by
  have a:r<(hdL x).length:=(jck.1 hu).1;show (hdL x++qjb l)[0*7+r]?=some u;rw[Nat.zero_mul,Nat.zero_add,jc3 a];exact hu
 |x::l,i+1,r,u,h,hu=>by
  have b:=q0r l i r u (by simpa using h) hu;show (hdL x++qjb l)[(i+1)*7+r]?=some u
  have e:(i+1)*7+r=(hdL x).length+(i*7+r):=by simp[hdL];omega
  rw[e,jc0 (by omega),Nat.add_sub_cancel_left];exact b
def qw (a b:Ver):Bool:=if qdr a.wall a.count b.wall b.count=0 then decide (a.site<b.site)else decide (qdr a.wall a.count b.wall b.count<0)
def qdp (a0 a1 a2 a3:Int) (v:Ver):Bool:=decide (v.seq<=qp v.site a0 a1 a2 a3)
def qfv (key a0 a1 a2 a3:Int) (best:Option Ver) (h:Hd):Option Ver:=
 if h.key=key/\qdp a0 a1 a2 a3 h.v=true/\(match best with|none=>true|some b=>qw b h.v)=true then some h.v else best
def zn (key a0 a1 a2 a3:Int) (l:List Hd):Option Ver:=l.foldl (qfv key a0 a1 a2 a3) none
variable {a0 a1 a2 a3:Int} {l:List Hd}
theorem qgk {key:Int} {k:Nat} (a:k<l.length):zn key a0 a1 a2 a3 (l.take (k+1))=qfv key a0 a1 a2 a3 (zn key a0 a1 a2 a3 (l.take k)) (qbd l k):=by
 unfold zn;rw[jc1 a,List.foldl_append];simp[qbd,List.getD,List.getElem?_eq_getElem a]
variable {h:Hd}
theorem qe7 {key:Int} {a:Option Ver} (c:¬(h.key=key/\qdp a0 a1 a2 a3 h.v=true/\(match a with|none=>true|some b=>qw b h.v)=true)):qfv key a0 a1 a2 a3 a h=a:=if_neg c
theorem qgj {key:Int} {a:Option Ver} (c:h.key=key/\qdp a0 a1 a2 a3 h.v=true/\(match a with|none=>true|some b=>qw b h.v)=true):qfv key a0 a1 a2 a3 a h=some h.v:=if_pos c
def qau (v:Ver):Bool:=(qi v.wall&&qi v.count)&&inB v.site 0 3&&inB v.seq 1 1099511627776&&decide ((v.data.size:Int)<=12)&&!(v.gone&&!v.data.toList.isEmpty)
theorem qk5 {v:Ver} (h:qau v=true):0<=v.site/\v.site<=3:=by
 simp only[qau,jct,jk]at h;exact h.1.1.1.2
structure q3s (w:World) (a:Option Addr) (cap:Nat) (l:List Hd):Prop where
 len:l.length<=cap
 cap:cap<=9223372036854775807
 held:l=[]\/∃b off,a=some (AD b off)/\∀i r u,i<l.length->(hdL (qbd l i))[r]?=some u->w.cell? (AD b (off+(i*7+r)))=some u
variable {w:World}
theorem q3s.later {w':World} {a:Option Addr} {cap:Nat} (d:Bw w w') (h:q3s w a cap l):q3s w' a cap l:=
 ⟨h.len,h.cap,h.held.elim .inl λ⟨b,f,e,c⟩=>.inr ⟨b,f,e,λi r u hi g=>cell_later d (c i r u hi g)⟩⟩
theorem qhq {B:Nat} {T:TypeId} {v:Value} (h:w.ownsRow B T 7 v l.length (qjb l)):∃a cap,v=.slice a l.length cap/\q3s w a cap l:=by
 rcases h.2 with ⟨rfl,b⟩|⟨g,cap,cur,rfl,j,k,d,e,m,n⟩
 ·exact⟨none,0,by rw[b],⟨by omega,by omega,.inl (jc2 b)⟩⟩
 refine⟨_,cap,rfl,⟨d,by simp only[maxLen]at e;omega,.inr ⟨g,0,rfl,λi r u hi f=>?_⟩⟩⟩;have c:=h.cells (g:=g) rfl _ _ (q0r l i r u hi f);rw[qal]at c;rw[Nat.zero_add];exact c
end
section
open Go.RowKit
theorem qew (n:Int) (w:World):
 Ca 271 #[U n] w λe w'=>e=.returned (.bool (qi n))/\w'=w:=by
 by_cases a:0<=n
 ·by_cases b:n<=1099511627776
  ·rw[qf7 a b];go_enter Tryz.func271,Tryz.ntmps271
   go_wp2
   go_ret;exact⟨rfl,rfl⟩
  have e:qi n=false:=by simp[qi,b]
  rw[e];go_enter Tryz.func271,Tryz.ntmps271
  go_wp2
  go_ret;exact⟨rfl,rfl⟩
 have e:qi n=false:=by simp[qi,a]
 rw[e];go_enter Tryz.func271,Tryz.ntmps271
 go_wp2
 go_ret;exact⟨rfl,rfl⟩
theorem qe6 (x c:Int) (w:World):
 Ca 270 #[.agg #[U x,U c]] w (Rn (.bool (qi x&&qi c)) w):=by
 by_cases h:qi x=true;rw[h]
 rotate_left
 have a:qi x=false:=by simpa using h
 rw[a]
 all_goals
  go_enter Tryz.func270,Tryz.ntmps270
  go_wp2_with (go_at_call 271;refine(qew _ _).mono ?_;rintro e w' ⟨rfl,rfl⟩)
  go_ret;exact⟨by simp,(jcc _ _).alloc (jcd _) _⟩
end
section
open Tryz Go.RowKit
theorem q1u (x:Int) (w:World):
 Ca 292 #[U x] w λe w'=>e=.returned (.bool false)/\w'=w:=by
 go_enter func292,ntmps292
 go_wp2
 go_ret;exact⟨by simp,rfl⟩
theorem q0n (x y:Int) (w:World):
 Ca 289 #[U x,U y] w λe w'=>e=.returned (U (qic x y))/\w'=w:=by
 rcases Int.lt_trichotomy x y with h|h|h;rw[qz9 h]
 rotate_left
 subst h;rw[q0h]
 rotate_left
 rw[qz3 h]
 have a:¬x<y:=by omega
 all_goals
  go_enter func289,ntmps289
  go_wp2_with (go_at_call 292;refine(q1u _ _).mono ?_;rintro e w' ⟨rfl,rfl⟩)
  go_ret;exact⟨rfl,rfl⟩
theorem qg0 (a c b d:Int) (w:World):
 Ca 287 #[.agg #[U a,U c],.agg #[U b,U d]] w (Rn (U (qdr a c b d)) w):=by
 by_cases h:qic a b=0
 have e:qdr a c b d=qic c d:=by simp[qdr,h]
 rw[e]
 have f:(qic a b==0)=true:=by simp[h]
 rotate_left
 have e:qdr a c b d=qic a b:=by simp[qdr,h]
 rw[e]
 have f:(qic a b==0)=false:=by simp[h]
 all_goals
  go_enter func287,ntmps287
  go_wp2_with (go_at_call 289;refine(q0n _ _ _).mono ?_;rintro e w' ⟨rfl,rfl⟩)
  go_ret;exact⟨rfl,((jcc _ _).alloc (jcd _) _).alloc (by simp) _⟩
theorem q8l (d f a b:Int) (w:World) (h:qdr d f a b<0):
 Ca 273 #[.agg #[U d,U f],.agg #[U a,U b]] w (Rn (.agg #[U a,U b]) w):=by
 go_enter func273,ntmps273
 go_wp2_with fail
 refine(qg0 _ _ _ _ _).mono ?_;rintro e g ⟨rfl,c⟩;obtain⟨i,j⟩:=qdb c
 have k:w.heap.size+2<g.heap.size:=by have:=c.size;simp at this;omega
 go_wp2
 exact bodyPost_ret (v:=.agg #[U a,U b]) (by simp[results,results273,go_sem,i]) rfl ⟨rfl,((qs1 c).setCell (by simp;omega) _).setCell (by simp;omega) _⟩
theorem q78 (a b d f:Int) (w:World) (h:¬qdr a b d f<0):
 Ca 273 #[.agg #[U a,U b],.agg #[U d,U f]] w (Rn (.agg #[U a,U b]) w):=by
 go_enter func273,ntmps273
 go_wp2_with fail
 refine(qg0 _ _ _ _ _).mono ?_;rintro e g ⟨rfl,c⟩;obtain⟨i,j⟩:=qdb c
 have k:w.heap.size+2<g.heap.size:=by have:=c.size;simp at this;omega
 go_wp2
 exact bodyPost_ret (v:=.agg #[U a,U b]) (by simp[results,results273,go_sem,i]) rfl ⟨rfl,((qs1 c).setCell (by simp;omega) _).setCell (by simp;omega) _⟩
theorem qv7 (lw lc now:Int) (w:World) (h:(qi lw&&qi lc)=false):
 Ca 243 #[.agg #[U lw,U lc],U now] w (Rn (.tuple #[.agg #[U 0,U 0],.iface 26 (U 2)]) w):=by
 go_enter func243,ntmps243
 go_wp2_with fail
 refine(qe6 _ _ _).mono ?_;rintro e b ⟨rfl,a⟩;obtain⟨c,d⟩:=qdb a
 have f:w.heap.size+1<b.heap.size:=by have:=a.size;simp at this;omega
 go_wp2_with (go_at_call 271;refine(qew _ _).mono ?_;rintro e w' ⟨rfl,rfl⟩)
 exact bodyPost_ret (v:=.tuple #[.agg #[U 0,U 0],.iface 26 (U 2)]) (by simp[results,results243,go_sem,c]) rfl ⟨rfl,((qhb a).setCell (by simp) _).setCell (by simp) _⟩
theorem quj (lw lc now:Int) (w:World) (h:(qi lw&&qi lc)=true) (d:qi now=false):
 Ca 243 #[.agg #[U lw,U lc],U now] w (Rn (.tuple #[.agg #[U 0,U 0],.iface 26 (U 2)]) w):=by
 go_enter func243,ntmps243
 go_wp2_with fail
 refine(qe6 _ _ _).mono ?_;rintro e b ⟨rfl,a⟩;obtain⟨c,f⟩:=qdb a
 have g:w.heap.size+1<b.heap.size:=by have:=a.size;simp at this;omega
 go_wp2_with (go_at_call 271;refine(qew _ _).mono ?_;rintro e w' ⟨rfl,rfl⟩)
 exact bodyPost_ret (v:=.tuple #[.agg #[U 0,U 0],.iface 26 (U 2)]) (by simp[results,results243,go_sem,c]) rfl ⟨rfl,((qhb a).setCell (by simp) _).setCell (by simp) _⟩
theorem q2c (lw lc now:Int) (w:World) (h:(qi lw&&qi lc)=true) (d:qi now=true) (f:lw<now):
 Ca 243 #[.agg #[U lw,U lc],U now] w (Rn (.tuple #[.agg #[U now,U 0],.nilIface]) w):=by
 go_enter func243,ntmps243
 go_wp2_with fail
 refine(qe6 _ _ _).mono ?_;rintro e b ⟨rfl,a⟩;obtain⟨c,g⟩:=qdb a
 have i:w.heap.size+1<b.heap.size:=by have:=a.size;simp at this;omega
 go_wp2_with (go_at_call 271;refine(qew _ _).mono ?_;rintro e w' ⟨rfl,rfl⟩)
 exact bodyPost_ret (v:=.tuple #[.agg #[U now,U 0],.nilIface]) (by simp[results,results243,go_sem,c]) rfl ⟨rfl,((qhb a).setCell (by simp) _).setCell (by simp) _⟩
theorem q1l (lw lc now:Int) (w:World) (h:(qi lw&&qi lc)=true) (d:qi now=true) (f:¬lw<now) (g:(lc==1099511627776)=true):
 Ca 243 #[.agg #[U lw,U lc],U now] w (Rn (.tuple #[.agg #[U 0,U 0],.iface 26 (U 12)]) w):=by
 go_enter func243,ntmps243
 go_wp2_with fail
 refine(qe6 _ _ _).mono ?_;rintro e b ⟨rfl,a⟩;obtain⟨c,i⟩:=qdb a
 have j:w.heap.size+1<b.heap.size:=by have:=a.size;simp at this;omega
 go_wp2_with (go_at_call 271;refine(qew _ _).mono ?_;rintro e w' ⟨rfl,rfl⟩)
 exact bodyPost_ret (v:=.tuple #[.agg #[U 0,U 0],.iface 26 (U 12)]) (by simp[results,results243,go_sem,c]) rfl ⟨rfl,((qhb a).setCell (by simp) _).setCell (by simp) _⟩
theorem qzl (lw lc now:Int) (w:World) (h:(qi lw&&qi lc)=true) (d:qi now=true) (f:¬lw<now) (g:(lc==1099511627776)=false) (i:0<=lc) (j:lc<1099511627776):
 Ca 243 #[.agg #[U lw,U lc],U now] w (Rn (.tuple #[.agg #[U lw,U (lc+1)],.nilIface]) w):=by
 go_enter func243,ntmps243
 go_wp2_with fail
 refine(qe6 _ _ _).mono ?_;rintro e b ⟨rfl,a⟩;obtain⟨c,k⟩:=qdb a
 have l:w.heap.size+1<b.heap.size:=by have:=a.size;simp at this;omega
 go_wp2_with (go_at_call 271;refine(qew _ _).mono ?_;rintro e w' ⟨rfl,rfl⟩)
 exact bodyPost_ret (v:=.tuple #[.agg #[U lw,U (lc+1)],.nilIface]) (by simp[results,results243,go_sem,c]) rfl ⟨rfl,((qhb a).setCell (by simp) _).setCell (by simp) _⟩
end
section
open Go.RowKit
theorem q9q (a b c d:Int) (w:World):(Op.equalIn 10000 79 (.agg #[U a,U b]) (.agg #[U c,U d])).run Tryz.prog w=.ok (a==c&&b==d) w:=by
 have i:=Tryz.underlying3;have a3:=Tryz.isAgg3;have j:=Tryz.sizeOf3
 have e:Tryz.prog.underlying 79=some (.struct (Tryz.prog.fieldsOf 79)):=by kernel_rfl
 have f:Tryz.prog.stoodInHeld 79=false:=by kernel_rfl
 rw[show (10000:Nat)=9999+1 from rfl,run_equalIn_agg w 9999 79 _ _ e f];simp only[Program.fieldsOf,Tryz.underlying79]
 go_simp
 by_cases g:a=c<;>by_cases h:b=d<;>simp[g,h]
theorem qvp (a b c d:Int) (w:World):(binOp .eql 79 (.agg #[U a,U b]) (.agg #[U c,U d])).run Tryz.prog w=.ok (.bool (qhi a b c d)) w:=by
 rw[run_eql_struct,q9q];rfl
end
section
open Go.RowKit
structure ql2 (w:World) (b:Nat) (a0 a1:Int):Prop where
 c0:w.cell? (AD b 0)=some (U a0)
 c1:w.cell? (AD b 1)=some (U a1)
 f0:w.frozen? (AD b 0)=false
 f1:w.frozen? (AD b 1)=false
variable {w:World} {b:Nat} {a0 a1:Int}
theorem ql2.lt (h:ql2 w b a0 a1):b<w.heap.size:=jcr _ _ h.c0
theorem ql2.later {w':World} (a:Bw w w') (h:ql2 w b a0 a1):ql2 w' b a0 a1:=
 have l:=h.lt
 ⟨cell_later a h.c0,cell_later a h.c1,(a.frozen (p:=AD b 0) l).trans h.f0,(a.frozen (p:=AD b 1) l).trans h.f1⟩
theorem ql2.new (w:World) (T:TypeId) (a0 a1:Int):ql2 (w.alloc (.cells #[U a0,U a1] T)) w.heap.size a0 a1:=by
 constructor<;>go_simp
theorem jag {d:World} {T:TypeId} {a c:Int} (e:Below ((w.alloc (.cells #[U a0,U a1] T)).alloc (.cells #[U a,U c] T)).heap.size ((w.alloc (.cells #[U a0,U a1] T)).alloc (.cells #[U a,U c] T)) d):
 ql2 d w.heap.size a0 a1/\ql2 d (w.heap.size+1) a c:=by
 refine⟨((ql2.new w T a0 a1).later (boxed (jcc _ _) _)).later e,?_⟩;have y:=ql2.new (w.alloc (.cells #[U a0,U a1] T)) T a c;simp only[jdi]at y;exact y.later e
end
section
open Go.RowKit
structure qo (w:World) (b:Nat) (a0 a1 a2 a3:Int):Prop where
 c0:w.cell? (AD b 0)=some (U a0)
 c1:w.cell? (AD b 1)=some (U a1)
 c2:w.cell? (AD b 2)=some (U a2)
 c3:w.cell? (AD b 3)=some (U a3)
 f0:w.frozen? (AD b 0)=false
 f1:w.frozen? (AD b 1)=false
 f2:w.frozen? (AD b 2)=false
 f3:w.frozen? (AD b 3)=false
variable {w:World} {b:Nat} {a0 a1 a2 a3:Int}
theorem qo.lt (h:qo w b a0 a1 a2 a3):b<w.heap.size:=jcr _ _ h.c0
theorem qo.later {w':World} (a:Bw w w') (h:qo w b a0 a1 a2 a3):qo w' b a0 a1 a2 a3:=
 have l:=h.lt
 ⟨cell_later a h.c0,cell_later a h.c1,cell_later a h.c2,cell_later a h.c3,(a.frozen (p:=AD b 0) l).trans h.f0,(a.frozen (p:=AD b 1) l).trans h.f1,(a.frozen (p:=AD b 2) l).trans h.f2,(a.frozen (p:=AD b 3) l).trans h.f3⟩
theorem qo.new (w:World) (T:TypeId) (a0 a1 a2 a3:Int):qo (w.alloc (.cells #[U a0,U a1,U a2,U a3] T)) w.heap.size a0 a1 a2 a3:=by
 constructor<;>go_simp
theorem qo.far (h:qo w b a0 a1 a2 a3) (p:Addr) (u:Value) (a:p.block≠b):qo (w.setCell p u) b a0 a1 a2 a3:=by
 have e:(w.setCell p u).heap[b]?=w.heap[b]?:=jce _ _ _ _ (Ne.symm a)
 constructor
 ·rw[jch (w:=w) e];exact h.c0
 ·rw[jch (w:=w) e];exact h.c1
 ·rw[jch (w:=w) e];exact h.c2
 ·rw[jch (w:=w) e];exact h.c3
 ·rw[jcp (w:=w) e];exact h.f0
 ·rw[jcp (w:=w) e];exact h.f1
 ·rw[jcp (w:=w) e];exact h.f2
 rw[jcp (w:=w) e];exact h.f3
theorem qo.set0 (h:qo w b a0 a1 a2 a3) (x:Int):qo (w.setCell (AD b 0) (U x)) b x a1 a2 a3:=
 ⟨jc8 _ _ _ h.c0,(jco _ _ _ _ (by simp)).trans h.c1,(jco _ _ _ _ (by simp)).trans h.c2,(jco _ _ _ _ (by simp)).trans h.c3,(jcm _ _ _ _).trans h.f0,(jcm _ _ _ _).trans h.f1,(jcm _ _ _ _).trans h.f2,(jcm _ _ _ _).trans h.f3⟩
theorem qo.set1 (h:qo w b a0 a1 a2 a3) (x:Int):qo (w.setCell (AD b 1) (U x)) b a0 x a2 a3:=
 ⟨(jco _ _ _ _ (by simp)).trans h.c0,jc8 _ _ _ h.c1,(jco _ _ _ _ (by simp)).trans h.c2,(jco _ _ _ _ (by simp)).trans h.c3,(jcm _ _ _ _).trans h.f0,(jcm _ _ _ _).trans h.f1,(jcm _ _ _ _).trans h.f2,(jcm _ _ _ _).trans h.f3⟩
theorem qo.set2 (h:qo w b a0 a1 a2 a3) (x:Int):qo (w.setCell (AD b 2) (U x)) b a0 a1 x a3:=
 ⟨(jco _ _ _ _ (by simp)).trans h.c0,(jco _ _ _ _ (by simp)).trans h.c1,jc8 _ _ _ h.c2,(jco _ _ _ _ (by simp)).trans h.c3,(jcm _ _ _ _).trans h.f0,(jcm _ _ _ _).trans h.f1,(jcm _ _ _ _).trans h.f2,(jcm _ _ _ _).trans h.f3⟩
theorem qo.set3 (h:qo w b a0 a1 a2 a3) (x:Int):qo (w.setCell (AD b 3) (U x)) b a0 a1 a2 x:=
 ⟨(jco _ _ _ _ (by simp)).trans h.c0,(jco _ _ _ _ (by simp)).trans h.c1,(jco _ _ _ _ (by simp)).trans h.c2,jc8 _ _ _ h.c3,(jcm _ _ _ _).trans h.f0,(jcm _ _ _ _).trans h.f1,(jcm _ _ _ _).trans h.f2,(jcm _ _ _ _).trans h.f3⟩
theorem qo.boxed (h:qo w b a0 a1 a2 a3) (o:Obj):qo (w.alloc o) b a0 a1 a2 a3:=h.later (YtoanjdndmlffdaaGreatDoor.boxed (jcc _ _) o)
theorem qo.drew (h:qo w b a0 a1 a2 a3):qo w.drew b a0 a1 a2 a3:=h.later (jcc _ _).drew
theorem qo.newest {T:TypeId} {n:Nat} (a:w.heap.size=n):qo (w.alloc (.cells #[U a0,U a1,U a2,U a3] T)) n a0 a1 a2 a3:=by
 subst a;exact qo.new w T a0 a1 a2 a3
variable {x0 x1 x2 x3:Int}
theorem qo.set (h:qo w b a0 a1 a2 a3):qo ((((w.setCell (AD b 0) (U x0)).setCell (AD b 1) (U x1)).setCell (AD b 2) (U x2)).setCell (AD b 3) (U x3)) b x0 x1 x2 x3:=
 (((h.set0 x0).set1 x1).set2 x2).set3 x3
theorem qo.far4 {c:Nat} (h:qo w b a0 a1 a2 a3) (a:c≠b):qo ((((w.setCell (AD c 0) (U x0)).setCell (AD c 1) (U x1)).setCell (AD c 2) (U x2)).setCell (AD c 3) (U x3)) b a0 a1 a2 a3:=
 (((h.far (AD c 0) (U x0) a).far (AD c 1) (U x1) a).far (AD c 2) (U x2) a).far (AD c 3) (U x3) a
end
section
open Go.RowKit
theorem qk9 {w:World} {b:Nat} {a0 a1 a2 a3 a:Int} (h:qo w b a0 a1 a2 a3) (c:0<=a) (d:a<=3):w.cell? (AD b a.toNat)=some (U (qp a a0 a1 a2 a3)):=by
 have:a=0\/a=1\/a=2\/a=3:=by omega
 rcases this with rfl|rfl|rfl|rfl
 ·exact h.c0
 ·exact h.c1
 ·exact h.c2
 exact h.c3
def qa6:Option Ver->List Value
 |none=>qh jq
 |some v=>qh v
def qga:Option Ver->Bool
 |none=>false
 |some _=>true
theorem qjl (a:Option Ver):qa6 a=qh (a.getD jq):=by cases a<;>rfl
end
section
open Go.RowKit
def qjj:Option Ver->Ver×Int
 |none=>(jq,8)
 |some v=>if v.gone then (jq,8)else (v,0)
def zz (key a0 a1 a2 a3:Int) (l:List Hd):Ver×Int:=if inB key 0 7=true then qjj (zn key a0 a1 a2 a3 l)else (jq,2)
end
section
open Go.RowKit
def qb2 (key:Int) (v:Ver) (h:Hd):Bool:=decide (h.key=key)&&(decide (h.v.wall=v.wall)&&decide (h.v.count=v.count))&&decide (h.v.site=v.site)
def qb5 (l:List Hd) (key:Int) (v:Ver):Int:=if inB key 0 7=true then (if qau v=true then (if l.any (qb2 key v)=true then 9 else 0)else 1)else 2
def qa4 (l:List Hd) (key:Int) (v:Ver):List Hd:=if qb5 l key v=0 then l++[⟨key,v⟩]else l
structure qc (F:Nat->Prop) (w w':World):Prop where
 os:w'.os=w.os
 tape:w'.tape=w.tape
 output:w'.output=w.output
 size:w.heap.size<=w'.heap.size
 block:∀k,k<w.heap.size->¬F k->w'.heap[k]?=w.heap[k]?
variable {F:Nat->Prop} {w w':World}
theorem qc.ofBelow (h:Bw w w'):qc F w w':=⟨h.os,h.tape,h.output,h.size,λk a _=>h.block k a⟩
theorem qc.trans {a b c:World} (h:qc F a b) (k:qc F b c):qc F a c:=
 ⟨k.os.trans h.os,k.tape.trans h.tape,k.output.trans h.output,jcn h.size k.size,λi hi d=>(k.block i (jci hi h.size) d).trans (h.block i hi d)⟩
theorem qc.grown {r:Option Nat} (h:w.grownBy w' r) (a:∀k,r=some k->F k):qc F w w':=
 ⟨h.os,h.tape,h.output,h.size,λk b c=>h.block k b (λe=>c (a k e.symm))⟩
theorem qc.setCell (w:World) (p:Addr) (u:Value) (a:F p.block):qc F w (w.setCell p u):=
 ⟨rfl,rfl,rfl,by simp[World.setCell],λk _ b=>jce w p u k (λe=>b (by rw[e];exact a))⟩
theorem qhs (g o:Nat) (w:World) (v:Value):yu g w (w.setCell (AD g o) v):=⟨rfl,rfl,rfl,by simp[World.setCell],λk _ a=>jce w (AD g o) v k (λe=>a (by rw[e]))⟩
def q0q (sb:Nat) (v:Value) (k:Nat):Prop:=k=sb\/v.ownBlock=some k
theorem qe1 {B:Nat} {T:TypeId} {v:Value} {n:Nat} {xs:List Value} (h:w.ownsRow B T 7 v n xs) (a:Bw w w'):w'.ownsRow B T 7 v n xs:=
 h.kept (row:=none) ⟨a.os,a.tape,a.output,a.size,λk b _=>a.block k b⟩ (by cases v.ownBlock<;>simp)
end
section
open Tryz Go.RowKit
def eqV (a b:Ver):Bool:=(a.wall==b.wall&&a.count==b.count)&&a.site==b.site&&a.seq==b.seq&&a.data.toList==b.data.toList&&a.gone==b.gone
theorem q4b (a b c d:Int) (w:World):(Op.equalIn 9999 79 (.agg #[U a,U b]) (.agg #[U c,U d])).run prog w=.ok (a==c&&b==d) w:=by
 have i:=underlying3;have a3:=Tryz.isAgg3;have j:=Tryz.sizeOf3
 have e:prog.underlying 79=some (.struct (prog.fieldsOf 79)):=by kernel_rfl
 have f:prog.stoodInHeld 79=false:=by kernel_rfl
 rw[show (9999:Nat)=9998+1 from rfl,run_equalIn_agg w 9998 79 _ _ e f];simp only[Program.fieldsOf,underlying79]
 go_simp
 by_cases g:a=c<;>by_cases h:b=d<;>simp[g,h]
theorem qzu (a b:Ver) (w:World):(binOp .eql 130 (.agg #[U a.wall,U a.count,U a.site,U a.seq,.string a.data,.bool a.gone]) (.agg #[U b.wall,U b.count,U b.site,U b.seq,.string b.data,.bool b.gone])).run prog w=.ok (.bool (eqV a b)) w:=by
 have m:=underlying3;have a3:=Tryz.isAgg3;have n:=Tryz.sizeOf3;have o:=underlying4;have p:=Tryz.isAgg4;have q:=Tryz.sizeOf4;have r:=underlying9;have s:=Tryz.isAgg9;have t:=Tryz.sizeOf9
 have c:prog.underlying 130=some (.struct (prog.fieldsOf 130)):=by kernel_rfl
 have d:prog.stoodInHeld 130=false:=by kernel_rfl
 have u:=q4b;have v:=Tryz.isAgg79;have x:=Tryz.sizeOf79;rw[run_eql_struct];rw[show (10000:Nat)=9999+1 from rfl,run_equalIn_agg w 9999 130 _ _ c d];simp only[Program.fieldsOf,underlying130]
 go_simp
 by_cases e:a.wall=b.wall<;>by_cases f:a.count=b.count<;>by_cases g:a.site=b.site<;>by_cases h:a.seq=b.seq<;>by_cases i:a.data.toList=b.data.toList<;>by_cases j:a.gone=b.gone<;>simp[eqV,e,f,g,h,i,j]
def qfh (a0 a1 a2 a3:Int) (l:List Hd) (h:Hd):Bool:=!(qga (zn h.key a0 a1 a2 a3 l))||eqV ((zn h.key a0 a1 a2 a3 l).getD jq) h.v||!(qdp a0 a1 a2 a3 h.v)
def qcr (a0 a1 a2 a3:Int) (l:List Hd):List Hd:=l.filter (qfh a0 a1 a2 a3 l)
variable {l:List Hd} {k:Nat}
theorem qn0 (a:k<l.length):l.take (k+1)=l.take k++[qbd l k]:=by
 rw[jc1 a];simp[qbd,List.getD,List.getElem?_eq_getElem a]
theorem qj6 {a:List Hd} {p:Hd->Bool} (h:(l.take k).filter p=a):a.length<=l.length:=by
 rw[<-h];exact jcn (jdo _ _) (by rw[jc5];omega)
theorem qo.grown4 {w w':World} {r:Option Nat} {b:Nat} {a0 a1 a2 a3:Int} (h:qo w b a0 a1 a2 a3) (a:w.grownBy w' r) (c:some b≠r):qo w' b a0 a1 a2 a3:=by
 have e:=a.block b h.lt c
 constructor
 ·rw[jch (w:=w) e];exact h.c0
 ·rw[jch (w:=w) e];exact h.c1
 ·rw[jch (w:=w) e];exact h.c2
 ·rw[jch (w:=w) e];exact h.c3
 ·rw[jcp (w:=w) e];exact h.f0
 ·rw[jcp (w:=w) e];exact h.f1
 ·rw[jcp (w:=w) e];exact h.f2
 rw[jcp (w:=w) e];exact h.f3
end
section
open Go.RowKit
theorem qvw (key a0 a1 a2 a3:Int) (a:Option Ver) (h:Hd):qfv key a0 a1 a2 a3 a h=a\/(qfv key a0 a1 a2 a3 a h=some h.v/\h.key=key/\qdp a0 a1 a2 a3 h.v=true):=by
 by_cases c:h.key=key/\qdp a0 a1 a2 a3 h.v=true/\(match a with|none=>true|some b=>qw b h.v)=true
 ·exact .inr ⟨qgj c,c.1,c.2.1⟩
 exact .inl (qe7 c)
theorem qpj (key a0 a1 a2 a3:Int) (v:Ver):∀(l:List Hd) (a:Option Ver),l.foldl (qfv key a0 a1 a2 a3) a=some v->a=some v\/∃h∈l,h.v=v/\h.key=key/\qdp a0 a1 a2 a3 v=true
 |[],a,h=>.inl h
 |x::l,a,h=>by
  rcases qpj key a0 a1 a2 a3 v l _ h with e|⟨y,c,e⟩
  ·rcases qvw key a0 a1 a2 a3 a x with b|⟨b,d,f⟩
   ·rw[b]at e;exact .inl e
   rw[b]at e;injection e with e;subst e;exact .inr ⟨x,by simp,rfl,d,f⟩
  exact .inr ⟨y,by simp[c],e⟩
variable {a0 a1 a2 a3:Int} {l:List Hd} {v:Ver}
theorem qr0 {key:Int} (h:zn key a0 a1 a2 a3 l=some v):∃x∈l,x.v=v/\x.key=key/\qdp a0 a1 a2 a3 v=true:=by
 rcases qpj key a0 a1 a2 a3 v l none h with e|e
 ·cases e
 exact e
theorem qx1 (h:qau v=true):v.data.size<=12:=by
 simp only[qau,jct,decide_eq_true_eq]at h;have:=h.1.2;omega
theorem qoc {key:Int} (a:∀h∈l,qau h.v=true):(zz key a0 a1 a2 a3 l).1.data.size<=12:=by
 have z:jq.data.size<=12:=by decide
 unfold zz;split
 ·cases e:zn key a0 a1 a2 a3 l with
  |none=>exact z
  |some v=>
   obtain⟨x,b,c,_⟩:=qr0 e;show (if v.gone=true then (jq,(8:Int))else (v,0)).1.data.size<=12;split
   ·exact z
   rw[<-c];exact qx1 (a x b)
 exact z
def qdf (a0 a1 a2 a3:Int) (l:List Hd) (key:Int):ByteArray:=if (zz key a0 a1 a2 a3 l).2=0 then (⟨#[61]⟩:ByteArray)++(zz key a0 a1 a2 a3 l).1.data else ⟨#[]⟩
def qej (a0 a1 a2 a3:Int) (l:List Hd) (k:Nat):List Value:=(List.range k).map λ(i:Nat)=>Value.string (qdf a0 a1 a2 a3 l i)
theorem qi3 (a0 a1 a2 a3:Int) (l:List Hd) (k:Nat):qej a0 a1 a2 a3 l (k+1)=qej a0 a1 a2 a3 l k++[.string (qdf a0 a1 a2 a3 l k)]:=by
 unfold qej;rw[List.range_succ,jdb];rfl
theorem qki:(Tryz.prog.info? 9).map (λi=>(i.zero,i.size,i.bytes))=some (some (.string ⟨#[]⟩),1,16):=by kernel_rfl
end
section
open Go.RowKit
structure TxP where
 site:Int
 seq:Int
 wall:Int
 count:Int
 d0:Int
 d1:Int
 d2:Int
 d3:Int
 ws:List Wr
def qne (t:TxP) (x:Wr):Ver:=⟨t.wall,t.count,t.site,t.seq,x.data,x.gone⟩
def qbz (t:TxP) (ws:List Wr) (l:List Hd):List Hd:=ws.foldl (λl x=>qa4 l x.key (qne t x)) l
theorem qpz {t:TxP} {ws:List Wr} {l:List Hd} {k:Nat} (a:k<ws.length):qbz t (ws.take (k+1)) l=qa4 (qbz t (ws.take k) l) (qa7 ws k).key (qne t (qa7 ws k)):=by
 unfold qbz;rw[jc1 a,List.foldl_append];simp[qa7,List.getD,List.getElem?_eq_getElem a]
theorem qf1 (t:TxP):∀(ws:List Wr) (l:List Hd),(qbz t ws l).length<=l.length+ws.length
 |[],_=>by simp[qbz]
 |x::ws,l=>by
  have a:=qf1 t ws (qa4 l x.key (qne t x))
  have h:(qa4 l x.key (qne t x)).length<=l.length+1:=by
   unfold qa4;split
   ·simp
   omega
  show (qbz t ws (qa4 l x.key (qne t x))).length<=_;simp only[List.length_cons];omega
def qch (s x a0:Int):Int:=if s=0 then x else a0
def qcl (s x a1:Int):Int:=if s=1 then x else a1
def qck (s x a2:Int):Int:=if s=2 then x else a2
def qcj (s x a3:Int):Int:=if s=3 then x else a3
structure qe where
 id:Int
 a0:Int
 a1:Int
 a2:Int
 a3:Int
 lw:Int
 lc:Int
 log:List TxP
 waits:List TxP
 l:List Hd
 oth:Nat->Int
def vr (S:qe) (t:TxP):qe:=
 {S with a0:=qch t.site t.seq S.a0,a1:=qcl t.site t.seq S.a1,a2:=qck t.site t.seq S.a2,a3:=qcj t.site t.seq S.a3,
         lw:=if 0<qdr t.wall t.count S.lw S.lc then t.wall else S.lw,lc:=if 0<qdr t.wall t.count S.lw S.lc then t.count else S.lc,
         log:=S.log++[t],l:=qbz t t.ws S.l}
def qz (S:qe) (t:TxP):Bool:=decide (t.seq=qp t.site S.a0 S.a1 S.a2 S.a3+1)&&qa8 S.a0 S.a1 S.a2 S.a3 t.d0 t.d1 t.d2 t.d3
end
section
open Go.RowKit
structure qel (w:World) (b o:Nat) (v:Value):Prop where
 cell:w.cell? (AD b o)=some v
 free:w.frozen? (AD b o)=false
 lt:b<w.heap.size
variable {w w':World} {b o:Nat} {v:Value}
theorem qel.kept (h:qel w b o v) (e:w'.heap[b]?=w.heap[b]?) (a:w.heap.size<=w'.heap.size):qel w' b o v:=
 ⟨by rw[jch (w:=w) e];exact h.cell,by rw[jcp (w:=w) e];exact h.free,jci h.lt a⟩
theorem qel.later (h:qel w b o v) (a:Bw w w'):qel w' b o v:=h.kept (a.block b h.lt) a.size
theorem qel.grown {r:Option Nat} (h:qel w b o v) (a:w.grownBy w' r) (c:some b≠r):qel w' b o v:=h.kept (a.block b h.lt c) a.size
theorem qel.boxed (h:qel w b o v) (x:Obj):qel (w.alloc x) b o v:=h.kept (jdg _ _ _ h.lt) (by simp)
theorem qel.drew (h:qel w b o v):qel w.drew b o v:=h.kept rfl (jcd _)
theorem qel.set (h:qel w b o v) (u:Value):qel (w.setCell (AD b o) u) b o u:=
 ⟨jc8 _ _ _ h.cell,by rw[jcm];exact h.free,by simpa[World.setCell]using h.lt⟩
def qc6 (sb so:Nat) (w w':World):Prop:=∀j,j≠so->w'.cell? (AD sb j)=w.cell? (AD sb j)/\w'.frozen? (AD sb j)=w.frozen? (AD sb j)
variable {sb so:Nat}
theorem qc6.ofBlock (e:w'.heap[sb]?=w.heap[sb]?):qc6 sb so w w':=λ_ _=>⟨jch (w:=w) e,jcp (w:=w) e⟩
theorem qc6.trans {a b c:World} (h:qc6 sb so a b) (k:qc6 sb so b c):qc6 sb so a c:=λj d=>⟨(k j d).1.trans (h j d).1,(k j d).2.trans (h j d).2⟩
theorem qc6.set (sb so:Nat) (w:World) (u:Value):qc6 sb so w (w.setCell (AD sb so) u):=λj a=>⟨jco _ _ _ _ (by intro e;injection e with _ e _;exact a e.symm),jcm _ _ _ _⟩
end
section
open Go.RowKit
structure TxM where
 t:TxP
 wa:Option Addr
 wc:Nat
def txC (m:TxM):List Value:=(T9 m.t.site m.t.seq m.t.wall m.t.count m.t.d0 m.t.d1 m.t.d2 m.t.d3 m.wa m.t.ws.length m.wc)
def zw (l:List TxM):List Value:=l.flatMap txC
theorem qkf (l:List TxM) (m:TxM):zw (l++[m])=zw l++txC m:=by simp[zw]
theorem qih (m:TxM):∀u∈txC m,u.oneCell'=true:=by
 intro u a;simp[txC]at a
 rcases a with rfl|rfl|rfl|rfl|rfl|rfl|rfl|rfl|rfl<;>rfl
def TxM.blk (m:TxM) (k:Nat):Prop:=m.t.ws≠[]/\∃off,m.wa=some (AD k off)
def vz (S:qe) (lv wv sv:Value):List Value:=
 [U S.id,U S.a0,U S.a1,U S.a2,U S.a3,U S.lw,U S.lc,lv,wv,sv,
  U (S.oth 0),U (S.oth 1),U (S.oth 2),U (S.oth 3),U (S.oth 4),U (S.oth 5),U (S.oth 6),U (S.oth 7),
  U (S.oth 8),U (S.oth 9),U (S.oth 10),U (S.oth 11),U (S.oth 12),U (S.oth 13),U (S.oth 14),U (S.oth 15)]
def qu (b:Nat) (lv wv sv:Value) (k:Nat):Prop:=k=b\/lv.ownBlock=some k\/wv.ownBlock=some k\/sv.ownBlock=some k
variable {w w':World}
theorem qf {B n N:Nat} {T:TypeId} {v:Value} {xs:List Value} (h:w.ownsRow B T N v n xs) (a:∀k,v.ownBlock=some k->w'.heap[k]?=w.heap[k]?):w'.ownsRow B T N v n xs:=by
 refine⟨h.1,?_⟩;rcases h.2 with b|⟨g,cap,cur,rfl,c,d,rest⟩
 ·exact .inl b
 exact .inr ⟨g,cap,cur,rfl,c,by rw[a g rfl];exact d,rest⟩
variable {m:TxM}
theorem qr.kept (h:qr w m.wa m.wc m.t.ws) (j:∀k,m.blk k->w'.heap[k]?=w.heap[k]?):qr w' m.wa m.wc m.t.ws:=by
 refine⟨h.len,h.cap,?_⟩;rcases h.held with f|⟨b,d,e,c⟩
 ·exact .inl f
 by_cases f:m.t.ws=[]
 ·exact .inl f
 refine .inr ⟨b,d,e,λi hi=>?_⟩;have g:=j b ⟨f,d,e⟩;have:=c i hi;rw[jch (w:=w) (a:=AD b (d+i*3)) g,jch (w:=w) (a:=AD b (d+i*3+1)) g,jch (w:=w) (a:=AD b (d+i*3+1+1)) g];exact this
theorem qr.blk_lt (h:qr w m.wa m.wc m.t.ws):∀k,m.blk k->k<w.heap.size:=λk ⟨d,j,e⟩=>by
 rcases h.held with f|⟨b,l,a,c⟩
 ·exact absurd f d
 rw[e]at a;injection a with a;injection a with e1 e2;subst e1
 have i:0<m.t.ws.length:=by
  rcases Nat.eq_zero_or_pos m.t.ws.length with g|g
  ·exact absurd (jc2 g) d
  exact g
 exact jcr _ _ (c 0 i).1
end
section
open Go.RowKit
def vv (x t:TxP):Bool:=decide (x.site=t.site)&&decide (x.seq=t.seq)
variable {x t:TxP}
theorem qe5:vv x t=true↔x.site=t.site/\x.seq=t.seq:=by simp[vv]
def qbt (S:qe) (s:Int):Option TxP:=S.waits.find? (λx=>decide (x.site=s)&&qz S x)
def qd7 (S:qe):Option TxP:=
 match qbt S 0 with
 |some x=>some x
 |none=>match qbt S 1 with
  |some x=>some x
  |none=>match qbt S 2 with
   |some x=>some x
   |none=>qbt S 3
def qdv (l:List TxP) (t:TxP):List TxP:=l.filter (λx=>!vv x t)
def qj5 (S:qe) (x:TxP):qe:=vr {S with waits:=qdv S.waits x} x
inductive qfm:qe->qe->Prop
 |full {S:qe}:200<=S.log.length->qfm S S
 |none {S:qe}:qd7 S=none->qfm S S
 |step {S S':qe} {x:TxP}:S.log.length<200->qd7 S=some x->qfm (qj5 S x) S'->qfm S S'
variable {S:qe}
theorem qfm.det {A B:qe} (h:qfm S A):qfm S B->A=B:=by
 induction h with
 |full h=>
  intro k;cases k with
  |full _=>rfl
  |none _=>rfl
  |step h1 _ _=>omega
 |none h=>
  intro k;cases k with
  |full _=>rfl
  |none _=>rfl
  |step _ h2 _=>rw[h]at h2;cases h2
 |step h1 h2 _ ih=>
  intro k;cases k with
  |full h=>omega
  |none h=>rw[h2]at h;cases h
  |step _ h4 h5=>
   rw[h2]at h4;injection h4 with h4;subst h4;exact ih h5
variable {s:Int}
theorem qbv (h:qbt S s=some x):x∈S.waits/\x.site=s/\qz S x=true:=by
 have b:=List.mem_of_find?_eq_some h;have a:=List.find?_some h;simp at a;exact⟨b,a.1,a.2⟩
theorem qj8 (h:qd7 S=some x):x∈S.waits/\qz S x=true:=by
 unfold qd7 at h;split at h
 ·rename_i y a;injection h with h;subst h;exact⟨(qbv a).1,(qbv a).2.2⟩
 split at h
 ·rename_i y a;injection h with h;subst h;exact⟨(qbv a).1,(qbv a).2.2⟩
 split at h
 ·rename_i y a;injection h with h;subst h;exact⟨(qbv a).1,(qbv a).2.2⟩
 exact⟨(qbv h).1,(qbv h).2.2⟩
theorem qgg (h:qbt S s=none):∀x∈S.waits,x.site=s->qz S x=false:=λx b c=>by
 have a:=List.find?_eq_none.1 h x b;simp[c]at a;exact a
theorem qjy (h:∀x∈S.waits,x.site=s->qz S x=false):qbt S s=none:=by
 refine List.find?_eq_none.2 λx a=>?_;by_cases e:x.site=s
 ·simp[e,h x a e]
 simp[e]
def qgu (l:List TxP):Prop:=l.Pairwise (λx y=>vv x y=false)
theorem qgu.uniq:∀{l:List TxP},qgu l->∀{x y:TxP},x∈l->y∈l->x.site=y.site->x.seq=y.seq->x=y
 |[],_,_,_,hx,_,_,_=>by cases hx
 |a::l,h,x,y,hx,hy,e1,e2=>by
  obtain⟨d,g⟩:=jdv.1 h;rcases jdd.1 hx with e|f
  ·rcases jdd.1 hy with b|c
   ·rw[e,b]
   have:=d y c;rw[<-e]at this;simp[vv,e1,e2]at this
  rcases jdd.1 hy with b|c
  ·have:=d x f;rw[<-b]at this;simp[vv,e1,e2]at this
  exact qgu.uniq g f c e1 e2
theorem qgo (h:qz S x=true):x.seq=qp x.site S.a0 S.a1 S.a2 S.a3+1/\qa8 S.a0 S.a1 S.a2 S.a3 x.d0 x.d1 x.d2 x.d3=true:=by
 simpa[qz]using h
theorem qw3 (f:qgu S.waits) (b:x∈S.waits) (a:qz S x=true):qbt S x.site=some x:=by
 cases h:qbt S x.site with
 |none=>rw[qgg h x b rfl]at a;cases a
 |some y=>
  obtain⟨g,c,i⟩:=qbv h;have e:=(qgo a).1;have d:=(qgo i).1;rw[c]at d;rw[f.uniq g b c (by rw[e,d])]
variable {l:List TxP}
theorem qgu.drop (h:qgu l) (t:TxP):qgu (qdv l t):=h.filter _
theorem qgu.snoc (h:qgu l) (a:∀x∈l,vv x t=false):qgu (l++[t]):=by
 refine List.pairwise_append.2 ⟨h,by simp,λx b y c=>?_⟩;obtain rfl:=jcj.1 c;exact a x b
theorem qrh:x∈qdv l t↔x∈l/\vv x t=false:=by simp[qdv,List.mem_filter]
theorem qpm:∀{l:List TxP},qgu l->∀{i:Nat} {t:TxP},l[i]?=some t->qdv l t=l.take i++l.drop (i+1)
 |[],_,_,_,h=>by simp at h
 |a::l,hn,0,t,h=>by
  simp at h;subst h;obtain⟨b,c⟩:=jdv.1 hn
  have e:vv a a=true:=by simp[vv]
  simp[qdv,e];intro x g;have j:=b x g;cases h4:vv x a with
  |false=>rfl
  |true=>
   obtain⟨p,q⟩:=qe5.1 h4;simp[vv,p,q]at j
 |a::l,hn,i+1,t,h=>by
  obtain⟨b,c⟩:=jdv.1 hn
  have d:l[i]?=some t:=by simpa using h
  have e:=b t (jcq d);have f:=qpm c d;unfold qdv at f ⊢;simp[e,f]
theorem qf5 (a:qgu l) (b:t∈l):(qdv l t).length+1=l.length:=by
 obtain⟨i,hi⟩:=List.getElem?_of_mem b;have c:=(jck.1 hi).1;rw[qpm a hi];simp;omega
end
section
open Tryz Go.RowKit Go.Maps
def qcd (v:Value):Option (DataW Value×List MemPlace):=some (.held v,[])
def txV (m:TxM):Value:=.agg #[.int .i64 m.t.site,.int .i64 m.t.seq,.int .i64 m.t.wall,.int .i64 m.t.count,.int .i64 m.t.d0,.int .i64 m.t.d1,.int .i64 m.t.d2,.int .i64 m.t.d3,.slice m.wa m.t.ws.length m.wc]
def qyo:Value:=.agg #[.int .i64 0,.int .i64 0,.int .i64 0,.int .i64 0,.int .i64 0,.int .i64 0,.int .i64 0,.int .i64 0,.slice none 0 0]
theorem q0m (w:World):(zeroValue 102).run prog w=.ok qyo w:=by kernel_rfl
theorem qrn:prog.types.size=377:=by kernel_rfl
theorem qk2:Keyed prog 338:=Keyed.of_law (deep_law_laid (m:=3) (by kernel_rfl) (by decide) (by rw[qrn];decide) (by kernel_rfl) (by kernel_rfl))
def qtn (s q:Int):Value:=.agg #[.int .i64 s,.int .i64 q]
def qed (s q:Int):Lit:=.string (keyBytes [.int .i64 s,.int .i64 q])
def wfI (x:Int):Prop:= -9223372036854775808<=x/\x<=9223372036854775807
variable {x:Int}
theorem q8f (h:wfI x):(Lit.int .i64 x).wf=true:=WalkArith.wf_i64 h
theorem qww (a:wfI x) (n:Nat):prog.keyLits (n+1) 3 [.int .i64 x]=some [.int .i64 x]:=by
 unfold Program.keyLits;rw[underlying3];simp[q8f a]
variable {s q:Int}
theorem q40 (a:wfI s) (b:wfI q) (n:Nat):prog.keyLits (n+1+1) 338 [.int .i64 s,.int .i64 q]=some [.int .i64 s,.int .i64 q]:=by
 have c:prog.cellsOf 338=2:=by kernel_rfl
 have d:prog.cellsOf 3=1:=by kernel_rfl
 unfold Program.keyLits;rw[underlying338];simp[c,d,qww a n,qww b n]
theorem qqe (a:wfI s) (b:wfI q):keyOf prog 338 (qtn s q)=some (qed s q):=by
 have c:prog.keyType 338=true:=by kernel_rfl
 have d:prog.cellsOf 338=2:=by kernel_rfl
 have e:(qtn s q).formed prog 338=true:=by
  unfold Value.formed qtn;simp only[underlying338];rw[d];rfl
 have f:=q40 a b (377-1);unfold keyOf;rw[underlying338,c,e,qrn];show (if (true&&true)=true then Option.map _ (prog.keyLits (377-1+1+1) 338 [.int .i64 s,.int .i64 q])else none)=_;rw[f];rfl
theorem qs7 {a b:Int} (d:wfI s) (e:wfI q) (f:wfI a) (g:wfI b) (h:qed s q=qed a b):s=a/\q=b:=by
 have c:=qk2.inj (qqe d e) (by rw[h];exact qqe f g);simp[qtn]at c;exact c
theorem q0j (s q:Int):WideAt.IsKeyLit (qed s q):=trivial
structure qo5 (D:DataW Value) (ws:List TxM):Prop where
 size:Maps.size D=ws.length
 has:∀m∈ws,Maps.has D (qed m.t.site m.t.seq)=true/\∀z,D.atKey (qed m.t.site m.t.seq) z=.held (txV m)
 no:∀s q,wfI s->wfI q->(∀m∈ws,¬(m.t.site=s/\m.t.seq=q))->Maps.has D (qed s q)=false
def wfN (m:TxM):Prop:=wfI m.t.site/\wfI m.t.seq
def qd5 (w:World) (bm:Nat) (ws:List TxM):Prop:=(∀m∈ws,wfN m)/\qgu (ws.map (·.t))/\∃D,w.ownsMap prog 338 qcd bm ws.length D/\qo5 D ws
variable {w:World} {bm:Nat} {ws:List TxM}
theorem qd5.lt (h:qd5 w bm ws):bm<w.heap.size:=by
 obtain⟨_,_,D,h,_⟩:=h;exact h.lt
theorem qd5.kept {w':World} (h:qd5 w bm ws) (e:w'.heap[bm]?=w.heap[bm]?):qd5 w' bm ws:=by
 obtain⟨a,b,D,⟨c,d,f,r⟩,g⟩:=h;exact⟨a,b,D,⟨c,d,by rw[e];exact f,r⟩,g⟩
theorem qd5.made (w:World):qd5 (w.alloc (.map #[] 0)) w.heap.size []:=
 ⟨by simp,by simp[qgu],_,World.ownsMap_made w _ _ _,⟨rfl,by simp,λ_ _ _ _ _=>rfl⟩⟩
variable {D:DataW Value} {m:TxM}
theorem q1m (d:Tidy D) (h:qo5 D ws) (i:∀m∈ws,wfN m) (b:wfN m) (j:∀x∈ws,vv x.t m.t=false):qo5 (D.put (qed m.t.site m.t.seq) (.held (txV m))) (ws++[m]):=by
 have o:=h.no _ _ b.1 b.2 (λx a e=>by
  have:=j x a
  simp[vv,e.1,e.2]at this)
 refine⟨by rw[size_put d,o];simp[h.size],λx a=>?_,λs q k n a=>?_⟩
 ·rcases jcf.1 a with a|a
  ·have c:qed x.t.site x.t.seq≠qed m.t.site m.t.seq:=λe=>by
        obtain⟨f,g⟩:=qs7 (i x a).1 (i x a).2 b.1 b.2 e;have:=j x a;simp[vv,f,g]at this
   exact⟨by rw[has_put_other c];exact(h.has x a).1,λz=>by rw[atKey_put_other c];exact(h.has x a).2 z⟩
  obtain rfl:=jcj.1 a;exact⟨has_put_same d.isMap (q0j _ _) _,λz=>atKey_put_same d.isMap (q0j _ _) _ z⟩
 have c:qed s q≠qed m.t.site m.t.seq:=λe=>by
  obtain⟨f,g⟩:=qs7 k n b.1 b.2 e;exact a m (by simp) ⟨f.symm,g.symm⟩
 rw[has_put_other c];exact h.no s q k n (λx p=>a x (by simp[p]))
def qgc (l:List TxM) (t:TxP):List TxM:=l.filter (λx=>!vv x.t t)
theorem qm0 (l:List TxM) (t:TxP):(qgc l t).map (·.t)=qdv (l.map (·.t)) t:=by
 unfold qgc qdv;rw[List.filter_map];rfl
variable {l:List TxM}
theorem qh2 {t:TxP} {x:TxM}:x∈qgc l t↔x∈l/\vv x.t t=false:=by simp[qgc,List.mem_filter]
theorem qtd (a:qgu (l.map (·.t))) (b:m∈l):(qgc l m.t).length+1=l.length:=by
 have h:=qf5 a (t:=m.t) (jcz.2 ⟨m,b,rfl⟩);rw[<-qm0]at h;simpa using h
theorem q1j (i:Tidy D) (h:qo5 D ws) (b:∀m∈ws,wfN m) (j:qgu (ws.map (·.t))) (c:m∈ws):qo5 (D.del (qed m.t.site m.t.seq)) (qgc ws m.t):=by
 have v:=qtd j c;have g:=size_del (k:=qed m.t.site m.t.seq) i;rw[(h.has m c).1,h.size]at g;refine⟨by simp at g;omega,λx a=>?_,λs q n o a=>?_⟩
 ·obtain⟨a,d⟩:=qh2.1 a
  have d:qed x.t.site x.t.seq≠qed m.t.site m.t.seq:=λe=>by
   obtain⟨p,r⟩:=qs7 (b x a).1 (b x a).2 (b m c).1 (b m c).2 e;simp[vv,p,r]at d
  exact⟨by rw[has_del_other d];exact(h.has x a).1,λz=>by rw[atKey_del_other d];exact(h.has x a).2 z⟩
 by_cases e:qed s q=qed m.t.site m.t.seq
 ·rw[e];exact has_del_same
 rw[has_del_other e];refine h.no s q n o (λx u f=>?_);refine a x (qh2.2 ⟨u,?_⟩) f;cases hi:vv x.t m.t with
 |false=>rfl
 |true=>
  obtain⟨p1,p2⟩:=qe5.1 hi;exact absurd (by rw[<-f.1,<-f.2,p1,p2]) e
end
section
open Go.RowKit
def ja (l:List Ver):List Value:=l.flatMap qh
def jx (l:List Ver) (i:Nat):Ver:=l.getD i jq
theorem qaw (v:Ver):(qh v).length=6:=rfl
theorem qib (a b:List Ver):ja (a++b)=ja a++ja b:=by simp[ja]
theorem qcv (x:Ver) (l:List Ver):ja (x::l)=qh x++ja l:=by simp[ja]
theorem qh0 (x:Ver):ja [x]=qh x:=by simp[ja]
theorem qbe (l:List Ver):(ja l).length=l.length*6:=by
 induction l with
 |nil=>rfl
 |cons x l ih=>
  rw[qcv,jcl,ih,qaw,List.length_cons];omega
variable {l:List Ver} {i:Nat}
theorem qkm (h:i<l.length):jx l i∈l:=by
 simp only[jx,List.getD,jcg h,Option.getD_some];exact jdr h
theorem qem (h:i<l.length):jx l i=l[i]:=by simp[jx,List.getD,List.getElem?_eq_getElem h]
theorem ql4:∀(l:List Ver) (i r:Nat) (u:Value),i<l.length->(qh (jx l i))[r]?=some u->(ja l)[i*6+r]?=some u
 |[],_,_,_,h,_=>by simp at h
 |x::l,0,r,u,_,hu=>by
  have a:r<(qh x).length:=(jck.1 hu).1;rw[qcv,Nat.zero_mul,Nat.zero_add,jc3 a];exact hu
 |x::l,i+1,r,u,h,hu=>by
  have b:=ql4 l i r u (by simpa using h) hu
  have e:(i+1)*6+r=(qh x).length+(i*6+r):=by rw[qaw];omega
  rw[qcv,e,jc0 (by omega),Nat.add_sub_cancel_left];exact b
theorem qgd (l:List Ver):∀u∈ja l,u.oneCell'=true:=by
 intro u a;unfold ja at a;obtain⟨x,_,b⟩:=List.mem_flatMap.1 a;simp[qh]at b
 rcases b with rfl|rfl|rfl|rfl|rfl|rfl<;>rfl
theorem qin:∀(l:List Ver) (i:Nat),(ja l).take (i*6)=ja (l.take i)
 |[],i=>by simp[ja]
 |x::l,0=>by simp[ja]
 |x::l,i+1=>by
  have e:(i+1)*6=(qh x).length+i*6:=by rw[qaw];omega
  rw[List.take_succ_cons,qcv,qcv,e,List.take_append]
  congr 1
  ·exact List.take_of_length_le (by omega)
  rw[Nat.add_sub_cancel_left,qin]
theorem qlc:∀(l:List Ver) (i:Nat),(ja l).drop (i*6)=ja (l.drop i)
 |[],i=>by simp[ja]
 |x::l,0=>by simp[ja]
 |x::l,i+1=>by
  have e:(i+1)*6=(qh x).length+i*6:=by rw[qaw];omega
  rw[List.drop_succ_cons,qcv,e,<-List.drop_drop,List.drop_left];exact qlc l i
structure qs5 (w:World) (a:Option Addr) (cap:Nat) (l:List Ver):Prop where
 len:l.length<=cap
 cap:cap<=9223372036854775807
 held:l=[]\/∃b,b<w.heap.size/\a=some (AD b 0)/\∀i r u,i<l.length->(qh (jx l i))[r]?=some u->w.cell? (AD b (i*6+r))=some u
variable {w w':World}
theorem qs5.later {a:Option Addr} {cap:Nat} (d:Bw w w') (h:qs5 w a cap l):qs5 w' a cap l:=
 ⟨h.len,h.cap,h.held.elim .inl λ⟨b,f,e,c⟩=>.inr ⟨b,jci f d.size,e,λi r u hi g=>cell_later d (c i r u hi g)⟩⟩
variable {B:Nat} {T:TypeId} {v:Value}
theorem qfo (h:w.ownsRow B T 6 v l.length (ja l)):∃a cap,v=.slice a l.length cap/\qs5 w a cap l:=by
 rcases h.2 with ⟨rfl,b⟩|⟨g,cap,cur,rfl,k,d,e,f,m,n⟩
 ·exact⟨none,0,by rw[b],⟨by omega,by omega,.inl (jc2 b)⟩⟩
 refine⟨_,cap,rfl,⟨e,by simp only[maxLen]at f;omega,.inr ⟨g,(jcs.1 d).1,rfl,λi r u hi j=>?_⟩⟩⟩;have c:=h.cells (g:=g) rfl _ _ (ql4 l i r u hi j);rw[qal]at c;exact c
theorem qgp {n:Nat} {xs:List Value} (h:w.ownsRow B T 6 v n xs) (a:Bw w w'):w'.ownsRow B T 6 v n xs:=
 h.kept (row:=none) ⟨a.os,a.tape,a.output,a.size,λk b _=>a.block k b⟩ (by cases v.ownBlock<;>simp)
end
abbrev toL (s:ByteArray):List UInt8:=s.data.toList
theorem qif (a b:ByteArray):toL (a++b)=toL a++toL b:=by
 show (a++b).data.toList=_;rw[ByteArray.data_append,Array.toList_append]
theorem qsh {a b:ByteArray} (h:toL a=toL b):a=b:=by
 obtain⟨⟨x⟩⟩:=a;obtain⟨⟨y⟩⟩:=b;have c:x=y:=h;rw[c]
theorem yh (s:ByteArray):(toL s).length=s.size:=by
 show s.data.toList.length=s.data.size;rw[Array.length_toList]
theorem qca (s:ByteArray):s.toList=toL s:=by
 have a:∀(n i:Nat) (r:List UInt8),s.size-i=n->ByteArray.toList.loop s i r=r.reverse++(toL s).drop i:=by
  intro n
  induction n with
  |zero=>
   intro i r b;unfold ByteArray.toList.loop;rw[if_neg (by omega),jdw (by rw[yh];omega),jdx]
  |succ n ih=>
   intro i r b;unfold ByteArray.toList.loop;rw[if_pos (by omega),ih _ _ (by omega)]
   have hi:i<(toL s).length:=by rw[yh];omega
   rw[jdy hi,List.reverse_cons,jcy]
   congr 2
   have c:i<s.data.size:=by have:=yh s;rw[Array.length_toList]at hi;exact hi
   show [s.data[i]!]++_=s.data.toList[i]::_;rw[getElem!_pos s.data i c,Array.getElem_toList];rfl
 exact a s.size 0 [] (by omega)
theorem q93 (a b:ByteArray):(a.toList==b.toList)=decide (a=b):=by
 rw[qca,qca];by_cases h:a=b
 ·rw[h];simp
 rw[decide_eq_false h];exact beq_eq_false_iff_ne.2 (λe=>h (qsh e))
section
open Go.RowKit
variable {a b:Ver}
theorem qar:qw a b=true↔a.wall<b.wall\/(a.wall=b.wall/\(a.count<b.count\/(a.count=b.count/\a.site<b.site))):=by
 unfold qw;rcases qcw a.wall a.count b.wall b.count with ⟨h,e⟩|⟨h,e⟩|⟨h,e⟩
 ·rw[e,if_neg (by decide)];simp only[show decide ((-1:Int)<0)=true from rfl,true_iff];omega
 ·rw[e,if_pos rfl];simp only[decide_eq_true_eq];omega
 rw[e,if_neg (by decide)];simp only[show decide ((1:Int)<0)=false from rfl,Bool.false_eq_true,false_iff];omega
def qs8 (a b:Ver):Prop:=a.wall=b.wall/\a.count=b.count/\a.site=b.site
theorem qmd (c:qw a b=false) (d:qw b a=false):qs8 a b:=by
 have e:¬qw a b=true:=by rw[c];decide
 have f:¬qw b a=true:=by rw[d];decide
 rw[qar]at e f;unfold qs8;omega
theorem qgb (a:Ver):qw a a=false:=by
 cases h:qw a a
 ·rfl
 rw[qar]at h;omega
theorem qqy {c:Ver} (d:qw b a=true) (e:qw b c=false):qw a c=false:=by
 cases h:qw a c
 ·rfl
 exfalso
 have f:¬qw b c=true:=by rw[e];decide
 rw[qar]at h d f;omega
def qld (key a0 a1 a2 a3:Int) (l:List Hd) (v:Ver):Prop:=(∃h∈l,h.v=v/\h.key=key/\qdp a0 a1 a2 a3 v=true)/\∀h∈l,h.key=key->qdp a0 a1 a2 a3 h.v=true->qw v h.v=false
theorem qlf (key a0 a1 a2 a3:Int):∀(l p:List Hd) (g:Option Ver),
 (g=none->∀h∈p,h.key=key->qdp a0 a1 a2 a3 h.v=false)->(∀v,g=some v->qld key a0 a1 a2 a3 p v)->
 (l.foldl (qfv key a0 a1 a2 a3) g=none->∀h∈p++l,h.key=key->qdp a0 a1 a2 a3 h.v=false)/\(∀v,l.foldl (qfv key a0 a1 a2 a3) g=some v->qld key a0 a1 a2 a3 (p++l) v)
 |[],p,g,hn,hs=>by simpa using ⟨hn,hs⟩
 |x::l,p,g,hn,hs=>by
  have m:(qfv key a0 a1 a2 a3 g x=none->∀h∈p++[x],h.key=key->qdp a0 a1 a2 a3 h.v=false)/\(∀v,qfv key a0 a1 a2 a3 g x=some v->qld key a0 a1 a2 a3 (p++[x]) v):=by
   cases g with
   |none=>
    by_cases d:x.key=key/\qdp a0 a1 a2 a3 x.v=true
    ·have e:qfv key a0 a1 a2 a3 none x=some x.v:=qgj ⟨d.1,d.2,rfl⟩;rw[e];refine⟨λh=>(by cases h),λv f=>?_⟩;injection f with f;subst f;refine⟨⟨x,by simp,rfl,d.1,d.2⟩,λh j i k=>?_⟩;rcases jcf.1 j with c|c
     ·have:=hn rfl h c i;rw[k]at this;cases this
     obtain rfl:=jcj.1 c;exact qgb _
    have e:qfv key a0 a1 a2 a3 none x=none:=qe7 (λy=>d ⟨y.1,y.2.1⟩);rw[e];refine⟨λ_ h j i=>?_,λv f=>(by cases f)⟩;rcases jcf.1 j with c|c
    ·exact hn rfl h c i
    obtain rfl:=jcj.1 c;cases hq:qdp a0 a1 a2 a3 h.v
    ·rfl
    exact absurd ⟨i,hq⟩ d
   |some b=>
    obtain⟨⟨y,q,r,s,t⟩,n⟩:=hs b rfl;by_cases d:x.key=key/\qdp a0 a1 a2 a3 x.v=true/\qw b x.v=true
    ·have e:qfv key a0 a1 a2 a3 (some b) x=some x.v:=qgj d;rw[e];refine⟨λh=>(by cases h),λv f=>?_⟩;injection f with f;subst f;refine⟨⟨x,by simp,rfl,d.1,d.2.1⟩,λh j i k=>?_⟩;rcases jcf.1 j with c|c
     ·exact qqy d.2.2 (n h c i k)
     obtain rfl:=jcj.1 c;exact qgb _
    have e:qfv key a0 a1 a2 a3 (some b) x=some b:=qe7 d;rw[e];refine⟨λh=>(by cases h),λv f=>?_⟩;injection f with f;subst f;refine⟨⟨y,by simp[q],r,s,t⟩,λh j i k=>?_⟩;rcases jcf.1 j with c|c
    ·exact n h c i k
    obtain rfl:=jcj.1 c;cases hq:qw b h.v
    ·rfl
    exact absurd ⟨i,k,hq⟩ d
  have o:=qlf key a0 a1 a2 a3 l (p++[x]) (qfv key a0 a1 a2 a3 g x) m.1 m.2;rw[jcy,List.singleton_append]at o;exact o
variable {a0 a1 a2 a3:Int} {l:List Hd}
theorem qpu {key:Int} (h:zn key a0 a1 a2 a3 l=none):∀x∈l,x.key=key->qdp a0 a1 a2 a3 x.v=false:=by
 have:=(qlf key a0 a1 a2 a3 l [] none (λ_ h c=>(by cases c)) (λv d=>(by cases d))).1 h;simpa using this
variable {v:Ver}
theorem qlb {key:Int} (h:zn key a0 a1 a2 a3 l=some v):qld key a0 a1 a2 a3 l v:=by
 have:=(qlf key a0 a1 a2 a3 l [] none (λ_ h c=>(by cases c)) (λv d=>(by cases d))).2 v h;simpa using this
def qfk (l:List Hd):Prop:=∀x∈l,∀y∈l,x.key=y.key->qs8 x.v y.v->x=y
theorem qx5 {key:Int} {u:Ver} (g:qfk l) (h:qld key a0 a1 a2 a3 l u) (i:qld key a0 a1 a2 a3 l v):u=v:=by
 obtain⟨⟨x,c,j,d,k⟩,m⟩:=h;obtain⟨⟨y,e,n,f,o⟩,p⟩:=i;subst j n;have:=g x c y e (by rw[d,f]) (qmd (m y e f o) (p x c d k));rw[this]
theorem q3i {key:Int} (c:qfk l):zn key a0 a1 a2 a3 l=some v↔qld key a0 a1 a2 a3 l v:=by
 refine⟨qlb,λh=>?_⟩;cases e:zn key a0 a1 a2 a3 l with
 |none=>
  obtain⟨⟨x,d,f,g,i⟩,_⟩:=h;have:=qpu e x d g;rw[f,i]at this;cases this
 |some u=>rw[qx5 c (qlb e) h]
theorem q16 {key:Int} (i:qfk l):qfk (qa4 l key v):=by
 unfold qa4;split
 ·rename_i h
  have j:l.any (qb2 key v)=false:=by
   unfold qb5 at h;split at h
   ·split at h
    ·split at h
     ·cases h
     rename_i d;simpa using d
    cases h
   cases h
  rw[List.any_eq_false]at j;have k:∀x∈l,x.key=key->¬qs8 x.v v:=λx d e c=>j x d (by simp[qb2,e,c.1,c.2.1,c.2.2]);intro x d y m e c
  rcases jcf.1 d with f|f<;>rcases jcf.1 m with g|g
  ·exact i x f y g e c
  ·obtain rfl:=jcj.1 g;exact absurd c (k x f e)
  ·obtain rfl:=jcj.1 f;exact absurd ⟨c.1.symm,c.2.1.symm,c.2.2.symm⟩ (k y g e.symm)
  rw[jcj.1 f,jcj.1 g]
 exact i
theorem q31 {m:List Hd} (c:qfk l) (h:∀x∈m,x∈l):qfk m:=λx d y e=>c x (h x d) y (h y e)
end
section
open Go.RowKit
variable {v:Ver} {r:Bool}
theorem qsx {a0 a1 a2 a3:Int} (h:qdp a0 a1 a2 a3 v=r) (k:0<=v.site) (l:v.site<=3) (w:World):
 Ca 263 #[.agg #[U a0,U a1,U a2,U a3],.agg #[U v.wall,U v.count,U v.site,U v.seq,.string v.data,.bool v.gone]] w (Rn (.bool r) w):=by
 have s:=qb.one;obtain⟨f,g,d,e,i,j⟩:=v;have H:Hid (decide (e<=qp d a0 a1 a2 a3)=r):=h;simp only at k l
 have t:d<4:=by omega
 have o:=(qo.new w 77 a0 a1 a2 a3).boxed (.cells #[U f,U g,U d,U e,.string i,.bool j] 130);have m:=qd.new (w:=w.alloc (.cells #[U a0,U a1,U a2,U a3] 77)) (T:=130) (n:=w.heap.size+1) [U f,U g,U d,U e,.string i,.bool j] (by simp);have p:=boxed (boxed (jcc _ w) (.cells #[U a0,U a1,U a2,U a3] 77)) (.cells #[U f,U g,U d,U e,.string i,.bool j] 130);have u:=qb.cell (m.c 2);have x:=qb.cell (m.c 3);have y:=qb.cell (qk9 o k l);go_enter Tryz.func263,Tryz.ntmps263
 go_wp2_with fail
 refine wrl ?_
 repeat (go_big_quiet_step (fail))
 refine wpQuiet_nil ?_;rintro z ⟨⟨_,q⟩,rfl⟩
 go_wp2_with fail
 go_ret;exact⟨by rw[<-H.out];rfl,qa p q⟩
def qtb (a b:Ver):Int:=if qdr a.wall a.count b.wall b.count=0 then qic a.site b.site else qdr a.wall a.count b.wall b.count
variable {a b:Ver}
theorem qvz:qtb a b<0↔qw a b=true:=by
 rw[qar];unfold qtb;rcases qcw a.wall a.count b.wall b.count with ⟨h,e⟩|⟨h,e⟩|⟨h,e⟩
 ·rw[e,if_neg (by decide)];omega
 ·rw[e,if_pos rfl]
  rcases qil a.site b.site with ⟨g,f⟩|⟨g,f⟩|⟨g,f⟩<;>rw[f]<;>omega
 rw[e,if_neg (by decide)];omega
theorem q18:qtb a b=0↔qs8 a b:=by
 unfold qtb qs8;rcases qcw a.wall a.count b.wall b.count with ⟨h,e⟩|⟨h,e⟩|⟨h,e⟩
 ·rw[e,if_neg (by decide)];omega
 ·rw[e,if_pos rfl]
  rcases qil a.site b.site with ⟨g,f⟩|⟨g,f⟩|⟨g,f⟩<;>rw[f]<;>omega
 rw[e,if_neg (by decide)];omega
theorem qp3 {r:Int} (h:qtb a b=r) (w:World):
 Ca 285 #[.agg #[U a.wall,U a.count,U a.site,U a.seq,.string a.data,.bool a.gone],.agg #[U b.wall,U b.count,U b.site,U b.seq,.string b.data,.bool b.gone]] w (Rn (U r) w):=by
 obtain⟨d,f,l,m,o,p⟩:=a;obtain⟨g,i,bs,q,s,t⟩:=b;have u:=(qd.new (w:=w) (T:=130) [U d,U f,U l,U m,.string o,.bool p] rfl).boxed (.cells #[U g,U i,U bs,U q,.string s,.bool t] 130);have x:=qd.new (w:=w.alloc (.cells #[U d,U f,U l,U m,.string o,.bool p] 130)) (T:=130) (n:=w.heap.size+1) [U g,U i,U bs,U q,.string s,.bool t] (by simp);have y:=boxed (boxed (jcc _ w) (.cells #[U d,U f,U l,U m,.string o,.bool p] 130)) (.cells #[U g,U i,U bs,U q,.string s,.bool t] 130);simp only[qtb]at h;obtain⟨c,z⟩:∃c,qdr d f g i=c:=⟨_,rfl⟩;rw[z]at h;have B:=hd1 z;by_cases k:c=0
 ·rw[if_pos k]at h;subst k;have H:=hd1 h;go_enter Tryz.func285,Tryz.ntmps285
  go_wp2_with fail
  refine(qg0 d f g i _).mono ?_;rintro e C ⟨rfl,j⟩;rw[B.out];replace u:=u.later j;replace x:=x.later j;have D:=u.c 2;have E:=x.c 2
  go_wp2_with (go_at_call 289;refine(q0n _ _ _).mono ?_;rintro e w' ⟨rfl,rfl⟩)
  go_ret;exact⟨by rw[<-H.out];rfl,qa y j⟩
 rw[if_neg k]at h;have F:=beq_eq_false_iff_ne.2 k;subst h;go_enter Tryz.func285,Tryz.ntmps285
 go_wp2_with fail
 refine(qg0 d f g i _).mono ?_;rintro e C ⟨rfl,j⟩;rw[B.out]
 go_wp2_with fail
 go_ret;exact⟨rfl,qa y j⟩
theorem qj4 {n:Int} (h:inB n 0 7=r) (w:World):
 Ca 280 #[U n] w λe w'=>e=.returned (.bool r)/\w'=w:=by
 by_cases c:0<=n;by_cases d:n<8;have e:inB n 0 7=true:=jk.2 ⟨c,by omega⟩
 rotate_left
 have e:inB n 0 7=false:=by simp[inB];omega
 rotate_left
 have e:inB n 0 7=false:=by simp[inB,c]
 all_goals
  rw[e]at h;subst h;go_enter Tryz.func280,Tryz.ntmps280
  go_wp2
  go_ret;exact⟨rfl,rfl⟩
theorem qqf (h:qau v=r) (w:World):
 Ca 283 #[.agg #[U v.wall,U v.count,U v.site,U v.seq,.string v.data,.bool v.gone]] w (Rn (.bool r) w):=by
 obtain⟨j,k,f,g,d,l⟩:=v;have R:=qd.new (w:=w) (T:=130) [U j,U k,U f,U g,.string d,.bool l] rfl;have m:=boxed (jcc _ w) (.cells #[U j,U k,U f,U g,.string d,.bool l] 130);obtain⟨t,n⟩:∃t,(qi j&&qi k)=t:=⟨_,rfl⟩;have s:=hd1 n
 have u:(t&&inB f 0 3&&inB g 1 1099511627776&&decide ((d.size:Int)<=12)&&!(l&&!d.toList.isEmpty))=r:=by rw[<-n];exact h
 have H:=hd1 u;go_enter Tryz.func283,Tryz.ntmps283
 go_wp2_with fail
 refine(qe6 j k _).mono ?_;rintro e x ⟨rfl,o⟩;rw[s.out];replace R:=R.later o;replace m:=qa m o;have y:=R.c 2;have z:=R.c 3;have B:=R.c 4;have C:=R.c 5;cases t
 ·go_wp2_with fail
  go_ret;exact⟨by rw[<-H.out];rfl,m⟩
 by_cases a1:f<0
 have e:inB f 0 3=false:=by simp[inB];omega
 have i:Hid (r=false):=by show r=false;rw[<-H.out,e];simp
 rotate_left
 by_cases a2:4<=f
 have e:inB f 0 3=false:=by simp[inB];omega
 have i:Hid (r=false):=by show r=false;rw[<-H.out,e];simp
 rotate_left
 have p:Hid (inB f 0 3=true):=jk.2 (by omega);by_cases a3:g<1
 have e:inB g 1 1099511627776=false:=by simp[inB];omega
 have i:Hid (r=false):=by show r=false;rw[<-H.out,e];simp
 rotate_left
 by_cases D:1099511627776<g
 have e:inB g 1 1099511627776=false:=by simp[inB];omega
 have i:Hid (r=false):=by show r=false;rw[<-H.out,e];simp
 rotate_left
 have q:Hid (inB g 1 1099511627776=true):=jk.2 (by omega);cases l
 have i:Hid (r=decide ((d.size:Int)<=12)):=by show r=_;rw[<-H.out,p.out,q.out];simp
 rotate_left
 have i:Hid (r=d.toList.isEmpty):=by
  show r=_;rw[<-H.out,p.out,q.out];cases hd:d.toList.isEmpty
  ·simp
  have:d.size=0:=by
   have:d.toList.length=0:=by rw[List.isEmpty_iff.1 hd];rfl
   rwa [qca,yh]at this
  simp[this]
 all_goals
  go_wp2_with fail
  go_ret;exact⟨by rw[i.out];rfl,m⟩
end
section
open Go.RowKit
variable {P:Program}
theorem qiq (w:World) (e p q d:TypeId) (k b o f r:Nat) (a:Addr) (h s m:Nat) (c:List Value)
 (t:P.underlying e=some (.slice d)) (l:(P.info? d).map (·.size)=some k) (u:m=Nat.min h f) (x:c.length=m*k)
 (y:∀j v,c[j]?=some v->w.cell? (a.add j)=some v) (z:∀j,j<c.length->(w.cell? (AD b (o+j))).isSome=true) (A:∀j,j<c.length->w.frozen? (AD b (o+j))=false) (B:∀v∈c,v.oneCell'=true):
 (Builtin.copy_ #[e,p] q #[.slice (some (AD b o)) f r,.slice (some a) h s]).run P w=.ok (goInt m) (w.setCells b o c):=by
 have n:=run_loadCells_list (P:=P) w a c y;have C:=run_storeCells_cells (P:=P) b o c 0 w (by simpa using z) (by simpa using A) B;rw[x]at n;cases hq:P.info? d with
 |none=>simp[hq]at l
 |some i=>
  have hi:i.size=k:=by simpa[hq]using l
  simp[Builtin.copy_,run_underlying t,Builtin.lenOf,Builtin.firstCells,sizeOf,typeInfo,hq,hi,<-u,n,C]
variable {o:Oper} {a:Act} {K:Act->World->Prop} {Q:Exit->Act->World->Prop} {v':Value} {w':World}
theorem qnm (w:World) (d s:Operand) (t b:TypeId)
 (c:o.op=.call {callee:=.builtin .copy,args:=#[d,s],argTypes:=#[t,b]}) (v u:Value) (e:a.eval d=v) (f:a.eval s=u)
 (i:(Builtin.copy_ #[t,b] o.type #[v,u]).run P w=.ok v' w') (h:K (a.put o.dst v') w'):o.wp P a w K Q:=by
 unfold Oper.wp execOp;simp only[c,resolve,invoke,builtin,Sem.run_bind,Sem.run_pure,Result.andThen_ok,List.map_toArray,List.map_cons,List.map_nil,e,f,i];exact h
theorem qi7 (w:World) {c:Array Oper} {rest:List Oper} (e:o.guard=none) (d s:Operand) (t b:TypeId)
 (f:o.op=.call {callee:=.builtin .copy,args:=#[d,s],argTypes:=#[t,b]}) (v u:Value) (i:a.eval d=v) (j:a.eval s=u)
 (k:(Builtin.copy_ #[t,b] o.type #[v,u]).run P w=.ok v' w') (h:wpList P c Q rest (a.put o.dst v') w'):wpList P c Q (o::rest) a w:=
 wpList_plain e λ_ l=>qnm w d s t b f v u i j k (l _ _ h)
variable {w:World}
theorem qky {e:Array Oper} {E:Prop}
 (f:o.guard=none) (d x:Operand) (b c:TypeId) (h:o.op=Op.call {callee:=Callee.builtin Builtin.copy,args:=#[d,x],argTypes:=#[b,c]})
 (v u:Value) (i:a.eval d=v) (j:a.eval x=u) (k:(Builtin.copy_ #[b,c] o.type #[v,u]).run P w=.ok v' w') (l:K (a.put o.dst v') w'):
 if Region.wanted o (yielded e a.tmps)=true then Oper.wp P o a w K Q else E:=by
 have m:Region.wanted o (yielded e a.tmps)=true:=by simp[Region.wanted,f]
 rw[if_pos m];exact qnm w d x b c h v u i j k l
theorem qat (g:Nat):∀(b:List Value) (o:Nat) (w:World) {cur:Array Value} {T:TypeId},w.heap[g]?=some (.cells cur T (0,0))->∃d,(w.setCells g o b).heap[g]?=some (.cells d T (0,0))/\d.size=cur.size
 |[],_,_,cur,_,h=>⟨cur,h,rfl⟩
 |v::b,o,w,cur,T,h=>by
  obtain⟨c,e,f⟩:=qat g b (o+1) (w.setCell (AD g o) v) (heap_setCell_same w g o cur T v h);exact⟨c,e,by simpa using f⟩
variable {g:Nat} {T:TypeId}
theorem qfz {B n cap k:Nat} {cur:Array Value} {xs:List Value} (f:B<=g) (b:w.heap[g]?=some (.cells cur T (0,0))) (h:cap<=maxLen) (c:cur.size=cap*k) (d:n<=cap) (e:xs.length=n*k)
 (l:∀j u,xs[j]?=some u->w.cell? (AD g j)=some u):w.ownsRow B T k (.slice (PT g) n cap) n xs:=by
 refine⟨e,.inr ⟨g,cap,cur,rfl,f,b,d,h,c,?_⟩⟩
 have p:n*k<=cur.size:=by rw[c];exact Nat.mul_le_mul_right _ d
 apply List.ext_getElem
 ·rw[jc5,Array.length_toList,e];omega
 intro i q m;have:=l i xs[i] (jcg m);rw[cell_of_row w g i cur T (0,0) b]at this;rw[List.getElem_take,Array.getElem_toList];rw[jde (by omega)]at this;injection this
theorem qio (g:Nat) (b:List Value) (o:Nat) (w:World) (h:∀j,j<b.length->(w.cell? (AD g (o+j))).isSome=true) (k:Nat) (c:(w.cell? (AD g k)).isSome=true):((w.setCells g o b).cell? (AD g k)).isSome=true:=by
 by_cases d:o<=k/\k<o+b.length
 ·have:=World.cell?_setCells_in g b o w h (k-o) (by omega);rw[show o+(k-o)=k by omega]at this;rw[this];rfl
 rw[World.cell?_setCells_out g b o w (AD g k) (λ_ _=>by show k<o\/o+b.length<=k;omega)];exact c
theorem qth {b:List Value} {o:Nat} (h:∀j,j<b.length->(w.cell? (AD g (o+j))).isSome=true) {j:Nat} {u:Value} (c:b[j]?=some u):(w.setCells g o b).cell? (AD g (o+j))=some u:=by
 obtain⟨d,e⟩:=jck.1 c;rw[World.cell?_setCells_in g b o w h j d,e]
theorem qvs (A V D:List Value) (h:∀j u,A[j]?=some u->w.cell? (AD g j)=some u) (e:∀j,j<A.length+V.length+D.length->(w.cell? (AD g j)).isSome=true):
 ∀j u,(A++V++D)[j]?=some u->((w.setCells g (A.length+V.length) D).setCells g A.length V).cell? (AD g j)=some u:=by
 intro j u b;have f:∀t,t<D.length->(w.cell? (AD g (A.length+V.length+t))).isSome=true:=λt i=>e _ (by omega);have k:∀t,t<V.length->((w.setCells g (A.length+V.length) D).cell? (AD g (A.length+t))).isSome=true:=λt i=>qio g D _ w f _ (e _ (by omega));rcases jc7 j (A.length+V.length)with c|c
 ·rw[jc3 (by simpa using c)]at b;rcases jc7 j A.length with d|d
  ·rw[jc3 d]at b;rw[World.cell?_setCells_out g V _ _ _ (λ_ _=>.inl d),World.cell?_setCells_out g D _ _ _ (λ_ _=>.inl (by show j<_;omega))];exact h j u b
  rw[jc0 d]at b;have:=qth k b
  rwa [show A.length+(j-A.length)=j by omega]at this
 rw[jc0 (by simpa using c),jcl]at b;rw[World.cell?_setCells_out g V _ _ _ (λ_ _=>.inr c)];have:=qth f b
 rwa [show A.length+V.length+(j-(A.length+V.length))=j by omega]at this
theorem qlp (A V D:List Value) (h:∀j u,A[j]?=some u->w.cell? (AD g j)=some u) (e:∀j,j<A.length+V.length+D.length->(w.cell? (AD g j)).isSome=true):
 ∀j u,(A++V++D)[j]?=some u->((w.setCells g A.length V).setCells g (A.length+V.length) D).cell? (AD g j)=some u:=by
 intro j u b;have f:∀t,t<V.length->(w.cell? (AD g (A.length+t))).isSome=true:=λt i=>e _ (by omega);have k:∀t,t<D.length->((w.setCells g A.length V).cell? (AD g (A.length+V.length+t))).isSome=true:=λt i=>qio g V _ w f _ (e _ (by omega));rcases jc7 j (A.length+V.length)with c|c
 ·rw[jc3 (by simpa using c)]at b;rw[World.cell?_setCells_out g D _ _ _ (λ_ _=>.inl c)];rcases jc7 j A.length with d|d
  ·rw[jc3 d]at b;rw[World.cell?_setCells_out g V _ _ _ (λ_ _=>.inl d)];exact h j u b
  rw[jc0 d]at b;have:=qth f b
  rwa [show A.length+(j-A.length)=j by omega]at this
 rw[jc0 (by simpa using c),jcl]at b;have:=qth k b
 rwa [show A.length+V.length+(j-(A.length+V.length))=j by omega]at this
end
section
open Tryz Go.RowKit
theorem q0x:(prog.info? 130).map (λi=>(i.zero,i.size,i.bytes))=some (some (.agg YA),6,56):=by kernel_rfl
theorem qn8:(prog.info? 130).map (·.size)=some 6:=by kernel_rfl
def qiy (w:World) (sv:Value) (L':List Ver) (g cap:Nat) (w':World):Prop:=
 w'.ownsRow 0 130 6 (.slice (PT g) L'.length cap) L'.length (ja L')/\w.grownBy w' sv.ownBlock/\(sv.ownBlock=some g\/w.heap.size<=g)
def qj0 (L:List Ver) (p:Nat) (v:Ver):List Ver:=L.take p++[v]++L.drop p
variable {L:List Ver} {p:Nat}
theorem qg1 (v:Ver) (h:p<=L.length):(qj0 L p v).length=L.length+1:=by
 simp[qj0];omega
theorem qrc (L:List Ver) (p:Nat) (v:Ver):ja (qj0 L p v)=ja (L.take p)++qh v++ja (L.drop p):=by
 unfold qj0;rw[qib,qib,qh0]
theorem qyq {sv:Value} (v:Ver) (f:Nat) (w:World) (i:w.ownsRow 0 130 6 sv L.length (ja L)) (G:L.length<=1000) (r:w.heap[f]?=some (.cells (qh v).toArray 130 (0,0))):
 Ca 286 #[sv,U L.length,.slice (PT f) 1 1] w λe w'=>
  ∃g cap,e=.returned (.slice (PT g) (L.length+1) cap)/\qiy w sv (L++[v]) g cap w':=by
 obtain⟨y,hi,z,B,C⟩:=info_parts q0x
 have D:∀j u,(qh v)[j]?=some u->w.cell? (((AD f 0):Addr).add j)=some u:=λj u s=>by
  rw[qal,cell_of_row w f j _ 130 (0,0) r];simpa using s
 have q:=λu s=>qgd [v] u (by rw[qh0];exact s);obtain⟨a,cap,rfl,t⟩:=qfo i;have H:=t.len;have P:=t.cap;have E:=hd1 D;have Q:=hd1 r;clear D r t;obtain⟨n,k⟩:∃n,L.length=n:=⟨_,rfl⟩;have I:=hd1 k;rw[k]at i H G ⊢;clear k
 have J:(Value.slice a n cap=.slice none 0 0)\/∃g,a=some (AD g 0):=by
  rcases i.2 with ⟨h,_⟩|⟨g,c,cur,h,_⟩
  ·exact .inl h
  injection h with h _ _;exact .inr ⟨g,h⟩
 have F:Hid (∀g b d,d.ownsRow 0 130 6 (.slice (PT g) (n+1) b) (n+1) (ja L++qh v)->w.grownBy d (Value.slice a n cap).ownBlock->((Value.slice a n cap).ownBlock=some g\/g=w.heap.size)->qiy w (.slice a n cap) (L++[v]) g b d):=λg b d q K M=>
  ⟨by rw[qib,qh0,jcl,I.out];exact q,K,M.imp_right (λe=>by omega)⟩
 rcases J with N|⟨R,rfl⟩
 ·injection N with ha k hcp;subst ha k hcp;go_enter func286,ntmps286
  go_wp2_with (at_builtin;refine wpList_append_lies _ rfl _ _ 215 rfl 0 130 y (.agg YA) 6 56 underlying215 hi z B C rfl (by decide) _ _ (ja L) rfl i (AD f 0) 1 1 (qh v) rfl rfl E.out q (by decide) (by simp only[maxLen];omega) (by omega) (by omega) _ rfl ?_;intro g b d l m o O;have x:=hd1 (F.out g b d l m o);clear l m o)
  go_ret;exact⟨g,b,rfl,x.out⟩
 go_enter func286,ntmps286
 go_wp2_with (at_builtin;refine wpList_append_lies _ rfl _ _ 215 rfl 0 130 y (.agg YA) 6 56 underlying215 hi z B C rfl (by decide) _ _ (ja L) rfl i (AD f 0) 1 1 (qh v) rfl rfl E.out q (by decide) (by simp only[maxLen];omega) (by omega) (by omega) _ rfl ?_;intro g b d l m o O;have x:=hd1 (F.out g b d l m o);clear l m o)
 all_goals
  go_ret;exact⟨g,b,rfl,x.out⟩
theorem qtg {g n cap:Nat} (v:Ver) (b:Nat) (w:World) (o:w.ownsRow 0 130 6 (.slice (PT g) n cap) n (ja L)) (q:L.length=n) (Z:n<=1000) (hp:p<n) (hroom:n+1<=cap) (i:w.heap[b]?=some (.cells (qh v).toArray 130 (0,0))) (C:b≠g):
 Ca 286 #[.slice (PT g) n cap,U p,.slice (PT b) 1 1] w λe w'=>
  ∃g' D,e=.returned (.slice (PT g') (n+1) D)/\qiy w (.slice (PT g) n cap) (qj0 L p v) g' D w':=by
 obtain⟨g1,cap1,cur,E,M,k,hnc,F,N,O⟩:=o.2.resolve_left (λh=>by simp at h);simp only[Value.slice.injEq,Option.some.injEq,Addr.mk.injEq,and_true,true_and]at E;obtain⟨rfl,rfl⟩:=E
 have hc63:cap<=9223372036854775807:=by simp only[maxLen]at F;omega
 have r:(ja (L.drop p)).length=(n-p)*6:=by rw[qbe,jdt,q]
 have s:(ja (L.take p)).length=p*6:=by rw[qbe,jc5];omega
 have y:=λj u l=>by have:=o.cells (g:=g) rfl j u l;rwa [qal]at this
 have m:∀j,j<cap*6->(w.cell? (AD g j)).isSome=true:=λj a=>by rw[cell_of_row w g j cur _ (0,0) k,jde (by omega)];rfl
 have z:=λj=>frozen_of_row w g j cur _ k
 have G:∀j u,(qh v)[j]?=some u->w.cell? (AD b j)=some u:=λj u l=>by
  rw[cell_of_row w b j _ 130 (0,0) i];simpa using l
 have H:=λu l=>qgd [v] u (by rw[qh0];exact l)
 have P:∀lb cb,(callFunc 290 #[.slice (PT b) 1 1,.slice (some (AD g ((p+1)*6))) lb cb]).run prog w=.ok (.value (.bool false)) w:=λlb cb=>by
  rw[run_callFunc_extern func290 (by kernel_rfl) (by kernel_rfl) (by kernel_rfl) (e:=Extern.SlicesOverlaps.overlaps #[215,215] #[4]) (by kernel_rfl),
   Lib.run_overlaps_apart w 215 4 130 underlying215 6 Tryz.sizeOf130 (AD b 0) (AD g ((p+1)*6)) 1 1 lb cb C 130 130 6 cur.size (by simp[World.shape?,i,qh]) (by simp[World.shape?,k]) (by omega) (by simp[World.frozen?,i]) (by simp[World.frozen?,i])]
  rfl
 have I:∀c d B,(Builtin.copy_ #[215,215] c #[.slice (some (AD g ((p+1)*6))) (n-p) d,.slice (some (AD g (p*6))) (n+1-p) B]).run prog w.drew=.ok (goInt (n-p:Nat)) (w.drew.setCells g ((p+1)*6) (ja (L.drop p))):=λc d B=>
  qiq w.drew _ _ c 130 6 g ((p+1)*6) (n-p) d (AD g (p*6)) (n+1-p) B (n-p) (ja (L.drop p)) underlying215 qn8 (by simp only[Nat.min_def];split<;>omega) r
   (λj u a=>by rw[Addr.add_lit];exact y (p*6+j) u (by rw[<-qlc,List.getElem?_drop]at a;exact a))
   (λj a=>m _ (by omega)) (λj _=>z _) (qgd _)
 obtain⟨W1,f⟩:∃W1,W1=w.drew.setCells g ((p+1)*6) (ja (L.drop p)):=⟨_,rfl⟩
 have J:∀(W:World),(∀x,W.cell? x=W1.cell? x)->(∀x,W.frozen? x=W1.frozen? x)->∀c d,(Builtin.copy_ #[215,215] c #[.slice (some (AD g (p*6))) (n+1-p) d,.slice (PT b) 1 1]).run prog W=.ok (goInt 1) (W.setCells g (p*6) (qh v)):=λW K Q c d=>
  qiq W _ _ c 130 6 g (p*6) (n+1-p) d (AD b 0) 1 1 1 (qh v) underlying215 qn8 (by simp only[Nat.min_def];split<;>omega) rfl
   (λj u a=>by
        rw[qal,K,f,World.cell?_setCells_out g _ _ _ _ (λh _=>absurd h C)]
        exact G j u a)
   (λj a=>by
        rw[K,f]
        exact qio g (ja (L.drop p)) ((p+1)*6) w.drew (λt ht=>m ((p+1)*6+t) (by omega)) (p*6+j) (m (p*6+j) (by simp[qh]at a;omega)))
   (λj a=>by rw[Q,f,World.frozen?_setCells];exact z _) H
 have R:Hid (qiy w (.slice (PT g) n cap) (qj0 L p v) g cap (W1.setCells g (p*6) (qh v))):=by
  obtain⟨c1,S,q2⟩:=qat g (ja (L.drop p)) ((p+1)*6) w.drew (cur:=cur) (T:=130) k;obtain⟨c2,V,q4⟩:=qat g (qh v) (p*6) (w.drew.setCells g ((p+1)*6) (ja (L.drop p))) S;rw[f];refine⟨qfz (jcw _) V F (by omega) (by rw[qg1 v (by omega)];omega) (qbe _) ?_,?_,.inl rfl⟩
  ·rw[qrc];have:=qvs (w:=w.drew) (g:=g) (ja (L.take p)) (qh v) (ja (L.drop p)) (λj u a=>y j u (by rw[<-qin,List.getElem?_take]at a;split at a;exact a;cases a)) (λj a=>m j (by rw[s,r,qaw]at a;omega));rw[s,qaw,show p*6+6=(p+1)*6 by omega]at this;exact this
  have X:yu g w w.drew:=yu.ofBelow (jcc _ _).drew;exact(X.trans (zg g _ _ _) (.inl rfl)).trans (zg g _ _ _) (.inl rfl)
 rw[<-f]at I;have Y:=J W1 (λ_=>rfl) (λ_=>rfl);clear f J
 have hw1:IntKind.i64.wrap ((p:Int)+1)=(p:Int)+1:=by rw[IntKind.wrap_i64];omega
 have hb1:(0:Int)<=(p:Int)+1:=by omega
 have hin:p<=n:=by omega
 have htn:((p:Int)+1).toNat=p+1:=by omega
 have hb2:¬(cap=p+1):=by omega
 have hb3:(p:Int)<=(n:Int)+1:=by omega
 have hb4:¬(cap=p):=by omega
 have hz2:¬((p:Int)=(n:Int)):=by omega
 have EL:=hd1 q;clear r s y m z G H O o N M k i q;go_enter func286,ntmps286
 go_wp2_with (simp only[P])
 go_region_law (refine qky rfl _ _ 215 215 rfl _ _ (by simp[Act.eval,Act.put]) (by simp[Act.eval,Act.put]) (I _ _ _) ?_)
 go_wp2_with (at_builtin;refine qi7 _ rfl _ _ 215 215 rfl _ _ rfl rfl (Y _ _) ?_)
 go_ret;exact⟨g,cap,rfl,R.out⟩
end
section
open Go.RowKit
def qbr (L:List Ver):Prop:=L.Pairwise λa b=>qw a b=true
variable {L:List Ver} {i j:Nat}
theorem qbr.at (h:qbr L) (b:i<j) (a:j<L.length):qw (jx L i) (jx L j)=true:=by
 rw[qem a,qem (by omega)];exact List.pairwise_iff_getElem.1 h i j (by omega) a b
theorem qbr.mono (h:qbr L) {t:Ver} (c:i<=j) (b:j<L.length) (a:qw (jx L j) t=true):qw (jx L i) t=true:=by
 rcases jc7 i j with g|g
 ·have:=h.at g b;rw[qar]at this a ⊢;omega
 obtain rfl:i=j:=by omega
 exact a
def qu8 (L:List Ver) (t:Ver) (p:Nat):Prop:=p<=L.length/\(∀j,j<p->qw (jx L j) t=true)/\(∀j,p<=j->j<L.length->qw (jx L j) t=false)
def qfa (L:List Ver) (t:Ver) (p:Nat):Bool:=decide (p<L.length)&&decide (qtb (jx L p) t=0)
theorem qyn {a:Option Addr} {cap:Nat} (t:Ver) (w:World) (H:qs5 w a cap L) (J:qbr L) (hl:L.length<=1000):
 Ca 284 #[.slice a L.length cap,.agg #[U t.wall,U t.count,U t.site,U t.seq,.string t.data,.bool t.gone],.func (.func 285) #[] #[]] w λe w'=>
  ∃p:Nat,e=.returned (.tuple #[U p,.bool (qfa L t p)])/\qu8 L t p/\Bw w w':=by
 have hne:=qb.one;have D:=qd.new (w:=w) (T:=130) (qh t) rfl;have l:=boxed (jcc _ w) (.cells (qh t).toArray 130);have E:=hd1 J;go_enter Tryz.func284,Tryz.ntmps284
 go_wp2_with fail
 change qd (w.alloc (.cells #[U t.wall,U t.count,U t.site,U t.seq,.string t.data,.bool t.gone] 130)) w.heap.size (qh t)at D;change Bw w (w.alloc (.cells #[U t.wall,U t.count,U t.site,U t.seq,.string t.data,.bool t.gone] 130))at l
 go_loopw [9,10] (λK N wr=>∃lo hi:Nat,K=U lo/\N=U hi/\lo<=hi/\hi<=L.length/\Hid ((∀j,j<lo->qw (jx L j) t=true)/\(∀j,hi<=j->j<L.length->qw (jx L j) t=false))/\qd wr w.heap.size (qh t)/\Bw w wr) (λi j _=>(intOf j).toNat-(intOf i).toNat)
 case atStart=>exact⟨0,L.length,rfl,rfl,by omega,by omega,(⟨λj O=>by omega,λj P o=>by omega⟩:(∀j,j<0->qw (jx L j) t=true)/\(∀j,L.length<=j->j<L.length->qw (jx L j) t=false)),D,l⟩
 obtain⟨lo,hi,rfl,rfl,P,o,I,R,l⟩:=hrel;have F:=H.later l;have d0:=qb.cell (R.c 0);have d1:=qb.cell (R.c 1);have d2:=qb.cell (R.c 2);have d3:=qb.cell (R.c 3);have d4:=qb.cell (R.c 4);have d5:=qb.cell (R.c 5);by_cases hlt:lo<hi
 ·obtain⟨b,Q,rfl,f⟩:∃b,b<wr.heap.size/\a=some (AD b 0)/\∀i r u,i<L.length->(qh (jx L i))[r]?=some u->wr.cell? (AD b (i*6+r))=some u:=by
   rcases F.held with h|h
   ·rw[h]at o;simp at o;omega
   exact h
  obtain⟨m,S⟩:∃m,(lo+hi)/2=m:=⟨_,rfl⟩
  have n:m<L.length:=by omega
  obtain⟨y,d⟩:∃y,jx L m=y:=⟨_,rfl⟩;have x0:wr.cell? (AD b (m*6))=some (U y.wall):=f m 0 _ n (by rw[d];rfl);have x1:=f m 1 _ n (by rw[d];rfl);have x2:=f m 2 _ n (by rw[d];rfl);have x3:=f m 3 _ n (by rw[d];rfl);have q:=f m 4 _ n (by rw[d];rfl);have s:=f m 5 _ n (by rw[d];rfl);replace x0:=qb.cell x0;replace x1:=qb.cell x1;replace x2:=qb.cell x2;replace x3:=qb.cell x3;replace q:=qb.cell q;replace s:=qb.cell s;have M:=hd1 S;have Y:=hd1 d
  have e1:((lo:Int)+(hi:Int))/2=(m:Int):=by omega
  obtain⟨c,v⟩:∃c,qtb y t=c:=⟨_,rfl⟩;have C:=hd1 v;by_cases V:c<0
  ·go_wp2_with fail
   refine wrl ?_
   repeat (go_big_quiet_step ((go_at_call 285;with_reducible exact qg (qp3 C.out _))))
   refine wpQuiet_nil ?_;rintro x ⟨⟨_,k⟩,rfl⟩
   go_wp2_with fail
   go_roundw
   case rel=>
        have z:=qvz.1 (by rw[C.out];exact V);exact⟨m+1,hi,by go_num,rfl,by have:=M.out;omega,o,(⟨λj O=>E.out.mono (by omega) n (by rw[Y.out];exact z),I.out.2⟩:_/\_),R.later k,qa l k⟩
   simp[intOf];have:=M.out;omega
  go_wp2_with fail
  refine wrl ?_
  repeat (go_big_quiet_step ((go_at_call 285;with_reducible exact qg (qp3 C.out _))))
  refine wpQuiet_nil ?_;rintro x ⟨⟨_,k⟩,rfl⟩
  go_wp2_with fail
  go_roundw
  case rel=>
   have z:qw y t=false:=by
        cases hq:qw y t
        ·rfl
        exfalso
        have:=qvz.2 hq;rw[C.out]at this;omega
   exact⟨lo,m,rfl,rfl,by have:=M.out;omega,by omega,(⟨I.out.1,λj W X=>by
        cases hq:qw (jx L j) t
        ·rfl
        have:=E.out.mono W X hq;rw[Y.out,z]at this
        cases this⟩:_/\_),R.later k,qa l k⟩
  simp[intOf];have:=M.out;omega
 obtain rfl:hi=lo:=by omega
 have G:Hid (qu8 L t hi):=⟨o,I.out.1,I.out.2⟩
 have hnl:¬(hi:Int)<(hi:Int):=by omega
 by_cases g:hi<L.length
 ·obtain⟨b,Q,rfl,f⟩:∃b,b<wr.heap.size/\a=some (AD b 0)/\∀i r u,i<L.length->(qh (jx L i))[r]?=some u->wr.cell? (AD b (i*6+r))=some u:=by
   rcases F.held with h|h
   ·rw[h]at g;simp at g
   exact h
  obtain⟨y,d⟩:∃y,jx L hi=y:=⟨_,rfl⟩;have x0:wr.cell? (AD b (hi*6))=some (U y.wall):=f hi 0 _ g (by rw[d];rfl);have x1:=f hi 1 _ g (by rw[d];rfl);have x2:=f hi 2 _ g (by rw[d];rfl);have x3:=f hi 3 _ g (by rw[d];rfl);have q:=f hi 4 _ g (by rw[d];rfl);have s:=f hi 5 _ g (by rw[d];rfl);replace x0:=qb.cell x0;replace x1:=qb.cell x1;replace x2:=qb.cell x2;replace x3:=qb.cell x3;replace q:=qb.cell q;replace s:=qb.cell s;obtain⟨c,v⟩:∃c,qtb y t=c:=⟨_,rfl⟩;have C:=hd1 v
  have Z:(hi:Int)<(L.length:Int):=by omega
  have dn:=decide_eq_true Z
  have B:Hid (qfa L t hi=(c==0)):=by
   show qfa L t hi=_;unfold qfa;rw[d,v,decide_eq_true g,Bool.true_and]
   by_cases h:c=0<;>simp[h]
  go_wp2_with fail
  refine wrl ?_
  repeat (go_big_quiet_step ((go_at_call 285;with_reducible exact qg (qp3 C.out _))))
  refine wpQuiet_nil ?_;rintro x ⟨⟨_,k⟩,rfl⟩
  go_wp2_with fail
  go_ret2;exact⟨hi,by rw[B.out];rfl,G.out,qa l k⟩
 have dn:decide ((hi:Int)<(L.length:Int))=false:=decide_eq_false (by omega)
 have B:Hid (qfa L t hi=false):=by
  show qfa L t hi=_;unfold qfa;rw[decide_eq_false g,Bool.false_and]
 go_wp2_with fail
 refine wrl ?_
 repeat (go_big_quiet_step (fail))
 refine wpQuiet_nil ?_;rintro x ⟨⟨_,k⟩,rfl⟩
 go_wp2_with fail
 go_ret2;exact⟨hi,by rw[B.out];rfl,G.out,qa l k⟩
end
section
open Tryz Go.RowKit Go.Shelf
attribute [local go_sem] Oper.semAt_some
abbrev SV:={v:Ver//0<=v.site/\v.site<=3}
def qb4 {α:Type} (L:List α) (k:Nat):List α:=L.reverse.take k
variable {α:Type} {L:List α} {k:Nat}
theorem qst (h:k<L.length):qb4 L (k+1)=qb4 L k++[L[L.length-1-k]]:=by
 unfold qb4;rw[jc1 (by simpa using h),List.getElem_reverse]
theorem qok (h:k<=L.length):(qb4 L k).length=k:=by
 unfold qb4;rw[jc5,List.length_reverse];omega
def qtt (n₀:Nat) (W:World) (sv:Value) (L:List Ver):Prop:=
 ∃a cap,sv=.slice a L.length cap/\L.length<=cap/\cap<=9223372036854775807/\(L=[]\/∃b,b<n₀/\a=some (AD b 0)/\∀i r u,i<L.length->(qh (jx L i))[r]?=some u->W.cell? (AD b (i*6+r))=some u)
theorem qxm (F:Fence) (n:Nat) (O:F.fn 288) (P:F.round=none) (hn:1<=n) (l j o:Nat) (sv:Value) (L:List SV) (hl:L.length<=1000) (J C:List SV->World->Prop)
 (D:j<o) (Q:∀d x W,J d W->d.length<L.length->YieldAt F (n-1) prog l #[.agg #[U x.1.wall,U x.1.count,U x.1.site,U x.1.seq,.string x.1.data,.bool x.1.gone]] W λe W'=>
  (e=.returned (.bool true)/\J (d++[x]) W'/\Below o W W')\/(e=.returned (.bool false)/\C (d++[x]) W'))
 (W:World) (E:W.cell? (AD j 0)=some sv) (R:qtt o W sv (L.map (·.1))) (S:J [] W):
 CallsIn F n prog 288 #[.func (.yield l) #[] #[],PP j] W λe W'=>(∃v,e=.returned v)/\
  ((∃G,G=L.reverse/\J G W')\/(∃d,(∃k,k<L.length/\d=qb4 L (k+1))/\C d W')):=by
 obtain⟨a,cap,rfl,T,hc2,H⟩:=R;rw[jdh]at E T H;have HB:=hd1 D;refine callsIn_of_wp func288 rfl O ?_ P;simp only[ntmps288,List.size_toArray,List.length_cons,List.length_nil,Nat.reduceAdd,Nat.reduceSub,Array.replicate_succ,Array.replicate_zero,List.push_toArray,List.append_toArray,jda,jdj]
 gi_wp2
 gi_loopw [3] (λi wr=>∃(k:Nat) (z:Int),k<=L.length/\z=(L.length:Int)-1-k/\i=U z/\J (qb4 L k) wr/\Below o W wr) (λi _=>(intOf i+1).toNat)
 case atStart=>exact⟨0,(L.length:Int)-1,jcw _,by omega,by go_num,S,jcc _ _⟩
 obtain⟨k,z,V,X,rfl,s,t⟩:=hrel;have Y:=hd1 X;have hB2:=(t.cell (p:=AD j 0) D).trans E;by_cases g:k<L.length
 ·obtain⟨b,Z,rfl,aa⟩:=H.resolve_left (λh=>by rw[List.map_eq_nil_iff]at h;rw[h]at g;simp at g);obtain⟨m,hm⟩:∃m,L.length-1-k=m:=⟨_,rfl⟩
  have I:m<L.length:=by omega
  have hzm:z.toNat=m:=by omega
  have hz0:0<=z:=by omega
  have hz1:z<(L.length:Int):=by omega
  obtain⟨⟨y,K⟩,M⟩:∃y,L[m]=y:=⟨_,rfl⟩
  have f:jx (L.map (·.1)) m=y:=by rw[qem (by simpa using I),List.getElem_map,M]
  have q:=λr u h=>(t.cell (p:=AD b (m*6+r)) Z).trans (aa m r u I h);have x0:wr.cell? (AD b (m*6))=some (U y.wall):=q 0 _ (by rw[f];rfl);have x1:=q 1 _ (by rw[f];rfl);have x2:=q 2 _ (by rw[f];rfl);have x3:=q 3 _ (by rw[f];rfl);have x4:=q 4 _ (by rw[f];rfl);have x5:=q 5 _ (by rw[f];rfl)
  have N:Hid (qb4 L (k+1)=qb4 L k++[⟨y,K⟩]):=by
   show qb4 L (k+1)=_;rw[qst g,<-M];simp only[hm]
  obtain⟨fn,tmps,assign,body,hyy,hR⟩:=Q _ ⟨y,K⟩ wr s (by rw[qok V];exact g)
  dsimp only at hyy
  gi_wp2
  refine hR.mono ?_;rintro e W3 (⟨rfl,hJ3,hk3⟩|⟨rfl,hJx3⟩)
  ·gi_wp2
   go_roundw
   case rel=>exact⟨k+1,z-1,by omega,by have:=Y.out;omega,by go_num,by rw[N.out];exact hJ3,t.trans hk3⟩
   simp[intOf];omega
  gi_wp2
  refine bodyPost_ret (results_none rfl _ _ _) rfl ?_;exact⟨⟨_,rfl⟩,.inr ⟨_,⟨k,g,rfl⟩,by rw[N.out];exact hJx3⟩⟩
 have hzn:¬0<=z:=by omega
 have ALL:Hid (qb4 L k=L.reverse):=by show qb4 L k=L.reverse;unfold qb4;rw[List.take_of_length_le (by rw[List.length_reverse];omega)]
 gi_wp2
 go_end0;rw[ALL.out]at s;exact⟨⟨_,rfl⟩,.inl s⟩
theorem qqo (F:Fence) (n:Nat) (f:F.fn 281) (g:F.round=none) (a:Option Addr) (d cap:Nat) (w:World):
 CallsIn F n prog 281 #[.slice a d cap] w λe w'=>e=.returned (.func (.func 288) #[] #[PP w.heap.size])/\w'=w.nu #[.slice a d cap] 215:=by
 refine callsIn_of_wp func281 rfl f ?_ g;simp only[ntmps281,List.size_toArray,List.length_cons,List.length_nil,Nat.reduceAdd,Nat.reduceSub,Array.replicate_succ,Array.replicate_zero,List.push_toArray,List.append_toArray,jda,jdj]
 gi_wp2
 go_ret;exact⟨rfl,rfl⟩
theorem qto (F:Fence) (n:Nat) (m:F.fn 288) (o:F.round=none) (q:1<=n) (d f:Nat) (sv:Value) (L:List SV) (s:L.length<=1000) (w:World) (g:d<f) (t:f<=w.heap.size)
 (v:w.cell? (AD d 0)=some sv) (y:qtt f w sv (L.map (·.1))):
 SeqStopsK F n prog 288 #[PP d] (λx:SV=>#[Value.agg #[U x.1.wall,U x.1.count,U x.1.site,U x.1.seq,.string x.1.data,.bool x.1.gone]]) (Below f) (λz=>z=L.reverse) (λC=>∃k,k<L.length/\C=qb4 L (k+1)) L.length w:=λl J D W E _ _ G H=>by
 have h:=E.mono t;have I:=(h.cell (p:=AD d 0) g).trans v;obtain⟨a,cap,rfl,K,M,N⟩:=y;exact qxm F n m o q l d f _ L s J D g G W I ⟨a,cap,rfl,K,M,N.imp_right λ⟨b,j,e,O⟩=>⟨b,j,e,λi r u hi P=>(h.cell (p:=AD b (i*6+r)) j).trans (O i r u hi P)⟩⟩ H
def qdi (a0 a1 a2 a3:Int) (L:List Ver):Option Ver:=L.reverse.find? (qdp a0 a1 a2 a3)
variable {w:World} {b c:Nat}
theorem qjf {tmps:Array Value} {v:Ver} {sv:Bool} (h:qd w b (qh v)) (a:w.cell? (AD c 0)=some (.bool sv)) (d:tmps[4]?=some (PP b)) (e:tmps[5]?=some (PP c)):
 (results f260 tmps).run prog w=.ok (.tuple #[.agg (qh v).toArray,.bool sv]) w:=by
 obtain⟨f,g,i,j,l,m⟩:=h.c6;simp[results,results260,go_sem,a,d,e,f,g,i,j,l,m,qh]
variable {vs:List Value}
theorem qd.abides {X Y:World} {row:Option Nat} (h:qd X b vs) (a:X.grownBy Y row) (d:∀r,row=some r->∃o:Obj,X.heap[r]?=some o/\o.isCells=false) (f:0<vs.length):qd Y b vs:=by
 refine h.kept (a.block b h.lt λe=>?_) a.size;obtain⟨o,g,i⟩:=d b e.symm;have:=h.cell 0 vs[0] (jcg f);unfold World.cell? at this;rw[g]at this
 cases o<;>simp_all [Obj.isCells]
theorem qd.verSet {y:Ver} (h:qd w b (qh y)) (x:Ver):qd ((((((w.setCell (AD b 0) (U x.wall)).setCell (AD b 1) (U x.count)).setCell (AD b 2) (U x.site)).setCell (AD b 3) (U x.seq)).setCell (AD b 4) (.string x.data)).setCell (AD b 5) (.bool x.gone)) b (qh x):=
 (((((h.set 0 _ (by simp[qh])).set 1 _ (by simp[qh])).set 2 _ (by simp[qh])).set 3 _ (by simp[qh])).set 4 _ (by simp[qh])).set 5 _ (by simp[qh])
abbrev qye (w:World) (b:Nat) (x:Ver):World:=(((((w.setCell (AD b 0) (U x.wall)).setCell (AD b 1) (U x.count)).setCell (AD b 2) (U x.site)).setCell (AD b 3) (U x.seq)).setCell (AD b 4) (.string x.data)).setCell (AD b 5) (.bool x.gone)
theorem qd.verFar (h:qd w b vs) (a:c≠b) (x:Ver):qd (qye w c x) b vs:=
 (((((h.far (AD c 0) _ a).far (AD c 1) _ a).far (AD c 2) _ a).far (AD c 3) _ a).far (AD c 4) _ a).far (AD c 5) _ a
theorem qmc (W:World) (b:Nat) (x:Ver):KeepsOthers W (qye W b x):=
 (((((KeepsOthers.setCell _ _ _).trans (KeepsOthers.setCell _ _ _)).trans (KeepsOthers.setCell _ _ _)).trans (KeepsOthers.setCell _ _ _)).trans (KeepsOthers.setCell _ _ _)).trans (KeepsOthers.setCell _ _ _)
variable {B:Nat} {W:World}
theorem jp (h:Below B w W) (a:B<=b) (x:Ver):Below B w (qye W b x):=
 (((((h.setCell (p:=AD b 0) a _).setCell (p:=AD b 1) a _).setCell (p:=AD b 2) a _).setCell (p:=AD b 3) a _).setCell (p:=AD b 4) a _).setCell (p:=AD b 5) a _
def qsq (a0 a1 a2 a3:Int) (pre:List SV) (x:SV):Prop:=∃p,pre=p++[x]/\(∀y∈p,qdp a0 a1 a2 a3 y.1=false)/\qdp a0 a1 a2 a3 x.1=true
variable {a0 a1 a2 a3:Int} {LS:List SV}
theorem qsq.find {x:SV} (h:qsq a0 a1 a2 a3 (qb4 LS k) x):qdi a0 a1 a2 a3 (LS.map (·.1))=some x.1:=by
 obtain⟨p,e,a,d⟩:=h
 have f:LS.reverse=(p++[x])++LS.reverse.drop k:=by rw[<-e];exact(jds k _).symm
 unfold qdi;rw[<-List.map_reverse,f];simp only[jdb,List.find?_append,jcy]
 have g:(p.map (·.1)).find? (qdp a0 a1 a2 a3)=none:=by
  rw[List.find?_eq_none];intro v i;obtain⟨y,j,rfl⟩:=jcz.1 i;rw[a y j]
  decide
 rw[g];simp[d]
theorem q3h (h:∀x∈LS.reverse,qdp a0 a1 a2 a3 x.1=false):qdi a0 a1 a2 a3 (LS.map (·.1))=none:=by
 unfold qdi;rw[List.find?_eq_none];intro v a;rw[List.mem_reverse]at a;obtain⟨y,d,rfl⟩:=jcz.1 a;rw[h y (by simpa using d)]
 decide
theorem qi6 {W':World} (h:Bw W W'):KeepsFrom B W W':=⟨h.size,λk _ _ a _=>(h.block k (jcs.1 a).1).trans a⟩
theorem qwf {a:Option Addr} {cap:Nat} {L:List Ver} (a0 a1 a2 a3:Int) (w:World) (O:qs5 w a cap L) (hok:∀v∈L,0<=v.site/\v.site<=3) (hl:L.length<=1000):
 Ca 260 #[.slice a L.length cap,.agg #[U a0,U a1,U a2,U a3]] w λe w'=>
  e=.returned (.tuple #[.agg (qa6 (qdi a0 a1 a2 a3 L)).toArray,.bool (qga (qdi a0 a1 a2 a3 L))])/\Bw w w':=by
 refine(callsIn_wide (n:=6)).1 ?_;obtain⟨LS,P⟩:∃LS:List SV,LS.map (·.1)=L:=⟨L.attachWith _ hok,by simp⟩
 have hLl:LS.length=L.length:=by rw[<-P,jdh]
 have RA:=(((qo.new w 77 a0 a1 a2 a3).boxed (.cells YA 130)).boxed (.cells #[.bool false] 4)).boxed (.cells #[.slice a L.length cap] 215);have RR:=((qd.new (w:=w.nu #[U a0,U a1,U a2,U a3] 77) (T:=130) (n:=w.heap.size+1) (qh jq) (by simp)).boxed (.cells #[.bool false] 4)).boxed (.cells #[.slice a L.length cap] 215);have RF:=(qd.new (w:=(w.nu #[U a0,U a1,U a2,U a3] 77).nu (qh jq).toArray 130) (T:=4) (n:=w.heap.size+1+1) [.bool false] (by simp)).boxed (.cells #[.slice a L.length cap] 215);have RL:=qd.new (w:=((w.nu #[U a0,U a1,U a2,U a3] 77).nu (qh jq).toArray 130).nu #[.bool false] 4) (T:=215) (n:=w.heap.size+1+1+1) [.slice a L.length cap] (by simp);have hb:=boxed (boxed (boxed (boxed (jcc _ w) (.cells #[U a0,U a1,U a2,U a3] 77)) (.cells (qh jq).toArray 130)) (.cells #[.bool false] 4)) (.cells #[.slice a L.length cap] 215);refine callsIn_of_wp_marks func260 rfl trivial ?_ rfl;simp only[ntmps260,List.size_toArray,List.length_cons,List.length_nil,Nat.reduceAdd,Nat.reduceSub,Array.replicate_succ,Array.replicate_zero,List.push_toArray,List.append_toArray,jda,jdj]
 gi_wp2_with (refine⟨trivial,?_⟩;gi_at_call 281;refine(qqo Fence.wide _ trivial rfl _ _ _ _).mono ?_;rintro e w' ⟨rfl,rfl⟩)
 have hsz:((((w.nu #[U a0,U a1,U a2,U a3] 77).nu (qh jq).toArray 130).nu #[.bool false] 4).nu #[.slice a L.length cap] 215).heap.size=w.heap.size+4:=by simp
 obtain⟨j,z⟩:∃j,(((w.nu #[U a0,U a1,U a2,U a3] 77).nu YA 130).nu #[.bool false] 4).nu #[.slice a L.length cap] 215=j:=⟨_,rfl⟩
 have RA0:qd j w.heap.size [U a0,U a1,U a2,U a3]:=by
  rw[<-z];exact(((qd.new (w:=w) (T:=77) [U a0,U a1,U a2,U a3] rfl).boxed _).boxed _).boxed _
 have RR0:qd j (w.heap.size+1) (qh jq):=by rw[<-z];exact RR
 have RF0:qd j (w.heap.size+1+1) [.bool false]:=by rw[<-z];exact RF
 have RL0:qd j (w.heap.size+1+1+1) [.slice a L.length cap]:=by rw[<-z];exact RL
 have Q:Bw w j:=by rw[<-z];exact hb
 have hsz0:j.heap.size=w.heap.size+4:=by rw[<-z];exact hsz
 rw[z]
 have VB:qtt (w.heap.size+4) j (.slice a L.length cap) (LS.map (·.1)):=by
  rw[P];exact⟨a,cap,rfl,O.len,O.cap,O.held.imp_right λ⟨b,hb1,e,hcc⟩=>⟨b,by omega,e,λi r u hi hu=>cell_later Q (hcc i r u hi hu)⟩⟩
 have HLS:=hd1 P;have HLL:=hd1 hLl
 refine wpIn_rangeFunc_ownH rfl (by decide) (gf:=288) (lb:=#[PP (w.heap.size+1+1+1)]) rfl trivial (enters_of func288 (by kernel_rfl) rfl)
  (qto Fence.wide 5 trivial rfl (by decide) (w.heap.size+1+1+1) (w.heap.size+4) (.slice a L.length cap) LS (by have:=HLL.out;omega) j (by omega) (by omega) (RL0.c 0) VB) belowK_t (belowK_b (by omega)) (jcc _ _) (λ_=>rfl)
  (λC W=>Bw j W/\∀x∈C,qdp a0 a1 a2 a3 x.1=false)
  (λc C W=>(∃x:SV,c=.ret/\(qd W (w.heap.size+1) (qh x.1)/\qd W (w.heap.size+1+1) [.bool true])/\qsq a0 a1 a2 a3 C x)/\Bw w W)
  (OwnFrom.and (ownFrom_below (jcd _) (jcd _)) (ownFrom_pure _ _))
  (λc=>OwnFrom.and (Own.from (λs A B row R I F=>by obtain⟨x,e,⟨S,V⟩,Z⟩:=R;exact⟨x,e,⟨S.abides I F (by simp[qh]),V.abides I F (by simp)⟩,Z⟩) _) (ownFrom_below (jcd _) (by omega)))
  ⟨jcc _ _,by simp⟩
  (λx a' W=>∃E,w.heap.size+1+1<E/\qd W E (qh x.1)/\a'={tmps:=#[.slice a L.length cap,.agg #[U a0,U a1,U a2,U a3],undef,PP w.heap.size,PP (w.heap.size+1),PP (w.heap.size+1+1),PP E,.slice a L.length cap,.func (.func 288) #[] #[PP (w.heap.size+1+1+1)],.agg #[U x.1.wall,U x.1.count,U x.1.site,U x.1.seq,.string x.1.data,.bool x.1.gone],undef,undef,undef,undef,undef],defers:=[]})
  (λx a' _ X Y row R I F=>by obtain⟨E,S,V,Z⟩:=R;exact⟨E,S,V.abides I (λr e=>(F r e).2) (by simp[qh]),Z⟩)
  ?assign ?body ?done ?stop
 case assign=>
  rintro l C x W K ⟨g,G⟩ t;have s1:=g.size
  gi_wp2
  exact t _ _ ((KeepsOthers.alloc _ _).from _) ((jcc _ W).alloc (by omega) _) ⟨boxed g _,G⟩ ⟨W.heap.size,by omega,qd.new (w:=W) (T:=130) (qh x.1) rfl,rfl⟩
 case body=>
  rintro l C ⟨x,J,M⟩ a' W hl ⟨r,F⟩ ⟨g,G⟩ ⟨E,hBx,m,rfl⟩ hlt;have NN:=hd1 G;simp only at m J M;have RA1:=RA0.later g;obtain⟨c0,c1,c2,c3⟩:=RA1.c4;obtain⟨x0,x1,x2,x3,x4,x5⟩:=m.c6;have d:=RR0.later g;have o:=RF0.later g;cases hh:qdp a0 a1 a2 a3 x
  ·have H:=hd1 hh
   gi_wp2_with (refine⟨trivial,?_⟩;gi_at_call 263;refine(CallsIn.inRound l (callsIn_wide.2 (qsx H.out J M _))).mono ?_;rintro e w' ⟨rfl,q⟩)
   exact⟨qi6 q,q.mono (by have:=g.size;omega),qa g q,λy hy=>by
        rcases jcf.1 hy with h|h
        ·exact NN.out y h
        obtain rfl:=jcj.1 h
        exact H.out⟩
  have H:=hd1 hh
  gi_wp2_with (refine⟨trivial,?_⟩;gi_at_call 263;refine(CallsIn.inRound l (callsIn_wide.2 (qsx H.out J M _))).mono ?_;rintro e w' ⟨rfl,q⟩;replace m:=m.later q;replace d:=d.later q;replace o:=o.later q;have y0:=m.c 0;have y1:=m.c 1;have y2:=m.c 2;have y3:=m.c 3;have y4:=m.c 4;have y5:=m.c 5;have r0:=d.c 0;have r1:=d.c 1;have r2:=d.c 2;have r3:=d.c 3;have r4:=d.c 4;have r5:=d.c 5;have f0:=o.c 0;have g0:=d.free 0 (by simp[qh]);have g1:=d.free 1 (by simp[qh]);have g2:=d.free 2 (by simp[qh]);have g3:=d.free 3 (by simp[qh]);have g4:=d.free 4 (by simp[qh]);have g5:=d.free 5 (by simp[qh]);have g6:=o.f 0)
  have hB7:=qa (qa Q g) (q.mono (jcd _));refine⟨(qi6 q).trans (((qmc w' (w.heap.size+1) x).trans (KeepsOthers.setCell _ (AD (w.heap.size+1+1) 0) (.bool true))).from _),⟨⟨x,J,M⟩,rfl,⟨(d.verSet x).far (AD (w.heap.size+1+1) 0) (.bool true) (by simp),?_⟩,⟨C,rfl,NN.out,H.out⟩⟩,(jp hB7 (b:=w.heap.size+1) (by omega) x).setCell (p:=AD (w.heap.size+1+1) 0) (by simp;omega) _⟩;exact(o.verFar (c:=w.heap.size+1) (by omega) x).set 0 (.bool true) (by simp)
 case done=>
  rintro D ys W hD rfl ⟨g,G⟩ t;have d:=RR0.later g;have o:=RF0.later g;obtain⟨r0,r1,r2,r3,r4,r5⟩:=d.c6;have f0:=o.c 0;have g0:=d.free 0 (by simp[qh]);have g1:=d.free 1 (by simp[qh]);have g2:=d.free 2 (by simp[qh]);have g3:=d.free 3 (by simp[qh]);have g4:=d.free 4 (by simp[qh]);have g5:=d.free 5 (by simp[qh]);have g6:=o.f 0
  have LN:Hid (qdi a0 a1 a2 a3 L=none):=by show _=_;rw[<-HLS.out];exact q3h G
  have BW:=qa Q g
  gi_wp2
  have N:=((qmc W (w.heap.size+1) jq).trans (KeepsOthers.setCell _ (AD (w.heap.size+1+1) 0) (.bool false))).same D _ t rfl;refine⟨by simp,.inl ⟨_,_,rfl,run_takeDeferred N,?_⟩⟩;have R2:=((d.verSet jq).far (AD (w.heap.size+1+1) 0) (.bool false) (by simp)).abides (grownBy_putObj' _ D (.deferred none)) (λr e=>by cases e;exact⟨_,N,rfl⟩) (by simp[qh]);have R3:=((o.verFar (c:=w.heap.size+1) (by omega) jq).set 0 (.bool false) (by simp)).abides (grownBy_putObj' _ D (.deferred none)) (λr e=>by cases e;exact⟨_,N,rfl⟩) (by simp);rw[LN.out];exact⟨_,qjf (v:=jq) R2 (R3.c 0) rfl rfl,rfl,((jp BW (b:=w.heap.size+1) (by omega) jq).setCell (p:=AD (w.heap.size+1+1) 0) (by simp;omega) _).trans (belowK_b (w:=w) (jcd _) _ D _ _ (by omega) N rfl rfl)⟩
 rintro D c C W hD ⟨k,hk,rfl⟩ ⟨⟨x,rfl,⟨R1,R2⟩,hf⟩,hB⟩ t
 have LN:Hid (qdi a0 a1 a2 a3 L=some x.1):=by show _=_;rw[<-HLS.out];exact hf.find
 gi_wp2
 refine⟨by simp,.inl ⟨_,_,rfl,run_takeDeferred t,?_⟩⟩;have R3:=R1.abides (grownBy_putObj' _ D (.deferred none)) (λr e=>by cases e;exact⟨_,t,rfl⟩) (by simp[qh]);have R4:=R2.abides (grownBy_putObj' _ D (.deferred none)) (λr e=>by cases e;exact⟨_,t,rfl⟩) (by simp);rw[LN.out];exact⟨_,qjf (v:=x.1) R3 (R4.c 0) rfl rfl,rfl,hB.trans (belowK_b (w:=w) (jcd _) _ D _ _ (by omega) t rfl rfl)⟩
end
section
open Go.RowKit
theorem ja0 (a b:Ver) (w:World):(binOp .neq 130 (.agg #[U a.wall,U a.count,U a.site,U a.seq,.string a.data,.bool a.gone]) (.agg #[U b.wall,U b.count,U b.site,U b.seq,.string b.data,.bool b.gone])).run Tryz.prog w=.ok (.bool (!eqV a b)) w:=by
 have h:=qzu a b w;rw[run_eql_struct]at h;rw[run_neq_struct]
 generalize (Op.equalIn 10000 130 _ _).run Tryz.prog w=r at*
 cases r with
 |ok b w1=>
  simp only[Result.andThen]at h ⊢;injection h with h1 h2;injection h1 with h1;rw[h1,h2]
 |halt x w1=>simp[Result.andThen]at h
def qhu (a0 a1 a2 a3:Int) (st v:Ver):Bool:=qdp a0 a1 a2 a3 v&&!eqV v st
variable {a0 a1 a2 a3:Int} {st:Ver} {A S:Nat}
theorem qsy {v:Ver} {r:Bool} (h:qhu a0 a1 a2 a3 st v=r) (f:0<=v.site) (g:v.site<=3) (w:World) (j:qd w A [U a0,U a1,U a2,U a3]) (RS:qd w S (qh st)):
 Ca 262 #[.agg #[U v.wall,U v.count,U v.site,U v.seq,.string v.data,.bool v.gone],PP A,PP S] w (Rn (.bool r) w):=by
 have p:=ja0;have i:=qd.new (w:=w) (T:=130) (qh v) rfl;have a:=boxed (jcc _ w) (.cells (qh v).toArray 130);change qd (w.alloc (.cells #[U v.wall,U v.count,U v.site,U v.seq,.string v.data,.bool v.gone] 130)) w.heap.size (qh v)at i;change Bw w (w.alloc (.cells #[U v.wall,U v.count,U v.site,U v.seq,.string v.data,.bool v.gone] 130))at a;have k:=j.later a;have l:=RS.later a;obtain⟨q,s,t,u⟩:=k.c4;have H:=hd1 h;clear h;cases hh:qdp a0 a1 a2 a3 v
 ·have c:=hd1 hh
  have d:Hid (r=false):=by show r=false;rw[<-H.out,qhu,hh];rfl
  clear hh;go_enter Tryz.func262,Tryz.ntmps262
  go_wp2_with fail
  refine(qsx c.out f g _).mono ?_;rintro e m ⟨rfl,b⟩
  go_wp2_with fail
  go_ret;exact⟨by rw[d.out];rfl,qa a b⟩
 have c:=hd1 hh
 have d:Hid (r=!eqV v st):=by show r=_;rw[<-H.out,qhu,hh];rfl
 clear hh;go_enter Tryz.func262,Tryz.ntmps262
 go_wp2_with fail
 refine(qsx c.out f g _).mono ?_;rintro e m ⟨rfl,b⟩;have n:=i.later b;have o:=l.later b;obtain⟨x0,x1,x2,x3,x,y⟩:=n.c6;obtain⟨z,B,C,D,E,F⟩:=o.c6
 go_wp2_with fail
 go_ret;exact⟨by rw[d.out];rfl,qa a b⟩
def q9w (a0 a1 a2 a3:Int) (st:Ver) (L:List Ver) (r:Int):Prop:=
 (r= -1/\∀v∈L,qhu a0 a1 a2 a3 st v=false)\/∃k:Nat,k<L.length/\r=k/\qhu a0 a1 a2 a3 st (jx L k)=true/\∀j,j<k->qhu a0 a1 a2 a3 st (jx L j)=false
theorem q2b {a:Option Addr} {cap:Nat} {L:List Ver} (w:World) (E:qs5 w a cap L) (t:∀v∈L,0<=v.site/\v.site<=3) (K:L.length<=1000) (F:qd w A [U a0,U a1,U a2,U a3]) (RS:qd w S (qh st)):
 Ca 282 #[.slice a L.length cap,.func (.func 262) #[] #[PP A,PP S]] w λe w'=>
  ∃r:Int,e=.returned (U r)/\q9w a0 a1 a2 a3 st L r/\Bw w w':=by
 have G:=hd1 t;clear t;go_enter Tryz.func282,Tryz.ntmps282
 go_wp2_with fail
 go_loopw [8] (λiv wr=>∃(k:Nat) (z:Int),k<=L.length/\z=k/\iv=U z/\Hid (∀j,j<k->qhu a0 a1 a2 a3 st (jx L j)=false)/\Bw w wr) (λi _=>L.length-(intOf i).toNat)
 case atStart=>exact⟨0,0,by omega,rfl,rfl,(λj H=>by omega:∀j,j<0->qhu a0 a1 a2 a3 st (jx L j)=false),jcc _ _⟩
 obtain⟨k,z,M,n,rfl,o,h⟩:=hrel;have x:=hd1 n;by_cases c:k<L.length
 ·have N:z<(L.length:Int):=by omega
  have O:z.toNat=k:=by omega
  have P:0<=z:=by omega
  clear n;have B:=E.later h
  obtain⟨b,Q,rfl,f⟩:∃b,b<wr.heap.size/\a=some (AD b 0)/\∀i r u,i<L.length->(qh (jx L i))[r]?=some u->wr.cell? (AD b (i*6+r))=some u:=by
   rcases B.held with p|p
   ·rw[p]at c;simp at c
   exact p
  obtain⟨y,d⟩:∃y,jx L k=y:=⟨_,rfl⟩;have q:=G.out _ (qkm c);rw[d]at q;have x0:wr.cell? (AD b (k*6))=some (U y.wall):=f k 0 _ c (by rw[d];rfl);have x1:=f k 1 _ c (by rw[d];rfl);have x2:=f k 2 _ c (by rw[d];rfl);have x3:=f k 3 _ c (by rw[d];rfl);have R:=f k 4 _ c (by rw[d];rfl);have T:=f k 5 _ c (by rw[d];rfl);have Y:=hd1 d;have m:=hd1 q;have C:=F.later h;have D:=RS.later h;clear d f B q;cases hd:qhu a0 a1 a2 a3 st y
  ·have l:=hd1 hd;clear hd
   go_wp2_with fail
   refine(qsy l.out m.out.1 m.out.2 _ C D).mono ?_;rintro e I ⟨rfl,s⟩
   go_wp2_with fail
   go_roundw
   case rel=>exact⟨k+1,z+1,by omega,by have:=x.out;omega,by go_num,(λj H=>by
    rcases jc7 j k with g|g
    ·exact o.out j g
    obtain rfl:j=k:=by omega
    rw[Y.out,l.out]:∀j,j<k+1->qhu a0 a1 a2 a3 st (jx L j)=false),qa h s⟩
   simp[intOf];omega
  have l:=hd1 hd;clear hd
  go_wp2_with fail
  refine(qsy l.out m.out.1 m.out.2 _ C D).mono ?_;rintro e I ⟨rfl,s⟩
  go_wp2_with fail
  go_ret;exact⟨z,rfl,.inr ⟨k,c,x.out,by rw[Y.out,l.out],o.out⟩,qa h s⟩
 have V:¬z<(L.length:Int):=by omega
 clear n
 go_wp2_with fail
 go_ret;refine⟨-1,rfl,.inl ⟨rfl,λv J=>?_⟩,h⟩;obtain⟨i,hi,rfl⟩:=jdm.1 J;have e:=o.out i (by omega)
 rwa [qem hi]at e
end
section
open Go.RowKit
theorem qng {P:Program} (w:World) (t e d:TypeId) (z:Value) (f:P.underlying t=some (.slice e)) (h:∀w,(zeroValue e).run P w=.ok z w) (b o n c:Nat) (s:0<n)
 (l:∀u∈(Builtin.zeroCells z.cells n).toList,u.oneCell'=true) (q:∀j,j<(Builtin.zeroCells z.cells n).size->(w.cell? (AD b (o+j))).isSome=true) (r:∀j,j<(Builtin.zeroCells z.cells n).size->w.frozen? (AD b (o+j))=false):
 (Builtin.clear_ #[t] d #[.slice (some (AD b o)) n c]).run P w=.ok (.tuple #[]) (w.setCells b o (Builtin.zeroCells z.cells n).toList):=by
 have a:=run_storeCells_cells (P:=P) b o (Builtin.zeroCells z.cells n).toList 0 w (by simpa using q) (by simpa using r) l;simp only[Nat.add_zero]at a;obtain⟨m,rfl⟩:∃m,n=m+1:=⟨n-1,by omega⟩;simp[Builtin.clear_,run_underlying f,h,a]
theorem qu1 (n:Nat):∀u∈(Builtin.zeroCells (Value.agg YA).cells n).toList,u.oneCell'=true:=by
 intro u a;simp only[Builtin.zeroCells,Array.toList_map,jcz]at a;obtain⟨i,_,rfl⟩:=a;have b:(Value.agg YA).cells=YA:=rfl;rw[b];have hi:i%6<6:=Nat.mod_lt _ (by decide);have e:(#[Value.int .i64 0,U 0,U 0,U 0,.string ⟨#[]⟩,.bool false]:Array Value).size=6:=rfl;rw[e]
 generalize i%6=m at hi
 match m,hi with
 |0,_=>rfl
 |1,_=>rfl
 |2,_=>rfl
 |3,_=>rfl
 |4,_=>rfl
 |5,_=>rfl
theorem qq8:∀(M:List Ver) (i:Nat) (v:Ver),ja (M.set i v)=((((((ja M).set (i*6) (U v.wall)).set (i*6+1) (U v.count)).set (i*6+2) (U v.site)).set (i*6+3) (U v.seq)).set (i*6+4) (.string v.data)).set (i*6+5) (.bool v.gone)
 |[],i,v=>by simp[ja]
 |x::M,0,v=>by simp[ja,qh]
 |x::M,i+1,v=>by
  have e:∀r,(i+1)*6+r=(qh x).length+(i*6+r):=λr=>by rw[qaw];omega
  have a:(i+1)*6=(qh x).length+i*6:=by rw[qaw];omega
  rw[List.set_cons_succ,qcv,qcv,e 1,e 2,e 3,e 4,e 5,a,qq8 M i v];simp only[List.set_append_right _ _ (Nat.le_add_right _ _),Nat.add_sub_cancel_left]
abbrev qxj (w:World) (g o:Nat) (x:Ver):World:=(((((w.setCell (AD g o) (U x.wall)).setCell (AD g (o+1)) (U x.count)).setCell (AD g (o+2)) (U x.site)).setCell (AD g (o+3)) (U x.seq)).setCell (AD g (o+4)) (.string x.data)).setCell (AD g (o+5)) (.bool x.gone)
variable {w:World} {g n i:Nat} {M:List Ver}
theorem qii {cap:Nat} {T:TypeId} (h:w.ownsRow 0 T 6 (.slice (PT g) n cap) n (ja M)) (v:Ver):(qxj w g (i*6) v).ownsRow 0 T 6 (.slice (PT g) n cap) n (ja (M.set i v))/\yu g w (qxj w g (i*6) v):=by
 have s0:=h.stored (i*6) (U v.wall);have s1:=s0.1.stored (i*6+1) (U v.count);have s2:=s1.1.stored (i*6+2) (U v.site);have s3:=s2.1.stored (i*6+3) (U v.seq);have a:=s3.1.stored (i*6+4) (.string v.data);have b:=a.1.stored (i*6+5) (.bool v.gone);refine⟨by rw[qq8];exact b.1,?_⟩;exact(((((show yu g _ _ from s0.2).trans s1.2 (.inl rfl)).trans s2.2 (.inl rfl)).trans s3.2 (.inl rfl)).trans a.2 (.inl rfl)).trans b.2 (.inl rfl)
def qoa (w:World) (sv:Value) (L':List Ver) (v':Value) (w':World):Prop:=
 w'.ownsRow 0 130 6 v' L'.length (ja L')/\w.grownBy w' sv.ownBlock/\v'.ownBlock=sv.ownBlock
structure qev (w:World) (g n cap:Nat) (L:List Ver) (p:Ver->Bool) (i k:Nat) (M:List Ver):Prop where
 own:w.ownsRow 0 130 6 (.slice (PT g) n cap) n (ja M)
 len:M.length=n
 head:M.take i=(L.take k).filter p
 tail:M.drop k=L.drop k
 lt:i<k
variable {L:List Ver} {p:Ver->Bool} {k:Nat}
theorem qev.at {cap:Nat} (h:qev w g n cap L p i k M):jx M k=jx L k:=by
 have e:=congrArg List.head? h.tail;rw[List.head?_drop,List.head?_drop]at e;simp only[jx,List.getD,e]
theorem qot (a:k<L.length):L.take (k+1)=L.take k++[jx L k]:=by
 rw[jc1 a,qem a]
theorem qxo (b:k<=L.length) (h:∀j,j<k->p (jx L j)=true):(L.take k).filter p=L.take k:=by
 rw[List.filter_eq_self];intro v a;obtain⟨i,hi,rfl⟩:=jdm.1 a;rw[jc5]at hi;have:=h i (by omega);rw[qem (by omega)]at this;rw[List.getElem_take];exact this
theorem qev.later {w':World} {cap:Nat} (h:qev w g n cap L p i k M) (a:Bw w w'):qev w' g n cap L p i k M:=⟨qgp h.own a,h.len,h.head,h.tail,h.lt⟩
theorem qev.skip {cap:Nat} (h:qev w g n cap L p i k M) (a:k<L.length) (b:p (jx L k)=false):qev w g n cap L p i (k+1) M:=by
 refine⟨h.own,h.len,?_,?_,Nat.lt_succ_of_lt h.lt⟩
 ·rw[qot a,jdk,h.head];simp[b]
 rw[<-List.drop_drop,h.tail,List.drop_drop]
theorem qev.keep {cap:Nat} (h:qev w g n cap L p i k M) (c:L.length=n) (a:k<L.length) (b:p (jx L k)=true):qev (qxj w g (i*6) (jx L k)) g n cap L p (i+1) (k+1) (M.set i (jx L k)):=by
 have hi:i<M.length:=by have:=h.lt;have:=h.len;omega
 refine⟨(qii h.own (jx L k)).1,by rw[List.length_set];exact h.len,?_,?_,Nat.succ_lt_succ h.lt⟩
 ·rw[qot a,jdk,<-h.head,jc1 (by simpa using hi),List.getElem_set_self,List.take_set_of_le (jcd _)];simp[b]
 rw[List.drop_set_of_lt (by have:=h.lt;omega),<-List.drop_drop,h.tail,List.drop_drop]
theorem qyk {sv:Value} {a0 a1 a2 a3:Int} {H:Ver} {A S:Nat} (w:World) (X:w.ownsRow 0 130 6 sv L.length (ja L)) (hok:∀v∈L,0<=v.site/\v.site<=3) (hl:L.length<=1000) (z:qd w A [U a0,U a1,U a2,U a3]) (RS:qd w S (qh H)) (hA:sv.ownBlock≠some A) (hS:sv.ownBlock≠some S):
 Ca 261 #[sv,.func (.func 262) #[] #[PP A,PP S]] w λe w'=>
  ∃v',e=.returned v'/\qoa w sv (L.filter λv=>!qhu a0 a1 a2 a3 H v) v' w':=by
 obtain⟨a,cap,rfl,I⟩:=qfo X;have hix:=q2b w I hok hl z RS;have HOK:=hd1 hok;obtain⟨P,hP⟩:∃P:Ver->Bool,P=λv=>!qhu a0 a1 a2 a3 H v:=⟨_,rfl⟩;have J:=hd1 hP;rw[<-hP];clear hok hP;go_enter Tryz.func261,Tryz.ntmps261
 go_wp2_with fail
 refine hix.mono ?_;rintro e w1 ⟨r,rfl,hI,d⟩;rcases hI with ⟨rfl,hall⟩|⟨k,F,rfl,C,hnt⟩
 ·have FE:Hid (L.filter P=L):=by
   show L.filter P=L;rw[List.filter_eq_self,J.out];intro v hv;simp[hall v hv]
  have own1:=qgp X d;clear hall
  go_wp2_with fail
  go_ret;rw[FE.out];exact⟨_,rfl,own1,⟨d.os,d.tape,d.output,d.size,λk F _=>d.block k F⟩,rfl⟩
 obtain⟨g,hgl,rfl,hcc⟩:∃b,b<w.heap.size/\a=some (AD b 0)/\∀i r u,i<L.length->(qh (jx L i))[r]?=some u->w.cell? (AD b (i*6+r))=some u:=by
  rcases I.held with h0|h0
  ·rw[h0]at F;simp at F
  exact h0
 obtain⟨n,Z⟩:∃n,L.length=n:=⟨_,rfl⟩;have hc1:=I.len;have hc2:=I.cap
 have D0:qev w1 g n cap L P k (k+1) L:=by
  rw[<-Z];refine⟨qgp X d,rfl,?_,rfl,Nat.lt_succ_self _⟩;rw[qot F,jdk,qxo (by omega) (λj hj=>by rw[J.out];simp[hnt j hj]),J.out];simp[C]
 have hgA:A≠g:=λe=>hA (by rw[e];rfl);have hgS:S≠g:=λe=>hS (by rw[e];rfl);have K:=hd1 Z;rw[Z]at hl hc1 F ⊢;have ne1:((k:Int)== -1)=false:=beq_eq_false_iff_ne.2 (by omega);have D:=z.later d;have E:=RS.later d;have N:yu g w w1:=yu.ofBelow d;clear hcc I X hnt C Z hix z RS d hA hS
 go_wp2_with fail
 go_loopw [5,6] (λs5 s6 wr=>∃(i j:Nat) (f s:Int) (M:List Ver),j<=n/\f=i/\s=j/\s5=U f/\s6=U s/\Hid (qev wr g n cap L P i j M)/\qd wr A [U a0,U a1,U a2,U a3]/\qd wr S (qh H)/\yu g w wr) (λ_ j _=>n-(intOf j).toNat)
 case atStart=>exact⟨k,k+1,k,(k:Int)+1,L,by omega,rfl,by omega,rfl,by go_num,D0,D,E,N⟩
 clear D0 D E N;obtain⟨i,j,f,s,M,hj,hzi,hzj,rfl,rfl,DD,z,RS,O⟩:=hrel;have m:=DD.out;have hij:=m.lt
 have hil:i<n:=by omega
 have HZ:=hd2 hzi hzj;by_cases hlt:j<n
 ·have h1:s<(n:Int):=by omega
  have h2:s.toNat=j:=by omega
  have h3:0<=s:=by omega
  have h4:f<(n:Int):=by omega
  have h5:f.toNat=i:=by omega
  have h6:0<=f:=by omega
  clear hzi hzj;obtain⟨y,hy⟩:∃y,jx L j=y:=⟨_,rfl⟩;have hsy:=HOK.out _ (qkm (l:=L) (i:=j) (by rw[K.out];exact hlt));rw[hy]at hsy;have hMy:=m.at.trans hy;have q:=λr u (h:(qh (jx M j))[r]?=some u)=>(m.own.cells (g:=g) rfl _ u (ql4 M j r u (by rw[m.len];exact hlt) h));have x:=λr u (h:(qh y)[r]?=some u)=>(by have:=q r u (by rw[hMy];exact h);rwa [qal]at this:wr.cell? (AD g (j*6+r))=some u);have x0:wr.cell? (AD g (j*6))=some (U y.wall):=x 0 _ rfl;have x1:=x 1 _ rfl;have x2:=x 2 _ rfl;have x3:=x 3 _ rfl;have x4:=x 4 _ rfl;have x5:=x 5 _ rfl;have Y:=hd1 hy;have HS:=hd1 hsy;have hbx:=boxed (jcc _ wr) (.cells #[U y.wall,U y.count,U y.site,U y.seq,.string y.data,.bool y.gone] 130);have RX:=qd.new (w:=wr) (T:=130) (qh y) rfl;change qd (wr.nu #[U y.wall,U y.count,U y.site,U y.seq,.string y.data,.bool y.gone] 130) wr.heap.size (qh y)at RX;have D:=z.later hbx;have E:=RS.later hbx;have DR1:=m.later hbx;have N:=O.trans (yu.ofBelow (g:=g) hbx) (.inl rfl)
  have hgw:g<wr.heap.size:=by have:=O.size;omega
  clear hy hsy hMy q x m DD z RS O;have D1:=hd1 DR1;clear DR1;cases C:qhu a0 a1 a2 a3 H y
  ·have Q:=hd1 C;clear C
   go_wp2_with fail
   refine(qsy Q.out HS.out.1 HS.out.2 _ D E).mono ?_;rintro e w2 ⟨rfl,c⟩;have o:=D1.out.later c;have RA2:=D.later c;have RS2:=E.later c;have RX2:=RX.later c;have O2:=N.trans (yu.ofBelow (g:=g) c) (.inl rfl);obtain⟨old,hold⟩:∃old,jx M i=old:=⟨_,rfl⟩
   have q:=λr u (h:(qh old)[r]?=some u)=>(by
        have:=(o.own.cells (g:=g) rfl _ u (ql4 M i r u (by rw[o.len];exact hil) (by rw[hold];exact h)))
        rwa [qal]at this:w2.cell? (AD g (i*6+r))=some u)
   have z0:w2.cell? (AD g (i*6))=some (U old.wall):=q 0 _ rfl;have z1:=q 1 _ rfl;have z2:=q 2 _ rfl;have z3:=q 3 _ rfl;have z4:=q 4 _ rfl;have z5:=q 5 _ rfl;have fz:=λt=>o.own.frozenAt t;obtain⟨y0,y1,y2,y3,y4,y5⟩:=RX2.c6;have DK:=o.keep K.out (by rw[K.out];exact hlt) (by rw[Y.out,J.out];simp[Q.out]);rw[Y.out]at DK;have O3:=O2.trans (qii (i:=i) o.own y).2 (.inl rfl);have RA3:=RA2.only (qii (i:=i) o.own y).2 hgA;have RS3:=RS2.only (qii (i:=i) o.own y).2 hgS;have DK':=hd1 DK;clear q hold o RA2 RS2 O2 DK RX2 c
   go_wp2_with fail
   go_roundw
   case rel=>exact⟨i+1,j+1,f+1,s+1,M.set i y,by omega,by have:=HZ.out;omega,by have:=HZ.out;omega,by go_num,by go_num,DK',RA3,RS3,O3⟩
   simp[intOf];omega
  have Q:=hd1 C;clear C
  go_wp2_with fail
  refine(qsy Q.out HS.out.1 HS.out.2 _ D E).mono ?_;rintro e w2 ⟨rfl,c⟩;have o:=hd1 ((D1.out.later c).skip (by rw[K.out];exact hlt) (by rw[Y.out,J.out];simp[Q.out]));have RA2:=D.later c;have RS2:=E.later c;have O2:=N.trans (yu.ofBelow (g:=g) c) (.inl rfl);clear c
  go_wp2_with fail
  go_roundw
  case rel=>exact⟨i,j+1,f,s+1,M,by omega,by have:=HZ.out;omega,by have:=HZ.out;omega,rfl,by go_num,o,RA2,RS2,O2⟩
  simp[intOf];omega
 have hjn:j=n:=by omega
 have h1:¬s<(n:Int):=by omega
 have h5:f.toNat=i:=by omega
 have h6:0<=f:=by omega
 have h7:f<=(n:Int):=by omega
 have h8:¬(cap=i):=by omega
 obtain⟨g1,cap1,cur,h',hB,hg,hnc,hcm,hcs,htake⟩:=m.own.2.resolve_left (λh=>by simp at h);simp only[Value.slice.injEq,Option.some.injEq,Addr.mk.injEq,and_true,true_and]at h';obtain⟨rfl,rfl⟩:=h';have hz6:(Value.agg YA).cells.size=6:=rfl;obtain⟨G,hZS⟩:∃G,G=Builtin.zeroCells (Value.agg YA).cells (n-i):=⟨_,rfl⟩
 have hZl:G.size=(n-i)*6:=by rw[hZS,size_zeroCells,hz6]
 have hcl:∀ty,(Builtin.clear_ #[215] ty #[.slice (some (AD g (i*6))) (n-i) (cap-i)]).run Tryz.prog wr=.ok (.tuple #[]) (wr.setCells g (i*6) G.toList):=λty=>by
  rw[hZS];refine qng wr _ 130 ty _ Tryz.underlying215 Tryz.zeroValue130 g (i*6) (n-i) (cap-i) (by omega) (qu1 _) (λt R=>?_) (λt R=>frozen_of_row wr g _ cur _ hg);rw[size_zeroCells,hz6]at R;rw[cell_of_row wr g _ cur _ (0,0) hg,jde (by omega)];rfl
 obtain⟨V,W⟩:∃V,V=wr.setCells g (i*6) G.toList:=⟨_,rfl⟩
 have hLF:L.filter P=M.take i:=by
  rw[m.head,List.take_of_length_le (by rw[K.out];omega)]
 have hLl:(M.take i).length=i:=by rw[jc5,m.len];omega
 have OUT:Hid (qoa w (.slice (PT g) n cap) (L.filter P) (.slice (PT g) i cap) V):=by
  obtain⟨c1,q1,x⟩:=qat g G.toList (i*6) wr hg;rw[<-W]at q1
  have OK:=qfz (w:=V) (B:=0) (n:=i) (cap:=cap) (k:=6) (xs:=ja (M.take i)) (jcw _) q1 hcm (by omega) (by omega) (by rw[qbe,hLl]) (λt u hu=>by
   have R:t<i*6:=by have:=(jck.1 hu).1;rwa [qbe,hLl]at this
   rw[W,World.cell?_setCells_out g _ _ _ _ (λ_ _=>.inl R)];have:=m.own.cells (g:=g) rfl t u (by rw[<-qin,List.getElem?_take,if_pos R]at hu;exact hu)
   rwa [qal]at this)
  rw[hLF];refine⟨by rw[hLl];exact OK,?_,rfl⟩
  have o2:yu g wr V:=by rw[W];exact zg _ _ _ _
  exact O.trans o2 (.inl rfl)
 rw[<-W]at hcl;clear W hZS hZl hz6 hLF hLl hB hg hnc hcm hcs htake m DD O z RS hzi hzj
 go_wp2_with fail
 go_ret;exact⟨_,rfl,OUT.out⟩
end
section
open Go.RowKit
variable {p:Nat} {L:List Ver}
theorem qt4 {g n cap:Nat} (v:Ver) (m:Nat) (w:World) (J:w.ownsRow 0 130 6 (.slice (PT g) n cap) n (ja L)) (K:L.length=n) (hl:n<=1000) (hp:p<n) (hroom:¬n+1<=cap) (M:w.heap[m]?=some (.cells (qh v).toArray 130 (0,0))):
 Ca 286 #[.slice (PT g) n cap,U p,.slice (PT m) 1 1] w λe w'=>
  ∃g' Z,e=.returned (.slice (PT g') (n+1) Z)/\qiy w (.slice (PT g) n cap) (qj0 L p v) g' Z w':=by
 obtain⟨g1,cap1,cur,h',hB,hg,hnc,hcm,hcs,htake⟩:=J.2.resolve_left (λh=>by simp at h);simp only[Value.slice.injEq,Option.some.injEq,Addr.mk.injEq,and_true,true_and]at h';obtain⟨rfl,rfl⟩:=h'
 obtain rfl:cap=n:=by omega
 obtain⟨i0,hi0,hz0,hzs,N⟩:=info_parts q0x
 have O:(ja (L.drop p)).length=(cap-p)*6:=by rw[qbe,jdt,K]
 have q:(ja (L.take p)).length=p*6:=by rw[qbe,jc5];omega
 have P:=λj u b=>by have:=J.cells (g:=g) rfl j u b;rwa [qal]at this
 have hnews:∀j u,(qh v)[j]?=some u->w.cell? (AD m j)=some u:=λj u b=>by
  rw[cell_of_row w m j _ 130 (0,0) M];simpa using b
 have h1:=λu b=>qgd [v] u (by rw[qh0];exact b);have hbw:=(jcs.1 hg).1;have hvw:=(jcs.1 M).1
 have hold:(Builtin.firstCells i0.size p (.slice (PT g) p cap)).run Tryz.prog w.drew=.ok (ja (L.take p)).toArray w.drew:=by
  rw[hzs]
  exact run_firstCells_some w.drew 6 p (AD g 0) p cap (ja (L.take p)) q (λj u a=>by
   rw[qal];rw[<-qin,List.getElem?_take]at a;split at a
   ·exact P j u a
   cases a)
 obtain⟨G,D⟩:∃G,G=grownCap w (cap+1) cap 130:=⟨_,rfl⟩
 have hGn:cap+1<=G:=by rw[D];exact grownCap_ge w _ _ _
 have Q:G<=maxLen:=by rw[D];exact grownCap_le_maxLen w (cap+1) cap _ (by unfold maxLen;omega)
 obtain⟨d,E⟩:∃d:Array Value,d=(ja (L.take p)).toArray++Builtin.zeroCells (Value.agg YA).cells (cap+1-p)++Builtin.zeroCells (Value.agg YA).cells (G-(cap+1)):=⟨_,rfl⟩;have hz6:(Value.agg YA).cells.size=6:=rfl
 have hRs:d.size=G*6:=by
  rw[E];simp only[Array.size_append,List.size_toArray,size_zeroCells,hz6,q];omega
 have hRA:∀j u,(ja (L.take p))[j]?=some u->d[j]?=some u:=λj u b=>by
  have a:=(jck.1 b).1;rw[E,Array.append_assoc,Array.getElem?_append_left (by simpa using a)];simpa using b
 have hkk:(cap:Int)+1-(p:Int)=((cap+1-p:Nat):Int):=by omega
 have R:p+(cap+1-p)=cap+1:=by omega
 have hrz:∀c,(Builtin.append_ #[215,3] c #[.slice (PT g) p cap,U ((cap:Int)+1-(p:Int))]).run Tryz.prog w=
  .ok (.slice (PT w.heap.size) (cap+1) G) (w.drew.alloc (.cells d 130)):=λc=>by
  have h:=Lib.run_append_grow_zeros w 215 3 c 130 i0 _ .i64 .i64 Tryz.underlying215 Tryz.underlying3 hi0 hz0 (PT g) p cap (ja (L.take p)) hold (cap+1-p) (by omega) (by omega) (by omega) (by omega) (by rw[N];omega) (by rw[N,R];exact growslice_fits (by omega) (by omega));rw[R,<-D,<-E]at h;rw[hkk];exact h
 obtain⟨W1,F⟩:∃W1,W1=w.drew.alloc (.cells d 130):=⟨_,rfl⟩
 have r:W1.heap[w.heap.size]?=some (.cells d 130 (0,0)):=by rw[F];exact heap_alloc_new w.drew _
 have s:∀j,j<G*6->(W1.cell? (AD w.heap.size j)).isSome=true:=λj a=>by
  rw[cell_of_row W1 w.heap.size j d _ (0,0) r,jde (by omega)];rfl
 have hNA:∀j u,(ja (L.take p))[j]?=some u->W1.cell? (AD w.heap.size j)=some u:=λj u b=>by
  rw[cell_of_row W1 w.heap.size j d _ (0,0) r];exact hRA j u b
 have S:=λj=>frozen_of_row W1 w.heap.size j d _ r
 have H:Bw w W1:=by rw[F];exact boxed (jcc _ w).drew _
 have hcpA:∀(W:World),(∀x,W.cell? x=W1.cell? x)->(∀x,W.frozen? x=W1.frozen? x)->∀c f,(Builtin.copy_ #[215,215] c #[.slice (some (AD w.heap.size (p*6))) (cap+1-p) f,.slice (PT m) 1 1]).run Tryz.prog W=.ok (goInt 1) (W.setCells w.heap.size (p*6) (qh v)):=λW y V c f=>
  qiq W _ _ c 130 6 w.heap.size (p*6) (cap+1-p) f (AD m 0) 1 1 1 (qh v) Tryz.underlying215 qn8 (by simp only[Nat.min_def];split<;>omega) rfl
   (λj u a=>by
        rw[qal,y]
        exact cell_later H (hnews j u a))
   (λj a=>by rw[y];exact s _ (by simp[qh]at a;omega))
   (λj a=>by rw[V];exact S _) h1
 have hcpB:∀(W:World),(∀x,W.cell? x=(W1.setCells w.heap.size (p*6) (qh v)).cell? x)->(∀x,W.frozen? x=(W1.setCells w.heap.size (p*6) (qh v)).frozen? x)->∀c f Y,(Builtin.copy_ #[215,215] c #[.slice (some (AD w.heap.size ((p+1)*6))) (cap-p) f,.slice (some (AD g (p*6))) (cap-p) Y]).run Tryz.prog W=.ok (goInt (cap-p:Nat)) (W.setCells w.heap.size ((p+1)*6) (ja (L.drop p))):=λW y V c f Y=>
  qiq W _ _ c 130 6 w.heap.size ((p+1)*6) (cap-p) f (AD g (p*6)) (cap-p) Y (cap-p) (ja (L.drop p)) Tryz.underlying215 qn8 (by simp) O
   (λj u a=>by
        rw[Addr.add_lit,y,World.cell?_setCells_out _ _ _ _ _ (λh _=>absurd h (by show g≠w.heap.size;omega))]
        exact cell_later H (P (p*6+j) u (by rw[<-qlc,List.getElem?_drop]at a;exact a)))
   (λj a=>by
        rw[y]
        exact qio w.heap.size (qh v) (p*6) W1 (λt ht=>s (p*6+t) (by simp[qh]at ht;omega)) ((p+1)*6+j) (s ((p+1)*6+j) (by omega)))
   (λj a=>by rw[V,World.frozen?_setCells];exact S _) (qgd _)
 obtain⟨i,l⟩:∃i,i=W1.setCells w.heap.size (p*6) (qh v):=⟨_,rfl⟩;obtain⟨I,z⟩:∃I,I=i.drew.setCells w.heap.size ((p+1)*6) (ja (L.drop p)):=⟨_,rfl⟩
 have OUT:Hid (qiy w (.slice (PT g) cap cap) (qj0 L p v) w.heap.size G I):=by
  obtain⟨c1,q1,q2⟩:=qat w.heap.size (qh v) (p*6) W1 r;rw[<-l]at q1;obtain⟨c2,q3,q4⟩:=qat w.heap.size (ja (L.drop p)) ((p+1)*6) i.drew (cur:=c1) (T:=130) q1;rw[<-z]at q3;refine⟨qfz (jcw _) q3 Q (by omega) (by rw[qg1 v (by omega)];omega) (qbe _) ?_,?_,.inr (jcd _)⟩
  ·rw[qrc];have:=qlp (w:=W1) (g:=w.heap.size) (ja (L.take p)) (qh v) (ja (L.drop p)) hNA (λj a=>s j (by rw[q,O,qaw]at a;omega));rw[q,qaw,show p*6+6=(p+1)*6 by omega,<-l]at this;intro j u b;rw[z];have e:=this j u b;rw[<-e]
   have hh:∀(B:List Value) (o:Nat) (X:World),(X.drew.setCells w.heap.size o B).heap=(X.setCells w.heap.size o B).heap:=by
        intro B
        induction B with
        |nil=>intro o X;rfl
        |cons u B ih=>intro o X;exact ih (o+1) (X.setCell (AD w.heap.size o) u)
   unfold World.cell?;rw[hh]
  have o1:yu w.heap.size W1 i:=by rw[l];exact zg _ _ _ _
  have o2:yu w.heap.size i I:=by rw[z];exact(yu.ofBelow (jcc _ _).drew).trans (zg _ _ _ _) (.inl rfl)
  have C:=(yu.ofBelow (g:=w.heap.size) H).trans (o1.trans o2 (.inl rfl)) (.inl rfl);exact⟨C.os,C.tape,C.output,C.size,λk hk _=>C.block k hk (λe=>by injection e;omega)⟩
 have hA3:=hcpA W1 (λ_=>rfl) (λ_=>rfl);have hB3:=hcpB i.drew (λx=>by rw[<-l];rfl) (λx=>by rw[<-l];rfl);rw[<-l]at hA3;rw[<-z]at hB3;rw[<-F]at hrz
 have hw1:IntKind.i64.wrap ((p:Int)+1)=(p:Int)+1:=by rw[IntKind.wrap_i64];omega
 have hw2:(0:Int)<=(p:Int)+1:=by omega
 have hin:p<=cap:=by omega
 have htn:((p:Int)+1).toNat=p+1:=by omega
 have hG63:G<=9223372036854775807:=by simp only[maxLen]at Q;omega
 have hG1:¬(G=p+1):=by omega
 have hG2:¬(G=p):=by omega
 have hc1:¬(cap=p):=by omega
 have hb3:(p:Int)<=(cap:Int)+1:=by omega
 have hb5:(p:Int)<=(cap:Int):=by omega
 have hz2:¬((p:Int)=(cap:Int)):=by omega
 have hz3:(cap:Int)<(cap:Int)+1:=by omega
 have EL:=hd1 K;clear O q P hnews h1 htake J hcs hB hg M K hold E D hRs hRA hz6 F l z r s hNA S hcpA hcpB hkk R hi0 hz0 hzs N H hnc hcm Q;go_enter Tryz.func286,Tryz.ntmps286
 go_wp2_with (first
  |(at_builtin;refine Lib.wpList_append_run _ rfl _ _ _ _ rfl _ _ rfl rfl _ _ (hrz _) ?_)
  |(at_builtin;refine qi7 _ rfl _ _ 215 215 rfl _ _ rfl rfl (hA3 _ _) ?_))
 go_region_law (refine qky rfl _ _ 215 215 rfl _ _ (by simp[Act.eval,Act.put]) (by simp[Act.eval,Act.put]) (hB3 _ _ _) ?_)
 go_wp2_with fail
 go_ret;exact⟨w.heap.size,G,rfl,OUT.out⟩
theorem q6j (L:List Ver) (v:Ver):qj0 L L.length v=L++[v]:=by simp[qj0]
theorem qzr {sv:Value} (v:Ver) (a:Nat) (w:World) (b:w.ownsRow 0 130 6 sv L.length (ja L)) (j:p<=L.length) (c:L.length<=1000) (d:w.heap[a]?=some (.cells (qh v).toArray 130 (0,0))) (i:sv.ownBlock≠some a):
 Ca 286 #[sv,U p,.slice (PT a) 1 1] w λe w'=>
  ∃g cap,e=.returned (.slice (PT g) (L.length+1) cap)/\qiy w sv (qj0 L p v) g cap w':=by
 rcases jc7 p L.length with h|h
 ·rcases b.2 with ⟨_,k⟩|⟨g,cap,cur,rfl,_⟩
  ·omega
  by_cases f:L.length+1<=cap
  ·exact qtg v a w b rfl c h f d (λe=>i (by rw[e];rfl))
  exact qt4 v a w b rfl c h f d
 obtain rfl:p=L.length:=by omega
 rw[q6j];exact qyq v a w b c d
end
section
open Go.RowKit
def qd3 (l:List Hd) (k:Nat):List Ver:=(l.filter λh=>decide (h.key=(k:Int))).map (·.v)
variable {l:List Hd} {k:Nat}
theorem q4c {v:Ver}:v∈qd3 l k↔(⟨k,v⟩:Hd)∈l:=by
 unfold qd3;rw[jcz]
 constructor
 ·rintro ⟨⟨key,u⟩,h,rfl⟩;have:=jdq.1 h;have e:key=(k:Int):=of_decide_eq_true this.2;subst e;exact this.1
 intro h;exact⟨⟨k,v⟩,jdq.2 ⟨h,by simp⟩,rfl⟩
theorem qna (a b:List Hd) (k:Nat):qd3 (a++b) k=qd3 a k++qd3 b k:=by simp[qd3]
theorem qrg (k:Nat) (v:Ver):qd3 [⟨k,v⟩] k=[v]:=by simp[qd3]
theorem qoe {key:Int} (v:Ver) (h:key≠(k:Int)):qd3 [⟨key,v⟩] k=[]:=by simp[qd3,h]
theorem qnc:∀(l:List Hd),(∀h∈l,inB h.key 0 7=true)->(qd3 l 0).length+(qd3 l 1).length+(qd3 l 2).length+(qd3 l 3).length+(qd3 l 4).length+(qd3 l 5).length+(qd3 l 6).length+(qd3 l 7).length=l.length
 |[],_=>rfl
 |⟨key,v⟩::l,h=>by
  have d:=qnc l (λx b=>h x (jdc _ b));have c:=jk.1 (h ⟨key,v⟩ (List.mem_cons_self ..));simp only at c;have e:∀k,qd3 (⟨key,v⟩::l) k=qd3 [⟨key,v⟩] k++qd3 l k:=λk=>qna [⟨key,v⟩] l k
  have s:∀k:Nat,(qd3 [⟨key,v⟩] k).length=if key=(k:Int)then 1 else 0:=λk=>by
   by_cases a:key=(k:Int)
   ·rw[if_pos a,a,qrg];rfl
   rw[if_neg a,qoe v a];rfl
  simp only[e,jcl,s,List.length_cons]
  have:key=0\/key=1\/key=2\/key=3\/key=4\/key=5\/key=6\/key=7:=by omega
  rcases this with rfl|rfl|rfl|rfl|rfl|rfl|rfl|rfl<;>simp<;>omega
theorem qqr {a b:Ver} (h:qw a b=true):qw b a=false:=by
 cases hq:qw b a
 ·rfl
 rw[qar]at h hq;omega
variable {L:List Ver} {t:Ver} {p:Nat}
theorem qrf (f:qbr L) (e:qu8 L t p):qfa L t p=true↔∃y∈L,qs8 y t:=by
 unfold qfa;rw[jct,decide_eq_true_eq,decide_eq_true_eq,q18]
 constructor
 ·rintro ⟨b,c⟩;exact⟨_,qkm b,c⟩
 rintro ⟨y,g,a⟩;obtain⟨j,d,rfl⟩:=jdm.1 g;rw[<-qem d]at a
 have i:¬qw (jx L j) t=true:=by
  rw[qar];obtain⟨m,n,o⟩:=a;omega
 have q:p<=j:=by
  rcases jc7 j p with h|h
  ·exact absurd (e.2.1 j h) i
  exact h
 rcases jc7 p j with h|h
 ·have b:=f.at h d;have c:=e.2.2 p (jcd _) (by omega)
  have:qw (jx L p) t=true:=by
   rw[qar]at b ⊢;obtain⟨m,n,o⟩:=a;omega
  rw[c]at this;cases this
 obtain rfl:p=j:=by omega
 exact⟨d,a⟩
theorem qzk (e:qbr L) (f:qu8 L t p) (q:qfa L t p=false):qbr (qj0 L p t):=by
 have r:∀y∈L,¬qs8 y t:=λy c s=>by
  have:=(qrf e f).2 ⟨y,c,s⟩;rw[q]at this;cases this
 have j:∀y∈L.take p,qw y t=true:=λy c=>by
  obtain⟨i,hi,rfl⟩:=jdm.1 c;rw[jc5]at hi;rw[List.getElem_take,<-qem (by omega)];exact f.2.1 i (by omega)
 have m:∀y∈L.drop p,qw t y=true:=λy c=>by
  have n:=List.mem_of_mem_drop c;obtain⟨i,hi,rfl⟩:=jdm.1 c;rw[jdt]at hi;rw[List.getElem_drop]at n ⊢;have o:=f.2.2 (p+i) (by omega) (by omega);rw[qem (by omega)]at o;cases hq:qw t L[p+i]
  ·exact absurd (qmd o hq) (r _ n)
  rfl
 unfold qbr qj0 at*;rw[jcy,List.pairwise_append,List.pairwise_append];refine⟨e.sublist (List.take_sublist _ _),⟨List.pairwise_singleton _ _,e.sublist (List.drop_sublist _ _),λa d b g=>?_⟩,λa d b g=>?_⟩
 ·rw[jcj.1 d];exact m b g
 rcases jcf.1 g with h|h
 ·rw[jcj.1 h];exact j a d
 have u:=j a d;have v:=m b h;rw[qar]at u v ⊢;omega
theorem q6o (L:List Ver) (p:Nat) (t:Ver):(L++[t]).Perm (qj0 L p t):=by
 unfold qj0;have e:=(jds p L).symm
 have:(L++[t]).Perm (L.take p++L.drop p++[t]):=by rw[<-e]
 refine this.trans ?_;rw[jcy,jcy];exact List.Perm.append_left _ List.perm_append_comm
variable {a0 a1 a2 a3:Int}
theorem q4l (m:qfk l) (a:qbr L) (b:∀v,v∈L↔(⟨k,v⟩:Hd)∈l):zn k a0 a1 a2 a3 l=qdi a0 a1 a2 a3 L:=by
 cases hb:qdi a0 a1 a2 a3 L with
 |none=>
  unfold qdi at hb;rw[List.find?_eq_none]at hb;cases hl:zn k a0 a1 a2 a3 l with
  |none=>rfl
  |some v=>
   obtain⟨⟨h,n,e,f,c⟩,_⟩:=qlb hl;obtain⟨key,u⟩:=h;simp only at e f;subst e f;exact absurd c (hb u (List.mem_reverse.2 ((b u).2 n)))
 |some v=>
  unfold qdi at hb;obtain⟨c,xs,o,e,q⟩:=List.find?_eq_some_iff_append.1 hb
  have d:L=o.reverse++v::xs.reverse:=by
   have:=congrArg List.reverse e;rw[List.reverse_reverse]at this;rw[this];simp
  rw[q3i m]
  have r:v∈L:=by rw[d];simp
  refine⟨⟨⟨k,v⟩,(b v).1 r,rfl,rfl,c⟩,?_⟩;rintro ⟨key,u⟩ s g i;simp only at g i;subst g;have j:=(b u).2 s;rw[d]at j;unfold qbr at a;rw[d,List.pairwise_append]at a;rcases jcf.1 j with h|h
  ·exact qqr (a.2.2 u h v (by simp))
  rcases jdd.1 h with h|h
  ·rw[h];exact qgb v
  have:=q u (List.mem_reverse.1 h);rw[i]at this;cases this
theorem q6m (a b:Ver):eqV a b=eqV b a:=by
 unfold eqV;rw[Bool.eq_iff_iff];simp only[jct,beq_iff_eq]
 constructor<;>(rintro ⟨⟨⟨⟨⟨c,d⟩,e⟩,f⟩,g⟩,h⟩;exact⟨⟨⟨⟨⟨c.symm,d.symm⟩,e.symm⟩,f.symm⟩,g.symm⟩,h.symm⟩)
theorem q32 (c:(qd3 l k).Perm L) (a:zn k a0 a1 a2 a3 l=qdi a0 a1 a2 a3 L):
 (qd3 (qcr a0 a1 a2 a3 l) k).Perm (L.filter λv=>!qhu a0 a1 a2 a3 ((qdi a0 a1 a2 a3 L).getD jq) v):=by
 have e:qd3 (qcr a0 a1 a2 a3 l) k=(qd3 l k).filter λv=>!qhu a0 a1 a2 a3 ((qdi a0 a1 a2 a3 L).getD jq) v:=by
  unfold qd3 qcr;rw[List.filter_map,List.filter_filter,List.filter_filter]
  congr 1
  apply List.filter_congr
  rintro ⟨key,v⟩ d;by_cases b:key=(k:Int)
  ·subst b;simp only[decide_true,Bool.true_and,Bool.and_true,Function.comp];unfold qfh qhu;rw[a];simp only;cases hb:qdi a0 a1 a2 a3 L with
   |none=>
    rw[hb]at a;have:=qpu a ⟨k,v⟩ d rfl;simp only at this;simp[qga,this]
   |some u=>
    simp only[qga,Option.getD_some,Bool.not_true,Bool.false_or];rw[q6m u v]
    cases qdp a0 a1 a2 a3 v<;>cases eqV v u<;>rfl
  simp[b]
 rw[e];exact c.filter _
theorem qqz (h:qbr L) (p:Ver->Bool):qbr (L.filter p):=List.Pairwise.filter p h
end
section
open Go.RowKit
def jc (n:Int):Value:=if n=0 then .nilIface else .iface 26 (U n)
structure jg (X:Nat->Prop) (w w':World):Prop where
 os:w'.os=w.os
 tape:w'.tape=w.tape
 output:w'.output=w.output
 size:w.heap.size<=w'.heap.size
 block:∀k,X k->w'.heap[k]?=w.heap[k]?
theorem jg.refl (X:Nat->Prop) (w:World):jg X w w:=⟨rfl,rfl,rfl,jcd _,λ_ _=>rfl⟩
variable {X:Nat->Prop}
theorem jg.trans {a b c:World} (h:jg X a b) (k:jg X b c):jg X a c:=⟨k.os.trans h.os,k.tape.trans h.tape,k.output.trans h.output,jcn h.size k.size,λi hi=>(k.block i hi).trans (h.block i hi)⟩
variable {w w':World}
theorem jg.below {B:Nat} (h:jg X w w') (a:∀k,k<B->X k):Below B w w':=⟨h.os,h.tape,h.output,h.size,λk b=>h.block k (a k b)⟩
theorem qd.keeps {b:Nat} {a:List Value} (h:qd w b a) (c:jg X w w') (d:X b):qd w' b a:=h.kept (c.block b d) c.size
variable {l:List Hd} {a0 a1 a2 a3:Int}
theorem qv3 (h:qfk l):qfk (qcr a0 a1 a2 a3 l):=q31 h λ_ a=>(jdq.1 a).1
theorem qqw:(qcr a0 a1 a2 a3 l).length<=l.length:=jdo _ _
end
section
open Go.RowKit
def upd {α:Type} (f:Nat->α) (k:Nat) (x:α):Nat->α:=λi=>if i=k then x else f i
variable {α:Type}
theorem qde (f:Nat->α) (k:Nat) (x:α):upd f k x k=x:=if_pos rfl
variable {k:Nat}
theorem qax (f:Nat->α) {i:Nat} (x:α) (h:i≠k):upd f k x i=f i:=if_neg h
def qfu (b:Nat) (vs:Nat->Value) (k:Nat):Prop:=k=b\/∃i,i<8/\(vs i).ownBlock=some k
theorem q6q (h:k<8):k=0\/k=1\/k=2\/k=3\/k=4\/k=5\/k=6\/k=7:=by omega
theorem qp8 {w w':World} {B n:Nat} {T:TypeId} {v:Value} {xs:List Value} (h:w.ownsRow B T 6 v n xs) (a:∀k,v.ownBlock=some k->w'.heap[k]?=w.heap[k]?):w'.ownsRow B T 6 v n xs:=by
 refine⟨h.1,?_⟩;rcases h.2 with b|⟨g,cap,cur,rfl,c,d,rest⟩
 ·exact .inl b
 exact .inr ⟨g,cap,cur,rfl,c,by rw[a g rfl];exact d,rest⟩
theorem jb6 (a:Nat->Value) (b:k<8) (x:Value):[a 0,a 1,a 2,a 3,a 4,a 5,a 6,a 7].set k x=[upd a k x 0,upd a k x 1,upd a k x 2,upd a k x 3,upd a k x 4,upd a k x 5,upd a k x 6,upd a k x 7]:=by
 rcases q6q b with rfl|rfl|rfl|rfl|rfl|rfl|rfl|rfl<;>rfl
structure qbp (Ls:Nat->List Ver) (l:List Hd):Prop where
 perm:∀k,k<8->(qd3 l k).Perm (Ls k)
 keys:∀h∈l,inB h.key 0 7=true
variable {Ls:Nat->List Ver} {l:List Hd}
theorem qbp.mem (h:qbp Ls l) (a:k<8) (v:Ver):v∈Ls k↔(⟨k,v⟩:Hd)∈l:=by rw[<-q4c,(h.perm k a).mem_iff]
theorem qbp.len (h:qbp Ls l) (a:k<8):(Ls k).length<=l.length:=by
 rw[<-(h.perm k a).length_eq];unfold qd3;rw[jdh];exact jdo _ _
theorem qbp.sites (h:qbp Ls l) (a:∀x∈l,qau x.v=true) (b:k<8):∀v∈Ls k,0<=v.site/\v.site<=3:=λv c=>qk5 (a _ ((h.mem b v).1 c))
theorem qbp.count (h:qbp Ls l):(Ls 0).length+(Ls 1).length+(Ls 2).length+(Ls 3).length+(Ls 4).length+(Ls 5).length+(Ls 6).length+(Ls 7).length=l.length:=by
 have:=qnc l h.keys;rw[(h.perm 0 (by omega)).length_eq,(h.perm 1 (by omega)).length_eq,(h.perm 2 (by omega)).length_eq,(h.perm 3 (by omega)).length_eq,(h.perm 4 (by omega)).length_eq,(h.perm 5 (by omega)).length_eq,(h.perm 6 (by omega)).length_eq,(h.perm 7 (by omega)).length_eq]at this;exact this
theorem qbp.put (h:qbp Ls l) (c:k<8) (v:Ver) (p:Nat):qbp (upd Ls k (qj0 (Ls k) p v)) (l++[⟨k,v⟩]):=by
 refine⟨λi hi=>?_,λx b=>?_⟩
 ·rw[qna];by_cases e:i=k
  ·subst e;rw[qde,qrg];exact((h.perm i hi).append_right [v]).trans (q6o _ _ _)
  rw[qax _ _ e,qoe v (by omega),jdx];exact h.perm i hi
 rcases jcf.1 b with a|a
 ·exact h.keys x a
 rw[jcj.1 a];exact jk.2 (by simp only;omega)
theorem q7e (h:qbp Ls l) (d:k<8) (v:Ver):l.any (qb2 k v)=true↔∃y∈Ls k,qs8 y v:=by
 rw[List.any_eq_true]
 constructor
 ·rintro ⟨⟨key,u⟩,f,e⟩;simp only[qb2,jct,decide_eq_true_eq]at e;obtain⟨⟨rfl,a,b⟩,c⟩:=e;exact⟨u,(h.mem d u).2 f,a,b,c⟩
 rintro ⟨y,g,a,b,c⟩;exact⟨⟨k,y⟩,(h.mem d y).1 g,by simp[qb2,a,b,c]⟩
variable {L:List Ver} {t:Ver} {p:Nat}
theorem q4p {q:Nat} (c:qu8 L t p) (d:qu8 L t q):p=q:=by
 rcases Nat.lt_trichotomy p q with h|h|h
 ·have a:=c.2.2 p (jcd _) (by have:=d.1;omega);have b:=d.2.1 p h;rw[a]at b;cases b
 ·exact h
 have a:=d.2.2 q (jcd _) (by have:=c.1;omega);have b:=c.2.1 q h;rw[a]at b;cases b
theorem qrz:∀{L:List Ver} (t:Ver),qbr L->∃p,qu8 L t p
 |[],_,_=>⟨0,jcd _,λj a=>by omega,λj _ a=>by simp at a⟩
 |x::L,t,hs=>by
  unfold qbr at hs;rw[jdv]at hs;cases hx:qw x t
  ·refine⟨0,jcw _,λj a=>by omega,λj _ a=>?_⟩;cases j with
   |zero=>exact hx
   |succ j=>
    have c:j<L.length:=by simpa using a
    have e:jx (x::L) (j+1)=jx L j:=rfl;rw[e];cases hq:qw (jx L j) t
    ·rfl
    have b:=hs.1 _ (qkm c)
    have:qw x t=true:=by
      rw[qar]at b hq ⊢;omega
    rw[hx]at this;cases this
  obtain⟨p,b,d,f⟩:=qrz t (show qbr L from hs.2);refine⟨p+1,by simpa using b,λj a=>?_,λj a g=>?_⟩
  ·cases j with
   |zero=>exact hx
   |succ j=>exact d j (by omega)
  cases j with
  |zero=>omega
  |succ j=>exact f j (by omega) (by simpa using g)
theorem q01 {a:Option Addr} {cap:Nat} (b:qu8 L t p) (w:World) (c:qs5 w a cap L) (d:qbr L) (f:L.length<=1000):
 Ca 284 #[.slice a L.length cap,.agg #[U t.wall,U t.count,U t.site,U t.seq,.string t.data,.bool t.gone],.func (.func 285) #[] #[]] w λe w'=>
  e=.returned (.tuple #[U p,.bool (qfa L t p)])/\Bw w w':=
 (qyn t w c d f).mono λe w' ⟨q,g,h,i⟩=>by
  obtain rfl:=q4p b h;exact⟨g,i⟩
end
section
open Go.RowKit
structure qi4 (w:World) (b o:Nat) (vs:List Value):Prop where
 cell:∀j v,vs[j]?=some v->w.cell? (AD b (o+j))=some v
 free:∀j,j<vs.length->w.frozen? (AD b (o+j))=false
 lt:b<w.heap.size
variable {w w':World} {b o:Nat} {vs:List Value}
theorem qi4.kept (h:qi4 w b o vs) (e:w'.heap[b]?=w.heap[b]?) (a:w.heap.size<=w'.heap.size):qi4 w' b o vs:=
 ⟨λj v c=>by rw[jch (w:=w) e];exact h.cell j v c,λj d=>by rw[jcp (w:=w) e];exact h.free j d,jci h.lt a⟩
theorem qi4.grown {r:Option Nat} (h:qi4 w b o vs) (a:w.grownBy w' r) (c:some b≠r):qi4 w' b o vs:=h.kept (a.block b h.lt c) a.size
theorem qi4.boxed (h:qi4 w b o vs) (x:Obj):qi4 (w.alloc x) b o vs:=h.kept (jdg _ _ _ h.lt) (by simp)
theorem qi4.drew (h:qi4 w b o vs):qi4 w.drew b o vs:=h.kept rfl (jcd _)
theorem qi4.set (h:qi4 w b o vs) (k:Nat) (u:Value) (d:k<vs.length):qi4 (w.setCell (AD b (o+k)) u) b o (vs.set k u):=by
 refine⟨λj v a=>?_,λj c=>by rw[jcm];exact h.free j (by simpa using c),by simpa[World.setCell]using h.lt⟩;by_cases c:k=j
 ·subst c;rw[List.getElem?_set_self d]at a;injection a with a;subst a;exact jc8 _ _ _ (h.cell k vs[k] (jcg d))
 rw[List.getElem?_set_ne c]at a;rw[jco _ _ _ _ (by intro e;injection e with _ e _;omega)];exact h.cell j v a
def qfy (b so:Nat) (w w':World):Prop:=∀j,(j<so\/so+8<=j)->w'.cell? (AD b j)=w.cell? (AD b j)/\w'.frozen? (AD b j)=w.frozen? (AD b j)
variable {so:Nat}
theorem qfy.ofBlock (e:w'.heap[b]?=w.heap[b]?):qfy b so w w':=λ_ _=>⟨jch (w:=w) e,jcp (w:=w) e⟩
theorem qfy.trans {x y z:World} (h:qfy b so x y) (k:qfy b so y z):qfy b so x z:=λj a=>⟨(k j a).1.trans (h j a).1,(k j a).2.trans (h j a).2⟩
theorem qfy.set (b so k:Nat) (a:k<8) (w:World) (u:Value):qfy b so w (w.setCell (AD b (so+k)) u):=λj c=>⟨jco _ _ _ _ (by intro e;injection e with _ e _;omega),jcm _ _ _ _⟩
structure qi0 (w:World) (b so:Nat) (vs:Nat->Value) (Ls:Nat->List Ver):Prop where
 box:qi4 w b so [vs 0,vs 1,vs 2,vs 3,vs 4,vs 5,vs 6,vs 7]
 own:∀k,k<8->w.ownsRow 0 130 6 (vs k) (Ls k).length (ja (Ls k))
 sorted:∀k,k<8->qbr (Ls k)
 apart:∀k,k<8->(vs k).ownBlock≠some b
 apart2:∀i j,i<8->j<8->i≠j->∀g,(vs i).ownBlock=some g->(vs j).ownBlock≠some g
variable {Ls:Nat->List Ver} {k:Nat}
theorem qi0.cell {vs:Nat->Value} (h:qi0 w b so vs Ls) (a:k<8):w.cell? (AD b (so+k))=some (vs k):=
 h.box.cell k (vs k) (by rcases q6q a with rfl|rfl|rfl|rfl|rfl|rfl|rfl|rfl<;>rfl)
theorem qi0.free {vs:Nat->Value} (h:qi0 w b so vs Ls) (a:k<8):w.frozen? (AD b (so+k))=false:=h.box.free k (by simpa using a)
theorem qi0.lt {vs:Nat->Value} (h:qi0 w b so vs Ls):∀k,qfu b vs k->k<w.heap.size:=λk a=>by
 rcases a with rfl|⟨i,hi,e⟩
 ·exact h.box.lt
 exact((h.own i hi).lt k e).2
theorem qi0.kept {vs:Nat->Value} (h:qi0 w b so vs Ls) (a:∀k,qfu b vs k->w'.heap[k]?=w.heap[k]?) (d:w.heap.size<=w'.heap.size):qi0 w' b so vs Ls:=
 ⟨h.box.kept (a b (.inl rfl)) d,λk c=>qp8 (h.own k c) (λg e=>a g (.inr ⟨k,c,e⟩)),h.sorted,h.apart,h.apart2⟩
theorem qi0.later {vs:Nat->Value} (h:qi0 w b so vs Ls) (a:Bw w w'):qi0 w' b so vs Ls:=h.kept (λk c=>a.block k (h.lt k c)) a.size
theorem qi0.change {c:World} {vs:Nat->Value} (h:qi0 w b so vs Ls) (l:k<8) {v':Value} {L':List Ver} (d:qc (λj=>(vs k).ownBlock=some j) w c)
 (x:c.ownsRow 0 130 6 v' L'.length (ja L')) (n:∀g,v'.ownBlock=some g->(vs k).ownBlock=some g\/w.heap.size<=g) (y:qbr L'):
 qi0 (c.setCell (AD b (so+k)) v') b so (upd vs k v') (upd Ls k L')/\qc (qfu b vs) w (c.setCell (AD b (so+k)) v')/\(∀j,qfu b (upd vs k v') j->qfu b vs j\/w.heap.size<=j)/\qfy b so w (c.setCell (AD b (so+k)) v'):=by
 have z:=h.box.lt;have r:=d.block b z (h.apart k l)
 have s:v'.ownBlock≠some b:=λe=>by
  rcases n b e with a|a
  ·exact h.apart k l a
  omega
 have A:=h.box.kept r d.size;have t:=qhs b (so+k) c v';refine⟨⟨?_,λi hi=>?_,λi hi=>?_,λi hi=>?_,λi j hi f p g e=>?_⟩,?_,λj f=>?_,?_⟩
 ·rw[<-jb6 vs l];exact A.set k v' (by simpa using l)
 ·by_cases e:i=k
  ·subst e;rw[qde,qde];exact x.kept t (.inr (λe=>s e))
  rw[qax _ _ e,qax _ _ e];refine(qp8 (h.own i hi) (λg u=>d.block g ((h.own i hi).lt g u).2 (h.apart2 i k hi l e g u))).kept t (.inr (h.apart i hi))
 ·by_cases e:i=k
  ·subst e;rw[qde];exact y
  rw[qax _ _ e];exact h.sorted i hi
 ·by_cases e:i=k
  ·subst e;rw[qde];exact s
  rw[qax _ _ e];exact h.apart i hi
 ·by_cases m:i=k
  ·subst m;rw[qde]at e;rw[qax _ _ (Ne.symm p)];rcases n g e with a|a
   ·exact h.apart2 i j hi f p g a
   intro q;have:=((h.own j f).lt g q).2;omega
  rw[qax _ _ m]at e;by_cases v:j=k
  ·subst v;rw[qde];intro q;rcases n g q with a|a
   ·exact h.apart2 i j hi f p g e a
   have:=((h.own i hi).lt g e).2;omega
  rw[qax _ _ v];exact h.apart2 i j hi f p g e
 ·have B:qc (qfu b vs) w c:=⟨d.os,d.tape,d.output,d.size,λj f C=>d.block j f (λe=>C (.inr ⟨k,l,e⟩))⟩;exact B.trans (qc.setCell c (AD b (so+k)) v' (.inl rfl))
 ·rcases f with rfl|⟨i,hi,e⟩
  ·exact .inl (.inl rfl)
  by_cases m:i=k
  ·subst m;rw[qde]at e;rcases n j e with a|a
   ·exact .inl (.inr ⟨i,hi,a⟩)
   exact .inr a
  rw[qax _ _ m]at e;exact .inl (.inr ⟨i,hi,e⟩)
 exact(qfy.ofBlock r).trans (qfy.set b so k l c v')
def qir (w:World) (b so:Nat) (F:Nat->Prop) (l:List Hd):Prop:=∃vs Ls,qi0 w b so vs Ls/\qbp Ls l/\∀k,F k↔qfu b vs k
theorem qbp.qlast {vs:Nat->Value} {l:List Hd} (h:qbp Ls l) (R:qi0 w b so vs Ls) (c:qfk l) (a:k<8) (a0 a1 a2 a3:Int):zn k a0 a1 a2 a3 l=qdi a0 a1 a2 a3 (Ls k):=q4l c (R.sorted k a) (h.mem a)
theorem qi4.c (h:qi4 w b o vs) (j:Nat) {v:Value} (e:vs[j]?=some v:=by rfl):w.cell? ⟨b,o+j,none⟩=some v:=h.cell j v e
theorem qi4.f (h:qi4 w b o vs) (j:Nat) (e:j<vs.length:=by simp):w.frozen? ⟨b,o+j,none⟩=false:=h.free j e
end
section
open Go.RowKit
def qf8 (w:World) (b so:Nat) (F:Nat->Prop) (l':List Hd) (w':World):Prop:=∃F',qir w' b so F' l'/\(∀k,F' k->F k\/w.heap.size<=k)/\qc F w w'/\qfy b so w w'
variable {w w':World} {b so:Nat} {F:Nat->Prop} {l:List Hd}
theorem qir.kept (h:qir w b so F l) (c:∀k,F k->w'.heap[k]?=w.heap[k]?) (d:w.heap.size<=w'.heap.size):qir w' b so F l:=by
 obtain⟨e,f,R,H,a⟩:=h;exact⟨e,f,R.kept (λk g=>c k ((a k).2 g)) d,H,a⟩
theorem qir.lt (h:qir w b so F l):∀k,F k->k<w.heap.size:=by
 obtain⟨d,e,R,H,a⟩:=h;exact λk c=>R.lt k ((a k).1 c)
theorem qf8.same (h:qir w b so F l) (a:Bw w w'):qf8 w b so F l w':=
 ⟨F,h.kept (λk c=>a.block k (h.lt k c)) a.size,λ_ c=>.inl c,qc.ofBelow a,by
   obtain⟨d,e,R,H,f⟩:=h
   exact qfy.ofBlock (a.block b R.box.lt)⟩
theorem qxr {key:Int} (h:inB key 0 7=false) (v:Ver) (w:World) (c:qir w b so F l):
 Ca 272 #[.pointer (some (AD b so)),U key,.agg #[U v.wall,U v.count,U v.site,U v.seq,.string v.data,.bool v.gone]] w λe w'=>e=.returned (jc (qb5 l key v))/\qf8 w b so F (qa4 l key v) w':=by
 have e:qb5 l key v=2:=by unfold qb5;rw[h];rfl
 have a:qa4 l key v=l:=by unfold qa4;rw[e];rfl
 rw[e,a];have H:=hd1 h;clear h e a;go_enter Tryz.func272,Tryz.ntmps272
 go_wp2_with fail
 refine(qj4 H.out _).mono ?_;rintro e d ⟨rfl,rfl⟩
 go_wp2_with fail
 go_ret;exact⟨rfl,qf8.same c (boxed (jcc _ _) _)⟩
theorem q7u {key:Int} (h:inB key 0 7=true) (v:Ver) (a:qau v=false) (w:World) (d:qir w b so F l):
 Ca 272 #[.pointer (some (AD b so)),U key,.agg #[U v.wall,U v.count,U v.site,U v.seq,.string v.data,.bool v.gone]] w λe w'=>e=.returned (jc (qb5 l key v))/\qf8 w b so F (qa4 l key v) w':=by
 have e:qb5 l key v=1:=by unfold qb5;rw[h,a];rfl
 have c:qa4 l key v=l:=by unfold qa4;rw[e];rfl
 rw[e,c];have H:=hd1 h;have f:=hd1 a;clear h a e c;go_enter Tryz.func272,Tryz.ntmps272
 go_wp2_with fail
 refine(qj4 H.out _).mono ?_;rintro e g ⟨rfl,rfl⟩
 go_wp2_with fail
 refine(qqf f.out _).mono ?_;rintro e g ⟨rfl,i⟩
 go_wp2_with fail
 go_ret;exact⟨rfl,qf8.same d (qa (boxed (jcc _ _) _) i)⟩
theorem q77 {key:Int} (h:inB key 0 7=true) (v:Ver) (X:qau v=true) (w:World) (Y:qir w b so F l) (hl:l.length<=1000):
 Ca 272 #[.pointer (some (AD b so)),U key,.agg #[U v.wall,U v.count,U v.site,U v.seq,.string v.data,.bool v.gone]] w λe w'=>e=.returned (jc (qb5 l key v))/\qf8 w b so F (qa4 l key v) w':=by
 have hne:=qb.one;obtain⟨E,d,R,G,Z⟩:=id Y;have hk:=jk.1 h;obtain⟨k,rfl⟩:∃k:Nat,key=(k:Int):=⟨key.toNat,by omega⟩
 have f:k<8:=by omega
 have hkz:(k:Int)<8:=by omega
 obtain⟨p,z⟩:=qrz v (R.sorted k f);have s:=qrf (R.sorted k f) z;rw[<-q7e G f v]at s;obtain⟨a,cap,o,hV⟩:=qfo (R.own k f);have aa:=jcn (G.len f) hl;have m:=qd.new (w:=w) (T:=130) (qh v) rfl;have t:=boxed (jcc _ w) (.cells #[U v.wall,U v.count,U v.site,U v.seq,.string v.data,.bool v.gone] 130);change qd (w.alloc (.cells #[U v.wall,U v.count,U v.site,U v.seq,.string v.data,.bool v.gone] 130)) w.heap.size (qh v)at m;have H:=hd1 h;have I:=hd1 X;clear h X hk;go_enter Tryz.func272,Tryz.ntmps272
 go_wp2_with fail
 refine(qj4 H.out _).mono ?_;rintro e J ⟨rfl,rfl⟩
 go_wp2_with fail
 refine(qqf I.out _).mono ?_;rintro e J ⟨rfl,K⟩;replace m:=m.later K;replace t:=qa t K;clear K;have R1:=R.later t
 have k0:J.cell? (AD b (so+k))=some (.slice a (d k).length cap):=by rw[<-o];exact R1.cell f
 have l0:=qb.cell k0;have x0:=qb.cell (m.c 0);have x1:=qb.cell (m.c 1);have x2:=qb.cell (m.c 2);have x3:=qb.cell (m.c 3);have x4:=qb.cell (m.c 4);have x5:=qb.cell (m.c 5)
 have B:Hid (∀x:qb J,Ca 284 #[.slice a (d k).length cap,.agg #[U v.wall,U v.count,U v.site,U v.seq,.string v.data,.bool v.gone],.func (.func 285) #[] #[]] x.val λe w'=>e=.returned (.tuple #[U p,.bool (qfa (d k) v p)])/\Below x.val.heap.size x.val w'):=
  λx=>q01 z x.val ((hV.later t).later x.below) (R.sorted k f) aa
 obtain⟨L,M⟩:∃L,qfa (d k) v p=L:=⟨_,rfl⟩;rw[M]at B s;have FB:=hd1 M;have C:=hd1 z;clear M z;cases L
 ·have u:Hid (qb5 l k v=0):=by
   show qb5 l k v=0;unfold qb5
   have:l.any (qb2 k v)=false:=by
        cases hq:l.any (qb2 k v)
        ·rfl
        have:=s.2 hq;cases this
   rw[H.out,I.out,this];rfl
  have N:Hid (qa4 l k v=l++[⟨k,v⟩]):=by show qa4 l k v=_;unfold qa4;rw[u.out];rfl
  clear s
  go_wp2_with fail
  refine wrl ?_
  repeat (go_big_quiet_step ((go_at_call 284;with_reducible exact qg (B.out _))))
  refine wpQuiet_nil ?_;rintro i ⟨⟨_,y⟩,rfl⟩;have hb5:=qa t y;have RX5:=m.later y;have q:=R1.later y
  have k5:i.cell? (AD b (so+k))=some (.slice a (d k).length cap):=by rw[<-o];exact q.cell f
  obtain⟨y0,y1,y2,y3,y4,y5⟩:=RX5.c6
  have ownA:(i.drew.alloc (.cells #[U v.wall,U v.count,U v.site,U v.seq,.string v.data,.bool v.gone] 130)).ownsRow 0 130 6 (.slice a (d k).length cap) (d k).length (ja (d k)):=by
   rw[<-o];exact World.ownsRow.alloc (show i.drew.ownsRow 0 130 6 (E k) (d k).length (ja (d k))from q.own k f) _
  have vbne:(Value.slice a (d k).length cap).ownBlock≠some i.heap.size:=by
   rw[<-o];intro e;have:=((q.own k f).lt _ e).2;omega
  have IN:=hd1 (qzr v i.heap.size _ ownA C.out.1 aa (heap_alloc_new i.drew _) vbne);have bfree:=q.free f;have hbl:=q.box.lt;have O:=q.apart k f;rw[o]at O;clear ownA vbne x0 x1 x2 x3 x4 x5 l0 k0 B
  go_wp2_with fail
  go_region_law (
   refine je rfl 286 #[.slice a (d k).length cap,U p,.slice (PT i.heap.size) 1 1] (by go_simp) IN.out ?_;rintro e P ⟨g,Q,rfl,D⟩;refine⟨_,rfl,?_⟩;have S:=hd1 D;have B8:=((q.box.drew).boxed (.cells #[U v.wall,U v.count,U v.site,U v.seq,.string v.data,.bool v.gone] 130)).grown D.2.1 (λe=>O e.symm)
   have c8:P.cell? (AD b (so+k))=some (.slice a (d k).length cap):=by rw[jch (w:=i) ((D.2.1.block b (by simp;omega) (λe=>O e.symm)).trans (jdg i.drew _ b hbl)),k5]
   have f8:=B8.free k (by simpa using f)
   clear D)
  all_goals
   have TW:qc (λj=>(E k).ownBlock=some j) w P:=by
        rw[o];exact((qc.ofBelow hb5).trans (qc.ofBelow (boxed ((jcc _ i).drew) _))).trans (qc.grown S.out.2.1 (λj r=>r))
   have V:=S.out.1;rw[qg1 v C.out.1]at V
   have n:=R.change f (v':=.slice (PT g) ((d k).length+1) Q) (L':=qj0 (d k) p v) TW (by rw[qg1 v C.out.1];exact V) (λj r=>by
        have e:g=j:=by simpa[Value.ownBlock]using r
        subst e;rcases S.out.2.2 with W|W
        ·left
         rw[o];exact W
        right
        have:=hb5.size;simp at W
        omega) (qzk (R.sorted k f) C.out FB.out)
   have FIN:Hid (qf8 w b so F (l++[⟨k,v⟩]) (P.setCell (AD b (so+k)) (.slice (PT g) ((d k).length+1) Q))):=
        ⟨qfu b (upd E k (.slice (PT g) ((d k).length+1) Q)),⟨_,_,n.1,G.put f v p,λ_=>jdl⟩,λj r=>(n.2.2.1 j r).imp_left (Z j).2,⟨n.2.1.os,n.2.1.tape,n.2.1.output,n.2.1.size,λj r hn=>n.2.1.block j r (λe=>hn ((Z j).2 e))⟩,n.2.2.2⟩
   clear n V TW
   go_wp2_with fail
   go_ret;rw[u.out,N.out];exact⟨rfl,FIN.out⟩
 have u:Hid (qb5 l k v=9):=by
  show qb5 l k v=9;unfold qb5;rw[H.out,I.out,s.1 rfl];rfl
 have N:Hid (qa4 l k v=l):=by show qa4 l k v=_;unfold qa4;rw[u.out];rfl
 clear s
 go_wp2_with fail
 refine wrl ?_
 repeat (go_big_quiet_step ((go_at_call 284;with_reducible exact qg (B.out _))))
 refine wpQuiet_nil ?_;rintro i ⟨⟨_,y⟩,rfl⟩
 go_wp2_with fail
 go_ret;rw[u.out,N.out];exact⟨rfl,qf8.same Y (qa t y)⟩
theorem q64 (key:Int) (v:Ver) (w:World) (a:qir w b so F l) (c:l.length<=1000):
 Ca 272 #[.pointer (some (AD b so)),U key,.agg #[U v.wall,U v.count,U v.site,U v.seq,.string v.data,.bool v.gone]] w λe w'=>e=.returned (jc (qb5 l key v))/\qf8 w b so F (qa4 l key v) w':=by
 cases h:inB key 0 7
 ·exact qxr h v w a
 cases hv:qau v
 ·exact q7u h v hv w a
 exact q77 h v hv w a c
end
section
open Go.RowKit
theorem qc.more {F F':Nat->Prop} {w a w2:World} (h:qc F w a) (k:qc F' a w2) (f:∀j,F' j->F j\/w.heap.size<=j):qc F w w2:=
 ⟨k.os.trans h.os,k.tape.trans h.tape,k.output.trans h.output,jcn h.size k.size,λj b c=>(k.block j (jci b h.size) (λe=>by
   rcases f j e with d|d
   ·exact c d
   omega)).trans (h.block j b c)⟩
structure ApB (tb xb:Nat) (ts xs:List Value) (w:World):Prop where
 t:qd w tb ts
 x:qd w xb xs
theorem qpi:(Tryz.prog.info? 102).map (λi=>(i.zero,i.size,i.bytes))=some (some (.agg ZA),9,88):=by kernel_rfl
end
section
open Go.RowKit
def qab (S:qe) (lv:Value) (bm:Nat):List Value:=
 [U S.id,U S.a0,U S.a1,U S.a2,U S.a3,U S.lw,U S.lc,lv,.map (some bm),
  U (S.oth 0),U (S.oth 1),U (S.oth 2),U (S.oth 3),U (S.oth 4),U (S.oth 5),U (S.oth 6),U (S.oth 7),
  U (S.oth 8),U (S.oth 9),U (S.oth 10),U (S.oth 11),U (S.oth 12),U (S.oth 13),U (S.oth 14),U (S.oth 15)]
def jn (b:Nat) (lv:Value) (bm:Nat) (F:Nat->Prop) (k:Nat):Prop:=k=b\/lv.ownBlock=some k\/k=bm\/F k
structure zf (w:World) (b:Nat) (lv:Value) (bm:Nat) (F:Nat->Prop) (S:qe) (log waits:List TxM):Prop where
 box:qd w b (qab S lv bm)
 st:qir w b 25 F S.l
 rlog:w.ownsRow 0 102 9 lv log.length (zw log)
 map:qd5 w bm waits
 nl:lv.ownBlock≠some b
 nm:bm≠b
 lm:lv.ownBlock≠some bm
 lf:∀k,lv.ownBlock=some k->¬F k
 mf:¬F bm
 hold:∀m∈log++waits,qr w m.wa m.wc m.t.ws/\∀k,m.blk k->¬jn b lv bm F k
variable {w:World} {b bm:Nat} {lv:Value} {F:Nat->Prop} {S:qe}
theorem zf.lt {log waits:List TxM} (h:zf w b lv bm F S log waits):∀k,jn b lv bm F k->k<w.heap.size:=λk a=>by
 rcases a with rfl|a|rfl|a
 ·exact h.box.lt
 ·exact(h.rlog.lt k a).2
 ·exact h.map.lt
 exact h.st.lt k a
variable {w':World}
theorem zf.kept {log waits:List TxM} (h:zf w b lv bm F S log waits) (a:∀k,(jn b lv bm F k\/∃m∈log++waits,m.blk k)->w'.heap[k]?=w.heap[k]?) (d:w.heap.size<=w'.heap.size):zf w' b lv bm F S log waits:=
 ⟨h.box.kept (a b (.inl (.inl rfl))) d,h.st.kept (λk e=>a k (.inl (.inr (.inr (.inr e))))) d,qf h.rlog (λk e=>a k (.inl (.inr (.inl e)))),h.map.kept (a bm (.inl (.inr (.inr (.inl rfl))))),h.nl,h.nm,h.lm,h.lf,h.mf,
   λm c=>⟨(h.hold m c).1.kept (λk e=>a k (.inr ⟨m,c,e⟩)),(h.hold m c).2⟩⟩
theorem zf.later {log waits:List TxM} (h:zf w b lv bm F S log waits) (c:Bw w w'):zf w' b lv bm F S log waits:=
 h.kept (λk a=>c.block k (by
  rcases a with a|⟨m,d,e⟩
  ·exact h.lt k a
  exact(h.hold m d).1.blk_lt k e)) c.size
theorem zf.hold' {c:Value} {F':Nat->Prop} {m:TxM} (a:qr w m.wa m.wc m.t.ws/\∀k,m.blk k->¬jn b lv bm F k) (f:qc (jn b lv bm F) w w') (g:∀k,jn b c bm F' k->jn b lv bm F k\/w.heap.size<=k):
 qr w' m.wa m.wc m.t.ws/\∀k,m.blk k->¬jn b c bm F' k:=
 ⟨a.1.kept (λk e=>f.block k (a.1.blk_lt k e) (a.2 k e)),λk e h=>by
   rcases g k h with d|d
   ·exact a.2 k e d
   have:=a.1.blk_lt k e
   omega⟩
theorem zf.store {log waits:List TxM} {n:List Hd} (h:zf w b lv bm F S log waits) (s:qf8 w b 25 F n w'):
 ∃F',zf w' b lv bm F' {S with l:=n} log waits/\(∀k,jn b lv bm F' k->jn b lv bm F k\/w.heap.size<=k)/\qc (jn b lv bm F) w w':=by
 obtain⟨F',t,i,d,o⟩:=s
 have p:∀k,jn b lv bm F' k->jn b lv bm F k\/w.heap.size<=k:=λk a=>by
  rcases a with a|a|a|a
  ·exact .inl (.inl a)
  ·exact .inl (.inr (.inl a))
  ·exact .inl (.inr (.inr (.inl a)))
  rcases i k a with c|c
  ·exact .inl (.inr (.inr (.inr c)))
  exact .inr c
 have q:qc (jn b lv bm F) w w':=⟨d.os,d.tape,d.output,d.size,λk a g=>d.block k a (λe=>g (.inr (.inr (.inr e))))⟩;have u:=λk e=>d.block k (h.rlog.lt k e).2 (h.lf k e);refine⟨F',⟨⟨λj v r=>?_,λj f=>?_,jci h.box.lt d.size⟩,t,qf h.rlog u,h.map.kept (d.block bm h.map.lt h.mf),h.nl,h.nm,h.lm,λk e g=>?_,λg=>?_,λm x=>zf.hold' (h.hold m x) q p⟩,p,q⟩
 ·have f:j<25:=by
   have:=(jck.1 r).1;simpa[qab]using this
  rw[(o j (.inl f)).1];exact h.box.cell j v r
 ·have f:j<25:=by simpa[qab]using f
  rw[(o j (.inl f)).2];exact h.box.free j (by simpa[qab]using f)
 ·rcases i k g with c|c
  ·exact h.lf k e c
  have:=(h.rlog.lt k e).2;omega
 rcases i bm g with c|c
 ·exact h.mf c
 have:=h.map.lt;omega
theorem qi4.other {o:Nat} {a:List Value} (h:qi4 w b o a) (k:Nat) (u:Value) (f:k<o):qi4 (w.setCell (AD b k) u) b o a:=
 ⟨λj v c=>by rw[jco _ _ _ _ (by intro e;injection e with _ e _;omega)];exact h.cell j v c,λj d=>by rw[jcm];exact h.free j d,by simpa[World.setCell]using h.lt⟩
theorem qir.other {l:List Hd} (h:qir w b 25 F l) (k:Nat) (u:Value) (a:k<25):qir (w.setCell (AD b k) u) b 25 F l:=by
 obtain⟨c,d,R,f,j⟩:=h;exact⟨c,d,⟨R.box.other k u a,λi hi=>qp8 (R.own i hi) (λg e=>jce _ _ _ _ (λ(x:g=b)=>R.apart i hi (by rw[<-x];exact e))),R.sorted,R.apart,R.apart2⟩,f,j⟩
theorem zf.cell {S':qe} {log waits:List TxM} (h:zf w b lv bm F S log waits) (k:Nat) (u:Value) (c:k<25) (d:(qab S lv bm).set k u=qab S' lv bm) (f:S'.l=S.l):zf (w.setCell (AD b k) u) b lv bm F S' log waits:=
 ⟨by rw[<-d];exact h.box.set k u (by simpa[qab]using c),by rw[f];exact h.st.other k u c,qf h.rlog (λg e=>jce _ _ _ _ (λ(x:g=b)=>h.nl (by rw[<-x];exact e))),h.map.kept (jce _ _ _ _ h.nm),h.nl,h.nm,h.lm,h.lf,h.mf,
   λm a=>⟨(h.hold m a).1.kept (λg e=>jce _ _ _ _ (λx=>(h.hold m a).2 g e (.inl x))),(h.hold m a).2⟩⟩
theorem zf.seq {log waits:List TxM} (h:zf w b lv bm F S log waits) {s:Int} (x:Int) (c:0<=s) (d:s<=3):
 zf (w.setCell (AD b (1+s.toNat)) (U x)) b lv bm F {S with a0:=qch s x S.a0,a1:=qcl s x S.a1,a2:=qck s x S.a2,a3:=qcj s x S.a3} log waits:=by
 refine h.cell (1+s.toNat) (U x) (by omega) ?_ rfl
 have a:s=0\/s=1\/s=2\/s=3:=by omega
 rcases a with rfl|rfl|rfl|rfl<;>rfl
theorem zf.last {log waits:List TxM} (h:zf w b lv bm F S log waits) (x y:Int):
 zf ((w.setCell (AD b 5) (U x)).setCell (AD b 6) (U y)) b lv bm F {S with lw:=x,lc:=y} log waits:=
 (h.cell (S':={S with lw:=x}) 5 (U x) (by omega) rfl rfl).cell 6 (U y) (by omega) rfl rfl
theorem zf.append {f:World} {log waits:List TxM} (h:zf w b lv bm F S log waits) (m:TxM) (u:qr w m.wa m.wc m.t.ws/\∀k,m.blk k->¬jn b lv bm F k) {g d:Nat} (j:w.grownBy f lv.ownBlock)
 (v:f.ownsRow 0 102 9 (.slice (PT g) (log.length+1) d) (log.length+1) (zw log++txC m)) (l:lv.ownBlock=some g\/w.heap.size<=g):
 zf (f.setCell (AD b 7) (.slice (PT g) (log.length+1) d)) b (.slice (PT g) (log.length+1) d) bm F S (log++[m]) waits/\(∀k,jn b (.slice (PT g) (log.length+1) d) bm F k->jn b lv bm F k\/w.heap.size<=k)/\
  qc (jn b lv bm F) w (f.setCell (AD b 7) (.slice (PT g) (log.length+1) d)):=by
 have gk:∀k,(Value.slice (PT g) (log.length+1) d).ownBlock=some k->g=k:=λk a=>by simpa[Value.ownBlock]using a
 have n:∀k,jn b (.slice (PT g) (log.length+1) d) bm F k->jn b lv bm F k\/w.heap.size<=k:=λk a=>by
  rcases a with a|a|a
  ·exact .inl (.inl a)
  ·obtain rfl:=gk k a;rcases l with c|c
   ·exact .inl (.inr (.inl c))
   exact .inr c
  exact .inl (.inr (.inr a))
 have o:∀k,k<w.heap.size->lv.ownBlock≠some k->g≠k:=λk a c e=>by
  rcases l with i|i
  ·exact c (by rw[<-e];exact i)
  omega
 have p:qc (jn b lv bm F) w (f.setCell (AD b 7) (.slice (PT g) (log.length+1) d)):=(qc.grown j (λk a=>.inr (.inl a))).trans (qc.setCell f (AD b 7) _ (.inl rfl));have q:=o b h.box.lt h.nl;have y:=h.st.kept (λk e=>j.block k (h.st.lt k e) (λx=>h.lf k x.symm e)) j.size;refine⟨⟨(h.box.grown j (λe=>h.nl e.symm)).set 7 _ (by simp[qab]),y.other 7 _ (by omega),?_,(h.map.kept (j.block bm h.map.lt (λx=>h.lm x.symm))).kept (jce _ _ _ _ h.nm),λe=>q (gk b e),h.nm,λe=>o bm h.map.lt h.lm (gk bm e),λk e r=>?_,h.mf,λs z=>zf.hold' (lv:=lv) (F:=F) (w:=w) ?_ p n⟩,n,p⟩
 ·have:=v.kept (row:=some b) (qhs b 7 f (.slice (PT g) (log.length+1) d)) (.inr (λe=>q (gk b e)));rw[qkf,jcl];exact this
 ·obtain rfl:=gk k e;rcases l with c|c
  ·exact h.lf _ c r
  have:=h.st.lt _ r;omega
 rcases jcf.1 z with c|c
 ·rcases jcf.1 c with i|i
  ·exact h.hold s (jcf.2 (.inl i))
  obtain rfl:=jcj.1 i;exact u
 exact h.hold s (jcf.2 (.inr c))
theorem zf.turn {log waits d:List TxM} (h:zf w b lv bm F S log waits) (f:w.grownBy w' (some bm)) (l:qd5 w' bm d) (n:∀m∈d,m∈waits\/(qr w m.wa m.wc m.t.ws/\∀k,m.blk k->¬jn b lv bm F k)):zf w' b lv bm F S log d:=
 have c:∀k,k≠bm->k<w.heap.size->w'.heap[k]?=w.heap[k]?:=λk o p=>f.block k p (λe=>o (by injection e));have g:∀m:TxM,(qr w m.wa m.wc m.t.ws/\∀k,m.blk k->¬jn b lv bm F k)->(qr w' m.wa m.wc m.t.ws/\∀k,m.blk k->¬jn b lv bm F k):=λm a=>⟨a.1.kept (λk e=>c k (λx=>a.2 k e (.inr (.inr (.inl x)))) (a.1.blk_lt k e)),a.2⟩
 ⟨h.box.kept (c b (Ne.symm h.nm) h.box.lt) f.size,h.st.kept (λk e=>c k (λx=>h.mf (by rw[<-x];exact e)) (h.st.lt k e)) f.size,qf h.rlog (λk e=>c k (λx=>h.lm (by rw[<-x];exact e)) (h.rlog.lt k e).2),l,h.nl,h.nm,h.lm,h.lf,h.mf,
   λm a=>by
    rcases jcf.1 a with i|i
    ·exact g m (h.hold m (jcf.2 (.inl i)))
    rcases n m i with j|j
    ·exact g m (h.hold m (jcf.2 (.inr j)))
    exact g m j⟩
end
section
open Go.RowKit
def okT (t:TxP):Bool:=jt t.site t.seq t.wall t.count t.d0 t.d1 t.d2 t.d3 t.ws
variable {t:TxP}
theorem qcg (h:okT t=true):(0<=t.site/\t.site<=3)/\(1<=t.seq/\t.seq<=1099511627776)/\1<=t.ws.length/\t.ws.length<=5:=by
 simp only[okT,jt,jct,jk,qad]at h;refine⟨h.1.1.1.1.1,h.1.1.1.1.2,?_⟩;have:=h.2.2;omega
def qag (x:Int):Prop:=0<=x/\x<=1099511627776
structure j3 (S:qe):Prop where
 id0:0<=S.id
 id3:S.id<=3
 nums:qgu S.waits
 wt:∀x∈S.waits,okT x=true/\x.site≠S.id
 a0:qag S.a0
 a1:qag S.a1
 a2:qag S.a2
 a3:qag S.a3
 own:qp S.id S.a0 S.a1 S.a2 S.a3<=S.log.length
 log:S.log.length<=200
 lsite:∀x∈S.log,(0<=x.site/\x.site<=3)/\1<=x.ws.length/\x.ws.length<=5
 len:S.l.length<=5*S.log.length
 apart:qfk S.l
 ok:∀h∈S.l,qau h.v=true
variable {S:qe}
theorem j3.dep (h:j3 S) (s:Int):qag (qp s S.a0 S.a1 S.a2 S.a3):=by
 unfold qp;split
 ·exact h.a0
 split
 ·exact h.a1
 split
 ·exact h.a2
 exact h.a3
theorem q8v {l:List Hd} {key:Int} {v:Ver} (h:∀x∈l,qau x.v=true):∀x∈qa4 l key v,qau x.v=true:=by
 unfold qa4;split
 ·rename_i e;intro x b;rcases jcf.1 b with a|a
  ·exact h x a
  obtain rfl:=jcj.1 a;unfold qb5 at e;split at e
  ·split at e
   ·rename_i c;exact c
   cases e
  cases e
 exact h
theorem qq4 (t:TxP):∀(ws:List Wr) (l:List Hd),qfk l->(∀x∈l,qau x.v=true)->qfk (qbz t ws l)/\∀x∈qbz t ws l,qau x.v=true
 |[],_,h1,h2=>⟨h1,h2⟩
 |x::ws,l,h1,h2=>qq4 t ws (qa4 l x.key (qne t x)) (q16 h1) (q8v h2)
theorem q7p (t:TxP) (s:Int) (b:0<=s) (c:s<=3):qp s (vr S t).a0 (vr S t).a1 (vr S t).a2 (vr S t).a3=if s=t.site then t.seq else qp s S.a0 S.a1 S.a2 S.a3:=by
 have a:s=0\/s=1\/s=2\/s=3:=by omega
 rcases a with rfl|rfl|rfl|rfl<;>simp[vr,qp,qch,qcl,qck,qcj,eq_comm]
theorem j3.applied (h:j3 S) (d:0<=t.site/\t.site<=3) (a:qag t.seq) (f:1<=t.ws.length/\t.ws.length<=5) (g:t.site=S.id->t.seq<=S.log.length+1) (j:S.log.length<200):j3 (vr S t):=by
 have c:=qq4 t t.ws S.l h.apart h.ok;refine⟨h.id0,h.id3,h.nums,h.wt,?_,?_,?_,?_,?_,?_,?_,?_,c.1,c.2⟩
 ·show qag (qch _ _ _);unfold qch;split;exact a;exact h.a0
 ·show qag (qcl _ _ _);unfold qcl;split;exact a;exact h.a1
 ·show qag (qck _ _ _);unfold qck;split;exact a;exact h.a2
 ·show qag (qcj _ _ _);unfold qcj;split;exact a;exact h.a3
 ·show qp S.id _ _ _ _<=_;rw[q7p t S.id h.id0 h.id3];have:=h.own;split
  ·rename_i e;have:=g e.symm;simp[vr];omega
  simp[vr];omega
 ·simp[vr];omega
 ·intro x i;rcases jcf.1 (show x∈S.log++[t]from i)with b|b
  ·exact h.lsite x b
  obtain rfl:=jcj.1 b;exact⟨d,f⟩
 have:=qf1 t t.ws S.l;have:=h.len;simp[vr];omega
theorem j3.drop (h:j3 S) (t:TxP):j3 {S with waits:=qdv S.waits t}:=
 ⟨h.id0,h.id3,h.nums.drop t,λx a=>h.wt x (qrh.1 a).1,h.a0,h.a1,h.a2,h.a3,h.own,h.log,h.lsite,h.len,h.apart,h.ok⟩
theorem j3.wait (h:j3 S) (b:okT t=true) (c:t.site≠S.id) (d:∀x∈S.waits,vv x t=false):j3 {S with waits:=S.waits++[t]}:=
 ⟨h.id0,h.id3,h.nums.snoc d,λx e=>by
   rcases jcf.1 e with a|a
   ·exact h.wt x a
   obtain rfl:=jcj.1 a
   exact⟨b,c⟩,h.a0,h.a1,h.a2,h.a3,h.own,h.log,h.lsite,h.len,h.apart,h.ok⟩
theorem j3.gone (h:j3 S) {x:TxP} (a:x∈S.waits) (b:S.log.length<200):j3 (qj5 S x):=by
 obtain⟨c,d⟩:=h.wt x a;obtain⟨p1,p2,p3⟩:=qcg c;exact(h.drop x).applied p1 ⟨by omega,p2.2⟩ p3 (λe=>absurd e d) b
theorem qfm.inv {S':qe} (h:qfm S S'):j3 S->j3 S':=by
 induction h with
 |full _=>exact id
 |none _=>exact id
 |step h1 h2 _ ih=>exact λk=>ih (k.gone (qj8 h2).1 h1)
theorem j3.swept (h:j3 S) (x0 x1 x2 x3:Int):j3 {S with l:=qcr x0 x1 x2 x3 S.l}:=
 ⟨h.id0,h.id3,h.nums,h.wt,h.a0,h.a1,h.a2,h.a3,h.own,h.log,h.lsite,jcn qqw h.len,qv3 h.apart,λx a=>h.ok x (jdq.1 a).1⟩
theorem j3.knows (h:j3 S) (f:Nat->Int):j3 {S with oth:=f}:=
 ⟨h.id0,h.id3,h.nums,h.wt,h.a0,h.a1,h.a2,h.a3,h.own,h.log,h.lsite,h.len,h.apart,h.ok⟩
def qg8 (id:Int):qe:=⟨id,0,0,0,0,0,0,[],[],[],λ_=>0⟩
theorem qza (s:Int):qp s 0 0 0 0=0:=by
 unfold qp;split
 ·rfl
 split
 ·rfl
 split<;>rfl
theorem qik:qag 0:=⟨by omega,by omega⟩
theorem j3.new {id:Int} (a:0<=id) (b:id<=3):j3 (qg8 id):=
 ⟨a,b,by simp[qg8,qgu],by simp[qg8],qik,qik,qik,qik,by show qp id 0 0 0 0<=_;rw[qza];simp,by simp[qg8],by simp[qg8],by simp[qg8],λx c=>by simp[qg8]at c,by simp[qg8]⟩
end
section
open Go.RowKit
theorem q0k:∀(l:List TxM) (i:Nat) (m:TxM) (r:Nat) (u:Value),l[i]?=some m->(txC m)[r]?=some u->(zw l)[i*9+r]?=some u
 |[],_,_,_,_,h,_=>by simp at h
 |x::l,0,m,r,u,h,hu=>by
  obtain rfl:x=m:=by simpa using h
  have a:=(jck.1 hu).1;show (txC x++zw l)[0*9+r]?=some u;rw[Nat.zero_mul,Nat.zero_add,jc3 a];exact hu
 |x::l,i+1,m,r,u,h,hu=>by
  have b:=q0k l i m r u (by simpa using h) hu;show (txC x++zw l)[(i+1)*9+r]?=some u
  have e:(i+1)*9+r=(txC x).length+(i*9+r):=by simp[txC];omega
  rw[e,jc0 (by omega),Nat.add_sub_cancel_left];exact b
structure qdy (w:World) (a:Option Addr) (cap:Nat) (l:List TxM):Prop where
 len:l.length<=cap
 cap:cap<=9223372036854775807
 held:l=[]\/∃b off,a=some (AD b off)/\∀i m r u,l[i]?=some m->(txC m)[r]?=some u->w.cell? (AD b (off+(i*9+r)))=some u
variable {w:World} {l:List TxM}
theorem qdy.later {w':World} {a:Option Addr} {cap:Nat} (d:Bw w w') (h:qdy w a cap l):qdy w' a cap l:=
 ⟨h.len,h.cap,h.held.elim .inl λ⟨b,f,e,c⟩=>.inr ⟨b,f,e,λi m r u hi g=>cell_later d (c i m r u hi g)⟩⟩
theorem yx {B:Nat} {T:TypeId} {v:Value} (h:w.ownsRow B T 9 v l.length (zw l)):∃a cap,v=.slice a l.length cap/\qdy w a cap l:=by
 rcases h.2 with ⟨rfl,b⟩|⟨g,cap,cur,rfl,j,k,d,e,n,o⟩
 ·exact⟨none,0,by rw[b],⟨by omega,by omega,.inl (jc2 b)⟩⟩
 refine⟨_,cap,rfl,⟨d,by simp only[maxLen]at e;omega,.inr ⟨g,0,rfl,λi m r u hi f=>?_⟩⟩⟩;have c:=h.cells (g:=g) rfl _ _ (q0k l i m r u hi f);rw[qal]at c;rw[Nat.zero_add];exact c
def qcs (h0 h1 h2 h3:Int) (m:TxM):Bool:=decide (qp m.t.site h0 h1 h2 h3<m.t.seq)
end
section
open Go.RowKit
def qcp (lw lc now:Int):Int×Int×Int:=
 if (qi lw&&qi lc)=false then (0,0,2)else if qi now=false then (0,0,2)else if lw<now then (now,0,0)else if 1099511627776<lc+1 then (0,0,12)else (lw,lc+1,0)
def ji (S:qe) (n:Nat) (now d0 d1 d2 d3:Int) (ws:List Wr):Int:=
 if qad ws=false then 1 else if jb d0 d1 d2 d3=false then 10 else if qa8 S.a0 S.a1 S.a2 S.a3 d0 d1 d2 d3=false then 10 else if 200<=n then 12 else (qcp S.lw S.lc now).2.2
def zv (S:qe) (now d0 d1 d2 d3:Int) (ws:List Wr):TxP:=
 ⟨S.id,qp S.id S.a0 S.a1 S.a2 S.a3+1,(qcp S.lw S.lc now).1,(qcp S.lw S.lc now).2.1,qch S.id (qp S.id S.a0 S.a1 S.a2 S.a3) d0,qcl S.id (qp S.id S.a0 S.a1 S.a2 S.a3) d1,qck S.id (qp S.id S.a0 S.a1 S.a2 S.a3) d2,qcj S.id (qp S.id S.a0 S.a1 S.a2 S.a3) d3,ws⟩
def txZ:List Value:=ZL
abbrev js (w:World) (b:Nat) (x0 x1 x2 x3 x4 x5 x6 x7:Int) (v:Value):World:=
 ((((((((w.setCell (AD b 0) (U x0)).setCell (AD b 1) (U x1)).setCell (AD b 2) (U x2)).setCell (AD b 3) (U x3)).setCell (AD b 4) (U x4)).setCell (AD b 5) (U x5)).setCell (AD b 6) (U x6)).setCell (AD b 7) (U x7)).setCell (AD b 8) v
variable {w W:World} {b:Nat}
theorem qd9 (h:Bw w W) (a:w.heap.size<=b) (x0 x1 x2 x3 c d e f:Int) (v:Value):Bw w (js W b x0 x1 x2 x3 c d e f v):=
 ((((((((h.setCell a _).setCell a _).setCell a _).setCell a _).setCell a _).setCell a _).setCell a _).setCell a _).setCell a _
theorem yz {xs:List Value} (h:qd W b xs) (f:xs.length=9) (x0 x1 x2 x3 a c d e:Int) (v:Value):qd (js W b x0 x1 x2 x3 a c d e v) b [U x0,U x1,U x2,U x3,U a,U c,U d,U e,v]:=by
 match xs,f with
 |[_,_,_,_,_,_,_,_,_],_=>exact((((((((h.set 0 _ (by simp)).set 1 _ (by simp)).set 2 _ (by simp)).set 3 _ (by simp)).set 4 _ (by simp)).set 5 _ (by simp)).set 6 _ (by simp)).set 7 _ (by simp)).set 8 _ (by simp)
variable {a0 a1 a2 a3 s:Int}
theorem qwc (h:qo w b a0 a1 a2 a3) (c:0<=s) (d:s<=3):w.frozen? (AD b s.toNat)=false:=by
 have a:s=0\/s=1\/s=2\/s=3:=by omega
 rcases a with rfl|rfl|rfl|rfl
 ·exact h.f0
 ·exact h.f1
 ·exact h.f2
 exact h.f3
theorem q0b (h:qo w b a0 a1 a2 a3) (c:0<=s) (d:s<=3) (x:Int):qo (w.setCell (AD b s.toNat) (U x)) b (qch s x a0) (qcl s x a1) (qck s x a2) (qcj s x a3):=by
 have a:s=0\/s=1\/s=2\/s=3:=by omega
 rcases a with rfl|rfl|rfl|rfl
 ·exact h.set0 x
 ·exact h.set1 x
 ·exact h.set2 x
 exact h.set3 x
theorem qkc {S:qe} {lv wv sv:Value} (h:qd w b (vz S lv wv sv)) (d:0<=s) (e:s<=3):w.cell? (AD b (1+s.toNat))=some (U (qp s S.a0 S.a1 S.a2 S.a3)):=by
 have a:s=0\/s=1\/s=2\/s=3:=by omega
 rcases a with rfl|rfl|rfl|rfl
 ·exact h.c 1
 ·exact h.c 2
 ·exact h.c 3
 exact h.c 4
end
section
open Go.RowKit
variable {n:Nat}
theorem qip {S:qe} {now a b c d:Int} {ws:List Wr} (h:ji S n now a b c d ws=0):qad ws=true/\jb a b c d=true/\qa8 S.a0 S.a1 S.a2 S.a3 a b c d=true/\¬200<=n/\(qcp S.lw S.lc now).2.2=0:=by
 unfold ji at h;cases h1:qad ws
 ·rw[if_pos h1]at h;cases h
 rw[if_neg (by rw[h1];decide)]at h;cases h2:jb a b c d
 ·rw[if_pos h2]at h;cases h
 rw[if_neg (by rw[h2];decide)]at h;cases h3:qa8 S.a0 S.a1 S.a2 S.a3 a b c d
 ·rw[if_pos h3]at h;cases h
 rw[if_neg (by rw[h3];decide)]at h;by_cases e:200<=n
 ·rw[if_pos e]at h;cases h
 rw[if_neg e]at h;exact⟨rfl,rfl,rfl,e,h⟩
theorem qsc {w:World} {b c:Nat} {l:List Wr} (h:qbo w b c l):∀j u,(qcf l)[j]?=some u->w.cell? (((AD b c):Addr).add j)=some u:=λj u a=>by
 have i:((AD b c):Addr).add j=(AD b (c+j)):=by unfold Addr.add;split<;>simp_all
 have m:j<l.length*3:=by
  have:=(jck.1 a).1;rw[qdt]at this;exact this
 have hi:j/3<l.length:=by omega
 obtain⟨a0,a1,a2⟩:=qr5 l (j/3) hi;obtain⟨d,f,g⟩:=h (j/3) hi;rw[i]
 have k:j=j/3*3\/j=j/3*3+1\/j=j/3*3+2:=by omega
 rcases k with e|e|e
 ·rw[<-e]at a0 d;rw[a0]at a;injection a with a;rw[<-a];exact d
 ·rw[<-e]at a1;rw[Nat.add_assoc,<-e]at f;rw[a1]at a;injection a with a;rw[<-a];exact f
 rw[show j/3*3+1+1=j/3*3+2 from rfl,<-e]at a2;rw[show c+j/3*3+1+1=c+(j/3*3+2) by omega,<-e]at g;rw[a2]at a;injection a with a;rw[<-a];exact g
theorem qji (l:List Wr):∀u∈qcf l,u.oneCell'=true:=by
 intro u b;obtain⟨x,_,a⟩:=List.mem_flatMap.1 b;simp[wrC]at a
 rcases a with rfl|rfl|rfl<;>rfl
theorem qmn:(Tryz.prog.info? 100).map (λi=>(i.zero,i.size,i.bytes))=some (some (.agg #[U 0,.string ⟨#[]⟩,.bool false]),3,32):=by kernel_rfl
theorem qjq (w:World) (T:TypeId) (a:w.heap.size=n) (B:Nat) (b:B<=n):(w.alloc (.cells #[] T)).ownsRow B T 3 (.slice (PT n) 0 0) 0 []:=by
 subst a;exact⟨rfl,.inr ⟨w.heap.size,0,#[],rfl,b,heap_alloc_new w (.cells #[] T),jcd _,by decide,rfl,rfl⟩⟩
end
section
open Go.RowKit
theorem qox (a0 a1 a2 a3 a b c d:Int) (w:World):
 Ca 205 #[.agg #[U a0,U a1,U a2,U a3],.agg #[U a,U b,U c,U d]] w (Rn (.bool (qa8 a0 a1 a2 a3 a b c d)) w):=by
 by_cases f:a0<a
 have e:qa8 a0 a1 a2 a3 a b c d=false:=by simp[qa8];omega
 rw[e];go_enter Tryz.func205,Tryz.ntmps205
 go_wp2
 refine wp_loop_rounds 5 ?_;rw[rounds_succ]
 go_wp2
 go_quiet (fail)
 rotate_left
 by_cases g:a1<b
 have e:qa8 a0 a1 a2 a3 a b c d=false:=by simp[qa8];omega
 rw[e];go_enter Tryz.func205,Tryz.ntmps205
 go_wp2
 refine wp_loop_rounds 5 ?_;rw[rounds_succ]
 go_wp2
 go_quiet (fail)
 go_wp2
 rw[rounds_succ]
 go_wp2
 go_quiet (fail)
 rotate_left
 by_cases h:a2<c
 have e:qa8 a0 a1 a2 a3 a b c d=false:=by simp[qa8];omega
 rw[e];go_enter Tryz.func205,Tryz.ntmps205
 go_wp2
 refine wp_loop_rounds 5 ?_;rw[rounds_succ]
 go_wp2
 go_quiet (fail)
 go_wp2
 rw[rounds_succ]
 go_wp2
 go_quiet (fail)
 go_wp2
 rw[rounds_succ]
 go_wp2
 go_quiet (fail)
 rotate_left
 by_cases i:a3<d
 have e:qa8 a0 a1 a2 a3 a b c d=false:=by simp[qa8];omega
 rw[e];go_enter Tryz.func205,Tryz.ntmps205
 go_wp2
 refine wp_loop_rounds 5 ?_;rw[rounds_succ]
 go_wp2
 go_quiet (fail)
 go_wp2
 rw[rounds_succ]
 go_wp2
 go_quiet (fail)
 go_wp2
 rw[rounds_succ]
 go_wp2
 go_quiet (fail)
 go_wp2
 rw[rounds_succ]
 go_wp2
 go_quiet (fail)
 rotate_left
 have e:qa8 a0 a1 a2 a3 a b c d=true:=by simp[qa8];omega
 rw[e];go_enter Tryz.func205,Tryz.ntmps205
 go_wp2
 refine wp_loop_rounds 5 ?_;rw[rounds_succ]
 go_wp2
 go_quiet (fail)
 go_wp2
 rw[rounds_succ]
 go_wp2
 go_quiet (fail)
 go_wp2
 rw[rounds_succ]
 go_wp2
 go_quiet (fail)
 go_wp2
 rw[rounds_succ]
 go_wp2
 go_quiet (fail)
 go_wp2
 rw[rounds_succ]
 all_goals
  go_wp2
  go_ret;exact⟨rfl,by repeat (first|exact jcc _ _|apply jy|apply boxed)⟩
theorem qh3 {a0 a1 a2 a3 a b c d:Int} {v:Bool} (h:qa8 a0 a1 a2 a3 a b c d=v) (w:World):
 Ca 205 #[.agg #[U a0,U a1,U a2,U a3],.agg #[U a,U b,U c,U d]] w (Rn (.bool v) w):=by
 subst h;exact qox _ _ _ _ _ _ _ _ w
end
section
open Go.RowKit
def qbq (S:qe) (key a0 a1 a2 a3:Int):Ver×Int:=if qa8 S.a0 S.a1 S.a2 S.a3 a0 a1 a2 a3=true then zz key a0 a1 a2 a3 S.l else (jq,10)
variable {W:World} {b:Nat}
theorem qn3 {w:World} (h:Bw w W) (a:w.heap.size<=b) (x0 x1 x2 x3:Int) (c:ByteArray) (d:Bool):Bw w ((((((W.setCell (AD b 0) (U x0)).setCell (AD b 1) (U x1)).setCell (AD b 2) (U x2)).setCell (AD b 3) (U x3)).setCell (AD b 4) (.string c)).setCell (AD b 5) (.bool d)):=
 (((((h.setCell a _).setCell a _).setCell a _).setCell a _).setCell a _).setCell a _
theorem qt0 {c:Nat} {a0 a1 a2 a3:Int} (h:qo W b a0 a1 a2 a3) (a:c≠b) (x0 x1 x2 x3:Int) (d:ByteArray) (e:Bool):qo ((((((W.setCell (AD c 0) (U x0)).setCell (AD c 1) (U x1)).setCell (AD c 2) (U x2)).setCell (AD c 3) (U x3)).setCell (AD c 4) (.string d)).setCell (AD c 5) (.bool e)) b a0 a1 a2 a3:=
 (((((h.far (AD c 0) _ a).far (AD c 1) _ a).far (AD c 2) _ a).far (AD c 3) _ a).far (AD c 4) _ a).far (AD c 5) _ a
theorem qn6 (h:qd W b (qh jq)) (x0 x1 x2 x3:Int) (a:ByteArray) (c:Bool):qd ((((((W.setCell (AD b 0) (U x0)).setCell (AD b 1) (U x1)).setCell (AD b 2) (U x2)).setCell (AD b 3) (U x3)).setCell (AD b 4) (.string a)).setCell (AD b 5) (.bool c)) b (qh ⟨x0,x1,x2,x3,a,c⟩):=
 (((((h.set 0 _ (by simp[qh])).set 1 _ (by simp[qh])).set 2 _ (by simp[qh])).set 3 _ (by simp[qh])).set 4 _ (by simp[qh])).set 5 _ (by simp[qh])
end
section
open Go.RowKit
structure qfr where
 is:World->(Nat->Prop)->Prop
 lt:∀w G,is w G->∀k,G k->k<w.heap.size
 kept:∀w w' G,is w G->(∀k,G k->w'.heap[k]?=w.heap[k]?)->w.heap.size<=w'.heap.size->is w' G
def qbi (p:qfr) (w:World) (G:Nat->Prop) (w':World):Prop:=∃G',p.is w' G'/\(∀k,G' k->G k\/w.heap.size<=k)/\qc G w w'
def qfx (p q:qfr) (w:World) (G H Y:Nat->Prop) (w':World):Prop:=∃G' H',p.is w' G'/\q.is w' H'/\(∀k,G' k->G k\/w.heap.size<=k)/\(∀k,H' k->H k\/w.heap.size<=k)/\(∀k,G' k->¬H' k)/\(∀k,Y k->w.heap.size<=k/\k<w'.heap.size/\¬G' k)/\qc (λk=>G k\/H k) w w'
def NoY:Nat->Prop:=λ_=>False
structure zh (w:World) (n:Nat) (ps:Nat->qfr) (Gs:Nat->Nat->Prop) (X:Nat->Prop) (o:Nat) (Y:Nat->Prop):Prop where
 is:∀i,i<n->(ps i).is w (Gs i)
 apart:∀i j k,i<n->j<n->i≠j->Gs i k->¬Gs j k
 free:∀k,X k->k<w.heap.size/\∀i,i<n->¬Gs i k
 half:∀k,Y k->k<w.heap.size/\∀i,i<n->i≠o->¬Gs i k
end
section
open Go.RowKit
variable {i:Nat} {p:qfr}
section
variable {w w':World} {n o:Nat} {ps ps':Nat->qfr} {Gs:Nat->Nat->Prop} {X:Nat->Prop}
theorem zh.stepG (h:zh w n ps Gs X o NoY) (hi:i<n) (z:qbi p w (Gs i) w') (A:ps' i=p) (B:∀j,j<n->j≠i->ps' j=ps j):∃v,zh w' n ps' v X o NoY/\(∀j k,v j k->Gs j k\/w.heap.size<=k)/\jg X w w'/\qc (Gs i) w w':=by
 obtain⟨x,p1,p2,f⟩:=z;refine⟨λj=>if j=i then x else Gs j,⟨λj m=>?_,λa b k t u y c l=>?_,λk c=>⟨jci (h.free k c).1 f.size,λj m r=>?_⟩,λk c=>c.elim⟩,λj k c=>?_,⟨f.os,f.tape,f.output,f.size,λk c=>f.block k (h.free k c).1 (λe=>(h.free k c).2 i hi e)⟩,f⟩
 ·by_cases d:j=i
  ·rw[if_pos d,d,A];exact p1
  rw[if_neg d,B j m d];exact(ps j).kept _ _ _ (h.is j m) (λk c=>f.block k ((ps j).lt _ _ (h.is j m) k c) (λe=>h.apart j i k m hi d c e)) f.size
 ·by_cases s:a=i
  ·rw[if_pos s]at c;have q:b≠i:=λe=>y (s.trans e.symm);rw[if_neg q]at l;rcases p2 k c with g|g
   ·exact h.apart i b k hi u (Ne.symm q) g l
   have:=(ps b).lt _ _ (h.is b u) k l;omega
  rw[if_neg s]at c;by_cases q:b=i
  ·rw[if_pos q]at l;rcases p2 k l with g|g
   ·exact h.apart a i k t hi s c g
   have:=(ps a).lt _ _ (h.is a t) k c;omega
  rw[if_neg q]at l;exact h.apart a b k t u y c l
 ·by_cases d:j=i
  ·rw[if_pos d]at r;rcases p2 k r with g|g
   ·exact(h.free k c).2 i hi g
   have:=(h.free k c).1;omega
  rw[if_neg d]at r;exact(h.free k c).2 j m r
 have c:(if j=i then x else Gs j) k:=c;by_cases d:j=i
 ·rw[if_pos d]at c;rw[d];exact p2 k c
 rw[if_neg d]at c;exact .inl c
theorem zh.step2G (h:zh w n ps Gs X o NoY) {j:Nat} (hi:i<n) (A:j<n) {q:qfr} (K:qfx p q w (Gs i) (Gs j) NoY w') (L:ps' i=p) (M:ps' j=q) (N:∀m,m<n->m≠i->m≠j->ps' m=ps m):∃I,zh w' n ps' I X o NoY/\(∀m k,I m k->Gs m k\/w.heap.size<=k)/\jg X w w'/\qc (λk=>Gs i k\/Gs j k) w w':=by
 obtain⟨C,D,p1,O,p2,E,J,_,u⟩:=K;refine⟨λm=>if m=i then C else if m=j then D else Gs m,⟨λm r=>?_,λa b k F G H c d=>?_,λk c=>⟨jci (h.free k c).1 u.size,λm r s=>?_⟩,λk c=>c.elim⟩,λm k c=>?_,⟨u.os,u.tape,u.output,u.size,λk c=>u.block k (h.free k c).1 (λe=>e.elim ((h.free k c).2 i hi) ((h.free k c).2 j A))⟩,u⟩
 ·by_cases g:m=i
  ·rw[if_pos g,g,L];exact p1
  by_cases l:m=j
  ·rw[if_neg g,if_pos l,l,M];exact O
  rw[if_neg g,if_neg l,N m r g l]
  exact(ps m).kept _ _ _ (h.is m r) (λk c=>u.block k ((ps m).lt _ _ (h.is m r) k c) (λe=>by
   rcases e with e|e
   ·exact h.apart m i k r hi g c e
   exact h.apart m j k r A l c e)) u.size
 ·have B:∀m,m<n->m≠i->m≠j->Gs m k->¬C k/\¬D k:=λm r g l s=>by
   have P:=(ps m).lt _ _ (h.is m r) k s
   constructor
   ·intro e;rcases p2 k e with t|t
    ·exact h.apart m i k r hi g s t
    omega
   intro e;rcases E k e with t|t
   ·exact h.apart m j k r A l s t
   omega
  by_cases y:a=i
  ·rw[if_pos y]at c;have v:b≠i:=λe=>H (y.trans e.symm);rw[if_neg v]at d;by_cases x:b=j
   ·rw[if_pos x]at d;exact J k c d
   rw[if_neg x]at d;exact(B b G v x d).1 c
  rw[if_neg y]at c;by_cases z:a=j
  ·rw[if_pos z]at c;have x:b≠j:=λe=>H (z.trans e.symm);by_cases v:b=i
   ·rw[if_pos v]at d;exact J k d c
   rw[if_neg v,if_neg x]at d;exact(B b G v x d).2 c
  rw[if_neg z]at c;by_cases v:b=i
  ·rw[if_pos v]at d;exact(B a F y z c).1 d
  rw[if_neg v]at d;by_cases x:b=j
  ·rw[if_pos x]at d;exact(B a F y z c).2 d
  rw[if_neg x]at d;exact h.apart a b k F G H c d
 ·have f:=h.free k c;by_cases g:m=i
  ·rw[if_pos g]at s;rcases p2 k s with t|t
   ·exact f.2 i hi t
   have:=f.1;omega
  rw[if_neg g]at s;by_cases l:m=j
  ·rw[if_pos l]at s;rcases E k s with t|t
   ·exact f.2 j A t
   have:=f.1;omega
  rw[if_neg l]at s;exact f.2 m r s
 have c:(if m=i then C else if m=j then D else Gs m) k:=c;by_cases g:m=i
 ·rw[if_pos g]at c;rw[g];exact p2 k c
 rw[if_neg g]at c;by_cases l:m=j
 ·rw[if_pos l]at c;rw[l];exact E k c
 rw[if_neg l]at c;exact .inl c
theorem zh.tj {X':Nat->Prop} (h:zh w n ps Gs X o NoY) (d:∀j k,j<n->Gs j k->w'.heap[k]?=w.heap[k]?) (f:w.heap.size<=w'.heap.size) (b:∀k,X' k->(X k\/w.heap.size<=k)/\k<w'.heap.size):zh w' n ps Gs X' o NoY:=by
 refine⟨λj a=>(ps j).kept _ _ _ (h.is j a) (λk e=>d j k a e) f,h.apart,λk e=>⟨(b k e).2,λj a c=>?_⟩,λk e=>e.elim⟩;rcases(b k e).1 with q|q
 ·exact(h.free k q).2 j a c
 have:=(ps j).lt _ _ (h.is j a) k c;omega
end
end
def q1e (site a0 a1 a2 a3:Int):ByteArray:=(⟨#[97]⟩:ByteArray)++qcq 5 site++qcq 5 a0++qcq 5 a1++qcq 5 a2++qcq 5 a3
section
abbrev qbs (f:Nat) (n:Int):List UInt8:=toL (qcq f n)
variable {f:Nat} {n:Int}
theorem qn1 (h:n<128):qbs f n=[UInt8.ofNat n.toNat]:=by
 show toL (qcq f n)=_;rw[qtw h];rfl
theorem q0c (h:¬n<128):qbs (f+1) n=UInt8.ofNat (n%128+128).toNat::qbs f (n/128):=by
 show toL (qcq (f+1) n)=_;rw[qr8 h,qif];rfl
def qb3:Nat->List UInt8->Option (Int×List UInt8)
 |_,[]=>none
 |0,c::r=>if c.toNat<128 then some (c.toNat,r)else none
 |f+1,c::r=>if c.toNat<128 then some (c.toNat,r)else
  match qb3 f r with
  |none=>none
  |some (n,r')=>if n=0 then none else some ((c.toNat:Int)-128+128*n,r')
theorem q5v (c:0<=n) (d:n<256):((UInt8.ofNat n.toNat).toNat:Int)=n:=by
 rw[UInt8.toNat_ofNat',Nat.mod_eq_of_lt (by omega),Int.toNat_of_nonneg c]
theorem qtf:∀(f:Nat) (n:Int) (r:List UInt8),0<=n->n<128^(f+1)->qb3 f (qbs f n++r)=some (n,r)
 |0,n,r,h0,h1=>by
  have c:n<128:=by simpa using h1
  have e:=q5v h0 (by omega);rw[qn1 c,List.singleton_append];unfold qb3;rw[if_pos (by omega),e]
 |f+1,n,r,h0,h1=>by
  by_cases h:n<128
  ·have e:=q5v h0 (by omega);rw[qn1 h,List.singleton_append];unfold qb3;rw[if_pos (by omega),e]
  have d:(128:Int)^(f+1+1)=128^(f+1)*128:=Int.pow_succ 128 (f+1);rw[d]at h1;have e:=q5v (n:=n%128+128) (by omega) (by omega);rw[q0c h,jdj];unfold qb3;rw[if_neg (by omega),qtf f (n/128) r (by omega) (by omega)];simp only;rw[if_neg (by omega),e]
  congr 2
  omega
theorem qlk:∀(f:Nat) (L:List UInt8) (n:Int) (r:List UInt8),qb3 f L=some (n,r)->(0<=n/\n<128^(f+1))/\L=qbs f n++r
 |0,[],n,r,h=>by simp[qb3]at h
 |f+1,[],n,r,h=>by simp[qb3]at h
 |0,c::l,n,r,h=>by
  unfold qb3 at h;split at h
  ·injection h with h;injection h with h1 h2;subst h1 h2;refine⟨⟨by omega,by simp;omega⟩,?_⟩;rw[qn1 (by omega)];simp
  cases h
 |f+1,c::l,n,r,h=>by
  have d:(128:Int)^(f+1+1)=128^(f+1)*128:=Int.pow_succ 128 (f+1);have k:(1:Int)<=128^(f+1):=Int.pow_pos (by decide);unfold qb3 at h;split at h
  ·injection h with h;injection h with h1 h2;subst h1 h2;refine⟨⟨by omega,by rw[d];omega⟩,?_⟩;rw[qn1 (by omega)];simp
  cases e:qb3 f l with
  |none=>rw[e]at h;cases h
  |some y=>
   obtain⟨m,g⟩:=y;rw[e]at h;simp only at h;split at h
   ·cases h
   injection h with h;injection h with h1 h2;subst h2;obtain⟨⟨o,p⟩,i⟩:=qlk f l m g e;have s:=c.toNat_lt
   have q:n/128=m:=by omega
   have j:n%128+128=c.toNat:=by omega
   refine⟨⟨by omega,by rw[d];omega⟩,?_⟩;rw[q0c (by omega),q,j,i];simp
theorem jar:(128:Int)^(5+1)=4398046511104:=by decide
variable {a b:List UInt8}
theorem za {m:Int} (h:qbs 5 n++a=qbs 5 m++b) (d:0<=n/\n<=1099511627776) (e:0<=m/\m<=1099511627776):n=m/\a=b:=by
 have c:=qtf 5 n a d.1 (by rw[jar];omega);have g:=qtf 5 m b e.1 (by rw[jar];omega);rw[h,g]at c;injection c with c;injection c with e3 e4;exact⟨e3.symm,e4.symm⟩
def wrL (x:Wr):List UInt8:=qbs 5 x.key++(qbs 5 (if x.gone then 1 else 0)++(qbs 5 (x.data.size:Int)++toL x.data))
def qhc (l:List Wr):List UInt8:=l.flatMap wrL
theorem q5h (g:Bool):toL (qv6 g)=qbs 5 (if g then 1 else 0):=by cases g<;>rfl
theorem q1g (s:ByteArray) (x:Wr):toL (stepS s x)=toL s++wrL x:=by
 simp only[stepS,wrL,qif,q5h,jcy]
theorem q8a (s:ByteArray) (l:List Wr):toL (wrS s l)=toL s++qhc l:=by
 induction l generalizing s with
 |nil=>simp[wrS,qhc]
 |cons x l ih=>
  have e:=ih (stepS s x);rw[q1g]at e;show toL (wrS (stepS s x) l)=_;rw[e];simp[qhc]
def qrk (site seq wall count d0 d1 d2 d3 n:Int) (r:List UInt8):List UInt8:=116::(qbs 5 site++(qbs 5 seq++(qbs 5 wall++(qbs 5 count++(qbs 5 d0++(qbs 5 d1++(qbs 5 d2++(qbs 5 d3++(qbs 5 n++r)))))))))
theorem qkb (c d wall e g h i j:Int) (l:List Wr):toL (txS c d wall e g h i j l)=qrk c d wall e g h i j l.length (qhc l):=by
 unfold txS;rw[q8a];have z:toL (⟨#[116]⟩:ByteArray)=[116]:=rfl;simp only[qnh,qrk,qif,jcy,z,jdj,jda]
def q1a (site a0 a1 a2 a3:Int) (r:List UInt8):List UInt8:=97::(qbs 5 site++(qbs 5 a0++(qbs 5 a1++(qbs 5 a2++(qbs 5 a3++r)))))
theorem qhy (c a0 a1 a2 a3:Int):toL (q1e c a0 a1 a2 a3)=q1a c a0 a1 a2 a3 []:=by
 have z:toL (⟨#[97]⟩:ByteArray)=[97]:=rfl;simp only[q1e,q1a,qif,jcy,z,jdj,jda,jdx]
structure TxV where
 site:Int
 seq:Int
 wall:Int
 count:Int
 d0:Int
 d1:Int
 d2:Int
 d3:Int
 l:List Wr
def TxV.ok (x:TxV):Bool:=jt x.site x.seq x.wall x.count x.d0 x.d1 x.d2 x.d3 x.l
def TxV.bytes (x:TxV):ByteArray:=txS x.site x.seq x.wall x.count x.d0 x.d1 x.d2 x.d3 x.l
def ql3 (L:List UInt8) (x:TxV):Prop:=x.ok=true/\toL x.bytes=L
theorem jav {x y:Wr} (h:wrL x++a=wrL y++b) (j:0<=x.key/\x.key<=7/\x.data.size<=12) (l:0<=y.key/\y.key<=7/\y.data.size<=12):x=y/\a=b:=by
 simp only[wrL,jcy]at h;obtain⟨e,h⟩:=za h ⟨j.1,by omega⟩ ⟨l.1,by omega⟩;obtain⟨c,h⟩:=za h (by cases x.gone<;>decide) (by cases y.gone<;>decide);obtain⟨p,h⟩:=za h ⟨by omega,by omega⟩ ⟨by omega,by omega⟩;obtain⟨i,m⟩:=List.append_inj h (by rw[yh,yh];omega);refine⟨?_,m⟩;obtain⟨k,d,g⟩:=x;obtain⟨q,d',g'⟩:=y;simp only at e c i
 have o:g=g':=by
  cases g<;>cases g'
  ·rfl
  ·simp at c
  ·simp at c
  rfl
 rw[e,qsh i,o]
theorem qz1:∀(l m:List Wr) (a b:List UInt8),l.length=m.length->qhc l++a=qhc m++b->(∀x∈l,0<=x.key/\x.key<=7/\x.data.size<=12)->(∀x∈m,0<=x.key/\x.key<=7/\x.data.size<=12)->l=m/\a=b
 |[],[],a,b,_,h,_,_=>⟨rfl,h⟩
 |[],_::_,_,_,hl,_,_,_=>by simp at hl
 |_::_,[],_,_,hl,_,_,_=>by simp at hl
 |x::l,y::m,a,b,hl,h,hx,hy=>by
  have d:qhc (x::l)++a=wrL x++(qhc l++a):=by simp[qhc]
  have e:qhc (y::m)++b=wrL y++(qhc m++b):=by simp[qhc]
  rw[d,e]at h;obtain⟨g,i⟩:=jav h (hx x (by simp)) (hy y (by simp));obtain⟨j,k⟩:=qz1 l m a b (by simpa using hl) i (λz c=>hx z (by simp[c])) (λz c=>hy z (by simp[c]));exact⟨by rw[g,j],k⟩
theorem qob {l:List Wr} (h:qad l=true):∀x∈l,0<=x.key/\x.key<=7/\x.data.size<=12:=λx g=>by
 obtain⟨i,hi,rfl⟩:=jdm.1 g
 have e:qa7 l i=l[i]:=by simp[qa7,List.getD,List.getElem?_eq_getElem hi]
 have c:=qoy (qkl h i hi);have d:=qmq (qkl h i hi);rw[e]at c d;exact⟨c.1,c.2,d⟩
variable {x:TxV}
theorem qlw (h:x.ok=true):(0<=x.site/\x.site<=3)/\(1<=x.seq/\x.seq<=1099511627776)/\(0<=x.wall/\x.wall<=1099511627776)/\(0<=x.count/\x.count<=1099511627776)/\(0<=x.d0/\x.d0<=1099511627776)/\(0<=x.d1/\x.d1<=1099511627776)/\(0<=x.d2/\x.d2<=1099511627776)/\(0<=x.d3/\x.d3<=1099511627776)/\qad x.l=true:=by
 simp only[TxV.ok,jt,jct,jk,jb,qdz]at h;obtain⟨⟨⟨⟨⟨c,d⟩,e,g⟩,⟨⟨i,j⟩,k⟩,m⟩,_⟩,o⟩:=h;exact⟨c,d,e,g,i,j,k,m,o⟩
variable {r:List UInt8}
theorem q1c {y:TxV} (s:x.ok=true) (t:y.ok=true) (h:toL x.bytes=toL y.bytes++r):x=y/\r=[]:=by
 obtain⟨a1,a2,a3,u,v,w,z,A,c⟩:=qlw s;obtain⟨B,C,D,E,F,G,H,I,d⟩:=qlw t;have l1:=qjz c;have J:=qjz d;rw[TxV.bytes,TxV.bytes,qkb,qkb]at h;simp only[qrk,jdj,jcy,List.cons.injEq,true_and]at h;obtain⟨e,h⟩:=za h ⟨a1.1,by omega⟩ ⟨B.1,by omega⟩;obtain⟨g,h⟩:=za h ⟨by omega,a2.2⟩ ⟨by omega,C.2⟩;obtain⟨i,h⟩:=za h a3 D;obtain⟨j,h⟩:=za h u E;obtain⟨k,h⟩:=za h v F;obtain⟨m,h⟩:=za h w G;obtain⟨o,h⟩:=za h z H;obtain⟨p,h⟩:=za h A I;obtain⟨K,h⟩:=za h ⟨by omega,by omega⟩ ⟨by omega,by omega⟩;obtain⟨q,h⟩:=qz1 x.l y.l [] r (by omega) (by simpa using h) (qob c) (qob d);refine⟨?_,h.symm⟩;obtain⟨_,_,_,_,_,_,_,_,_⟩:=x;obtain⟨_,_,_,_,_,_,_,_,_⟩:=y;simp only at e g i j k m o p q;subst e g i j k m o p q;rfl
variable {L:List UInt8}
theorem q6h {y:TxV} (c:ql3 L x) (d:ql3 L y):x=y:=(q1c c.1 d.1 (r:=[]) (by rw[c.2,d.2,jdx])).1
structure qho where
 site:Int
 a0:Int
 a1:Int
 a2:Int
 a3:Int
def qho.ok (x:qho):Bool:=inB x.site 0 3&&jb x.a0 x.a1 x.a2 x.a3
def qho.bytes (x:qho):ByteArray:=q1e x.site x.a0 x.a1 x.a2 x.a3
def qdj (L:List UInt8) (x:qho):Prop:=x.ok=true/\toL x.bytes=L
theorem qmo {x:qho} (h:x.ok=true):(0<=x.site/\x.site<=3)/\(0<=x.a0/\x.a0<=1099511627776)/\(0<=x.a1/\x.a1<=1099511627776)/\(0<=x.a2/\x.a2<=1099511627776)/\(0<=x.a3/\x.a3<=1099511627776):=by
 simp only[qho.ok,jct,jk,jb,qdz]at h;obtain⟨c,⟨⟨d,e⟩,g⟩,i⟩:=h;exact⟨c,d,e,g,i⟩
variable {y:qho}
theorem qyx {x:qho} (j:x.ok=true) (k:y.ok=true) (h:toL x.bytes=toL y.bytes++r):x=y/\r=[]:=by
 obtain⟨a1,a2,a3,l,m⟩:=qmo j;obtain⟨o,p,q,s,t⟩:=qmo k;rw[qho.bytes,qho.bytes,qhy,qhy]at h;simp only[q1a,jdj,jcy,List.cons.injEq,true_and,jda]at h;obtain⟨c,h⟩:=za h ⟨a1.1,by omega⟩ ⟨o.1,by omega⟩;obtain⟨d,h⟩:=za h a2 p;obtain⟨e,h⟩:=za h a3 q;obtain⟨g,h⟩:=za h l s;obtain⟨i,h⟩:=za h m t;refine⟨?_,h.symm⟩;obtain⟨_,_,_,_,_⟩:=x;obtain⟨_,_,_,_,_⟩:=y;simp only at c d e g i;subst c d e g i;rfl
theorem qwl {x:qho} (c:qdj L x) (d:qdj L y):x=y:=(qyx c.1 d.1 (r:=[]) (by rw[c.2,d.2,jdx])).1
theorem qzw (c:ql3 L x) (d:qdj L y):False:=by
 have h:=c.2.trans d.2.symm;rw[TxV.bytes,qho.bytes,qkb,qhy]at h;simp[qrk,q1a]at h
end
open Go.RowKit
theorem qpd {x:Int} (a:0<=x) (c:x<=1099511627776):wrap64 (x+1)=x+1:=by
 unfold wrap64;omega
variable {W:World} {b:Nat}
theorem qiu {k:Nat} (h:k≠b) (x0 x1 x2 x3 a c d e:Int) (v:Value):(js W b x0 x1 x2 x3 a c d e v).heap[k]?=W.heap[k]?:=
 (jce _ _ _ _ h).trans ((jce _ _ _ _ h).trans ((jce _ _ _ _ h).trans ((jce _ _ _ _ h).trans ((jce _ _ _ _ h).trans ((jce _ _ _ _ h).trans ((jce _ _ _ _ h).trans ((jce _ _ _ _ h).trans (jce _ _ _ _ h))))))))
variable {w:World}
theorem qjn {g c:Nat} {ws:List Wr} (h:w.ownsRow 0 100 3 (.slice (PT g) (0+ws.length) c) (0+ws.length) ([]++qcf ws)):qr w (PT g) c ws:=by
 rw[Nat.zero_add,jda]at h;obtain⟨a,f,e,d⟩:=qbg h;injection e with e1 e2 e3;subst e1 e3;exact d
variable {F:Nat->Prop}
theorem qbh {p:Addr} (h:qc F w W) (d:w.heap.size<=p.block) (v:Value):qc F w (W.setCell p v):=
 ⟨h.os,h.tape,h.output,by simpa[World.setCell]using h.size,λk a c=>(jce _ _ _ _ (by omega)).trans (h.block k a c)⟩
theorem q2r (h:qc F w W) (a:w.heap.size<=b) (x0 x1 x2 x3 c d e f:Int) (v:Value):qc F w (js W b x0 x1 x2 x3 c d e f v):=
 qbh (qbh (qbh (qbh (qbh (qbh (qbh (qbh (qbh h a _) a _) a _) a _) a _) a _) a _) a _) a _
end Go.Proofs.YtoanjdndmlffdaaGreatDoor
