import Derived.Test.YtbfkeoagmajcpaaGreatDoorKAx
import Derived.Test.YtbfkeoagmajcpaaGreatDoorProg
import Derived.WalkSpells
import Derived.WalkLawsBesides
import Derived.Deep.AppendLies
import Derived.Lib.SmallJoins
import Derived.Lib.Overlaps
import Derived.Lib.AppendZerosOnto
import Derived.Shelf.RegionOpen
import Derived.Lib.JoinLaws
import Derived.RangeFuncNested
import Derived.RangeFuncBound
import Derived.OwnWalkIn
import Derived.LoopNIn
import Derived.LoopIn
set_option maxHeartbeats 8000000
set_option maxRecDepth 100000
set_option linter.defProp false
namespace Go.Proofs.YtbfkeoagmajcpaaGreatDoor
variable {B b g i k p:Nat} {P:Pq} {Q:Exit->Act->Wv} {T:Tp} {W w w':Wl} {a:Act} {a0 a1 a2 a3 n s x:Int} {v:Vl}
section
open Go.Value Go.IntKind Go.RowKit
variable {A:Prop}
def hd1 (a:A):Hid (A):=a
variable {B:Prop}
def hd2 (a:A) (b:B):Hid (A/\B):=⟨a,b⟩
variable {C:Prop}
def hd3 (a:A) (b:B) (c:C):Hid (A/\B/\C):=⟨a,b,c⟩
variable {D:Prop}
def hd4 (a:A) (b:B) (c:C) (d:D):Hid (A/\B/\C/\D):=⟨a,b,c,d⟩
variable {E:Prop}
def hd5 (a:A) (b:B) (c:C) (d:D) (e:E):Hid (A/\B/\C/\D/\E):=⟨a,b,c,d,e⟩
variable {F:Prop}
def hd6 (a:A) (b:B) (c:C) (d:D) (e:E) (f:F):Hid (A/\B/\C/\D/\E/\F):=⟨a,b,c,d,e,f⟩
variable {G:Prop}
def hd7 (a:A) (b:B) (c:C) (d:D) (e:E) (f:F) (g:G):Hid (A/\B/\C/\D/\E/\F/\G):=⟨a,b,c,d,e,f,g⟩
variable {H:Prop}
def hd8 (a:A) (b:B) (c:C) (d:D) (e:E) (f:F) (g:G) (h:H):Hid (A/\B/\C/\D/\E/\F/\G/\H):=⟨a,b,c,d,e,f,g,h⟩
def o9 {p:Prop} (h:p:=by go_simp):p:=h
def oI {p:Prop} (h:p:=by go_num):p:=h
abbrev Bw (w w':World):Prop:=Below w.heap.size w w'
abbrev U (x:Int):Value:=int i64 x
abbrev AD (b o:Nat):Addr:=⟨b,o,none⟩
abbrev PT (b:Nat):Option Addr:=some ⟨b,0,none⟩
abbrev PP (b:Nat):Value:=.pointer (some ⟨b,0,none⟩)
abbrev Ca (f:FuncId) (a:Array Value) (w:World) (Q:Ending->World->Prop):Prop:=Calls Tryz.prog f a w Q
abbrev ZA:Array Value:=#[int i64 0,int i64 0,int i64 0,int i64 0,int i64 0,int i64 0,int i64 0,int i64 0,.slice none 0 0]
abbrev ZL:List Value:=[int i64 0,int i64 0,int i64 0,int i64 0,int i64 0,int i64 0,int i64 0,int i64 0,.slice none 0 0]
abbrev YA:Array Value:=#[int i64 0,int i64 0,int i64 0,int i64 0,.string ⟨#[]⟩,.bool false]
abbrev YL:List Value:=[int i64 0,int i64 0,int i64 0,int i64 0,.string ⟨#[]⟩,.bool false]
abbrev T9 (a b c d e f g h:Int) (p:Option Addr) (n k:Nat):List Value:=[int i64 a,int i64 b,int i64 c,int i64 d,int i64 e,int i64 f,int i64 g,int i64 h,.slice p n k]
abbrev _root_.Go.World.nu (w:World) (a:Array Value) (T:TypeId):World:=w.alloc (.cells a T)
abbrev Rn (v:Value) (w:World) (e:Ending) (w':World):Prop:=e=.returned v/\Below w.heap.size w w'
def jde:=@Array.getElem?_eq_getElem
def jcs:=@Array.getElem?_eq_some_iff
def jc6:=@Go.RowKit.Below.drew
def jdg:=@Go.RowKit.Below.heap_alloc
def jce:=@Go.RowKit.Below.heap_setCell
def jcc:=@Go.RowKit.Below.refl
def jdz:=@Go.RowKit.Below.setCell
def jct:=@Bool.and_eq_true
def jc4:=@ByteArray.size_append
def jdl:=@Iff.rfl
def jcy:=@List.append_assoc
def jdx:=@List.append_nil
def jdj:=@List.cons_append
def jdy:=@List.drop_eq_getElem_cons
def jdw:=@List.drop_eq_nil_of_le
def jc2:=@List.eq_nil_of_length_eq_zero
def jdf:=@List.eraseIdx_eq_take_drop_succ
def jdk:=@List.filter_append
def jdp:=@List.getD_eq_getElem?_getD
def jc3:=@List.getElem?_append_left
def jc0:=@List.getElem?_append_right
def jcg:=@List.getElem?_eq_getElem
def jck:=@List.getElem?_eq_some_iff
def jcv:=@List.getElem?_map
def jdr:=@List.getElem_mem
def jcl:=@List.length_append
def jdt:=@List.length_drop
def jdo:=@List.length_filter_le
def jdh:=@List.length_map
def jc5:=@List.length_take
def jdb:=@List.map_append
def jcf:=@List.mem_append
def jdd:=@List.mem_cons
def jdc:=@List.mem_cons_of_mem
def jdq:=@List.mem_filter
def jdm:=@List.mem_iff_getElem
def jcz:=@List.mem_map
def jcq:=@List.mem_of_getElem?
def jdn:=@List.mem_of_mem_eraseIdx
def jcj:=@List.mem_singleton
def jda:=@List.nil_append
def jdv:=@List.pairwise_cons
def jdu:=@List.take_add_one
def jds:=@List.take_append_drop
def jc9:=@List.take_length
def jc1:=@List.take_succ_eq_append_getElem
def jcd:=@Nat.le_refl
def jcn:=@Nat.le_trans
def jci:=@Nat.lt_of_lt_of_le
def jc7:=@Nat.lt_or_ge
def jcw:=@Nat.zero_le
def jcu:=@Option.some.inj
def jcr:=@Go.World.block_lt_of_cell?
def jch:=@Go.World.cell?_of_block
def jco:=@Go.World.cell?_setCell_other
def jc8:=@Go.World.cell?_setCell_same
def jcp:=@Go.World.frozen?_of_block
def jcm:=@Go.World.frozen?_setCell
def jcx:=@Go.World.ownsRow_nil
def jdi:=@Go.World.size_alloc
def Wf (i:Nat) {P:Program} {m:Region.Mode} {o:Array Oper} {Q:Exit->Act->World->Prop} {x:Oper} {v:Value} {n:Nat} {l:Array Bool} {a:Act} {w:World} (h:wpAny P m o Q n (l.setIfInBounds i true) (a.put x.dst v) w) (b:o[i]?=some x:=by rfl) (c:Region.noSelect o=true:=by kernel_rfl) (d:Region.free m o l i=true:=by kernel_rfl) (e:(Region.ready m o l).contains i=true:=by kernel_rfl) (f:∀c a w,Q (.panic c) (a.put x.dst v) w->Q (.panic c) a w:=by exact λ_ _ _ h=>h) (g:Region.wanted x (yielded o a.tmps)=true:=by rfl) (j:∀w,(execOp a.eval x).run P w=.ok (.value v) w:=by intro w0;first|(go_simp;done)|(go_simp;with_reducible rfl)):wpAny P m o Q (n+1) l a w:=wpAny_take b c d e f (.inl ⟨g,j⟩) h
end
section
def jd (x y:Int):Int:=if x<y then y else x
def qm (x y:Int):Int:=if y<x then y else x
variable {y:Int}
def qia (h:x<y):jd x y=y:=if_pos h
def qh1 (h:¬x<y):jd x y=x:=if_neg h
def qj1 (h:y<x):qm x y=y:=if_pos h
def qjp (h:¬y<x):qm x y=x:=if_neg h
def qa8 (a0 a1 a2 a3 b0 b1 b2 b3:Int):Bool:=decide (b0<=a0)&&decide (b1<=a1)&&decide (b2<=a2)&&decide (b3<=a3)
def qic (x y:Int):Int:=if x<y then-1 else if y<x then 1 else 0
def qdr (aw ac bw bc:Int):Int:=if qic aw bw=0 then qic ac bc else qic aw bw
def qi (n:Int):Bool:=decide (0<=n)&&decide (n<=1099511627776)
def qz9 (h:x<y):qic x y= -1:=by unfold qic;rw[if_pos h]
def qz3 (h:y<x):qic x y=1:=by unfold qic;rw[if_neg oe,if_pos h]
def q0h (x:Int):qic x x=0:=by unfold qic;rw[if_neg oe,if_neg oe]
def jb (a0 a1 a2 a3:Int):Bool:=qi a0&&qi a1&&qi a2&&qi a3
def qf7 (a:0<=n) (b:n<=1099511627776):qi n=true:=by simp[qi,a,b]
def qdz:qi n=true↔0<=n/\n<=1099511627776:=by simp[qi]
def qil (x y:Int):(x<y/\qic x y= -1)\/(x=y/\qic x y=0)\/(y<x/\qic x y=1):=by
 obtain h|h|h:=Int.lt_trichotomy x y
 .exact .inl ⟨h,qz9 h⟩
 .subst h;exact .inr (.inl ⟨rfl,q0h x⟩)
 exact .inr (.inr ⟨h,qz3 h⟩)
def qcw (a c b d:Int):
 ((a<b\/a=b/\c<d)/\qdr a c b d= -1)\/((a=b/\c=d)/\qdr a c b d=0)\/((b<a\/a=b/\d<c)/\qdr a c b d=1):=by
 have i:=qil a b;have j:=qil c d;unfold qdr;obtain⟨h,e⟩|⟨h,e⟩|⟨h,e⟩:=i
 .exact .inl ⟨.inl h,mi⟩
 .obtain⟨g,f⟩|⟨g,f⟩|⟨g,f⟩:=j
  .exact .inl ⟨.inr ⟨h,g⟩,by rw[if_pos e,f]⟩
  .exact .inr (.inl ⟨⟨h,g⟩,by rw[if_pos e,f]⟩)
  exact .inr (.inr ⟨.inr ⟨h,g⟩,by rw[if_pos e,f]⟩)
 exact .inr (.inr ⟨.inl h,mi⟩)
end
section
open Go.RowKit
structure qb (W:Wl) where
 val:Wl
 below:Bw W val
theorem qb.one (W:Wl):Nonempty (qb W):=⟨⟨W,jcc _ _⟩⟩
def qb.cell {p:Addr} (h:W.cell? p=some v) (x:qb W):x.val.cell? p=some v:=cell_later x.below h
variable {i:Wl}
def qa {e:Wl} (c:Bw w i) (d:Bw i e):Bw w e:=c.trans (d.mono c.size)
def boxed (c:Bw w i) (o:Obj):Bw w (i.alloc o):=c.alloc c.size o
variable {id:Nat} {l:List Oper}
def qnr (c:P.follows .mixedOrders=true) (d:Region.lexB .any l.toArray=true)
 (h:wpQuiet P l.toArray (λw'=>∃x:qb w,w'=x.val) (λe=>∀w',(∃x:qb w,w'=x.val)->Q .normal e w') l a):(Code.region id l.toArray true).wp P Q a w:=
 wp_region_quiet (C:=λw'=>∃x:qb w,w'=x.val) c d ⟨⟨w.drew,(jcc _ _).drew⟩,rfl⟩ oM
def qg {f:Fi} {args:Av} {x:qb w}
 (h:Calls P f args x.val λe w'=>e=.returned v/\Below x.val.heap.size x.val w'):Calls P f args x.val λe c=>e=.returned v/\∃y:qb w,c=y.val:=
 h.mono λ_ c ⟨d,g⟩=>⟨d,⟨c,qa x.below g⟩,rfl⟩
def qdb (c:Bw W i):(∀b o,b<W.heap.size->i.cell? (AD b o)=W.cell? (AD b o))/\(∀b o,b<W.heap.size->i.frozen? (AD b o)=W.frozen? (AD b o)):=
 ⟨λb o h=>c.cell (p:=AD b o) h,λb o h=>c.frozen (p:=AD b o) h⟩
def blt (c:Bw W i):∀b,b<W.heap.size->b<i.heap.size:=λ_ h=>jci h c.size
def bne (c:Bw W i):∀b,b<W.heap.size->¬b=i.heap.size:=λb h=>Nat.ne_of_lt (blt c b h)
def jbf (c:Bw W i):∀b,b<W.heap.size->¬i.heap.size=b:=λb h=>Nat.ne_of_gt (blt c b h)
variable {b:Obj}
def qhb {a:Obj} (c:Below ((w.alloc a).alloc b).heap.size ((w.alloc a).alloc b) i):Bw w i:=
 (((jcc _ _).alloc (jcd _) _).alloc oi _).trans (c.mono ou)
def qs1 {a c:Obj} (d:Below (((w.alloc a).alloc b).alloc c).heap.size (((w.alloc a).alloc b).alloc c) i):Bw w i:=
 ((((jcc _ _).alloc (jcd _) _).alloc oi _).alloc ou _).trans (d.mono ou)
def jy {B:Nat} {a:Wl} (n:Nat) (h:Below B a w):Below B a (w.drewN n):=⟨h.os,h.tape,h.output,h.size,h.block⟩
def wrl (h:wpQuiet P l.toArray (λw'=>∃x:qb w,w'=x.val) (λc=>∀w',(∃x:qb w,w'=x.val)->Q .normal c w') l a) (d:P.follows .mixedOrders=true:=by kernel_rfl) (e:Region.lexB .any l.toArray=true:=by kernel_rfl):(Code.region id l.toArray true).wp P Q a w:=qnr d e h
end
section
def qft (n:Int):By:=⟨#[UInt8.ofNat n.toNat]⟩
def qcq:Nat->Int->By
 |0,n=>qft n
 |f+1,n=>if n<128 then qft n else qft (n%128+128)++qcq f (n/128)
variable {f:Nat}
def qtw (h:n<128):qcq f n=qft n:=by
 cases f with
 |zero=>rfl
 |succ f=>exact if_pos h
def qr8 (h:¬n<128):qcq (f+1) n=qft (n%128+128)++qcq f (n/128):=if_neg h
def qcx (n:Int):(qft n).size=1:=rfl
def vo (f:Nat) (n:Int):(qcq f n).size<=f+1:=by
 induction f generalizing n with
 |zero=>exact jcd 1
 |succ f ih=>
  by_cases h:n<128
  .rw[qtw h,qcx];omega
  rw[qr8 h,jc4,qcx];have:=ih (n/128);omega
def qfi {P:Pq} (a b:By) (h:a.size+b.size<=1000000) (w:Wl):(Op.stringOp .add a b).run P w=.ok (.string (a++b)) w:=
 run_string_add_sum w a b oe
end
section
open Go.RowKit
def inB (n lo hi:Int):Bool:=decide (lo<=n)&&decide (n<=hi)
def jk {n a b:Int}:inB n a b=true↔a<=n/\n<=b:=by simp[inB]
structure Wr where
 key:Int
 data:By
 gone:Bool
def qa7 (l:List Wr) (i:Nat):Wr:=l.getD i ⟨0,⟨#[]⟩,false⟩
def qbo (w:Wl) (b off:Nat) (l:List Wr):Prop:=
 ∀i,i<l.length->w.cell? (AD b (off+i*3))=some (U (qa7 l i).key)/\w.cell? (AD b (off+i*3+1))=some (.string (qa7 l i).data)/\w.cell? (AD b (off+i*3+1+1))=some (.bool (qa7 l i).gone)
variable {l:List Wr}
def qbo.later {b c:Nat} (a:Bw w w') (h:qbo w b c l):qbo w' b c l:=λi d=>
 ⟨cell_later a (h i d).1,cell_later a (h i d).2.1,cell_later a (h i d).2.2⟩
def qdd (l:List Wr) (i:Nat):Bool:=
 inB (qa7 l i).key 0 7&&!(decide (0<i)&&decide ((qa7 l i).key<=(qa7 l (i-1)).key))&&decide ((qa7 l i).data.size<=12)&&!((qa7 l i).gone&&!(qa7 l i).data.toList.isEmpty)
def qad (l:List Wr):Bool:=(List.range l.length).all (qdd l)&&inB l.length 1 5
def qef (a:k<l.length) (h:qdd l k=false):qad l=false:=by
 have e:(List.range l.length).all (qdd l)=false:=by
  rw[List.all_eq_false];exact⟨k,mT.2 a,by simp[h]⟩
 simp[qad,e]
def qvh (h:∀j,j<l.length->qdd l j=true):qad l=inB l.length 1 5:=by
 have e:(List.range l.length).all (qdd l)=true:=by
  rw[mW];exact λj a=>h j (mT.1 a)
 simp[qad,e]
def okV (k:Nat) (prev:Int) (x:Wr):Bool:=
 inB x.key 0 7&&!(decide (0<k)&&decide (x.key<=prev))&&decide (x.data.size<=12)&&!(x.gone&&!x.data.toList.isEmpty)
def ql6 {x:Wr} (h:qa7 l k=x):qdd l k=okV k (qa7 l (k-1)).key x:=by rw[<-h];rfl
variable {p:Int}
def qso {a:Int} {data:By} {gone:Bool} (h:inB a 0 7=false):okV k p ⟨a,data,gone⟩=false:=by simp[okV,h]
def qvf {b:Int} {data:By} {gone:Bool} (a:0<k) (h:b<=p):okV k p ⟨b,data,gone⟩=false:=by simp[okV,a,h]
def qtz {a:Int} {data:By} {gone:Bool} (h:12<(data.size:Int)):okV k p ⟨a,data,gone⟩=false:=by
 have e:decide (data.size<=12)=false:=decide_eq_false oe;simp[okV,e]
def qpo {b:Int} {data:By} {gone:Bool} (h:gone=true) (a:data.toList.isEmpty=false):okV k p ⟨b,data,gone⟩=false:=by simp[okV,h,a]
def qhr {i:Int} {data:By} {gone:Bool} (h:inB i 0 7=true) (a:k=0\/¬i<=p) (f:¬12<(data.size:Int)) (b:gone=false\/data.toList.isEmpty=true):okV k p ⟨i,data,gone⟩=true:=by
 have e:decide (data.size<=12)=true:=decide_eq_true oe;have c:(!(decide (0<k)&&decide (i<=p)))=true:=by
  obtain a|a:=a
  .simp[a]
  simp only[decide_eq_false a,Bool.and_false,Bool.not_false]
 have d:(!(gone&&!data.toList.isEmpty))=true:=by
  obtain b|b:=b<;>simp[b]
 simp only[okV,h,e,c,d,Bool.and_self]
def qmg (h:∀j,j<k->qdd l j=true) (b:qdd l k=true):∀j,j<k+1->qdd l j=true:=λj c=>by
 obtain a|a:=jc7 j k
 .exact h j a
 obtain rfl:j=k:=oe;exact b
structure qr (w:Wl) (a:Oa) (cap:Nat) (l:List Wr):Prop where
 len:l.length<=cap
 cap:cap<=9223372036854775807
 held:l=[]\/∃b off,a=some (AD b off)/\qbo w b off l
def qr.later {a:Oa} {i:Nat} (d:Bw w w') (h:qr w a i l):qr w' a i l:=
 ⟨h.len,h.cap,h.held.elim .inl λ⟨b,f,e,c⟩=>.inr ⟨b,f,e,c.later d⟩⟩
def qp (site d0 d1 d2 d3:Int):Int:=if site=0 then d0 else if site=1 then d1 else if site=2 then d2 else d3
def jt (site seq wall count d0 d1 d2 d3:Int) (l:List Wr):Bool:=
 inB site 0 3&&inB seq 1 1099511627776&&(qi wall&&qi count)&&jb d0 d1 d2 d3&&decide (qp site d0 d1 d2 d3=seq-1)&&qad l
def qv6 (g:Bool):By:=if g then ⟨#[1]⟩else ⟨#[0]⟩
def stepS (s:By) (x:Wr):By:=s++qcq 5 x.key++qv6 x.gone++(qcq 5 (x.data.size:Int)++x.data)
def wrS (s:By) (l:List Wr):By:=l.foldl stepS s
def qnh (site seq wall count d0 d1 d2 d3:Int) (n:Int):By:=(⟨#[116]⟩:By)++qcq 5 site++qcq 5 seq++qcq 5 wall++qcq 5 count++qcq 5 d0++qcq 5 d1++qcq 5 d2++qcq 5 d3++qcq 5 n
def txS (site seq wall count d0 d1 d2 d3:Int) (l:List Wr):By:=wrS (qnh site seq wall count d0 d1 d2 d3 l.length) l
def qw1 (g:Bool):(qv6 g).size=1:=by cases g<;>rfl
variable {s:By}
def qu5 (a:k<l.length):wrS s (l.take (k+1))=stepS (wrS s (l.take k)) (qa7 l k):=by
 unfold wrS;rw[jc1 a,List.foldl_append];simp[qa7,List.getD,List.getElem?_eq_getElem a]
def qw4 (s:By) (x:Wr) (h:x.data.size<=12):(stepS s x).size<=s.size+25:=by
 have a:=vo 5 x.key;have b:=vo 5 (x.data.size:Int);simp only[stepS,jc4,qw1];omega
def qmq (h:qdd l k=true):(qa7 l k).data.size<=12:=by
 simp only[qdd,jct,decide_eq_true_eq]at h;exact h.1.2
def qoy (h:qdd l k=true):0<=(qa7 l k).key/\(qa7 l k).key<=7:=by
 simp only[qdd,jct,jk]at h;exact h.1.1.1
def qor {s:By} {l:List Wr} (h:∀j,j<l.length->qdd l j=true):∀k,k<=l.length->(wrS s (l.take k)).size<=s.size+25*k
 |0,_=>by simp[wrS]
 |k+1,hk=>by
  rw[qu5 oe];have a:=qor (s:=s) h k oe;have b:=qw4 (wrS s (l.take k)) (qa7 l k) (qmq (h k oe));omega
def qos (j m wall o q r t u n:Int):(qnh j m wall o q r t u n).size<=55:=by
 have a:=vo 5 j;have b:=vo 5 m;have c:=vo 5 wall;have d:=vo 5 o;have e:=vo 5 q;have f:=vo 5 r;have g:=vo 5 t;have h:=vo 5 u;have i:=vo 5 n;have z:(⟨#[116]⟩:By).size=1:=rfl;simp only[qnh,jc4];omega
def qkl (h:qad l=true):∀j,j<l.length->qdd l j=true:=λj a=>by
 simp only[qad,jct,List.all_eq_true]at h;exact h.1 j (mT.2 a)
def qjz (h:qad l=true):1<=l.length/\l.length<=5:=by
 simp only[qad,jct,jk]at h;omega
end
section
open Go.RowKit
structure Own (w:Wl) (B g cap:Nat) (S:By):Prop where
 base:B<=g
 lt:g<w.heap.size
 room:S.size<=cap
 most:cap<=maxLen
 have_:∀j u,(byteCells S)[j]?=some u->w.cell? (AD g j)=some u
 there:∀j,j<cap->(w.cell? (AD g j)).isSome=true
 free:∀j,j<cap->w.frozen? (AD g j)=false
variable {S:By}
def Own.kept {e:Nat} (h:Own w B g e S) (a:w'.heap[g]?=w.heap[g]?) (c:w.heap.size<=w'.heap.size):Own w' B g e S:=
 ⟨h.base,jci h.lt c,h.room,h.most,λj u d=>by rw[jch (w:=w) a];exact h.have_ j u d,
   λj b=>by rw[jch (w:=w) a];exact h.there j b,λj b=>by rw[jcp (w:=w) a];exact h.free j b⟩
def Own.later {b:Nat} (h:Own w B g b S) (a:Bw w w'):Own w' B g b S:=h.kept (a.block g h.lt) a.size
def Own.alloc {a:Nat} (h:Own w B g a S) (o:Obj):Own (w.alloc o) B g a S:=h.later (boxed (jcc _ _) o)
def qe4 (a b:By):byteCells (a++b)=byteCells a++byteCells b:=by
 unfold byteCells;rw[ByteArray.data_append,Array.toList_append,jdb]
def qkx (a:0<=n) (b:n<256):byteCells (qft n)=[.int .u8 n]:=by
 have e:(UInt8.ofNat n.toNat).toNat=n.toNat:=by
  rw[UInt8.toNat_ofNat'];exact Nat.mod_eq_of_lt oe
 show [Value.int .u8 (UInt8.ofNat n.toNat).toNat]=_;rw[e,Int.toNat_of_nonneg a]
def Own.mono {a d:Nat} (h:Own w B g d S) (b:a<=B):Own w a g d S:=⟨jcn b h.base,h.lt,h.room,h.most,h.have_,h.there,h.free⟩
def Own.one (w:Wl) (B:Nat) (e:Tp) (c:0<=n) (d:n<256) (f:B<=w.heap.size):Own (w.alloc (.cells #[.int .u8 n] e (1,2))) B w.heap.size 1 (qft n):=by
 have a:=λj=>cell_of_row _ w.heap.size j _ e (1,2) (heap_alloc_new w (.cells #[.int .u8 n] e (1,2)));refine⟨f,oi,jcd _,by simp[maxLen],λj u b=>?_,λj h=>?_,λj h=>?_⟩
 .rw[qkx c d]at b;rw[a];simpa using b
 .obtain rfl:j=0:=oe;rw[a];rfl
 obtain rfl:j=0:=oe;have i:=heap_alloc_new w (.cells #[.int .u8 n] e (1,2));unfold World.frozen?;rw[i];rfl
abbrev yu (g:Nat) (w w':Wl):Prop:=w.grownBy w' (some g)
def yu.refl (g:Nat) (w:Wl):yu g w w:=⟨rfl,rfl,rfl,jcd _,λ_ _ _=>rfl⟩
def yu.trans {g':Nat} {a b c:Wl} (h:yu g a b) (k:yu g' b c) (e:g'=g\/a.heap.size<=g'):yu g a c:=
 ⟨k.os.trans h.os,k.tape.trans h.tape,k.output.trans h.output,jcn h.size k.size,λi j d=>
   (k.block i (jci j h.size) (λx=>by
     injection x with x;obtain e|e:=e
     .exact d (by rw[x,e])
     omega)).trans (h.block i j d)⟩
def yu.ofBelow (h:Bw w w'):yu g w w':=⟨h.os,h.tape,h.output,h.size,λk a _=>h.block k a⟩
def yu.below (h:yu g w w') (a:B<=g) (b:B<=w.heap.size):Below B w w':=
 ⟨h.os,h.tape,h.output,h.size,λk c=>h.block k oe (λx=>by injection x with x;omega)⟩
def yu.cell (h:yu g w w') {p:Addr} {v:Vl} (a:w.cell? p=some v) (b:p.block≠g):w'.cell? p=some v:=World.grownBy.cell h a (λx=>by injection x with x;exact b x)
def zg (g:Nat):∀(a:Lv) (o:Nat) (w:Wl),yu g w (w.setCells g o a)
 |[],_,w=>yu.refl g w
 |v::a,o,w=>
  have b:yu g w (w.setCell (AD g o) v):=⟨rfl,rfl,rfl,oF,λk _ c=>jce w (AD g o) v k (λe=>c (by rw[e]))⟩;yu.trans b (zg g a (o+1) (w.setCell (AD g o) v)) (.inl rfl)
def qmy (t f o e:Tp) (q:P.underlying t=some (.slice e)) (C:(P.info? e).map (λi=>(i.zero,i.size,i.bytes))=some (some (.int .u8 0),1,1))
 {V:Nat} (c:Own w B g V S) (T:By) (v:Vl) (r:Src P 1 f v T.size (byteCells T) w) (R:S.size+T.size<=1000000) (D:B<=w.heap.size):
 ∃X s w',(Builtin.append_ #[t,f] o #[.slice (PT g) S.size V,v]).run P w=.ok (.slice (PT X) (S++T).size s) w'/\Own w' B X s (S++T)/\(X=g\/X=w.heap.size)/\yu g w w':=by
 obtain⟨i,Y,E,d,F⟩:=info_parts C;have x:=byteCells_length T;have p:=byteCells_length S;rw[jc4];by_cases y:S.size+T.size<=V
 .have l:∀j,j<(byteCells T).length->(w.cell? (AD g (0+S.size*i.size+j))).isSome=true:=λj b=>by
   rw[d,Nat.mul_one,mF];exact c.there _ oe
  have G:∀j,j<(byteCells T).length->w.frozen? (AD g (0+S.size*i.size+j))=false:=λj b=>by
   rw[d,Nat.mul_one,mF];exact c.free _ oe
  have m:=run_append_room_src (P:=P) w t f o e i q Y g 0 S.size V v T.size (byteCells T) (by rw[d];exact r) y l G;rw[d,Nat.mul_one,mF]at m;rw[d,Nat.mul_one,mF]at l;refine⟨g,V,_,m,⟨c.base,jci c.lt (zg g _ _ w).size,by rw[jc4];exact y,c.most,?_,?_,?_⟩,.inl rfl,zg g _ _ w⟩
  .intro j u a;rw[qe4]at a;obtain b|b:=jc7 j S.size
   .rw[jc3 oe]at a;rw[World.cell?_setCells_out g _ _ _ _ (λ_ _=>.inl b)];exact c.have_ j u a
   rw[jc0 oe,p]at a
   have z:j-S.size<(byteCells T).length:=by
        obtain h|h:=jc7 (j-S.size) (byteCells T).length
        .exact h
        rw[List.getElem?_eq_none h]at a;cases a
   have:=World.cell?_setCells_in g (byteCells T) S.size w l (j-S.size) z;rw[Nat.add_sub_cancel' b]at this;rw[this];rw[jcg z]at a;exact a
  .intro j b;by_cases H:S.size<=j/\j<S.size+T.size
   .have:=World.cell?_setCells_in g (byteCells T) S.size w l (j-S.size) oe;rw[Nat.add_sub_cancel' H.1]at this;rw[this];rfl
   rw[World.cell?_setCells_out g _ _ _ _ (λ_ _=>by rw[x];show j<S.size\/S.size+T.size<=j;omega)];exact c.there j b
  intro j b;rw[World.frozen?_setCells];exact c.free j b
 have I:(Builtin.firstCells i.size S.size (.slice (PT g) S.size V)).run P w.drew=.ok (byteCells S).toArray w.drew:=
  run_firstCells_some w.drew i.size S.size (AD g 0) S.size V (byteCells S) (by rw[d,Nat.mul_one,p]) (λj u a=>by
   have J:((AD g 0):Addr).add j=(AD g j):=by unfold Addr.add;split<;>simp_all
   rw[J];exact c.have_ j u a)
 have m:=run_append_grow_src (P:=P) w t f o e i (.int .u8 0) q Y E (PT g) S.size V (byteCells S) I v T.size (byteCells T) (by rw[d];exact r) oe oe (by rw[F];exact growslice_fits oe oe);have K:=grownCap_ge w (S.size+T.size) V e;have L:=grownCap_le_maxLen w (S.size+T.size) V e oN;have M:((byteCells S++byteCells T).toArray++Builtin.zeroCells (Value.int IntKind.u8 0).cells (grownCap w (S.size+T.size) V e-(S.size+T.size))).size=grownCap w (S.size+T.size) V e:=by
  have N:(Value.int IntKind.u8 0).cells.size=1:=rfl;simp only[Array.size_append,List.size_toArray,jcl,size_zeroCells,N,x,p];omega
 have O:=heap_alloc_new w.drew (.cells ((byteCells S++byteCells T).toArray++Builtin.zeroCells (Value.int IntKind.u8 0).cells (grownCap w (S.size+T.size) V e-(S.size+T.size))) e);have A:=λj=>cell_of_row _ w.heap.size j _ e (0,0) O;refine⟨w.heap.size,_,_,m,⟨D,oi,by rw[jc4];exact K,L,?_,?_,?_⟩,.inr rfl,⟨rfl,rfl,rfl,oi,λk Q _=>jdg w.drew _ k Q⟩⟩
 .intro j u a;rw[A,Array.getElem?_append_left (by
   obtain h|h:=jc7 j (byteCells (S++T)).length
   .rw[qe4]at h;simpa using h
   rw[List.getElem?_eq_none h]at a;cases a)]
  rw[qe4]at a;simpa using a
 .intro j b;rw[A,jde (by rw[M];exact b)];rfl
 intro j _;exact World.frozen?_alloc_at _ _ _ _ rfl
def qbn {d:Array Oper} {rest:List Oper} {o:Oper} {a:Act} {Q:Exit->Act->Wv} (f:o.guard=none) (s x:Operand) (t c e:Tp)
 (j:o.op=.call {callee:=.builtin .append,args:=#[s,x],argTypes:=#[t,c]}) (k:P.underlying t=some (.slice e)) (l:(P.info? e).map (λi=>(i.zero,i.size,i.bytes))=some (some (.int .u8 0),1,1))
 {G:Nat} (m:a.eval s=.slice (PT g) S.size G) (p:Own w B g G S) (T:By) (v:Vl) (q:a.eval x=v) (r:Src P 1 c v T.size (byteCells T) w) (u:S.size+T.size<=1000000) (y:B<=w.heap.size)
 (h:∀H F b w',Hid (H=S++T)->Own w' B F b H->(F=g\/F=w.heap.size)->yu g w w'->wpList P d Q rest (a.put o.dst (.slice (PT F) H.size b)) w'):wpList P d Q (o::rest) a w:=by
 refine wpList_plain f λK z=>?_;obtain⟨F,b,w',A,C,D,E⟩:=qmy (P:=P) t c o.type e k l p T v r u y;unfold Oper.wp execOp;simp only[j,resolve,invoke,builtin,Sem.run_bind,Sem.run_pure,Result.andThen_ok,List.map_toArray,List.map_cons,List.map_nil,m,q,A];exact z _ _ (h _ F b w' rfl C D E)
def q0w {d e:Tp} (f:P.underlying d=some (.slice e)) {b:Nat} (h:0<=n) (i:n<256) (c:Nat) (k:w.cell? (AD b 0)=some (.int .u8 n)):
 Src P 1 d (.slice (PT b) 1 c) (qft n).size (byteCells (qft n)) w:=by
 rw[qcx,qkx h i];refine Src.ofSlice w f _ 1 c _ rfl ?_ ?_
 .intro j u a;match j,a with
  |0,a=>
   injection a with a;subst a;exact k
  |j+1,a=>cases a
 intro u a;simp only[jcj]at a;subst a;rfl
end
section
open Go.RowKit
structure qd (w:Wl) (b:Nat) (s:Lv):Prop where
 cell:∀j v,s[j]?=some v->w.cell? (AD b j)=some v
 free:∀j,j<s.length->w.frozen? (AD b j)=false
 lt:b<w.heap.size
variable {s:Lv}
def qd.kept (h:qd w b s) (e:w'.heap[b]?=w.heap[b]?) (a:w.heap.size<=w'.heap.size):qd w' b s:=
 ⟨λj v c=>by rw[jch (w:=w) e];exact h.cell j v c,λj d=>by rw[jcp (w:=w) e];exact h.free j d,jci h.lt a⟩
def qd.later (h:qd w b s) (a:Bw w w'):qd w' b s:=h.kept (a.block b h.lt) a.size
def qd.only {a:Nat} (h:qd w b s) (c:yu a w w') (d:b≠a):qd w' b s:=h.kept (c.block b h.lt (λx=>by injection x with x;exact d x)) c.size
def qd.grown {r:Option Nat} (h:qd w b s) (a:w.grownBy w' r) (c:some b≠r):qd w' b s:=h.kept (a.block b h.lt c) a.size
def qd.far (h:qd w b s) (p:Addr) (u:Vl) (a:p.block≠b):qd (w.setCell p u) b s:=h.kept (jce _ _ _ _ (Ne.symm a)) oF
def qd.boxed (h:qd w b s) (o:Obj):qd (w.alloc o) b s:=h.kept (jdg _ _ _ h.lt) oi
def qd.drew (h:qd w b s):qd w.drew b s:=h.kept rfl (jcd _)
def qd.new {n:Nat} (s:Lv) (a:w.heap.size=n):qd (w.alloc (.cells s.toArray T)) n s:=by
 subst a;have c:=heap_alloc_new w (.cells s.toArray T);refine⟨λj v d=>?_,λj _=>World.frozen?_alloc_at _ _ _ _ rfl,oi⟩;rw[cell_of_row _ w.heap.size j _ T (0,0) c];simpa using d
def qd.set (h:qd w b s) (k:Nat) (u:Vl) (d:k<s.length):qd (w.setCell (AD b k) u) b (s.set k u):=by
 refine⟨λj v a=>?_,λj c=>by rw[jcm];exact h.free j (by simpa using c),by simpa[World.setCell]using h.lt⟩;by_cases c:k=j
 .subst c;rw[List.getElem?_set_self d]at a;injection a with a;subst a;exact jc8 _ _ _ (h.cell k s[k] (jcg d))
 rw[List.getElem?_set_ne c]at a;rw[jco _ _ _ _ (by intro e;injection e with _ e _;exact c e)];exact h.cell j v a
def wrC (x:Wr):Lv:=[U x.key,.string x.data,.bool x.gone]
def qcf (l:List Wr):Lv:=l.flatMap wrC
def qdt (l:List Wr):(qcf l).length=l.length*3:=by
 induction l with
 |nil=>rfl
 |cons x l ih=>
  show (wrC x++qcf l).length=_;rw[jcl,ih];simp[wrC];omega
def qkh (l:List Wr) (x:Wr):qcf (l++[x])=qcf l++wrC x:=by simp[qcf]
def qr5:∀(l:List Wr) (i:Nat),i<l.length->(qcf l)[i*3]?=some (U (qa7 l i).key)/\(qcf l)[i*3+1]?=some (.string (qa7 l i).data)/\(qcf l)[i*3+1+1]?=some (.bool (qa7 l i).gone)
 |[],_,h=>by simp at h
 |x::l,0,_=>⟨rfl,rfl,rfl⟩
 |x::l,i+1,h=>by
  have a:=qr5 l i oM;have e:qa7 (x::l) (i+1)=qa7 l i:=rfl;have c:(i+1)*3=i*3+1+1+1:=oe;rw[e,c];exact a
def qal (g j:Nat):((AD g 0):Addr).add j=(AD g j):=by unfold Addr.add;split<;>simp_all
def qbg {B:Nat} {l:List Wr} (h:w.ownsRow B T 3 v l.length (qcf l)):∃a r,v=.slice a l.length r/\qr w a r l:=by
 obtain⟨rfl,d⟩|⟨g,r,x,rfl,n,o,k,m,p,q⟩:=h.2
 .exact⟨none,0,by rw[d],⟨oe,oe,.inl (jc2 d)⟩⟩
 refine⟨_,r,rfl,⟨k,by simp only[maxLen]at m;omega,.inr ⟨g,0,rfl,λi E=>?_⟩⟩⟩;have c:=h.cells (g:=g) rfl;obtain⟨a0,a1,a2⟩:=qr5 l i E;have e:=c _ _ a0;have f:=c _ _ a1;have j:=c _ _ a2;rw[qal]at e f j;rw[mF];exact⟨e,f,j⟩
def je {P:Pq} {c:Array Oper} {o:Oper} {a:Act} {K:Act->Wv} {Q:Exit->Act->Wv} {E:Prop} (d:o.guard=none) (f:Fi) (args:Av)
 (g:(execOp a.eval o).run P w=.ok (.enter f args) w) {R:Ending->Wv} (h:Calls P f args w R) (i:∀e w',R e w'->∃v,e=.returned v/\K (a.put o.dst v) w'):
 if Region.wanted o (yielded c a.tmps)=true then Oper.wp P o a w K Q else E:=by
 have j:Region.wanted o (yielded c a.tmps)=true:=by simp[Region.wanted,d]
 rw[if_pos j];unfold Oper.wp;rw[g];exact h.mono λe w' k=>by
  obtain⟨v,rfl,l⟩:=i e w' k;exact l
def qd.c (h:qd w b s) (j:Nat) (e:s[j]?=some v:=by rfl):w.cell? ⟨b,j,none⟩=some v:=h.cell j v e
def qd.f (h:qd w b s) (j:Nat) (e:j<s.length:=by simp):w.frozen? ⟨b,j,none⟩=false:=h.free j e
variable {a0 a1 a2 a3:Vl}
def qd.c4 (h:qd w b [a0,a1,a2,a3]):w.cell? ⟨b,0,none⟩=some a0/\w.cell? ⟨b,1,none⟩=some a1/\w.cell? ⟨b,2,none⟩=some a2/\w.cell? ⟨b,3,none⟩=some a3:=⟨h.cell 0 _ rfl,h.cell 1 _ rfl,h.cell 2 _ rfl,h.cell 3 _ rfl⟩
variable {t y:Vl}
def qd.c6 (h:qd w b [a0,a1,a2,a3,t,y]):w.cell? ⟨b,0,none⟩=some a0/\w.cell? ⟨b,1,none⟩=some a1/\w.cell? ⟨b,2,none⟩=some a2/\w.cell? ⟨b,3,none⟩=some a3/\w.cell? ⟨b,4,none⟩=some t/\w.cell? ⟨b,5,none⟩=some y:=⟨h.cell 0 _ rfl,h.cell 1 _ rfl,h.cell 2 _ rfl,h.cell 3 _ rfl,h.cell 4 _ rfl,h.cell 5 _ rfl⟩
variable {z A C:Vl}
def qd.c9 (h:qd w b [a0,a1,a2,a3,t,y,z,A,C]):w.cell? ⟨b,0,none⟩=some a0/\w.cell? ⟨b,1,none⟩=some a1/\w.cell? ⟨b,2,none⟩=some a2/\w.cell? ⟨b,3,none⟩=some a3/\w.cell? ⟨b,4,none⟩=some t/\w.cell? ⟨b,5,none⟩=some y/\w.cell? ⟨b,6,none⟩=some z/\w.cell? ⟨b,7,none⟩=some A/\w.cell? ⟨b,8,none⟩=some C:=⟨h.cell 0 _ rfl,h.cell 1 _ rfl,h.cell 2 _ rfl,h.cell 3 _ rfl,h.cell 4 _ rfl,h.cell 5 _ rfl,h.cell 6 _ rfl,h.cell 7 _ rfl,h.cell 8 _ rfl⟩
variable {D:Vl}
def qd.f4 (h:qd w b [a0,a1,a2,a3]):w.frozen? ⟨b,0,none⟩=false/\w.frozen? ⟨b,1,none⟩=false/\w.frozen? ⟨b,2,none⟩=false/\w.frozen? ⟨b,3,none⟩=false:=⟨h.free 0 oi,h.free 1 oi,h.free 2 oi,h.free 3 oi⟩
def qd.f9 (h:qd w b [a0,a1,a2,a3,t,y,z,A,C]):w.frozen? ⟨b,0,none⟩=false/\w.frozen? ⟨b,1,none⟩=false/\w.frozen? ⟨b,2,none⟩=false/\w.frozen? ⟨b,3,none⟩=false/\w.frozen? ⟨b,4,none⟩=false/\w.frozen? ⟨b,5,none⟩=false/\w.frozen? ⟨b,6,none⟩=false/\w.frozen? ⟨b,7,none⟩=false/\w.frozen? ⟨b,8,none⟩=false:=⟨h.free 0 oi,h.free 1 oi,h.free 2 oi,h.free 3 oi,h.free 4 oi,h.free 5 oi,h.free 6 oi,h.free 7 oi,h.free 8 oi⟩
end
section
open Go.RowKit
structure Ver where
 wall:Int
 count:Int
 site:Int
 seq:Int
 data:By
 gone:Bool
structure Hd where
 key:Int
 v:Ver
def jq:Ver:=⟨0,0,0,0,⟨#[]⟩,false⟩
def qh (v:Ver):Lv:=[U v.wall,U v.count,U v.site,U v.seq,.string v.data,.bool v.gone]
def qw (a b:Ver):Bool:=if qdr a.wall a.count b.wall b.count=0 then decide (a.site<b.site)else decide (qdr a.wall a.count b.wall b.count<0)
def qdp (a0 a1 a2 a3:Int) (v:Ver):Bool:=decide (v.seq<=qp v.site a0 a1 a2 a3)
def qfv (key a0 a1 a2 a3:Int) (best:Option Ver) (h:Hd):Option Ver:=
 if h.key=key/\qdp a0 a1 a2 a3 h.v=true/\(match best with|none=>true|some b=>qw b h.v)=true then some h.v else best
def zn (key a0 a1 a2 a3:Int) (l:List Hd):Option Ver:=l.foldl (qfv key a0 a1 a2 a3) none
variable {l:List Hd}
variable {h:Hd}
def qe7 {d:Int} {a:Option Ver} (c:¬(h.key=d/\qdp a0 a1 a2 a3 h.v=true/\(match a with|none=>true|some b=>qw b h.v)=true)):qfv d a0 a1 a2 a3 a h=a:=if_neg c
def qgj {d:Int} {a:Option Ver} (c:h.key=d/\qdp a0 a1 a2 a3 h.v=true/\(match a with|none=>true|some b=>qw b h.v)=true):qfv d a0 a1 a2 a3 a h=some h.v:=if_pos c
def qau (v:Ver):Bool:=(qi v.wall&&qi v.count)&&inB v.site 0 3&&inB v.seq 1 1099511627776&&decide ((v.data.size:Int)<=12)&&!(v.gone&&!v.data.toList.isEmpty)
def qk5 {v:Ver} (h:qau v=true):0<=v.site/\v.site<=3:=by
 simp only[qau,jct,jk]at h;exact h.1.1.1.2
end
section
open _root_.Go.Proofs.Tryz Go.RowKit
def qew (n:Int) (w:Wl):
 Ca 230 #[U n] w λe w'=>e=.returned (.bool (qi n))/\w'=w:=by
 by_cases a:0<=n
 .by_cases b:n<=1099511627776
  .rw[qf7 a b];go_enter func230,ntmps230;go_wp2;go_ret;exact⟨rfl,rfl⟩
  have e:qi n=false:=by simp[qi,b]
  rw[e];go_enter func230,ntmps230;go_wp2;go_ret;exact⟨rfl,rfl⟩
 have e:qi n=false:=by simp[qi,a]
 rw[e];go_enter func230,ntmps230;go_wp2;go_ret;exact⟨rfl,rfl⟩
def qe6 (x c:Int) (w:Wl):
 Ca 229 #[.agg #[U x,U c]] w (Rn (.bool (qi x&&qi c)) w):=by
 by_cases h:qi x=true;rw[h];rotate_left;have a:qi x=false:=oM;rw[a];all_goals
  go_enter func229,ntmps229;go_wp2_with (go_at_call 230;refine(qew _ _).mono ?_;rintro e w' ⟨rfl,rfl⟩)
  go_ret;exact⟨oi,(jcc _ _).alloc (jcd _) _⟩
end
section
open Tryz Go.RowKit
def q1u (x:Int) (w:Wl):
 Ca 267 #[U x] w λe w'=>e=.returned (.bool false)/\w'=w:=by
 go_enter func267,ntmps267;go_wp2;go_ret;exact⟨oi,rfl⟩
def q0n (x y:Int) (w:Wl):
 Ca 264 #[U x,U y] w λe w'=>e=.returned (U (qic x y))/\w'=w:=by
 obtain h|h|h:=Int.lt_trichotomy x y;rw[qz9 h];rotate_left;subst h;rw[q0h];rotate_left;rw[qz3 h];have a:¬x<y:=oe;all_goals
  go_enter func264,ntmps264;go_wp2_with (go_at_call 267;refine(q1u _ _).mono ?_;rintro e w' ⟨rfl,rfl⟩)
  go_ret;exact⟨rfl,rfl⟩
def qg0 (a c b d:Int) (w:Wl):
 Ca 257 #[.agg #[U a,U c],.agg #[U b,U d]] w (Rn (U (qdr a c b d)) w):=by
 by_cases h:qic a b=0;have e:qdr a c b d=qic c d:=by simp[qdr,h]
 rw[e];have f:(qic a b==0)=true:=by simp[h]
 rotate_left;have e:qdr a c b d=qic a b:=by simp[qdr,h]
 rw[e];have f:(qic a b==0)=false:=by simp[h]
 all_goals
  go_enter func257,ntmps257;go_wp2_with (go_at_call 264;refine(q0n _ _ _).mono ?_;rintro e w' ⟨rfl,rfl⟩)
  go_ret;exact⟨rfl,((jcc _ _).alloc (jcd _) _).alloc oi _⟩
def q8l (d f a b:Int) (w:Wl) (h:qdr d f a b<0):
 Ca 232 #[.agg #[U d,U f],.agg #[U a,U b]] w (Rn (.agg #[U a,U b]) w):=by
 go_enter func232,ntmps232;go_wp2_with fail
 refine(qg0 _ _ _ _ _).mono ?_;rintro e g ⟨rfl,c⟩;obtain⟨i,j⟩:=qdb c;have k:w.heap.size+2<g.heap.size:=by have:=c.size;simp at this;omega
 go_wp2;exact bodyPost_ret (v:=.agg #[U a,U b]) (by simp[results,results232,go_sem,i]) rfl ⟨rfl,((qs1 c).setCell ou _).setCell ou _⟩
def q78 (a b d f:Int) (w:Wl) (h:¬qdr a b d f<0):
 Ca 232 #[.agg #[U a,U b],.agg #[U d,U f]] w (Rn (.agg #[U a,U b]) w):=by
 go_enter func232,ntmps232;go_wp2_with fail
 refine(qg0 _ _ _ _ _).mono ?_;rintro e g ⟨rfl,c⟩;obtain⟨i,j⟩:=qdb c;have k:w.heap.size+2<g.heap.size:=by have:=c.size;simp at this;omega
 go_wp2;exact bodyPost_ret (v:=.agg #[U a,U b]) (by simp[results,results232,go_sem,i]) rfl ⟨rfl,((qs1 c).setCell ou _).setCell ou _⟩
def qv7 (lw lc now:Int) (w:Wl) (h:(qi lw&&qi lc)=false):
 Ca 190 #[.agg #[U lw,U lc],U now] w (Rn (.tuple #[.agg #[U 0,U 0],.iface 30 (U 2)]) w):=by
 go_enter func190,ntmps190;go_wp2_with fail
 refine(qe6 _ _ _).mono ?_;rintro e b ⟨rfl,a⟩;obtain⟨c,d⟩:=qdb a;have f:w.heap.size+1<b.heap.size:=by have:=a.size;simp at this;omega
 go_wp2_with (go_at_call 230;refine(qew _ _).mono ?_;rintro e w' ⟨rfl,rfl⟩)
 exact bodyPost_ret (v:=.tuple #[.agg #[U 0,U 0],.iface 30 (U 2)]) (by simp[results,results190,go_sem,c]) rfl ⟨rfl,((qhb a).setCell oi _).setCell oi _⟩
def quj (lw lc now:Int) (w:Wl) (h:(qi lw&&qi lc)=true) (d:qi now=false):
 Ca 190 #[.agg #[U lw,U lc],U now] w (Rn (.tuple #[.agg #[U 0,U 0],.iface 30 (U 2)]) w):=by
 go_enter func190,ntmps190;go_wp2_with fail
 refine(qe6 _ _ _).mono ?_;rintro e b ⟨rfl,a⟩;obtain⟨c,f⟩:=qdb a;have g:w.heap.size+1<b.heap.size:=by have:=a.size;simp at this;omega
 go_wp2_with (go_at_call 230;refine(qew _ _).mono ?_;rintro e w' ⟨rfl,rfl⟩)
 exact bodyPost_ret (v:=.tuple #[.agg #[U 0,U 0],.iface 30 (U 2)]) (by simp[results,results190,go_sem,c]) rfl ⟨rfl,((qhb a).setCell oi _).setCell oi _⟩
def q2c (lw lc now:Int) (w:Wl) (h:(qi lw&&qi lc)=true) (d:qi now=true) (f:lw<now):
 Ca 190 #[.agg #[U lw,U lc],U now] w (Rn (.tuple #[.agg #[U now,U 0],.nilIface]) w):=by
 go_enter func190,ntmps190;go_wp2_with fail
 refine(qe6 _ _ _).mono ?_;rintro e b ⟨rfl,a⟩;obtain⟨c,g⟩:=qdb a;have i:w.heap.size+1<b.heap.size:=by have:=a.size;simp at this;omega
 go_wp2_with (go_at_call 230;refine(qew _ _).mono ?_;rintro e w' ⟨rfl,rfl⟩)
 exact bodyPost_ret (v:=.tuple #[.agg #[U now,U 0],.nilIface]) (by simp[results,results190,go_sem,c]) rfl ⟨rfl,((qhb a).setCell oi _).setCell oi _⟩
def q1l (lw lc now:Int) (w:Wl) (h:(qi lw&&qi lc)=true) (d:qi now=true) (f:¬lw<now) (g:(lc==1099511627776)=true):
 Ca 190 #[.agg #[U lw,U lc],U now] w (Rn (.tuple #[.agg #[U 0,U 0],.iface 30 (U 12)]) w):=by
 go_enter func190,ntmps190;go_wp2_with fail
 refine(qe6 _ _ _).mono ?_;rintro e b ⟨rfl,a⟩;obtain⟨c,i⟩:=qdb a;have j:w.heap.size+1<b.heap.size:=by have:=a.size;simp at this;omega
 go_wp2_with (go_at_call 230;refine(qew _ _).mono ?_;rintro e w' ⟨rfl,rfl⟩)
 exact bodyPost_ret (v:=.tuple #[.agg #[U 0,U 0],.iface 30 (U 12)]) (by simp[results,results190,go_sem,c]) rfl ⟨rfl,((qhb a).setCell oi _).setCell oi _⟩
def qzl (lw lc now:Int) (w:Wl) (h:(qi lw&&qi lc)=true) (d:qi now=true) (f:¬lw<now) (g:(lc==1099511627776)=false) (i:0<=lc) (j:lc<1099511627776):
 Ca 190 #[.agg #[U lw,U lc],U now] w (Rn (.tuple #[.agg #[U lw,U (lc+1)],.nilIface]) w):=by
 go_enter func190,ntmps190;go_wp2_with fail
 refine(qe6 _ _ _).mono ?_;rintro e b ⟨rfl,a⟩;obtain⟨c,k⟩:=qdb a;have l:w.heap.size+1<b.heap.size:=by have:=a.size;simp at this;omega
 go_wp2_with (go_at_call 230;refine(qew _ _).mono ?_;rintro e w' ⟨rfl,rfl⟩)
 exact bodyPost_ret (v:=.tuple #[.agg #[U lw,U (lc+1)],.nilIface]) (by simp[results,results190,go_sem,c]) rfl ⟨rfl,((qhb a).setCell oi _).setCell oi _⟩
end
section
open Go.RowKit
structure qo (w:Wl) (b:Nat) (a0 a1 a2 a3:Int):Prop where
 c0:w.cell? (AD b 0)=some (U a0)
 c1:w.cell? (AD b 1)=some (U a1)
 c2:w.cell? (AD b 2)=some (U a2)
 c3:w.cell? (AD b 3)=some (U a3)
 f0:w.frozen? (AD b 0)=false
 f1:w.frozen? (AD b 1)=false
 f2:w.frozen? (AD b 2)=false
 f3:w.frozen? (AD b 3)=false
def qo.lt (h:qo w b a0 a1 a2 a3):b<w.heap.size:=jcr _ _ h.c0
def qo.later {w':Wl} (a:Bw w w') (h:qo w b a0 a1 a2 a3):qo w' b a0 a1 a2 a3:=
 have l:=h.lt
 ⟨cell_later a h.c0,cell_later a h.c1,cell_later a h.c2,cell_later a h.c3,(a.frozen (p:=AD b 0) l).trans h.f0,(a.frozen (p:=AD b 1) l).trans h.f1,(a.frozen (p:=AD b 2) l).trans h.f2,(a.frozen (p:=AD b 3) l).trans h.f3⟩
def qo.new (w:Wl) (T:Tp) (a0 a1 a2 a3:Int):qo (w.alloc (.cells #[U a0,U a1,U a2,U a3] T)) w.heap.size a0 a1 a2 a3:=by
 constructor<;>go_simp
def qo.far (h:qo w b a0 a1 a2 a3) (p:Addr) (u:Vl) (a:p.block≠b):qo (w.setCell p u) b a0 a1 a2 a3:=by
 have e:(w.setCell p u).heap[b]?=w.heap[b]?:=jce _ _ _ _ (Ne.symm a);constructor
 .rw[jch (w:=w) e];exact h.c0
 .rw[jch (w:=w) e];exact h.c1
 .rw[jch (w:=w) e];exact h.c2
 .rw[jch (w:=w) e];exact h.c3
 .rw[jcp (w:=w) e];exact h.f0
 .rw[jcp (w:=w) e];exact h.f1
 .rw[jcp (w:=w) e];exact h.f2
 rw[jcp (w:=w) e];exact h.f3
def qo.set0 (h:qo w b a0 a1 a2 a3) (x:Int):qo (w.setCell (AD b 0) (U x)) b x a1 a2 a3:=
 ⟨jc8 _ _ _ h.c0,(jco _ _ _ _ oi).trans h.c1,(jco _ _ _ _ oi).trans h.c2,(jco _ _ _ _ oi).trans h.c3,(jcm _ _ _ _).trans h.f0,(jcm _ _ _ _).trans h.f1,(jcm _ _ _ _).trans h.f2,(jcm _ _ _ _).trans h.f3⟩
def qo.set1 (h:qo w b a0 a1 a2 a3) (x:Int):qo (w.setCell (AD b 1) (U x)) b a0 x a2 a3:=
 ⟨(jco _ _ _ _ oi).trans h.c0,jc8 _ _ _ h.c1,(jco _ _ _ _ oi).trans h.c2,(jco _ _ _ _ oi).trans h.c3,(jcm _ _ _ _).trans h.f0,(jcm _ _ _ _).trans h.f1,(jcm _ _ _ _).trans h.f2,(jcm _ _ _ _).trans h.f3⟩
def qo.set2 (h:qo w b a0 a1 a2 a3) (x:Int):qo (w.setCell (AD b 2) (U x)) b a0 a1 x a3:=
 ⟨(jco _ _ _ _ oi).trans h.c0,(jco _ _ _ _ oi).trans h.c1,jc8 _ _ _ h.c2,(jco _ _ _ _ oi).trans h.c3,(jcm _ _ _ _).trans h.f0,(jcm _ _ _ _).trans h.f1,(jcm _ _ _ _).trans h.f2,(jcm _ _ _ _).trans h.f3⟩
def qo.set3 (h:qo w b a0 a1 a2 a3) (x:Int):qo (w.setCell (AD b 3) (U x)) b a0 a1 a2 x:=
 ⟨(jco _ _ _ _ oi).trans h.c0,(jco _ _ _ _ oi).trans h.c1,(jco _ _ _ _ oi).trans h.c2,jc8 _ _ _ h.c3,(jcm _ _ _ _).trans h.f0,(jcm _ _ _ _).trans h.f1,(jcm _ _ _ _).trans h.f2,(jcm _ _ _ _).trans h.f3⟩
def qo.boxed (h:qo w b a0 a1 a2 a3) (o:Obj):qo (w.alloc o) b a0 a1 a2 a3:=h.later (YtbfkeoagmajcpaaGreatDoor.boxed (jcc _ _) o)
def qo.drew (h:qo w b a0 a1 a2 a3):qo w.drew b a0 a1 a2 a3:=h.later (jcc _ _).drew
def qo.newest {T:Tp} {n:Nat} (a:w.heap.size=n):qo (w.alloc (.cells #[U a0,U a1,U a2,U a3] T)) n a0 a1 a2 a3:=by
 subst a;exact qo.new w T a0 a1 a2 a3
variable {x0 x1 x2 x3:Int}
def qo.set (h:qo w b a0 a1 a2 a3):qo ((((w.setCell (AD b 0) (U x0)).setCell (AD b 1) (U x1)).setCell (AD b 2) (U x2)).setCell (AD b 3) (U x3)) b x0 x1 x2 x3:=
 (((h.set0 x0).set1 x1).set2 x2).set3 x3
def qo.far4 {c:Nat} (h:qo w b a0 a1 a2 a3) (a:c≠b):qo ((((w.setCell (AD c 0) (U x0)).setCell (AD c 1) (U x1)).setCell (AD c 2) (U x2)).setCell (AD c 3) (U x3)) b a0 a1 a2 a3:=
 (((h.far (AD c 0) (U x0) a).far (AD c 1) (U x1) a).far (AD c 2) (U x2) a).far (AD c 3) (U x3) a
end
section
open Go.RowKit
def qk9 {w:Wl} {b:Nat} {a0 a1 a2 a3 a:Int} (h:qo w b a0 a1 a2 a3) (c:0<=a) (d:a<=3):w.cell? (AD b a.toNat)=some (U (qp a a0 a1 a2 a3)):=by
 have:a=0\/a=1\/a=2\/a=3:=oe;obtain rfl|rfl|rfl|rfl:=this
 .exact h.c0
 .exact h.c1
 .exact h.c2
 exact h.c3
def qa6:Option Ver->Lv
 |none=>qh jq
 |some v=>qh v
def qga:Option Ver->Bool
 |none=>false
 |some _=>true
def qjl (a:Option Ver):qa6 a=qh (a.getD jq):=by cases a<;>rfl
def qjj:Option Ver->Ver×Int
 |none=>(jq,8)
 |some v=>if v.gone then (jq,8)else (v,0)
def zz (key a0 a1 a2 a3:Int) (l:List Hd):Ver×Int:=if inB key 0 7=true then qjj (zn key a0 a1 a2 a3 l)else (jq,2)
def qb2 (key:Int) (v:Ver) (h:Hd):Bool:=decide (h.key=key)&&(decide (h.v.wall=v.wall)&&decide (h.v.count=v.count))&&decide (h.v.site=v.site)
def qb5 (l:List Hd) (key:Int) (v:Ver):Int:=if inB key 0 7=true then (if qau v=true then (if l.any (qb2 key v)=true then 9 else 0)else 1)else 2
def qa4 (l:List Hd) (key:Int) (v:Ver):List Hd:=if qb5 l key v=0 then l++[⟨key,v⟩]else l
structure qc (F:Nat->Prop) (w w':Wl):Prop where
 os:w'.os=w.os
 tape:w'.tape=w.tape
 output:w'.output=w.output
 size:w.heap.size<=w'.heap.size
 block:∀k,k<w.heap.size->¬F k->w'.heap[k]?=w.heap[k]?
variable {F:Np}
def qc.ofBelow (h:Bw w w'):qc F w w':=⟨h.os,h.tape,h.output,h.size,λk a _=>h.block k a⟩
def qc.trans {a b c:Wl} (h:qc F a b) (k:qc F b c):qc F a c:=
 ⟨k.os.trans h.os,k.tape.trans h.tape,k.output.trans h.output,jcn h.size k.size,λi e d=>(k.block i (jci e h.size) d).trans (h.block i e d)⟩
def qc.grown {r:Option Nat} (h:w.grownBy w' r) (a:∀k,r=some k->F k):qc F w w':=
 ⟨h.os,h.tape,h.output,h.size,λk b c=>h.block k b (λe=>c (a k e.symm))⟩
def qc.setCell (w:Wl) (p:Addr) (u:Vl) (a:F p.block):qc F w (w.setCell p u):=
 ⟨rfl,rfl,rfl,oF,λk _ b=>jce w p u k (λe=>b (by rw[e];exact a))⟩
def qhs (g o:Nat) (w:Wl) (v:Vl):yu g w (w.setCell (AD g o) v):=⟨rfl,rfl,rfl,oF,λk _ a=>jce w (AD g o) v k (λe=>a (by rw[e]))⟩
end
section
open _root_.Go.Proofs.Tryz Go.RowKit
def eqV (a b:Ver):Bool:=(a.wall==b.wall&&a.count==b.count)&&a.site==b.site&&a.seq==b.seq&&a.data.toList==b.data.toList&&a.gone==b.gone
def q4b (a b c d:Int) (w:Wl):(Op.equalIn 9999 119 (.agg #[U a,U b]) (.agg #[U c,U d])).run prog w=.ok (a==c&&b==d) w:=by
 have i:=underlying3;have a3:=isAgg3;have j:=sizeOf3;have e:prog.underlying 119=some (.struct (prog.fieldsOf 119)):=oh;have f:prog.stoodInHeld 119=false:=oh;rw[show (9999:Nat)=9998+1 from rfl,run_equalIn_agg w 9998 119 _ _ e f];simp only[Program.fieldsOf,underlying119];go_simp;by_cases g:a=c<;>by_cases h:b=d<;>simp[g,h]
def qzu (a b:Ver) (w:Wl):(binOp .eql 218 (.agg #[U a.wall,U a.count,U a.site,U a.seq,.string a.data,.bool a.gone]) (.agg #[U b.wall,U b.count,U b.site,U b.seq,.string b.data,.bool b.gone])).run prog w=.ok (.bool (eqV a b)) w:=by
 have m:=underlying3;have a3:=isAgg3;have n:=sizeOf3;have o:=underlying4;have p:=isAgg4;have q:=sizeOf4;have r:=underlying9;have s:=isAgg9;have t:=sizeOf9;have c:prog.underlying 218=some (.struct (prog.fieldsOf 218)):=oh;have d:prog.stoodInHeld 218=false:=oh;have u:=q4b;have v:=isAgg119;have x:=sizeOf119;rw[run_eql_struct];rw[show (10000:Nat)=9999+1 from rfl,run_equalIn_agg w 9999 218 _ _ c d];simp only[Program.fieldsOf,underlying218];go_simp;by_cases e:a.wall=b.wall<;>by_cases f:a.count=b.count<;>by_cases g:a.site=b.site<;>by_cases h:a.seq=b.seq<;>by_cases i:a.data.toList=b.data.toList<;>by_cases j:a.gone=b.gone<;>simp[eqV,e,f,g,h,i,j]
def qfh (a0 a1 a2 a3:Int) (l:List Hd) (h:Hd):Bool:=!(qga (zn h.key a0 a1 a2 a3 l))||eqV ((zn h.key a0 a1 a2 a3 l).getD jq) h.v||!(qdp a0 a1 a2 a3 h.v)
def qcr (a0 a1 a2 a3:Int) (l:List Hd):List Hd:=l.filter (qfh a0 a1 a2 a3 l)
variable {l:List Hd}
def qo.grown4 {w w':Wl} {r:Option Nat} {b:Nat} {a0 a1 a2 a3:Int} (h:qo w b a0 a1 a2 a3) (a:w.grownBy w' r) (c:some b≠r):qo w' b a0 a1 a2 a3:=by
 have e:=a.block b h.lt c;constructor
 .rw[jch (w:=w) e];exact h.c0
 .rw[jch (w:=w) e];exact h.c1
 .rw[jch (w:=w) e];exact h.c2
 .rw[jch (w:=w) e];exact h.c3
 .rw[jcp (w:=w) e];exact h.f0
 .rw[jcp (w:=w) e];exact h.f1
 .rw[jcp (w:=w) e];exact h.f2
 rw[jcp (w:=w) e];exact h.f3
end
section
open _root_.Go.Proofs.Tryz Go.RowKit
def qvw (d a0 a1 a2 a3:Int) (a:Option Ver) (h:Hd):qfv d a0 a1 a2 a3 a h=a\/(qfv d a0 a1 a2 a3 a h=some h.v/\h.key=d/\qdp a0 a1 a2 a3 h.v=true):=by
 by_cases c:h.key=d/\qdp a0 a1 a2 a3 h.v=true/\(match a with|none=>true|some b=>qw b h.v)=true
 .exact .inr ⟨qgj c,c.1,c.2.1⟩
 exact .inl (qe7 c)
def qpj (i a0 a1 a2 a3:Int) (v:Ver):∀(l:List Hd) (a:Option Ver),l.foldl (qfv i a0 a1 a2 a3) a=some v->a=some v\/∃h∈l,h.v=v/\h.key=i/\qdp a0 a1 a2 a3 v=true
 |[],a,h=>.inl h
 |x::l,a,h=>by
  obtain e|⟨y,c,e⟩:=qpj i a0 a1 a2 a3 v l _ h
  .obtain b|⟨b,d,f⟩:=qvw i a0 a1 a2 a3 a x
   .rw[b]at e;exact .inl e
   rw[b]at e;injection e with e;subst e;exact .inr ⟨x,oi,rfl,d,f⟩
  exact .inr ⟨y,by simp[c],e⟩
variable {l:List Hd} {v:Ver}
def qr0 {a:Int} (h:zn a a0 a1 a2 a3 l=some v):∃x∈l,x.v=v/\x.key=a/\qdp a0 a1 a2 a3 v=true:=by
 obtain e|e:=qpj a a0 a1 a2 a3 v l none h
 .cases e
 exact e
def qx1 (h:qau v=true):v.data.size<=12:=by
 simp only[qau,jct,decide_eq_true_eq]at h;have:=h.1.2;omega
def qoc {key:Int} (a:∀h∈l,qau h.v=true):(zz key a0 a1 a2 a3 l).1.data.size<=12:=by
 have z:jq.data.size<=12:=oj;unfold zz;split
 .cases e:zn key a0 a1 a2 a3 l with
  |none=>exact z
  |some v=>
   obtain⟨x,b,c,_⟩:=qr0 e;show (if v.gone=true then (jq,(8:Int))else (v,0)).1.data.size<=12;split
   .exact z
   rw[<-c];exact qx1 (a x b)
 exact z
def qdf (a0 a1 a2 a3:Int) (l:List Hd) (key:Int):By:=if (zz key a0 a1 a2 a3 l).2=0 then (⟨#[61]⟩:By)++(zz key a0 a1 a2 a3 l).1.data else ⟨#[]⟩
def qej (a0 a1 a2 a3:Int) (l:List Hd) (k:Nat):Lv:=(List.range k).map λ(i:Nat)=>Value.string (qdf a0 a1 a2 a3 l i)
def qi3 (a0 a1 a2 a3:Int) (l:List Hd) (k:Nat):qej a0 a1 a2 a3 l (k+1)=qej a0 a1 a2 a3 l k++[.string (qdf a0 a1 a2 a3 l k)]:=by
 unfold qej;rw[List.range_succ,jdb];rfl
def qki:(prog.info? 9).map (λi=>(i.zero,i.size,i.bytes))=some (some (.string ⟨#[]⟩),1,16):=oh
end
section
open Go.RowKit
structure TxP where
 site:Int
 seq:Int
 wall:Int
 count:Int
 d0:Int
 d1:Int
 d2:Int
 d3:Int
 ws:List Wr
def qne (t:TxP) (x:Wr):Ver:=⟨t.wall,t.count,t.site,t.seq,x.data,x.gone⟩
def qbz (t:TxP) (ws:List Wr) (l:List Hd):List Hd:=ws.foldl (λl x=>qa4 l x.key (qne t x)) l
def qpz {t:TxP} {ws:List Wr} {l:List Hd} {k:Nat} (a:k<ws.length):qbz t (ws.take (k+1)) l=qa4 (qbz t (ws.take k) l) (qa7 ws k).key (qne t (qa7 ws k)):=by
 unfold qbz;rw[jc1 a,List.foldl_append];simp[qa7,List.getD,List.getElem?_eq_getElem a]
def qf1 (t:TxP):∀(ws:List Wr) (l:List Hd),(qbz t ws l).length<=l.length+ws.length
 |[],_=>by simp[qbz]
 |x::ws,l=>by
  have a:=qf1 t ws (qa4 l x.key (qne t x));have h:(qa4 l x.key (qne t x)).length<=l.length+1:=by
   unfold qa4;split
   .simp
   omega
  show (qbz t ws (qa4 l x.key (qne t x))).length<=_;simp only[List.length_cons];omega
def qch (s x a0:Int):Int:=if s=0 then x else a0
def qcl (s x a1:Int):Int:=if s=1 then x else a1
def qck (s x a2:Int):Int:=if s=2 then x else a2
def qcj (s x a3:Int):Int:=if s=3 then x else a3
structure qe where
 id:Int
 a0:Int
 a1:Int
 a2:Int
 a3:Int
 lw:Int
 lc:Int
 log:List TxP
 waits:List TxP
 l:List Hd
 oth:Nat->Int
def vr (S:qe) (t:TxP):qe:=
 {S with a0:=qch t.site t.seq S.a0,a1:=qcl t.site t.seq S.a1,a2:=qck t.site t.seq S.a2,a3:=qcj t.site t.seq S.a3,
         lw:=if 0<qdr t.wall t.count S.lw S.lc then t.wall else S.lw,lc:=if 0<qdr t.wall t.count S.lw S.lc then t.count else S.lc,
         log:=S.log++[t],l:=qbz t t.ws S.l}
def qz (S:qe) (t:TxP):Bool:=decide (t.seq=qp t.site S.a0 S.a1 S.a2 S.a3+1)&&qa8 S.a0 S.a1 S.a2 S.a3 t.d0 t.d1 t.d2 t.d3
structure TxM where
 t:TxP
 wa:Oa
 wc:Nat
def txC (m:TxM):Lv:=(T9 m.t.site m.t.seq m.t.wall m.t.count m.t.d0 m.t.d1 m.t.d2 m.t.d3 m.wa m.t.ws.length m.wc)
def zw (l:List TxM):Lv:=l.flatMap txC
def qkf (l:List TxM) (m:TxM):zw (l++[m])=zw l++txC m:=by simp[zw]
def qih (m:TxM):∀u∈txC m,u.oneCell'=true:=by
 intro u a;simp[txC]at a;obtain rfl|rfl|rfl|rfl|rfl|rfl|rfl|rfl|rfl:=a<;>rfl
def TxM.blk (m:TxM) (k:Nat):Prop:=m.t.ws≠[]/\∃off,m.wa=some (AD k off)
def qf {B n N:Nat} {T:Tp} {v:Vl} {j:Lv} (h:w.ownsRow B T N v n j) (a:∀k,v.ownBlock=some k->w'.heap[k]?=w.heap[k]?):w'.ownsRow B T N v n j:=by
 refine⟨h.1,?_⟩;obtain b|⟨g,e,i,rfl,c,d,rest⟩:=h.2
 .exact .inl b
 exact .inr ⟨g,e,i,rfl,c,by rw[a g rfl];exact d,rest⟩
variable {m:TxM}
def qr.kept (h:qr w m.wa m.wc m.t.ws) (j:∀k,m.blk k->w'.heap[k]?=w.heap[k]?):qr w' m.wa m.wc m.t.ws:=by
 refine⟨h.len,h.cap,?_⟩;obtain f|⟨b,d,e,c⟩:=h.held
 .exact .inl f
 by_cases f:m.t.ws=[]
 .exact .inl f
 refine .inr ⟨b,d,e,λi o=>?_⟩;have g:=j b ⟨f,d,e⟩;have:=c i o;rw[jch (w:=w) (a:=AD b (d+i*3)) g,jch (w:=w) (a:=AD b (d+i*3+1)) g,jch (w:=w) (a:=AD b (d+i*3+1+1)) g];exact this
def qr.blk_lt (h:qr w m.wa m.wc m.t.ws):∀k,m.blk k->k<w.heap.size:=λk ⟨d,j,e⟩=>by
 obtain f|⟨b,l,a,c⟩:=h.held
 .exact absurd f d
 rw[e]at a;injection a with a;injection a with e1 e2;subst e1;have i:0<m.t.ws.length:=by
  obtain g|g:=Nat.eq_zero_or_pos m.t.ws.length
  .exact absurd (jc2 g) d
  exact g
 exact jcr _ _ (c 0 i).1
end
section
open Go.RowKit
def vv (x t:TxP):Bool:=decide (x.site=t.site)&&decide (x.seq=t.seq)
variable {x t:TxP}
def qe5:vv x t=true↔x.site=t.site/\x.seq=t.seq:=by simp[vv]
def qbt (S:qe) (s:Int):Option TxP:=S.waits.find? (λx=>decide (x.site=s)&&qz S x)
def qd7 (S:qe):Option TxP:=
 match qbt S 0 with
 |some x=>some x
 |none=>match qbt S 1 with
  |some x=>some x
  |none=>match qbt S 2 with
   |some x=>some x
   |none=>qbt S 3
def qdv (l:List TxP) (t:TxP):List TxP:=l.filter (λx=>!vv x t)
def qj5 (S:qe) (x:TxP):qe:=vr {S with waits:=qdv S.waits x} x
inductive qfm:qe->qe->Prop
 |full {S:qe}:200<=S.log.length->qfm S S
 |none {S:qe}:qd7 S=none->qfm S S
 |step {S S':qe} {x:TxP}:S.log.length<200->qd7 S=some x->qfm (qj5 S x) S'->qfm S S'
variable {S:qe}
def qfm.det {A B:qe} (h:qfm S A):qfm S B->A=B:=by
 induction h with
 |full h=>
  intro k;cases k with
  |full _=>rfl
  |none _=>rfl
  |step h1 _ _=>omega
 |none h=>
  intro k;cases k with
  |full _=>rfl
  |none _=>rfl
  |step _ h2 _=>rw[h]at h2;cases h2
 |step h1 h2 _ ih=>
  intro k;cases k with
  |full h=>omega
  |none h=>rw[h2]at h;cases h
  |step _ h4 h5=>
   rw[h2]at h4;injection h4 with h4;subst h4;exact ih h5
def qbv (h:qbt S s=some x):x∈S.waits/\x.site=s/\qz S x=true:=by
 have b:=List.mem_of_find?_eq_some h;have a:=List.find?_some h;simp at a;exact⟨b,a.1,a.2⟩
def qj8 (h:qd7 S=some x):x∈S.waits/\qz S x=true:=by
 unfold qd7 at h;split at h
 .rename_i y a;injection h with h;subst h;exact⟨(qbv a).1,(qbv a).2.2⟩
 split at h
 .rename_i y a;injection h with h;subst h;exact⟨(qbv a).1,(qbv a).2.2⟩
 split at h
 .rename_i y a;injection h with h;subst h;exact⟨(qbv a).1,(qbv a).2.2⟩
 exact⟨(qbv h).1,(qbv h).2.2⟩
def qgg (h:qbt S s=none):∀x∈S.waits,x.site=s->qz S x=false:=λx b c=>by
 have a:=nD.1 h x b;simp[c]at a;exact a
def qjy (h:∀x∈S.waits,x.site=s->qz S x=false):qbt S s=none:=by
 refine nD.2 λx a=>?_;by_cases e:x.site=s
 .simp[e,h x a e]
 simp[e]
def qgu (l:List TxP):Prop:=l.Pairwise (λx y=>vv x y=false)
def qgu.uniq:∀{l:List TxP},qgu l->∀{x y:TxP},x∈l->y∈l->x.site=y.site->x.seq=y.seq->x=y
 |[],_,_,_,hx,_,_,_=>by cases hx
 |a::l,h,x,y,hx,hy,e1,e2=>by
  obtain⟨d,g⟩:=jdv.1 h;obtain e|f:=jdd.1 hx
  .obtain b|c:=jdd.1 hy
   .rw[e,b]
   have:=d y c;rw[<-e]at this;simp[vv,e1,e2]at this
  obtain b|c:=jdd.1 hy
  .have:=d x f;rw[<-b]at this;simp[vv,e1,e2]at this
  exact qgu.uniq g f c e1 e2
def qgo (h:qz S x=true):x.seq=qp x.site S.a0 S.a1 S.a2 S.a3+1/\qa8 S.a0 S.a1 S.a2 S.a3 x.d0 x.d1 x.d2 x.d3=true:=by
 simpa[qz]using h
def qw3 (f:qgu S.waits) (b:x∈S.waits) (a:qz S x=true):qbt S x.site=some x:=by
 cases h:qbt S x.site with
 |none=>rw[qgg h x b rfl]at a;cases a
 |some y=>
  obtain⟨g,c,i⟩:=qbv h;have e:=(qgo a).1;have d:=(qgo i).1;rw[c]at d;rw[f.uniq g b c (by rw[e,d])]
variable {l:List TxP}
def qgu.drop (h:qgu l) (t:TxP):qgu (qdv l t):=h.filter _
def qgu.snoc (h:qgu l) (a:∀x∈l,vv x t=false):qgu (l++[t]):=by
 refine List.pairwise_append.2 ⟨h,oi,λx b y c=>?_⟩;obtain rfl:=jcj.1 c;exact a x b
def qrh:x∈qdv l t↔x∈l/\vv x t=false:=by simp[qdv,List.mem_filter]
def qpm:∀{l:List TxP},qgu l->∀{i:Nat} {t:TxP},l[i]?=some t->qdv l t=l.take i++l.drop (i+1)
 |[],_,_,_,h=>by simp at h
 |a::l,hn,0,t,h=>by
  simp at h;subst h;obtain⟨b,c⟩:=jdv.1 hn;have e:vv a a=true:=by simp[vv]
  simp[qdv,e];intro x g;have j:=b x g;cases h4:vv x a with
  |false=>rfl
  |true=>
   obtain⟨p,q⟩:=qe5.1 h4;simp[vv,p,q]at j
 |a::l,hn,i+1,t,h=>by
  obtain⟨b,c⟩:=jdv.1 hn;have d:l[i]?=some t:=oM;have e:=b t (jcq d);have f:=qpm c d;unfold qdv at f ⊢;simp[e,f]
def qf5 (a:qgu l) (b:t∈l):(qdv l t).length+1=l.length:=by
 obtain⟨i,d⟩:=List.getElem?_of_mem b;have c:=(jck.1 d).1;rw[qpm a d];simp;omega
end
section
open Tryz Go.RowKit Go.Maps
def qcd (v:Vl):Option (DataW Vl×List MemPlace):=some (.held v,[])
def txV (m:TxM):Vl:=.agg #[.int .i64 m.t.site,.int .i64 m.t.seq,.int .i64 m.t.wall,.int .i64 m.t.count,.int .i64 m.t.d0,.int .i64 m.t.d1,.int .i64 m.t.d2,.int .i64 m.t.d3,.slice m.wa m.t.ws.length m.wc]
def qyo:Vl:=.agg #[.int .i64 0,.int .i64 0,.int .i64 0,.int .i64 0,.int .i64 0,.int .i64 0,.int .i64 0,.int .i64 0,.slice none 0 0]
def q0m (w:Wl):(zeroValue 122).run prog w=.ok qyo w:=oh
def qrn:prog.types.size=350:=oh
def qk2:Keyed prog 290:=Keyed.of_law (deep_law_laid (m:=3) oh oj (by rw[qrn];decide) oh oh)
def qtn (s q:Int):Vl:=.agg #[.int .i64 s,.int .i64 q]
def qed (s q:Int):Lit:=.string (keyBytes [.int .i64 s,.int .i64 q])
def wfI (x:Int):Prop:= -9223372036854775808<=x/\x<=9223372036854775807
def q8f (h:wfI x):(Lit.int .i64 x).wf=true:=WalkArith.wf_i64 h
def qww (a:wfI x) (n:Nat):prog.keyLits (n+1) 3 [.int .i64 x]=some [.int .i64 x]:=by
 unfold Program.keyLits;rw[underlying3];simp[q8f a]
variable {q:Int}
def q40 (a:wfI s) (b:wfI q) (n:Nat):prog.keyLits (n+1+1) 290 [.int .i64 s,.int .i64 q]=some [.int .i64 s,.int .i64 q]:=by
 have c:prog.cellsOf 290=2:=oh;have d:prog.cellsOf 3=1:=oh;unfold Program.keyLits;rw[underlying290];simp[c,d,qww a n,qww b n]
def qqe (a:wfI s) (b:wfI q):keyOf prog 290 (qtn s q)=some (qed s q):=by
 have c:prog.keyType 290=true:=oh;have d:prog.cellsOf 290=2:=oh;have e:(qtn s q).formed prog 290=true:=by
  unfold Value.formed qtn;simp only[underlying290];rw[d];rfl
 have f:=q40 a b (350-1);unfold keyOf;rw[underlying290,c,e,qrn];show (if (true&&true)=true then Option.map _ (prog.keyLits (350-1+1+1) 290 [.int .i64 s,.int .i64 q])else none)=_;rw[f];rfl
def qs7 {a b:Int} (d:wfI s) (e:wfI q) (f:wfI a) (g:wfI b) (h:qed s q=qed a b):s=a/\q=b:=by
 have c:=qk2.inj (qqe d e) (by rw[h];exact qqe f g);simp[qtn]at c;exact c
def q0j (s q:Int):WideAt.IsKeyLit (qed s q):=trivial
structure qo5 (D:DataW Vl) (ws:List TxM):Prop where
 size:Maps.size D=ws.length
 has:∀m∈ws,Maps.has D (qed m.t.site m.t.seq)=true/\∀z,D.atKey (qed m.t.site m.t.seq) z=.held (txV m)
 no:∀s q,wfI s->wfI q->(∀m∈ws,¬(m.t.site=s/\m.t.seq=q))->Maps.has D (qed s q)=false
def wfN (m:TxM):Prop:=wfI m.t.site/\wfI m.t.seq
def qd5 (w:Wl) (y:Nat) (ws:List TxM):Prop:=(∀m∈ws,wfN m)/\qgu (ws.map (·.t))/\∃D,w.ownsMap prog 290 qcd y ws.length D/\qo5 D ws
variable {y:Nat} {ws:List TxM}
def qd5.lt (h:qd5 w y ws):y<w.heap.size:=by
 obtain⟨_,_,D,h,_⟩:=h;exact h.lt
def qd5.kept {w':Wl} (h:qd5 w y ws) (e:w'.heap[y]?=w.heap[y]?):qd5 w' y ws:=by
 obtain⟨a,b,D,⟨c,d,f,r⟩,g⟩:=h;exact⟨a,b,D,⟨c,d,by rw[e];exact f,r⟩,g⟩
def qd5.made (w:Wl):qd5 (w.alloc (.map #[] 0)) w.heap.size []:=
 ⟨oi,by simp[qgu],_,World.ownsMap_made w _ _ _,⟨rfl,oi,λ_ _ _ _ _=>rfl⟩⟩
variable {D:DataW Vl} {m:TxM}
def q1m (d:Tidy D) (h:qo5 D ws) (i:∀m∈ws,wfN m) (b:wfN m) (j:∀x∈ws,vv x.t m.t=false):qo5 (D.put (qed m.t.site m.t.seq) (.held (txV m))) (ws++[m]):=by
 have o:=h.no _ _ b.1 b.2 (λx a e=>by
  have:=j x a;simp[vv,e.1,e.2]at this)
 refine⟨by rw[size_put d,o];simp[h.size],λx a=>?_,λs q k n a=>?_⟩
 .obtain a|a:=jcf.1 a
  .have c:qed x.t.site x.t.seq≠qed m.t.site m.t.seq:=λe=>by
        obtain⟨f,g⟩:=qs7 (i x a).1 (i x a).2 b.1 b.2 e;have:=j x a;simp[vv,f,g]at this
   exact⟨by rw[has_put_other c];exact(h.has x a).1,λz=>by rw[atKey_put_other c];exact(h.has x a).2 z⟩
  obtain rfl:=jcj.1 a;exact⟨has_put_same d.isMap (q0j _ _) _,λz=>atKey_put_same d.isMap (q0j _ _) _ z⟩
 have c:qed s q≠qed m.t.site m.t.seq:=λe=>by
  obtain⟨f,g⟩:=qs7 k n b.1 b.2 e;exact a m oi ⟨f.symm,g.symm⟩
 rw[has_put_other c];exact h.no s q k n (λx p=>a x (by simp[p]))
def qgc (l:List TxM) (t:TxP):List TxM:=l.filter (λx=>!vv x.t t)
def qm0 (l:List TxM) (t:TxP):(qgc l t).map (·.t)=qdv (l.map (·.t)) t:=by
 unfold qgc qdv;rw[List.filter_map];rfl
variable {l:List TxM}
def qh2 {t:TxP} {x:TxM}:x∈qgc l t↔x∈l/\vv x.t t=false:=by simp[qgc,List.mem_filter]
def qtd (a:qgu (l.map (·.t))) (b:m∈l):(qgc l m.t).length+1=l.length:=by
 have h:=qf5 a (t:=m.t) (jcz.2 ⟨m,b,rfl⟩);rw[<-qm0]at h;simpa using h
def q1j (i:Tidy D) (h:qo5 D ws) (b:∀m∈ws,wfN m) (j:qgu (ws.map (·.t))) (c:m∈ws):qo5 (D.del (qed m.t.site m.t.seq)) (qgc ws m.t):=by
 have v:=qtd j c;have g:=size_del (k:=qed m.t.site m.t.seq) i;rw[(h.has m c).1,h.size]at g;refine⟨by simp at g;omega,λx a=>?_,λs q n o a=>?_⟩
 .obtain⟨a,d⟩:=qh2.1 a;have d:qed x.t.site x.t.seq≠qed m.t.site m.t.seq:=λe=>by
   obtain⟨p,r⟩:=qs7 (b x a).1 (b x a).2 (b m c).1 (b m c).2 e;simp[vv,p,r]at d
  exact⟨by rw[has_del_other d];exact(h.has x a).1,λz=>by rw[atKey_del_other d];exact(h.has x a).2 z⟩
 by_cases e:qed s q=qed m.t.site m.t.seq
 .rw[e];exact has_del_same
 rw[has_del_other e];refine h.no s q n o (λx u f=>?_);refine a x (qh2.2 ⟨u,?_⟩) f;cases hi:vv x.t m.t with
 |false=>rfl
 |true=>
  obtain⟨p1,p2⟩:=qe5.1 hi;exact absurd (by rw[<-f.1,<-f.2,p1,p2]) e
end
section
open Go.RowKit
def ja (l:List Ver):Lv:=l.flatMap qh
def jx (l:List Ver) (i:Nat):Ver:=l.getD i jq
def qaw (v:Ver):(qh v).length=6:=rfl
def qib (a b:List Ver):ja (a++b)=ja a++ja b:=by simp[ja]
def qcv (x:Ver) (l:List Ver):ja (x::l)=qh x++ja l:=by simp[ja]
def qh0 (x:Ver):ja [x]=qh x:=by simp[ja]
def qbe (l:List Ver):(ja l).length=l.length*6:=by
 induction l with
 |nil=>rfl
 |cons x l ih=>
  rw[qcv,jcl,ih,qaw,List.length_cons];omega
variable {l:List Ver}
def qkm (h:i<l.length):jx l i∈l:=by
 simp only[jx,List.getD,jcg h,Option.getD_some];exact jdr h
def qem (h:i<l.length):jx l i=l[i]:=by simp[jx,List.getD,List.getElem?_eq_getElem h]
def ql4:∀(l:List Ver) (i r:Nat) (u:Vl),i<l.length->(qh (jx l i))[r]?=some u->(ja l)[i*6+r]?=some u
 |[],_,_,_,h,_=>by simp at h
 |x::l,0,r,u,_,hu=>by
  have a:r<(qh x).length:=(jck.1 hu).1;rw[qcv,Nat.zero_mul,mF,jc3 a];exact hu
 |x::l,i+1,r,u,h,hu=>by
  have b:=ql4 l i r u oM hu;have e:(i+1)*6+r=(qh x).length+(i*6+r):=by rw[qaw];omega
  rw[qcv,e,jc0 oe,Nat.add_sub_cancel_left];exact b
def qgd (l:List Ver):∀u∈ja l,u.oneCell'=true:=by
 intro u a;unfold ja at a;obtain⟨x,_,b⟩:=List.mem_flatMap.1 a;simp[qh]at b;obtain rfl|rfl|rfl|rfl|rfl|rfl:=b<;>rfl
def qin:∀(l:List Ver) (i:Nat),(ja l).take (i*6)=ja (l.take i)
 |[],i=>by simp[ja]
 |x::l,0=>by simp[ja]
 |x::l,i+1=>by
  have e:(i+1)*6=(qh x).length+i*6:=by rw[qaw];omega
  rw[List.take_succ_cons,qcv,qcv,e,List.take_append];congr 1
  .exact List.take_of_length_le oe
  rw[Nat.add_sub_cancel_left,qin]
def qlc:∀(l:List Ver) (i:Nat),(ja l).drop (i*6)=ja (l.drop i)
 |[],i=>by simp[ja]
 |x::l,0=>by simp[ja]
 |x::l,i+1=>by
  have e:(i+1)*6=(qh x).length+i*6:=by rw[qaw];omega
  rw[List.drop_succ_cons,qcv,e,<-List.drop_drop,List.drop_left];exact qlc l i
structure qs5 (w:Wl) (a:Oa) (cap:Nat) (l:List Ver):Prop where
 len:l.length<=cap
 cap:cap<=9223372036854775807
 held:l=[]\/∃b,b<w.heap.size/\a=some (AD b 0)/\∀i r u,i<l.length->(qh (jx l i))[r]?=some u->w.cell? (AD b (i*6+r))=some u
def qs5.later {a:Oa} {j:Nat} (d:Bw w w') (h:qs5 w a j l):qs5 w' a j l:=
 ⟨h.len,h.cap,h.held.elim .inl λ⟨b,f,e,c⟩=>.inr ⟨b,jci f d.size,e,λi r u k g=>cell_later d (c i r u k g)⟩⟩
def qfo (h:w.ownsRow B T 6 v l.length (ja l)):∃a o,v=.slice a l.length o/\qs5 w a o l:=by
 obtain⟨rfl,b⟩|⟨g,o,q,rfl,k,d,e,f,m,n⟩:=h.2
 .exact⟨none,0,by rw[b],⟨oe,oe,.inl (jc2 b)⟩⟩
 refine⟨_,o,rfl,⟨e,by simp only[maxLen]at f;omega,.inr ⟨g,(jcs.1 d).1,rfl,λi r u s j=>?_⟩⟩⟩;have c:=h.cells (g:=g) rfl _ _ (ql4 l i r u s j);rw[qal]at c;exact c
def qgp {n:Nat} {d:Lv} (h:w.ownsRow B T 6 v n d) (a:Bw w w'):w'.ownsRow B T 6 v n d:=
 h.kept (row:=none) ⟨a.os,a.tape,a.output,a.size,λk b _=>a.block k b⟩ (by cases v.ownBlock<;>simp)
end
abbrev toL (s:By):List UInt8:=s.data.toList
def qif (a b:By):toL (a++b)=toL a++toL b:=by
 show (a++b).data.toList=_;rw[ByteArray.data_append,Array.toList_append]
def qsh {a b:By} (h:toL a=toL b):a=b:=by
 obtain⟨⟨x⟩⟩:=a;obtain⟨⟨y⟩⟩:=b;have c:x=y:=h;rw[c]
def yh (s:By):(toL s).length=s.size:=by
 show s.data.toList.length=s.data.size;rw[Array.length_toList]
def qca (s:By):s.toList=toL s:=by
 have a:∀(n i:Nat) (r:List UInt8),s.size-i=n->ByteArray.toList.loop s i r=r.reverse++(toL s).drop i:=by
  intro n;induction n with
  |zero=>
   intro i r b;unfold ByteArray.toList.loop;rw[if_neg oe,jdw (by rw[yh];omega),jdx]
  |succ n ih=>
   intro i r b;unfold ByteArray.toList.loop;rw[if_pos oe,ih _ _ oe];have d:i<(toL s).length:=by rw[yh];omega
   rw[jdy d,List.reverse_cons,jcy];congr 2;have c:i<s.data.size:=by have:=yh s;rw[Array.length_toList]at d;exact d
   show [s.data[i]!]++_=s.data.toList[i]::_;rw[getElem!_pos s.data i c,Array.getElem_toList];rfl
 exact a s.size 0 [] oe
def q93 (a b:By):(a.toList==b.toList)=decide (a=b):=by
 rw[qca,qca];by_cases h:a=b
 .rw[h];simp
 rw[decide_eq_false h];exact beq_eq_false_iff_ne.2 (λe=>h (qsh e))
section
open Go.RowKit
variable {a b:Ver}
def qar:qw a b=true↔a.wall<b.wall\/(a.wall=b.wall/\(a.count<b.count\/(a.count=b.count/\a.site<b.site))):=by
 unfold qw;obtain⟨h,e⟩|⟨h,e⟩|⟨h,e⟩:=qcw a.wall a.count b.wall b.count
 .rw[e,if_neg oj];simp only[show decide ((-1:Int)<0)=true from rfl,true_iff];omega
 .rw[e,if_pos rfl];simp only[decide_eq_true_eq];omega
 rw[e,if_neg oj];simp only[show decide ((1:Int)<0)=false from rfl,Bool.false_eq_true,false_iff];omega
def qs8 (a b:Ver):Prop:=a.wall=b.wall/\a.count=b.count/\a.site=b.site
def qmd (c:qw a b=false) (d:qw b a=false):qs8 a b:=by
 have e:¬qw a b=true:=by rw[c];decide
 have f:¬qw b a=true:=by rw[d];decide
 rw[qar]at e f;unfold qs8;omega
def qgb (a:Ver):qw a a=false:=by
 cases h:qw a a
 .rfl
 rw[qar]at h;omega
def qqy {c:Ver} (d:qw b a=true) (e:qw b c=false):qw a c=false:=by
 cases h:qw a c
 .rfl
 exfalso;have f:¬qw b c=true:=by rw[e];decide
 rw[qar]at h d f;omega
def qld (key a0 a1 a2 a3:Int) (l:List Hd) (v:Ver):Prop:=(∃h∈l,h.v=v/\h.key=key/\qdp a0 a1 a2 a3 v=true)/\∀h∈l,h.key=key->qdp a0 a1 a2 a3 h.v=true->qw v h.v=false
def qlf (w a0 a1 a2 a3:Int):∀(l p:List Hd) (g:Option Ver),
 (g=none->∀h∈p,h.key=w->qdp a0 a1 a2 a3 h.v=false)->(∀v,g=some v->qld w a0 a1 a2 a3 p v)->
 (l.foldl (qfv w a0 a1 a2 a3) g=none->∀h∈p++l,h.key=w->qdp a0 a1 a2 a3 h.v=false)/\(∀v,l.foldl (qfv w a0 a1 a2 a3) g=some v->qld w a0 a1 a2 a3 (p++l) v)
 |[],p,g,hn,hs=>by simpa using ⟨hn,hs⟩
 |x::l,p,g,hn,hs=>by
  have m:(qfv w a0 a1 a2 a3 g x=none->∀h∈p++[x],h.key=w->qdp a0 a1 a2 a3 h.v=false)/\(∀v,qfv w a0 a1 a2 a3 g x=some v->qld w a0 a1 a2 a3 (p++[x]) v):=by
   cases g with
   |none=>
    by_cases d:x.key=w/\qdp a0 a1 a2 a3 x.v=true
    .have e:qfv w a0 a1 a2 a3 none x=some x.v:=qgj ⟨d.1,d.2,rfl⟩;rw[e];refine⟨λh=>(by cases h),λv f=>?_⟩;injection f with f;subst f;refine⟨⟨x,oi,rfl,d.1,d.2⟩,λh j i k=>?_⟩;obtain c|c:=jcf.1 j
     .have:=hn rfl h c i;rw[k]at this;cases this
     obtain rfl:=jcj.1 c;exact qgb _
    have e:qfv w a0 a1 a2 a3 none x=none:=qe7 (λy=>d ⟨y.1,y.2.1⟩);rw[e];refine⟨λ_ h j i=>?_,λv f=>(by cases f)⟩;obtain c|c:=jcf.1 j
    .exact hn rfl h c i
    obtain rfl:=jcj.1 c;cases hq:qdp a0 a1 a2 a3 h.v
    .rfl
    exact absurd ⟨i,hq⟩ d
   |some b=>
    obtain⟨⟨y,q,r,s,t⟩,n⟩:=hs b rfl;by_cases d:x.key=w/\qdp a0 a1 a2 a3 x.v=true/\qw b x.v=true
    .have e:qfv w a0 a1 a2 a3 (some b) x=some x.v:=qgj d;rw[e];refine⟨λh=>(by cases h),λv f=>?_⟩;injection f with f;subst f;refine⟨⟨x,oi,rfl,d.1,d.2.1⟩,λh j i k=>?_⟩;obtain c|c:=jcf.1 j
     .exact qqy d.2.2 (n h c i k)
     obtain rfl:=jcj.1 c;exact qgb _
    have e:qfv w a0 a1 a2 a3 (some b) x=some b:=qe7 d;rw[e];refine⟨λh=>(by cases h),λv f=>?_⟩;injection f with f;subst f;refine⟨⟨y,by simp[q],r,s,t⟩,λh j i k=>?_⟩;obtain c|c:=jcf.1 j
    .exact n h c i k
    obtain rfl:=jcj.1 c;cases hq:qw b h.v
    .rfl
    exact absurd ⟨i,k,hq⟩ d
  have o:=qlf w a0 a1 a2 a3 l (p++[x]) (qfv w a0 a1 a2 a3 g x) m.1 m.2;rw[jcy,List.singleton_append]at o;exact o
variable {l:List Hd}
def qpu {e:Int} (h:zn e a0 a1 a2 a3 l=none):∀x∈l,x.key=e->qdp a0 a1 a2 a3 x.v=false:=by
 have:=(qlf e a0 a1 a2 a3 l [] none (λ_ h c=>(by cases c)) (λv d=>(by cases d))).1 h;simpa using this
variable {v:Ver}
def qlb {e:Int} (h:zn e a0 a1 a2 a3 l=some v):qld e a0 a1 a2 a3 l v:=by
 have:=(qlf e a0 a1 a2 a3 l [] none (λ_ h c=>(by cases c)) (λv d=>(by cases d))).2 v h;simpa using this
def qfk (l:List Hd):Prop:=∀x∈l,∀y∈l,x.key=y.key->qs8 x.v y.v->x=y
def qx5 {q:Int} {u:Ver} (g:qfk l) (h:qld q a0 a1 a2 a3 l u) (i:qld q a0 a1 a2 a3 l v):u=v:=by
 obtain⟨⟨x,c,j,d,k⟩,m⟩:=h;obtain⟨⟨y,e,n,f,o⟩,p⟩:=i;subst j n;have:=g x c y e (by rw[d,f]) (qmd (m y e f o) (p x c d k));rw[this]
def q3i {j:Int} (c:qfk l):zn j a0 a1 a2 a3 l=some v↔qld j a0 a1 a2 a3 l v:=by
 refine⟨qlb,λh=>?_⟩;cases e:zn j a0 a1 a2 a3 l with
 |none=>
  obtain⟨⟨x,d,f,g,i⟩,_⟩:=h;have:=qpu e x d g;rw[f,i]at this;cases this
 |some u=>rw[qx5 c (qlb e) h]
def q16 {o:Int} (i:qfk l):qfk (qa4 l o v):=by
 unfold qa4;split
 .rename_i h;have j:l.any (qb2 o v)=false:=by
   unfold qb5 at h;split at h
   .split at h
    .split at h
     .cases h
     rename_i d;simpa using d
    cases h
   cases h
  rw[List.any_eq_false]at j;have k:∀x∈l,x.key=o->¬qs8 x.v v:=λx d e c=>j x d (by simp[qb2,e,c.1,c.2.1,c.2.2]);intro x d y m e c
  obtain f|f:=jcf.1 d<;>obtain g|g:=jcf.1 m
  .exact i x f y g e c
  .obtain rfl:=jcj.1 g;exact absurd c (k x f e)
  .obtain rfl:=jcj.1 f;exact absurd ⟨c.1.symm,c.2.1.symm,c.2.2.symm⟩ (k y g e.symm)
  rw[jcj.1 f,jcj.1 g]
 exact i
def q31 {m:List Hd} (c:qfk l) (h:∀x∈m,x∈l):qfk m:=λx d y e=>c x (h x d) y (h y e)
end
section
open _root_.Go.Proofs.Tryz Go.RowKit
variable {v:Ver} {r:Bool}
def qsx {a0 a1 a2 a3:Int} (h:qdp a0 a1 a2 a3 v=r) (k:0<=v.site) (l:v.site<=3) (w:Wl):
 Ca 221 #[.agg #[U a0,U a1,U a2,U a3],.agg #[U v.wall,U v.count,U v.site,U v.seq,.string v.data,.bool v.gone]] w (Rn (.bool r) w):=by
 have s:=qb.one;obtain⟨f,g,d,e,i,j⟩:=v;have H:Hid (decide (e<=qp d a0 a1 a2 a3)=r):=h;simp only at k l;have t:d<4:=oe;have o:=(qo.new w 113 a0 a1 a2 a3).boxed (.cells #[U f,U g,U d,U e,.string i,.bool j] 218);have m:=qd.new (w:=w.alloc (.cells #[U a0,U a1,U a2,U a3] 113)) (T:=218) (n:=w.heap.size+1) [U f,U g,U d,U e,.string i,.bool j] oi;have p:=boxed (boxed (jcc _ w) (.cells #[U a0,U a1,U a2,U a3] 113)) (.cells #[U f,U g,U d,U e,.string i,.bool j] 218);have u:=qb.cell (m.c 2);have x:=qb.cell (m.c 3);have y:=qb.cell (qk9 o k l);go_enter func221,ntmps221;go_wp2_with fail
 refine wrl ?_;repeat (go_big_quiet_step (fail))
 refine wpQuiet_nil ?_;rintro z ⟨⟨_,q⟩,rfl⟩;go_wp2_with fail
 go_ret;exact⟨by rw[<-H.out];rfl,qa p q⟩
def qtb (a b:Ver):Int:=if qdr a.wall a.count b.wall b.count=0 then qic a.site b.site else qdr a.wall a.count b.wall b.count
variable {a b:Ver}
def qvz:qtb a b<0↔qw a b=true:=by
 rw[qar];unfold qtb;obtain⟨h,e⟩|⟨h,e⟩|⟨h,e⟩:=qcw a.wall a.count b.wall b.count
 .rw[e,if_neg oj];omega
 .rw[e,if_pos rfl];obtain⟨g,f⟩|⟨g,f⟩|⟨g,f⟩:=qil a.site b.site<;>rw[f]<;>omega
 rw[e,if_neg oj];omega
def q18:qtb a b=0↔qs8 a b:=by
 unfold qtb qs8;obtain⟨h,e⟩|⟨h,e⟩|⟨h,e⟩:=qcw a.wall a.count b.wall b.count
 .rw[e,if_neg oj];omega
 .rw[e,if_pos rfl];obtain⟨g,f⟩|⟨g,f⟩|⟨g,f⟩:=qil a.site b.site<;>rw[f]<;>omega
 rw[e,if_neg oj];omega
def qp3 {r:Int} (h:qtb a b=r) (w:Wl):
 Ca 255 #[.agg #[U a.wall,U a.count,U a.site,U a.seq,.string a.data,.bool a.gone],.agg #[U b.wall,U b.count,U b.site,U b.seq,.string b.data,.bool b.gone]] w (Rn (U r) w):=by
 obtain⟨d,f,l,m,o,p⟩:=a;obtain⟨g,i,bs,q,s,t⟩:=b;have u:=(qd.new (w:=w) (T:=218) [U d,U f,U l,U m,.string o,.bool p] rfl).boxed (.cells #[U g,U i,U bs,U q,.string s,.bool t] 218);have x:=qd.new (w:=w.alloc (.cells #[U d,U f,U l,U m,.string o,.bool p] 218)) (T:=218) (n:=w.heap.size+1) [U g,U i,U bs,U q,.string s,.bool t] oi;have y:=boxed (boxed (jcc _ w) (.cells #[U d,U f,U l,U m,.string o,.bool p] 218)) (.cells #[U g,U i,U bs,U q,.string s,.bool t] 218);simp only[qtb]at h;obtain⟨c,z⟩:∃c,qdr d f g i=c:=⟨_,rfl⟩;rw[z]at h;have B:=hd1 z;by_cases k:c=0
 .rw[if_pos k]at h;subst k;have H:=hd1 h;go_enter func255,ntmps255;go_wp2_with fail
  refine(qg0 d f g i _).mono ?_;rintro e C ⟨rfl,j⟩;rw[B.out];replace u:=u.later j;replace x:=x.later j;have D:=u.c 2;have E:=x.c 2;go_wp2_with (go_at_call 264;refine(q0n _ _ _).mono ?_;rintro e w' ⟨rfl,rfl⟩)
  go_ret;exact⟨by rw[<-H.out];rfl,qa y j⟩
 rw[if_neg k]at h;have F:=beq_eq_false_iff_ne.2 k;subst h;go_enter func255,ntmps255;go_wp2_with fail
 refine(qg0 d f g i _).mono ?_;rintro e C ⟨rfl,j⟩;rw[B.out];go_wp2_with fail
 go_ret;exact⟨rfl,qa y j⟩
def qj4 {n:Int} (h:inB n 0 7=r) (w:Wl):
 Ca 245 #[U n] w λe w'=>e=.returned (.bool r)/\w'=w:=by
 by_cases c:0<=n;by_cases d:n<8;have e:inB n 0 7=true:=jk.2 ⟨c,oe⟩;rotate_left;have e:inB n 0 7=false:=oV;rotate_left;have e:inB n 0 7=false:=by simp[inB,c]
 all_goals
  rw[e]at h;subst h;go_enter func245,ntmps245;go_wp2;go_ret;exact⟨rfl,rfl⟩
def qqf (h:qau v=r) (w:Wl):
 Ca 253 #[.agg #[U v.wall,U v.count,U v.site,U v.seq,.string v.data,.bool v.gone]] w (Rn (.bool r) w):=by
 obtain⟨j,k,f,g,d,l⟩:=v;have R:=qd.new (w:=w) (T:=218) [U j,U k,U f,U g,.string d,.bool l] rfl;have m:=boxed (jcc _ w) (.cells #[U j,U k,U f,U g,.string d,.bool l] 218);obtain⟨t,n⟩:∃t,(qi j&&qi k)=t:=⟨_,rfl⟩;have s:=hd1 n;have u:(t&&inB f 0 3&&inB g 1 1099511627776&&decide ((d.size:Int)<=12)&&!(l&&!d.toList.isEmpty))=r:=by rw[<-n];exact h
 have H:=hd1 u;go_enter func253,ntmps253;go_wp2_with fail
 refine(qe6 j k _).mono ?_;rintro e x ⟨rfl,o⟩;rw[s.out];replace R:=R.later o;replace m:=qa m o;have y:=R.c 2;have z:=R.c 3;have B:=R.c 4;have C:=R.c 5;cases t
 .go_wp2_with fail
  go_ret;exact⟨by rw[<-H.out];rfl,m⟩
 by_cases a1:f<0;have e:inB f 0 3=false:=oV;have i:Hid (r=false):=by show r=false;rw[<-H.out,e];simp
 rotate_left;by_cases a2:4<=f;have e:inB f 0 3=false:=oV;have i:Hid (r=false):=by show r=false;rw[<-H.out,e];simp
 rotate_left;have p:Hid (inB f 0 3=true):=jk.2 oe;by_cases a3:g<1;have e:inB g 1 1099511627776=false:=oV;have i:Hid (r=false):=by show r=false;rw[<-H.out,e];simp
 rotate_left;by_cases D:1099511627776<g;have e:inB g 1 1099511627776=false:=oV;have i:Hid (r=false):=by show r=false;rw[<-H.out,e];simp
 rotate_left;have q:Hid (inB g 1 1099511627776=true):=jk.2 oe;cases l;have i:Hid (r=decide ((d.size:Int)<=12)):=by show r=_;rw[<-H.out,p.out,q.out];simp
 rotate_left;have i:Hid (r=d.toList.isEmpty):=by
  show r=_;rw[<-H.out,p.out,q.out];cases hd:d.toList.isEmpty
  .simp
  have:d.size=0:=by
   have:d.toList.length=0:=by rw[List.isEmpty_iff.1 hd];rfl
   rwa [qca,yh]at this
  simp[this]
 all_goals
  go_wp2_with fail
  go_ret;exact⟨by rw[i.out];rfl,m⟩
end
section
open Go.RowKit
def qiq (w:Wl) (e p q d:Tp) (k b o f r:Nat) (a:Addr) (h s m:Nat) (c:Lv)
 (t:P.underlying e=some (.slice d)) (l:(P.info? d).map (·.size)=some k) (u:m=Nat.min h f) (x:c.length=m*k)
 (y:∀j v,c[j]?=some v->w.cell? (a.add j)=some v) (z:∀j,j<c.length->(w.cell? (AD b (o+j))).isSome=true) (A:∀j,j<c.length->w.frozen? (AD b (o+j))=false) (B:∀v∈c,v.oneCell'=true):
 (Builtin.copy_ #[e,p] q #[.slice (some (AD b o)) f r,.slice (some a) h s]).run P w=.ok (goInt m) (w.setCells b o c):=by
 have n:=run_loadCells_list (P:=P) w a c y;have C:=run_storeCells_cells (P:=P) b o c 0 w (by simpa using z) (by simpa using A) B;rw[x]at n;cases hq:P.info? d with
 |none=>simp[hq]at l
 |some i=>
  have D:i.size=k:=by simpa[hq]using l
  simp[Builtin.copy_,run_underlying t,Builtin.lenOf,Builtin.firstCells,sizeOf,typeInfo,hq,D,<-u,n,C]
variable {o:Oper} {K:Act->Wv} {F:Vl}
def qnm (w:Wl) (d s:Operand) (t b:Tp)
 (c:o.op=.call {callee:=.builtin .copy,args:=#[d,s],argTypes:=#[t,b]}) (v u:Vl) (e:a.eval d=v) (f:a.eval s=u)
 (i:(Builtin.copy_ #[t,b] o.type #[v,u]).run P w=.ok F w') (h:K (a.put o.dst F) w'):o.wp P a w K Q:=by
 unfold Oper.wp execOp;simp only[c,resolve,invoke,builtin,Sem.run_bind,Sem.run_pure,Result.andThen_ok,List.map_toArray,List.map_cons,List.map_nil,e,f,i];exact h
def qi7 (w:Wl) {c:Array Oper} {rest:List Oper} (e:o.guard=none) (d s:Operand) (t b:Tp)
 (f:o.op=.call {callee:=.builtin .copy,args:=#[d,s],argTypes:=#[t,b]}) (v u:Vl) (i:a.eval d=v) (j:a.eval s=u)
 (k:(Builtin.copy_ #[t,b] o.type #[v,u]).run P w=.ok F w') (h:wpList P c Q rest (a.put o.dst F) w'):wpList P c Q (o::rest) a w:=
 wpList_plain e λ_ l=>qnm w d s t b f v u i j k (l _ _ h)
def qky {e:Array Oper} {E:Prop}
 (f:o.guard=none) (d x:Operand) (b c:Tp) (h:o.op=Op.call {callee:=Callee.builtin Builtin.copy,args:=#[d,x],argTypes:=#[b,c]})
 (v u:Vl) (i:a.eval d=v) (j:a.eval x=u) (k:(Builtin.copy_ #[b,c] o.type #[v,u]).run P w=.ok F w') (l:K (a.put o.dst F) w'):
 if Region.wanted o (yielded e a.tmps)=true then Oper.wp P o a w K Q else E:=by
 have m:Region.wanted o (yielded e a.tmps)=true:=by simp[Region.wanted,f]
 rw[if_pos m];exact qnm w d x b c h v u i j k l
def qat (g:Nat):∀(b:Lv) (o:Nat) (w:Wl) {cur:Av} {T:Tp},w.heap[g]?=some (.cells cur T (0,0))->∃d,(w.setCells g o b).heap[g]?=some (.cells d T (0,0))/\d.size=cur.size
 |[],_,_,cur,_,h=>⟨cur,h,rfl⟩
 |v::b,o,w,cur,T,h=>by
  obtain⟨c,e,f⟩:=qat g b (o+1) (w.setCell (AD g o) v) (heap_setCell_same w g o cur T v h);exact⟨c,e,by simpa using f⟩
def qfz {B n cap k:Nat} {r:Av} {xs:Lv} (f:B<=g) (b:w.heap[g]?=some (.cells r T (0,0))) (h:cap<=maxLen) (c:r.size=cap*k) (d:n<=cap) (e:xs.length=n*k)
 (l:∀j u,xs[j]?=some u->w.cell? (AD g j)=some u):w.ownsRow B T k (.slice (PT g) n cap) n xs:=by
 refine⟨e,.inr ⟨g,cap,r,rfl,f,b,d,h,c,?_⟩⟩;have p:n*k<=r.size:=by rw[c];exact Nat.mul_le_mul_right _ d
 apply List.ext_getElem
 .rw[jc5,Array.length_toList,e];omega
 intro i q m;have:=l i xs[i] (jcg m);rw[cell_of_row w g i r T (0,0) b]at this;rw[List.getElem_take,Array.getElem_toList];rw[jde oe]at this;injection this
def qio (g:Nat) (b:Lv) (o:Nat) (w:Wl) (h:∀j,j<b.length->(w.cell? (AD g (o+j))).isSome=true) (k:Nat) (c:(w.cell? (AD g k)).isSome=true):((w.setCells g o b).cell? (AD g k)).isSome=true:=by
 by_cases d:o<=k/\k<o+b.length
 .have:=World.cell?_setCells_in g b o w h (k-o) oe;rw[show o+(k-o)=k by omega]at this;rw[this];rfl
 rw[World.cell?_setCells_out g b o w (AD g k) (λ_ _=>by show k<o\/o+b.length<=k;omega)];exact c
def qth {b:Lv} {o:Nat} (h:∀j,j<b.length->(w.cell? (AD g (o+j))).isSome=true) {j:Nat} {u:Vl} (c:b[j]?=some u):(w.setCells g o b).cell? (AD g (o+j))=some u:=by
 obtain⟨d,e⟩:=jck.1 c;rw[World.cell?_setCells_in g b o w h j d,e]
def qvs (A V D:Lv) (h:∀j u,A[j]?=some u->w.cell? (AD g j)=some u) (e:∀j,j<A.length+V.length+D.length->(w.cell? (AD g j)).isSome=true):
 ∀j u,(A++V++D)[j]?=some u->((w.setCells g (A.length+V.length) D).setCells g A.length V).cell? (AD g j)=some u:=by
 intro j u b;have f:∀t,t<D.length->(w.cell? (AD g (A.length+V.length+t))).isSome=true:=λt i=>e _ oe;have k:∀t,t<V.length->((w.setCells g (A.length+V.length) D).cell? (AD g (A.length+t))).isSome=true:=λt i=>qio g D _ w f _ (e _ oe);rcases jc7 j (A.length+V.length)with c|c
 .rw[jc3 (by simpa using c)]at b;obtain d|d:=jc7 j A.length
  .rw[jc3 d]at b;rw[World.cell?_setCells_out g V _ _ _ (λ_ _=>.inl d),World.cell?_setCells_out g D _ _ _ (λ_ _=>.inl (by show j<_;omega))];exact h j u b
  rw[jc0 d]at b;have:=qth k b;rwa [show A.length+(j-A.length)=j by omega]at this
 rw[jc0 (by simpa using c),jcl]at b;rw[World.cell?_setCells_out g V _ _ _ (λ_ _=>.inr c)];have:=qth f b;rwa [show A.length+V.length+(j-(A.length+V.length))=j by omega]at this
def qlp (A V D:Lv) (h:∀j u,A[j]?=some u->w.cell? (AD g j)=some u) (e:∀j,j<A.length+V.length+D.length->(w.cell? (AD g j)).isSome=true):
 ∀j u,(A++V++D)[j]?=some u->((w.setCells g A.length V).setCells g (A.length+V.length) D).cell? (AD g j)=some u:=by
 intro j u b;have f:∀t,t<V.length->(w.cell? (AD g (A.length+t))).isSome=true:=λt i=>e _ oe;have k:∀t,t<D.length->((w.setCells g A.length V).cell? (AD g (A.length+V.length+t))).isSome=true:=λt i=>qio g V _ w f _ (e _ oe);rcases jc7 j (A.length+V.length)with c|c
 .rw[jc3 (by simpa using c)]at b;rw[World.cell?_setCells_out g D _ _ _ (λ_ _=>.inl c)];obtain d|d:=jc7 j A.length
  .rw[jc3 d]at b;rw[World.cell?_setCells_out g V _ _ _ (λ_ _=>.inl d)];exact h j u b
  rw[jc0 d]at b;have:=qth f b;rwa [show A.length+(j-A.length)=j by omega]at this
 rw[jc0 (by simpa using c),jcl]at b;have:=qth k b;rwa [show A.length+V.length+(j-(A.length+V.length))=j by omega]at this
end
section
open _root_.Go.Proofs.Tryz Go.RowKit
def q0x:(prog.info? 218).map (λi=>(i.zero,i.size,i.bytes))=some (some (.agg YA),6,56):=oh
def qn8:(prog.info? 218).map (·.size)=some 6:=oh
def qiy (w:Wl) (sv:Vl) (L':List Ver) (g cap:Nat) (w':Wl):Prop:=
 w'.ownsRow 0 218 6 (.slice (PT g) L'.length cap) L'.length (ja L')/\w.grownBy w' sv.ownBlock/\(sv.ownBlock=some g\/w.heap.size<=g)
def qj0 (L:List Ver) (p:Nat) (v:Ver):List Ver:=L.take p++[v]++L.drop p
variable {L:List Ver}
def qg1 (v:Ver) (h:p<=L.length):(qj0 L p v).length=L.length+1:=by
 simp[qj0];omega
def qrc (L:List Ver) (p:Nat) (v:Ver):ja (qj0 L p v)=ja (L.take p)++qh v++ja (L.drop p):=by
 unfold qj0;rw[qib,qib,qh0]
def qyq {T:Vl} (v:Ver) (f:Nat) (w:Wl) (i:w.ownsRow 0 218 6 T L.length (ja L)) (G:L.length<=1000) (r:w.heap[f]?=some (.cells (qh v).toArray 218 (0,0))):
 Ca 256 #[T,U L.length,.slice (PT f) 1 1] w λe w'=>
  ∃g A,e=.returned (.slice (PT g) (L.length+1) A)/\qiy w T (L++[v]) g A w':=by
 obtain⟨y,V,z,B,C⟩:=info_parts q0x;have D:∀j u,(qh v)[j]?=some u->w.cell? (((AD f 0):Addr).add j)=some u:=λj u s=>by
  rw[qal,cell_of_row w f j _ 218 (0,0) r];simpa using s
 have q:=λu s=>qgd [v] u (by rw[qh0];exact s);obtain⟨a,A,rfl,t⟩:=qfo i;have H:=t.len;have P:=t.cap;have E:=hd1 D;have Q:=hd1 r;clear D r t;obtain⟨n,k⟩:∃n,L.length=n:=⟨_,rfl⟩;have I:=hd1 k;rw[k]at i H G ⊢;clear k
 have J:(Value.slice a n A=.slice none 0 0)\/∃g,a=some (AD g 0):=by
  obtain⟨h,_⟩|⟨g,c,X,h,_⟩:=i.2
  .exact .inl h
  injection h with h _ _;exact .inr ⟨g,h⟩
 have F:Hid (∀g b d,d.ownsRow 0 218 6 (.slice (PT g) (n+1) b) (n+1) (ja L++qh v)->w.grownBy d (Value.slice a n A).ownBlock->((Value.slice a n A).ownBlock=some g\/g=w.heap.size)->qiy w (.slice a n A) (L++[v]) g b d):=λg b d q K M=>
  ⟨by rw[qib,qh0,jcl,I.out];exact q,K,M.imp_right (λe=>oe)⟩
 obtain N|⟨R,rfl⟩:=J
 .injection N with ha k hcp;subst ha k hcp;go_enter func256,ntmps256;go_wp2_with (at_builtin;refine wpList_append_lies _ rfl _ _ 184 rfl 0 218 y (.agg YA) 6 56 underlying184 V z B C rfl oj _ _ (ja L) rfl i (AD f 0) 1 1 (qh v) rfl rfl E.out q oj oN oe oe _ rfl ?_;intro g b d l m o O;have x:=hd1 (F.out g b d l m o);clear l m o)
  go_ret;exact⟨g,b,rfl,x.out⟩
 go_enter func256,ntmps256;go_wp2_with (at_builtin;refine wpList_append_lies _ rfl _ _ 184 rfl 0 218 y (.agg YA) 6 56 underlying184 V z B C rfl oj _ _ (ja L) rfl i (AD f 0) 1 1 (qh v) rfl rfl E.out q oj oN oe oe _ rfl ?_;intro g b d l m o O;have x:=hd1 (F.out g b d l m o);clear l m o)
 all_goals
  go_ret;exact⟨g,b,rfl,x.out⟩
def qtg {g n A:Nat} (v:Ver) (b:Nat) (w:Wl) (o:w.ownsRow 0 218 6 (.slice (PT g) n A) n (ja L)) (q:L.length=n) (Z:n<=1000) (hp:p<n) (hroom:n+1<=A) (i:w.heap[b]?=some (.cells (qh v).toArray 218 (0,0))) (C:b≠g):
 Ca 256 #[.slice (PT g) n A,U p,.slice (PT b) 1 1] w λe w'=>
  ∃g' D,e=.returned (.slice (PT g') (n+1) D)/\qiy w (.slice (PT g) n A) (qj0 L p v) g' D w':=by
 obtain⟨g1,cap1,cur,E,M,k,hnc,F,N,O⟩:=o.2.resolve_left (λh=>by simp at h);simp only[Value.slice.injEq,Option.some.injEq,Addr.mk.injEq,and_true,true_and]at E;obtain⟨rfl,rfl⟩:=E;have hc63:A<=9223372036854775807:=by simp only[maxLen]at F;omega
 have r:(ja (L.drop p)).length=(n-p)*6:=by rw[qbe,jdt,q]
 have s:(ja (L.take p)).length=p*6:=by rw[qbe,jc5];omega
 have y:=λj u l=>by have:=o.cells (g:=g) rfl j u l;rwa [qal]at this
 have m:∀j,j<A*6->(w.cell? (AD g j)).isSome=true:=λj a=>by rw[cell_of_row w g j cur _ (0,0) k,jde oe];rfl
 have z:=λj=>frozen_of_row w g j cur _ k
 have G:∀j u,(qh v)[j]?=some u->w.cell? (AD b j)=some u:=λj u l=>by
  rw[cell_of_row w b j _ 218 (0,0) i];simpa using l
 have H:=λu l=>qgd [v] u (by rw[qh0];exact l)
 have P:∀lb cb,(callFunc 265 #[.slice (PT b) 1 1,.slice (some (AD g ((p+1)*6))) lb cb]).run prog w=.ok (.value (.bool false)) w:=λlb cb=>by
  rw[run_callFunc_extern func265 oh oh oh (e:=Extern.SlicesOverlaps.overlaps #[184,184] #[4]) oh,
   Lib.run_overlaps_apart w 184 4 218 underlying184 6 sizeOf218 (AD b 0) (AD g ((p+1)*6)) 1 1 lb cb C 218 218 6 cur.size (by simp[World.shape?,i,qh]) (by simp[World.shape?,k]) oe (by simp[World.frozen?,i]) (by simp[World.frozen?,i])]
  rfl
 have I:∀c d B,(Builtin.copy_ #[184,184] c #[.slice (some (AD g ((p+1)*6))) (n-p) d,.slice (some (AD g (p*6))) (n+1-p) B]).run prog w.drew=.ok (goInt (n-p:Nat)) (w.drew.setCells g ((p+1)*6) (ja (L.drop p))):=λc d B=>
  qiq w.drew _ _ c 218 6 g ((p+1)*6) (n-p) d (AD g (p*6)) (n+1-p) B (n-p) (ja (L.drop p)) underlying184 qn8 (by simp only[Nat.min_def];split<;>omega) r
   (λj u a=>by rw[Addr.add_lit];exact y (p*6+j) u (by rw[<-qlc,List.getElem?_drop]at a;exact a))
   (λj a=>m _ oe) (λj _=>z _) (qgd _)
 obtain⟨W1,f⟩:∃W1,W1=w.drew.setCells g ((p+1)*6) (ja (L.drop p)):=⟨_,rfl⟩;have J:∀(W:Wl),(∀x,W.cell? x=W1.cell? x)->(∀x,W.frozen? x=W1.frozen? x)->∀c d,(Builtin.copy_ #[184,184] c #[.slice (some (AD g (p*6))) (n+1-p) d,.slice (PT b) 1 1]).run prog W=.ok (goInt 1) (W.setCells g (p*6) (qh v)):=λW K Q c d=>
  qiq W _ _ c 218 6 g (p*6) (n+1-p) d (AD b 0) 1 1 1 (qh v) underlying184 qn8 (by simp only[Nat.min_def];split<;>omega) rfl
   (λj u a=>by
        rw[qal,K,f,World.cell?_setCells_out g _ _ _ _ (λh _=>absurd h C)];exact G j u a)
   (λj a=>by
        rw[K,f];exact qio g (ja (L.drop p)) ((p+1)*6) w.drew (λt ht=>m ((p+1)*6+t) oe) (p*6+j) (m (p*6+j) (by simp[qh]at a;omega)))
   (λj a=>by rw[Q,f,World.frozen?_setCells];exact z _) H
 have R:Hid (qiy w (.slice (PT g) n A) (qj0 L p v) g A (W1.setCells g (p*6) (qh v))):=by
  obtain⟨c1,S,q2⟩:=qat g (ja (L.drop p)) ((p+1)*6) w.drew (cur:=cur) (T:=218) k;obtain⟨c2,V,q4⟩:=qat g (qh v) (p*6) (w.drew.setCells g ((p+1)*6) (ja (L.drop p))) S;rw[f];refine⟨qfz (jcw _) V F oe (by rw[qg1 v oe];omega) (qbe _) ?_,?_,.inl rfl⟩
  .rw[qrc];have:=qvs (w:=w.drew) (g:=g) (ja (L.take p)) (qh v) (ja (L.drop p)) (λj u a=>y j u (by rw[<-qin,List.getElem?_take]at a;split at a;exact a;cases a)) (λj a=>m j (by rw[s,r,qaw]at a;omega));rw[s,qaw,show p*6+6=(p+1)*6 by omega]at this;exact this
  have X:yu g w w.drew:=yu.ofBelow (jcc _ _).drew;exact(X.trans (zg g _ _ _) (.inl rfl)).trans (zg g _ _ _) (.inl rfl)
 rw[<-f]at I;have Y:=J W1 (λ_=>rfl) (λ_=>rfl);clear f J;have hw1:IntKind.i64.wrap ((p:Int)+1)=(p:Int)+1:=mn;have hb1:(0:Int)<=(p:Int)+1:=oe;have hin:p<=n:=oe;have htn:((p:Int)+1).toNat=p+1:=oe;have hb2:¬(A=p+1):=oe;have hb3:(p:Int)<=(n:Int)+1:=oe;have hb4:¬(A=p):=oe;have hz2:¬((p:Int)=(n:Int)):=oe;have EL:=hd1 q;clear r s y m z G H O o N M k i q;go_enter func256,ntmps256;go_wp2_with (simp only[P])
 go_region_law (refine qky rfl _ _ 184 184 rfl _ _ mg mg (I _ _ _) ?_)
 go_wp2_with (at_builtin;refine qi7 _ rfl _ _ 184 184 rfl _ _ rfl rfl (Y _ _) ?_)
 go_ret;exact⟨g,A,rfl,R.out⟩
end
section
open _root_.Go.Proofs.Tryz Go.RowKit
def qbr (L:List Ver):Prop:=L.Pairwise λa b=>qw a b=true
variable {L:List Ver} {j:Nat}
def qbr.at (h:qbr L) (b:i<j) (a:j<L.length):qw (jx L i) (jx L j)=true:=by
 rw[qem a,qem oe];exact List.pairwise_iff_getElem.1 h i j oe a b
def qbr.mono (h:qbr L) {t:Ver} (c:i<=j) (b:j<L.length) (a:qw (jx L j) t=true):qw (jx L i) t=true:=by
 obtain g|g:=jc7 i j
 .have:=h.at g b;rw[qar]at this a ⊢;omega
 obtain rfl:i=j:=oe;exact a
def qu8 (L:List Ver) (t:Ver) (p:Nat):Prop:=p<=L.length/\(∀j,j<p->qw (jx L j) t=true)/\(∀j,p<=j->j<L.length->qw (jx L j) t=false)
def qfa (L:List Ver) (t:Ver) (p:Nat):Bool:=decide (p<L.length)&&decide (qtb (jx L p) t=0)
def qyn {a:Oa} {cap:Nat} (t:Ver) (w:Wl) (H:qs5 w a cap L) (J:qbr L) (hl:L.length<=1000):
 Ca 254 #[.slice a L.length cap,.agg #[U t.wall,U t.count,U t.site,U t.seq,.string t.data,.bool t.gone],.func (.func 255) #[] #[]] w λe w'=>
  ∃p:Nat,e=.returned (.tuple #[U p,.bool (qfa L t p)])/\qu8 L t p/\Bw w w':=by
 have hne:=qb.one;have D:=qd.new (w:=w) (T:=218) (qh t) rfl;have l:=boxed (jcc _ w) (.cells (qh t).toArray 218);have E:=hd1 J;go_enter func254,ntmps254;go_wp2_with fail
 change qd (w.alloc (.cells #[U t.wall,U t.count,U t.site,U t.seq,.string t.data,.bool t.gone] 218)) w.heap.size (qh t)at D;change Bw w (w.alloc (.cells #[U t.wall,U t.count,U t.site,U t.seq,.string t.data,.bool t.gone] 218))at l;go_loopw [9,10] (λK N wr=>∃lo A:Nat,K=U lo/\N=U A/\lo<=A/\A<=L.length/\Hid ((∀j,j<lo->qw (jx L j) t=true)/\(∀j,A<=j->j<L.length->qw (jx L j) t=false))/\qd wr w.heap.size (qh t)/\Bw w wr) (λi j _=>(intOf j).toNat-(intOf i).toNat)
 case atStart=>exact⟨0,L.length,rfl,rfl,oe,oe,(⟨λj O=>oe,λj P o=>oe⟩:(∀j,j<0->qw (jx L j) t=true)/\(∀j,L.length<=j->j<L.length->qw (jx L j) t=false)),D,l⟩
 obtain⟨lo,A,rfl,rfl,P,o,I,R,l⟩:=hrel;have F:=H.later l;have d0:=qb.cell (R.c 0);have d1:=qb.cell (R.c 1);have d2:=qb.cell (R.c 2);have d3:=qb.cell (R.c 3);have d4:=qb.cell (R.c 4);have d5:=qb.cell (R.c 5);by_cases hlt:lo<A
 .obtain⟨b,Q,rfl,f⟩:∃b,b<wr.heap.size/\a=some (AD b 0)/\∀i r u,i<L.length->(qh (jx L i))[r]?=some u->wr.cell? (AD b (i*6+r))=some u:=by
   obtain h|h:=F.held
   .rw[h]at o;simp at o;omega
   exact h
  obtain⟨m,S⟩:∃m,(lo+A)/2=m:=⟨_,rfl⟩;have n:m<L.length:=oe;obtain⟨y,d⟩:∃y,jx L m=y:=⟨_,rfl⟩;have x0:wr.cell? (AD b (m*6))=some (U y.wall):=f m 0 _ n oO;have x1:=f m 1 _ n oO;have x2:=f m 2 _ n oO;have x3:=f m 3 _ n oO;have q:=f m 4 _ n oO;have s:=f m 5 _ n oO;replace x0:=qb.cell x0;replace x1:=qb.cell x1;replace x2:=qb.cell x2;replace x3:=qb.cell x3;replace q:=qb.cell q;replace s:=qb.cell s;have M:=hd1 S;have Y:=hd1 d;have e1:((lo:Int)+(A:Int))/2=(m:Int):=oe;obtain⟨c,v⟩:∃c,qtb y t=c:=⟨_,rfl⟩;have C:=hd1 v;by_cases V:c<0
  .go_wp2_with fail
   refine wrl ?_;repeat (go_big_quiet_step ((go_at_call 255;with_reducible exact qg (qp3 C.out _))))
   refine wpQuiet_nil ?_;rintro x ⟨⟨_,k⟩,rfl⟩;go_wp2_with fail
   go_roundw
   case rel=>
        have z:=qvz.1 (by rw[C.out];exact V);exact⟨m+1,A,oI,rfl,by have:=M.out;omega,o,(⟨λj O=>E.out.mono oe n (by rw[Y.out];exact z),I.out.2⟩:_/\_),R.later k,qa l k⟩
   simp[intOf];have:=M.out;omega
  go_wp2_with fail
  refine wrl ?_;repeat (go_big_quiet_step ((go_at_call 255;with_reducible exact qg (qp3 C.out _))))
  refine wpQuiet_nil ?_;rintro x ⟨⟨_,k⟩,rfl⟩;go_wp2_with fail
  go_roundw
  case rel=>
   have z:qw y t=false:=by
        cases hq:qw y t
        .rfl
        exfalso
        have:=qvz.2 hq;rw[C.out]at this;omega
   exact⟨lo,m,rfl,rfl,by have:=M.out;omega,by omega,(⟨I.out.1,λj W X=>by
        cases hq:qw (jx L j) t
        .rfl
        have:=E.out.mono W X hq;rw[Y.out,z]at this;cases this⟩:_/\_),R.later k,qa l k⟩
  simp[intOf];have:=M.out;omega
 obtain rfl:A=lo:=oe;have G:Hid (qu8 L t A):=⟨o,I.out.1,I.out.2⟩;have hnl:¬(A:Int)<(A:Int):=oe;by_cases g:A<L.length
 .obtain⟨b,Q,rfl,f⟩:∃b,b<wr.heap.size/\a=some (AD b 0)/\∀i r u,i<L.length->(qh (jx L i))[r]?=some u->wr.cell? (AD b (i*6+r))=some u:=by
   obtain h|h:=F.held
   .rw[h]at g;simp at g
   exact h
  obtain⟨y,d⟩:∃y,jx L A=y:=⟨_,rfl⟩;have x0:wr.cell? (AD b (A*6))=some (U y.wall):=f A 0 _ g oO;have x1:=f A 1 _ g oO;have x2:=f A 2 _ g oO;have x3:=f A 3 _ g oO;have q:=f A 4 _ g oO;have s:=f A 5 _ g oO;replace x0:=qb.cell x0;replace x1:=qb.cell x1;replace x2:=qb.cell x2;replace x3:=qb.cell x3;replace q:=qb.cell q;replace s:=qb.cell s;obtain⟨c,v⟩:∃c,qtb y t=c:=⟨_,rfl⟩;have C:=hd1 v;have Z:(A:Int)<(L.length:Int):=oe;have dn:=decide_eq_true Z;have B:Hid (qfa L t A=(c==0)):=by
   show qfa L t A=_;unfold qfa;rw[d,v,decide_eq_true g,Bool.true_and];by_cases h:c=0<;>simp[h]
  go_wp2_with fail
  refine wrl ?_;repeat (go_big_quiet_step ((go_at_call 255;with_reducible exact qg (qp3 C.out _))))
  refine wpQuiet_nil ?_;rintro x ⟨⟨_,k⟩,rfl⟩;go_wp2_with fail
  go_ret2;exact⟨A,by rw[B.out];rfl,G.out,qa l k⟩
 have dn:decide ((A:Int)<(L.length:Int))=false:=decide_eq_false oe;have B:Hid (qfa L t A=false):=by
  show qfa L t A=_;unfold qfa;rw[decide_eq_false g,Bool.false_and]
 go_wp2_with fail
 refine wrl ?_;repeat (go_big_quiet_step (fail))
 refine wpQuiet_nil ?_;rintro x ⟨⟨_,k⟩,rfl⟩;go_wp2_with fail
 go_ret2;exact⟨A,by rw[B.out];rfl,G.out,qa l k⟩
end
section
open Tryz Go.RowKit Go.Shelf
attribute [local go_sem] Oper.semAt_some
abbrev SV:={v:Ver//0<=v.site/\v.site<=3}
def qb4 {α:Type} (L:List α) (k:Nat):List α:=L.reverse.take k
variable {α:Type} {L:List α}
def qst (h:k<L.length):qb4 L (k+1)=qb4 L k++[L[L.length-1-k]]:=by
 unfold qb4;rw[jc1 oM,List.getElem_reverse]
def qok (h:k<=L.length):(qb4 L k).length=k:=by
 unfold qb4;rw[jc5,List.length_reverse];omega
def qtt (n₀:Nat) (W:Wl) (sv:Vl) (L:List Ver):Prop:=
 ∃a cap,sv=.slice a L.length cap/\L.length<=cap/\cap<=9223372036854775807/\(L=[]\/∃b,b<n₀/\a=some (AD b 0)/\∀i r u,i<L.length->(qh (jx L i))[r]?=some u->W.cell? (AD b (i*6+r))=some u)
def qxm (F:Fence) (n:Nat) (O:F.fn 259) (P:F.round=none) (hn:1<=n) (l j o:Nat) (sv:Vl) (L:List SV) (hl:L.length<=1000) (J C:List SV->Wv)
 (D:j<o) (Q:∀d x W,J d W->d.length<L.length->YieldAt F (n-1) prog l #[.agg #[U x.1.wall,U x.1.count,U x.1.site,U x.1.seq,.string x.1.data,.bool x.1.gone]] W λe A=>
  (e=.returned (.bool true)/\J (d++[x]) A/\Below o W A)\/(e=.returned (.bool false)/\C (d++[x]) A))
 (W:Wl) (E:W.cell? (AD j 0)=some sv) (R:qtt o W sv (L.map (·.1))) (S:J [] W):
 CallsIn F n prog 259 #[.func (.yield l) #[] #[],PP j] W λe A=>(∃v,e=.returned v)/\
  ((∃G,G=L.reverse/\J G A)\/(∃d,(∃k,k<L.length/\d=qb4 L (k+1))/\C d A)):=by
 obtain⟨a,cap,rfl,T,hc2,H⟩:=R;rw[jdh]at E T H;have HB:=hd1 D;refine callsIn_of_wp func259 rfl O ?_ P;simp only[ntmps259,List.size_toArray,List.length_cons,List.length_nil,Nat.reduceAdd,Nat.reduceSub,Array.replicate_succ,Array.replicate_zero,List.push_toArray,List.append_toArray,jda,jdj];gi_wp2
 gi_loopw [3] (λi wr=>∃(k:Nat) (z:Int),k<=L.length/\z=(L.length:Int)-1-k/\i=U z/\J (qb4 L k) wr/\Below o W wr) (λi _=>(intOf i+1).toNat)
 case atStart=>exact⟨0,(L.length:Int)-1,jcw _,oe,oI,S,jcc _ _⟩
 obtain⟨k,z,V,X,rfl,s,t⟩:=hrel;have Y:=hd1 X;have hB2:=(t.cell (p:=AD j 0) D).trans E;by_cases g:k<L.length
 .obtain⟨b,Z,rfl,aa⟩:=H.resolve_left (λh=>by rw[List.map_eq_nil_iff]at h;rw[h]at g;simp at g);obtain⟨m,hm⟩:∃m,L.length-1-k=m:=⟨_,rfl⟩;have I:m<L.length:=oe;have hzm:z.toNat=m:=oe;have hz0:0<=z:=oe;have hz1:z<(L.length:Int):=oe;obtain⟨⟨y,K⟩,M⟩:∃y,L[m]=y:=⟨_,rfl⟩;have f:jx (L.map (·.1)) m=y:=by rw[qem (by simpa using I),List.getElem_map,M]
  have q:=λr u h=>(t.cell (p:=AD b (m*6+r)) Z).trans (aa m r u I h);have x0:wr.cell? (AD b (m*6))=some (U y.wall):=q 0 _ (by rw[f];rfl);have x1:=q 1 _ (by rw[f];rfl);have x2:=q 2 _ (by rw[f];rfl);have x3:=q 3 _ (by rw[f];rfl);have x4:=q 4 _ (by rw[f];rfl);have x5:=q 5 _ (by rw[f];rfl)
  have N:Hid (qb4 L (k+1)=qb4 L k++[⟨y,K⟩]):=by
   show qb4 L (k+1)=_;rw[qst g,<-M];simp only[hm]
  obtain⟨fn,tmps,assign,body,hyy,hR⟩:=Q _ ⟨y,K⟩ wr s (by rw[qok V];exact g);dsimp only at hyy;gi_wp2
  refine hR.mono ?_;rintro e W3 (⟨rfl,hJ3,hk3⟩|⟨rfl,hJx3⟩)
  .gi_wp2
   go_roundw
   case rel=>exact⟨k+1,z-1,oe,by have:=Y.out;omega,oI,by rw[N.out];exact hJ3,t.trans hk3⟩
   simp[intOf];omega
  gi_wp2
  refine bodyPost_ret (results_none rfl _ _ _) rfl ?_;exact⟨⟨_,rfl⟩,.inr ⟨_,⟨k,g,rfl⟩,by rw[N.out];exact hJx3⟩⟩
 have hzn:¬0<=z:=oe;have ALL:Hid (qb4 L k=L.reverse):=by show qb4 L k=L.reverse;unfold qb4;rw[List.take_of_length_le (by rw[List.length_reverse];omega)]
 gi_wp2
 go_end0;rw[ALL.out]at s;exact⟨⟨_,rfl⟩,.inl s⟩
def qqo (F:Fence) (n:Nat) (f:F.fn 246) (g:F.round=none) (a:Oa) (d h:Nat) (w:Wl):
 CallsIn F n prog 246 #[.slice a d h] w λe w'=>e=.returned (.func (.func 259) #[] #[PP w.heap.size])/\w'=w.nu #[.slice a d h] 184:=by
 refine callsIn_of_wp func246 rfl f ?_ g;simp only[ntmps246,List.size_toArray,List.length_cons,List.length_nil,Nat.reduceAdd,Nat.reduceSub,Array.replicate_succ,Array.replicate_zero,List.push_toArray,List.append_toArray,jda,jdj];gi_wp2
 go_ret;exact⟨rfl,rfl⟩
def qto (F:Fence) (n:Nat) (m:F.fn 259) (o:F.round=none) (q:1<=n) (d f:Nat) (R:Vl) (L:List SV) (s:L.length<=1000) (w:Wl) (g:d<f) (t:f<=w.heap.size)
 (v:w.cell? (AD d 0)=some R) (y:qtt f w R (L.map (·.1))):
 SeqStopsK F n prog 259 #[PP d] (λx:SV=>#[Value.agg #[U x.1.wall,U x.1.count,U x.1.site,U x.1.seq,.string x.1.data,.bool x.1.gone]]) (Below f) (λz=>z=L.reverse) (λC=>∃k,k<L.length/\C=qb4 L (k+1)) L.length w:=λl J D W E _ _ G H=>by
 have h:=E.mono t;have I:=(h.cell (p:=AD d 0) g).trans v;obtain⟨a,A,rfl,K,M,N⟩:=y;exact qxm F n m o q l d f _ L s J D g G W I ⟨a,A,rfl,K,M,N.imp_right λ⟨b,j,e,O⟩=>⟨b,j,e,λi r u T P=>(h.cell (p:=AD b (i*6+r)) j).trans (O i r u T P)⟩⟩ H
def qdi (a0 a1 a2 a3:Int) (L:List Ver):Option Ver:=L.reverse.find? (qdp a0 a1 a2 a3)
variable {c:Nat}
def qjf {tmps:Av} {v:Ver} {o:Bool} (h:qd w b (qh v)) (a:w.cell? (AD c 0)=some (.bool o)) (d:tmps[4]?=some (PP b)) (e:tmps[5]?=some (PP c)):
 (results f218 tmps).run prog w=.ok (.tuple #[.agg (qh v).toArray,.bool o]) w:=by
 obtain⟨f,g,i,j,l,m⟩:=h.c6;simp[results,results218,go_sem,a,d,e,f,g,i,j,l,m,qh]
variable {vs:Lv}
def qd.abides {X Y:Wl} {row:Option Nat} (h:qd X b vs) (a:X.grownBy Y row) (d:∀r,row=some r->∃o:Obj,X.heap[r]?=some o/\o.isCells=false) (f:0<vs.length):qd Y b vs:=by
 refine h.kept (a.block b h.lt λe=>?_) a.size;obtain⟨o,g,i⟩:=d b e.symm;have:=h.cell 0 vs[0] (jcg f);unfold World.cell? at this;rw[g]at this;cases o<;>simp_all [Obj.isCells]
def qd.verSet {y:Ver} (h:qd w b (qh y)) (x:Ver):qd ((((((w.setCell (AD b 0) (U x.wall)).setCell (AD b 1) (U x.count)).setCell (AD b 2) (U x.site)).setCell (AD b 3) (U x.seq)).setCell (AD b 4) (.string x.data)).setCell (AD b 5) (.bool x.gone)) b (qh x):=
 (((((h.set 0 _ oq).set 1 _ oq).set 2 _ oq).set 3 _ oq).set 4 _ oq).set 5 _ oq
abbrev qye (w:Wl) (b:Nat) (x:Ver):Wl:=(((((w.setCell (AD b 0) (U x.wall)).setCell (AD b 1) (U x.count)).setCell (AD b 2) (U x.site)).setCell (AD b 3) (U x.seq)).setCell (AD b 4) (.string x.data)).setCell (AD b 5) (.bool x.gone)
def qd.verFar (h:qd w b vs) (a:c≠b) (x:Ver):qd (qye w c x) b vs:=
 (((((h.far (AD c 0) _ a).far (AD c 1) _ a).far (AD c 2) _ a).far (AD c 3) _ a).far (AD c 4) _ a).far (AD c 5) _ a
def qmc (W:Wl) (b:Nat) (x:Ver):KeepsOthers W (qye W b x):=
 (((((KeepsOthers.setCell _ _ _).trans (KeepsOthers.setCell _ _ _)).trans (KeepsOthers.setCell _ _ _)).trans (KeepsOthers.setCell _ _ _)).trans (KeepsOthers.setCell _ _ _)).trans (KeepsOthers.setCell _ _ _)
def jp (h:Below B w W) (a:B<=b) (x:Ver):Below B w (qye W b x):=
 (((((h.setCell (p:=AD b 0) a _).setCell (p:=AD b 1) a _).setCell (p:=AD b 2) a _).setCell (p:=AD b 3) a _).setCell (p:=AD b 4) a _).setCell (p:=AD b 5) a _
def qsq (a0 a1 a2 a3:Int) (pre:List SV) (x:SV):Prop:=∃p,pre=p++[x]/\(∀y∈p,qdp a0 a1 a2 a3 y.1=false)/\qdp a0 a1 a2 a3 x.1=true
variable {LS:List SV}
def qsq.find {x:SV} (h:qsq a0 a1 a2 a3 (qb4 LS k) x):qdi a0 a1 a2 a3 (LS.map (·.1))=some x.1:=by
 obtain⟨p,e,a,d⟩:=h;have f:LS.reverse=(p++[x])++LS.reverse.drop k:=by rw[<-e];exact(jds k _).symm
 unfold qdi;rw[<-List.map_reverse,f];simp only[jdb,List.find?_append,jcy];have g:(p.map (·.1)).find? (qdp a0 a1 a2 a3)=none:=by
  rw[nD];intro v i;obtain⟨y,j,rfl⟩:=jcz.1 i;rw[a y j];decide
 rw[g];simp[d]
def q3h (h:∀x∈LS.reverse,qdp a0 a1 a2 a3 x.1=false):qdi a0 a1 a2 a3 (LS.map (·.1))=none:=by
 unfold qdi;rw[nD];intro v a;rw[List.mem_reverse]at a;obtain⟨y,d,rfl⟩:=jcz.1 a;rw[h y (by simpa using d)];decide
def qi6 {d:Wl} (h:Bw W d):KeepsFrom B W d:=⟨h.size,λk _ _ a _=>(h.block k (jcs.1 a).1).trans a⟩
def qwf {a:Oa} {cap:Nat} {L:List Ver} (a0 a1 a2 a3:Int) (w:Wl) (O:qs5 w a cap L) (hok:∀v∈L,0<=v.site/\v.site<=3) (hl:L.length<=1000):
 Ca 218 #[.slice a L.length cap,.agg #[U a0,U a1,U a2,U a3]] w λe w'=>
  e=.returned (.tuple #[.agg (qa6 (qdi a0 a1 a2 a3 L)).toArray,.bool (qga (qdi a0 a1 a2 a3 L))])/\Bw w w':=by
 refine(callsIn_wide (n:=6)).1 ?_;obtain⟨LS,P⟩:∃LS:List SV,LS.map (·.1)=L:=⟨L.attachWith _ hok,oi⟩;have hLl:LS.length=L.length:=by rw[<-P,jdh]
 have RA:=(((qo.new w 113 a0 a1 a2 a3).boxed (.cells YA 218)).boxed (.cells #[.bool false] 4)).boxed (.cells #[.slice a L.length cap] 184);have RR:=((qd.new (w:=w.nu #[U a0,U a1,U a2,U a3] 113) (T:=218) (n:=w.heap.size+1) (qh jq) oi).boxed (.cells #[.bool false] 4)).boxed (.cells #[.slice a L.length cap] 184);have RF:=(qd.new (w:=(w.nu #[U a0,U a1,U a2,U a3] 113).nu (qh jq).toArray 218) (T:=4) (n:=w.heap.size+1+1) [.bool false] oi).boxed (.cells #[.slice a L.length cap] 184);have RL:=qd.new (w:=((w.nu #[U a0,U a1,U a2,U a3] 113).nu (qh jq).toArray 218).nu #[.bool false] 4) (T:=184) (n:=w.heap.size+1+1+1) [.slice a L.length cap] oi;have hb:=boxed (boxed (boxed (boxed (jcc _ w) (.cells #[U a0,U a1,U a2,U a3] 113)) (.cells (qh jq).toArray 218)) (.cells #[.bool false] 4)) (.cells #[.slice a L.length cap] 184);refine callsIn_of_wp_marks func218 rfl trivial ?_ rfl;simp only[ntmps218,List.size_toArray,List.length_cons,List.length_nil,Nat.reduceAdd,Nat.reduceSub,Array.replicate_succ,Array.replicate_zero,List.push_toArray,List.append_toArray,jda,jdj];gi_wp2_with (refine⟨trivial,?_⟩;gi_at_call 246;refine(qqo Fence.wide _ trivial rfl _ _ _ _).mono ?_;rintro e w' ⟨rfl,rfl⟩)
 have hsz:((((w.nu #[U a0,U a1,U a2,U a3] 113).nu (qh jq).toArray 218).nu #[.bool false] 4).nu #[.slice a L.length cap] 184).heap.size=w.heap.size+4:=oi;obtain⟨j,z⟩:∃j,(((w.nu #[U a0,U a1,U a2,U a3] 113).nu YA 218).nu #[.bool false] 4).nu #[.slice a L.length cap] 184=j:=⟨_,rfl⟩;have RA0:qd j w.heap.size [U a0,U a1,U a2,U a3]:=by
  rw[<-z];exact(((qd.new (w:=w) (T:=113) [U a0,U a1,U a2,U a3] rfl).boxed _).boxed _).boxed _
 have RR0:qd j (w.heap.size+1) (qh jq):=by rw[<-z];exact RR
 have RF0:qd j (w.heap.size+1+1) [.bool false]:=by rw[<-z];exact RF
 have RL0:qd j (w.heap.size+1+1+1) [.slice a L.length cap]:=by rw[<-z];exact RL
 have Q:Bw w j:=by rw[<-z];exact hb
 have hsz0:j.heap.size=w.heap.size+4:=by rw[<-z];exact hsz
 rw[z];have VB:qtt (w.heap.size+4) j (.slice a L.length cap) (LS.map (·.1)):=by
  rw[P];exact⟨a,cap,rfl,O.len,O.cap,O.held.imp_right λ⟨b,hb1,e,hcc⟩=>⟨b,oe,e,λi r u hi hu=>cell_later Q (hcc i r u hi hu)⟩⟩
 have HLS:=hd1 P;have HLL:=hd1 hLl;refine wpIn_rangeFunc_ownH rfl oj (gf:=259) (lb:=#[PP (w.heap.size+1+1+1)]) rfl trivial (enters_of func259 oh rfl)
  (qto Fence.wide 5 trivial rfl oj (w.heap.size+1+1+1) (w.heap.size+4) (.slice a L.length cap) LS (by have:=HLL.out;omega) j oe oe (RL0.c 0) VB) belowK_t (belowK_b oe) (jcc _ _) (λ_=>rfl)
  (λC W=>Bw j W/\∀x∈C,qdp a0 a1 a2 a3 x.1=false)
  (λc C W=>(∃x:SV,c=.ret/\(qd W (w.heap.size+1) (qh x.1)/\qd W (w.heap.size+1+1) [.bool true])/\qsq a0 a1 a2 a3 C x)/\Bw w W)
  (OwnFrom.and (ownFrom_below (jcd _) (jcd _)) (ownFrom_pure _ _))
  (λc=>OwnFrom.and (Own.from (λs A B row R I F=>by obtain⟨x,e,⟨S,V⟩,Z⟩:=R;exact⟨x,e,⟨S.abides I F oq,V.abides I F oi⟩,Z⟩) _) (ownFrom_below (jcd _) oe))
  ⟨jcc _ _,oi⟩
  (λx a' W=>∃E,w.heap.size+1+1<E/\qd W E (qh x.1)/\a'={tmps:=#[.slice a L.length cap,.agg #[U a0,U a1,U a2,U a3],undef,PP w.heap.size,PP (w.heap.size+1),PP (w.heap.size+1+1),PP E,.slice a L.length cap,.func (.func 259) #[] #[PP (w.heap.size+1+1+1)],.agg #[U x.1.wall,U x.1.count,U x.1.site,U x.1.seq,.string x.1.data,.bool x.1.gone],undef,undef,undef,undef,undef],defers:=[]})
  (λx a' _ X Y row R I F=>by obtain⟨E,S,V,Z⟩:=R;exact⟨E,S,V.abides I (λr e=>(F r e).2) oq,Z⟩)
  ?assign ?body ?done ?stop
 case assign=>
  rintro l C x W K ⟨g,G⟩ t;have s1:=g.size;gi_wp2
  exact t _ _ ((KeepsOthers.alloc _ _).from _) ((jcc _ W).alloc oe _) ⟨boxed g _,G⟩ ⟨W.heap.size,oe,qd.new (w:=W) (T:=218) (qh x.1) rfl,rfl⟩
 case body=>
  rintro l C ⟨x,J,M⟩ a' W hl ⟨r,F⟩ ⟨g,G⟩ ⟨E,hBx,m,rfl⟩ hlt;have NN:=hd1 G;simp only at m J M;have RA1:=RA0.later g;obtain⟨c0,c1,c2,c3⟩:=RA1.c4;obtain⟨x0,x1,x2,x3,x4,x5⟩:=m.c6;have d:=RR0.later g;have o:=RF0.later g;cases hh:qdp a0 a1 a2 a3 x
  .have H:=hd1 hh;gi_wp2_with (refine⟨trivial,?_⟩;gi_at_call 221;refine(CallsIn.inRound l (callsIn_wide.2 (qsx H.out J M _))).mono ?_;rintro e w' ⟨rfl,q⟩)
   exact⟨qi6 q,q.mono (by have:=g.size;omega),qa g q,λy hy=>by
        obtain h|h:=jcf.1 hy
        .exact NN.out y h
        obtain rfl:=jcj.1 h;exact H.out⟩
  have H:=hd1 hh;gi_wp2_with (refine⟨trivial,?_⟩;gi_at_call 221;refine(CallsIn.inRound l (callsIn_wide.2 (qsx H.out J M _))).mono ?_;rintro e w' ⟨rfl,q⟩;replace m:=m.later q;replace d:=d.later q;replace o:=o.later q;have y0:=m.c 0;have y1:=m.c 1;have y2:=m.c 2;have y3:=m.c 3;have y4:=m.c 4;have y5:=m.c 5;have r0:=d.c 0;have r1:=d.c 1;have r2:=d.c 2;have r3:=d.c 3;have r4:=d.c 4;have r5:=d.c 5;have f0:=o.c 0;have g0:=d.free 0 oq;have g1:=d.free 1 oq;have g2:=d.free 2 oq;have g3:=d.free 3 oq;have g4:=d.free 4 oq;have g5:=d.free 5 oq;have g6:=o.f 0)
  have hB7:=qa (qa Q g) (q.mono (jcd _));refine⟨(qi6 q).trans (((qmc w' (w.heap.size+1) x).trans (KeepsOthers.setCell _ (AD (w.heap.size+1+1) 0) (.bool true))).from _),⟨⟨x,J,M⟩,rfl,⟨(d.verSet x).far (AD (w.heap.size+1+1) 0) (.bool true) oi,?_⟩,⟨C,rfl,NN.out,H.out⟩⟩,(jp hB7 (b:=w.heap.size+1) oe x).setCell (p:=AD (w.heap.size+1+1) 0) ou _⟩;exact(o.verFar (c:=w.heap.size+1) oe x).set 0 (.bool true) oi
 case done=>
  rintro D ys W hD rfl ⟨g,G⟩ t;have d:=RR0.later g;have o:=RF0.later g;obtain⟨r0,r1,r2,r3,r4,r5⟩:=d.c6;have f0:=o.c 0;have g0:=d.free 0 oq;have g1:=d.free 1 oq;have g2:=d.free 2 oq;have g3:=d.free 3 oq;have g4:=d.free 4 oq;have g5:=d.free 5 oq;have g6:=o.f 0;have LN:Hid (qdi a0 a1 a2 a3 L=none):=by show _=_;rw[<-HLS.out];exact q3h G
  have BW:=qa Q g;gi_wp2
  have N:=((qmc W (w.heap.size+1) jq).trans (KeepsOthers.setCell _ (AD (w.heap.size+1+1) 0) (.bool false))).same D _ t rfl;refine⟨oi,.inl ⟨_,_,rfl,run_takeDeferred N,?_⟩⟩;have R2:=((d.verSet jq).far (AD (w.heap.size+1+1) 0) (.bool false) oi).abides (grownBy_putObj' _ D (.deferred none)) (λr e=>by cases e;exact⟨_,N,rfl⟩) oq;have R3:=((o.verFar (c:=w.heap.size+1) oe jq).set 0 (.bool false) oi).abides (grownBy_putObj' _ D (.deferred none)) (λr e=>by cases e;exact⟨_,N,rfl⟩) oi;rw[LN.out];exact⟨_,qjf (v:=jq) R2 (R3.c 0) rfl rfl,rfl,((jp BW (b:=w.heap.size+1) oe jq).setCell (p:=AD (w.heap.size+1+1) 0) ou _).trans (belowK_b (w:=w) (jcd _) _ D _ _ oe N rfl rfl)⟩
 rintro D c C W hD ⟨k,hk,rfl⟩ ⟨⟨x,rfl,⟨R1,R2⟩,hf⟩,hB⟩ t;have LN:Hid (qdi a0 a1 a2 a3 L=some x.1):=by show _=_;rw[<-HLS.out];exact hf.find
 gi_wp2
 refine⟨oi,.inl ⟨_,_,rfl,run_takeDeferred t,?_⟩⟩;have R3:=R1.abides (grownBy_putObj' _ D (.deferred none)) (λr e=>by cases e;exact⟨_,t,rfl⟩) oq;have R4:=R2.abides (grownBy_putObj' _ D (.deferred none)) (λr e=>by cases e;exact⟨_,t,rfl⟩) oi;rw[LN.out];exact⟨_,qjf (v:=x.1) R3 (R4.c 0) rfl rfl,rfl,hB.trans (belowK_b (w:=w) (jcd _) _ D _ _ oe t rfl rfl)⟩
end
section
open _root_.Go.Proofs.Tryz Go.RowKit
def ja0 (a b:Ver) (w:Wl):(binOp .neq 218 (.agg #[U a.wall,U a.count,U a.site,U a.seq,.string a.data,.bool a.gone]) (.agg #[U b.wall,U b.count,U b.site,U b.seq,.string b.data,.bool b.gone])).run prog w=.ok (.bool (!eqV a b)) w:=by
 have h:=qzu a b w;rw[run_eql_struct]at h;rw[run_neq_struct];generalize (Op.equalIn 10000 218 _ _).run prog w=r at*;cases r with
 |ok b w1=>
  simp only[Result.andThen]at h ⊢;injection h with h1 h2;injection h1 with h1;rw[h1,h2]
 |halt x w1=>simp[Result.andThen]at h
def qhu (a0 a1 a2 a3:Int) (W v:Ver):Bool:=qdp a0 a1 a2 a3 v&&!eqV v W
variable {W:Ver} {A S:Nat}
def qsy {v:Ver} {r:Bool} (h:qhu a0 a1 a2 a3 W v=r) (f:0<=v.site) (g:v.site<=3) (w:Wl) (j:qd w A [U a0,U a1,U a2,U a3]) (G:qd w S (qh W)):
 Ca 220 #[.agg #[U v.wall,U v.count,U v.site,U v.seq,.string v.data,.bool v.gone],PP A,PP S] w (Rn (.bool r) w):=by
 have p:=ja0;have i:=qd.new (w:=w) (T:=218) (qh v) rfl;have a:=boxed (jcc _ w) (.cells (qh v).toArray 218);change qd (w.alloc (.cells #[U v.wall,U v.count,U v.site,U v.seq,.string v.data,.bool v.gone] 218)) w.heap.size (qh v)at i;change Bw w (w.alloc (.cells #[U v.wall,U v.count,U v.site,U v.seq,.string v.data,.bool v.gone] 218))at a;have k:=j.later a;have l:=G.later a;obtain⟨q,s,t,u⟩:=k.c4;have H:=hd1 h;clear h;cases hh:qdp a0 a1 a2 a3 v
 .have c:=hd1 hh;have d:Hid (r=false):=by show r=false;rw[<-H.out,qhu,hh];rfl
  clear hh;go_enter func220,ntmps220;go_wp2_with fail
  refine(qsx c.out f g _).mono ?_;rintro e m ⟨rfl,b⟩;go_wp2_with fail
  go_ret;exact⟨by rw[d.out];rfl,qa a b⟩
 have c:=hd1 hh;have d:Hid (r=!eqV v W):=by show r=_;rw[<-H.out,qhu,hh];rfl
 clear hh;go_enter func220,ntmps220;go_wp2_with fail
 refine(qsx c.out f g _).mono ?_;rintro e m ⟨rfl,b⟩;have n:=i.later b;have o:=l.later b;obtain⟨I,J,K,L,x,y⟩:=n.c6;obtain⟨z,B,C,D,E,F⟩:=o.c6;go_wp2_with fail
 go_ret;exact⟨by rw[d.out];rfl,qa a b⟩
def q9w (a0 a1 a2 a3:Int) (W:Ver) (L:List Ver) (r:Int):Prop:=
 (r= -1/\∀v∈L,qhu a0 a1 a2 a3 W v=false)\/∃k:Nat,k<L.length/\r=k/\qhu a0 a1 a2 a3 W (jx L k)=true/\∀j,j<k->qhu a0 a1 a2 a3 W (jx L j)=false
def q2b {a:Oa} {X:Nat} {L:List Ver} (w:Wl) (E:qs5 w a X L) (t:∀v∈L,0<=v.site/\v.site<=3) (K:L.length<=1000) (F:qd w A [U a0,U a1,U a2,U a3]) (Z:qd w S (qh W)):
 Ca 247 #[.slice a L.length X,.func (.func 220) #[] #[PP A,PP S]] w λe w'=>
  ∃r:Int,e=.returned (U r)/\q9w a0 a1 a2 a3 W L r/\Bw w w':=by
 have G:=hd1 t;clear t;go_enter func247,ntmps247;go_wp2_with fail
 go_loopw [8] (λiv wr=>∃(k:Nat) (z:Int),k<=L.length/\z=k/\iv=U z/\Hid (∀j,j<k->qhu a0 a1 a2 a3 W (jx L j)=false)/\Bw w wr) (λi _=>L.length-(intOf i).toNat)
 case atStart=>exact⟨0,0,oe,rfl,rfl,(λj H=>by omega:∀j,j<0->qhu a0 a1 a2 a3 W (jx L j)=false),jcc _ _⟩
 obtain⟨k,z,M,n,rfl,o,h⟩:=hrel;have x:=hd1 n;by_cases c:k<L.length
 .have N:z<(L.length:Int):=oe;have O:z.toNat=k:=oe;have P:0<=z:=oe;clear n;have B:=E.later h;obtain⟨b,Q,rfl,f⟩:∃b,b<wr.heap.size/\a=some (AD b 0)/\∀i r u,i<L.length->(qh (jx L i))[r]?=some u->wr.cell? (AD b (i*6+r))=some u:=by
   obtain p|p:=B.held
   .rw[p]at c;simp at c
   exact p
  obtain⟨y,d⟩:∃y,jx L k=y:=⟨_,rfl⟩;have q:=G.out _ (qkm c);rw[d]at q;have x0:wr.cell? (AD b (k*6))=some (U y.wall):=f k 0 _ c oO;have x1:=f k 1 _ c oO;have x2:=f k 2 _ c oO;have x3:=f k 3 _ c oO;have R:=f k 4 _ c oO;have T:=f k 5 _ c oO;have Y:=hd1 d;have m:=hd1 q;have C:=F.later h;have D:=Z.later h;clear d f B q;cases hd:qhu a0 a1 a2 a3 W y
  .have l:=hd1 hd;clear hd;go_wp2_with fail
   refine(qsy l.out m.out.1 m.out.2 _ C D).mono ?_;rintro e I ⟨rfl,s⟩;go_wp2_with fail
   go_roundw
   case rel=>exact⟨k+1,z+1,oe,by have:=x.out;omega,oI,(λj H=>by
    obtain g|g:=jc7 j k
    .exact o.out j g
    obtain rfl:j=k:=oe;rw[Y.out,l.out]:∀j,j<k+1->qhu a0 a1 a2 a3 W (jx L j)=false),qa h s⟩
   simp[intOf];omega
  have l:=hd1 hd;clear hd;go_wp2_with fail
  refine(qsy l.out m.out.1 m.out.2 _ C D).mono ?_;rintro e I ⟨rfl,s⟩;go_wp2_with fail
  go_ret;exact⟨z,rfl,.inr ⟨k,c,x.out,by rw[Y.out,l.out],o.out⟩,qa h s⟩
 have V:¬z<(L.length:Int):=oe;clear n;go_wp2_with fail
 go_ret;refine⟨-1,rfl,.inl ⟨rfl,λv J=>?_⟩,h⟩;obtain⟨i,hi,rfl⟩:=jdm.1 J;have e:=o.out i oe;rwa [qem hi]at e
end
section
open _root_.Go.Proofs.Tryz Go.RowKit
variable {L:List Ver}
def qt4 {g n A:Nat} (v:Ver) (m:Nat) (w:Wl) (J:w.ownsRow 0 218 6 (.slice (PT g) n A) n (ja L)) (K:L.length=n) (hl:n<=1000) (hp:p<n) (hroom:¬n+1<=A) (M:w.heap[m]?=some (.cells (qh v).toArray 218 (0,0))):
 Ca 256 #[.slice (PT g) n A,U p,.slice (PT m) 1 1] w λe w'=>
  ∃g' Z,e=.returned (.slice (PT g') (n+1) Z)/\qiy w (.slice (PT g) n A) (qj0 L p v) g' Z w':=by
 obtain⟨g1,cap1,cur,h',hB,hg,hnc,hcm,hcs,htake⟩:=J.2.resolve_left (λh=>by simp at h);simp only[Value.slice.injEq,Option.some.injEq,Addr.mk.injEq,and_true,true_and]at h';obtain⟨rfl,rfl⟩:=h';obtain rfl:A=n:=oe;obtain⟨i0,hi0,hz0,hzs,N⟩:=info_parts q0x;have O:(ja (L.drop p)).length=(A-p)*6:=by rw[qbe,jdt,K]
 have q:(ja (L.take p)).length=p*6:=by rw[qbe,jc5];omega
 have P:=λj u b=>by have:=J.cells (g:=g) rfl j u b;rwa [qal]at this
 have hnews:∀j u,(qh v)[j]?=some u->w.cell? (AD m j)=some u:=λj u b=>by
  rw[cell_of_row w m j _ 218 (0,0) M];simpa using b
 have h1:=λu b=>qgd [v] u (by rw[qh0];exact b);have hbw:=(jcs.1 hg).1;have hvw:=(jcs.1 M).1
 have hold:(Builtin.firstCells i0.size p (.slice (PT g) p A)).run prog w.drew=.ok (ja (L.take p)).toArray w.drew:=by
  rw[hzs];exact run_firstCells_some w.drew 6 p (AD g 0) p A (ja (L.take p)) q (λj u a=>by
   rw[qal];rw[<-qin,List.getElem?_take]at a;split at a
   .exact P j u a
   cases a)
 obtain⟨G,D⟩:∃G,G=grownCap w (A+1) A 218:=⟨_,rfl⟩;have hGn:A+1<=G:=by rw[D];exact grownCap_ge w _ _ _
 have Q:G<=maxLen:=by rw[D];exact grownCap_le_maxLen w (A+1) A _ (by unfold maxLen;omega)
 obtain⟨d,E⟩:∃d:Av,d=(ja (L.take p)).toArray++Builtin.zeroCells (Value.agg YA).cells (A+1-p)++Builtin.zeroCells (Value.agg YA).cells (G-(A+1)):=⟨_,rfl⟩;have hz6:(Value.agg YA).cells.size=6:=rfl;have hRs:d.size=G*6:=by
  rw[E];simp only[Array.size_append,List.size_toArray,size_zeroCells,hz6,q];omega
 have hRA:∀j u,(ja (L.take p))[j]?=some u->d[j]?=some u:=λj u b=>by
  have a:=(jck.1 b).1;rw[E,Array.append_assoc,Array.getElem?_append_left (by simpa using a)];simpa using b
 have hkk:(A:Int)+1-(p:Int)=((A+1-p:Nat):Int):=oe;have R:p+(A+1-p)=A+1:=oe;have hrz:∀c,(Builtin.append_ #[184,3] c #[.slice (PT g) p A,U ((A:Int)+1-(p:Int))]).run prog w=
  .ok (.slice (PT w.heap.size) (A+1) G) (w.drew.alloc (.cells d 218)):=λc=>by
  have h:=Lib.run_append_grow_zeros w 184 3 c 218 i0 _ .i64 .i64 underlying184 underlying3 hi0 hz0 (PT g) p A (ja (L.take p)) hold (A+1-p) oe oe oe oe (by rw[N];omega) (by rw[N,R];exact growslice_fits oe oe);rw[R,<-D,<-E]at h;rw[hkk];exact h
 obtain⟨W1,F⟩:∃W1,W1=w.drew.alloc (.cells d 218):=⟨_,rfl⟩;have r:W1.heap[w.heap.size]?=some (.cells d 218 (0,0)):=by rw[F];exact heap_alloc_new w.drew _
 have s:∀j,j<G*6->(W1.cell? (AD w.heap.size j)).isSome=true:=λj a=>by
  rw[cell_of_row W1 w.heap.size j d _ (0,0) r,jde oe];rfl
 have hNA:∀j u,(ja (L.take p))[j]?=some u->W1.cell? (AD w.heap.size j)=some u:=λj u b=>by
  rw[cell_of_row W1 w.heap.size j d _ (0,0) r];exact hRA j u b
 have S:=λj=>frozen_of_row W1 w.heap.size j d _ r
 have H:Bw w W1:=by rw[F];exact boxed (jcc _ w).drew _
 have hcpA:∀(W:Wl),(∀x,W.cell? x=W1.cell? x)->(∀x,W.frozen? x=W1.frozen? x)->∀c f,(Builtin.copy_ #[184,184] c #[.slice (some (AD w.heap.size (p*6))) (A+1-p) f,.slice (PT m) 1 1]).run prog W=.ok (goInt 1) (W.setCells w.heap.size (p*6) (qh v)):=λW y V c f=>
  qiq W _ _ c 218 6 w.heap.size (p*6) (A+1-p) f (AD m 0) 1 1 1 (qh v) underlying184 qn8 (by simp only[Nat.min_def];split<;>omega) rfl
   (λj u a=>by
        rw[qal,y];exact cell_later H (hnews j u a))
   (λj a=>by rw[y];exact s _ (by simp[qh]at a;omega))
   (λj a=>by rw[V];exact S _) h1
 have hcpB:∀(W:Wl),(∀x,W.cell? x=(W1.setCells w.heap.size (p*6) (qh v)).cell? x)->(∀x,W.frozen? x=(W1.setCells w.heap.size (p*6) (qh v)).frozen? x)->∀c f Y,(Builtin.copy_ #[184,184] c #[.slice (some (AD w.heap.size ((p+1)*6))) (A-p) f,.slice (some (AD g (p*6))) (A-p) Y]).run prog W=.ok (goInt (A-p:Nat)) (W.setCells w.heap.size ((p+1)*6) (ja (L.drop p))):=λW y V c f Y=>
  qiq W _ _ c 218 6 w.heap.size ((p+1)*6) (A-p) f (AD g (p*6)) (A-p) Y (A-p) (ja (L.drop p)) underlying184 qn8 oi O
   (λj u a=>by
        rw[Addr.add_lit,y,World.cell?_setCells_out _ _ _ _ _ (λh _=>absurd h (by show g≠w.heap.size;omega))];exact cell_later H (P (p*6+j) u (by rw[<-qlc,List.getElem?_drop]at a;exact a)))
   (λj a=>by
        rw[y];exact qio w.heap.size (qh v) (p*6) W1 (λt ht=>s (p*6+t) (by simp[qh]at ht;omega)) ((p+1)*6+j) (s ((p+1)*6+j) oe))
   (λj a=>by rw[V,World.frozen?_setCells];exact S _) (qgd _)
 obtain⟨i,l⟩:∃i,i=W1.setCells w.heap.size (p*6) (qh v):=⟨_,rfl⟩;obtain⟨I,z⟩:∃I,I=i.drew.setCells w.heap.size ((p+1)*6) (ja (L.drop p)):=⟨_,rfl⟩;have OUT:Hid (qiy w (.slice (PT g) A A) (qj0 L p v) w.heap.size G I):=by
  obtain⟨c1,q1,q2⟩:=qat w.heap.size (qh v) (p*6) W1 r;rw[<-l]at q1;obtain⟨c2,q3,q4⟩:=qat w.heap.size (ja (L.drop p)) ((p+1)*6) i.drew (cur:=c1) (T:=218) q1;rw[<-z]at q3;refine⟨qfz (jcw _) q3 Q oe (by rw[qg1 v oe];omega) (qbe _) ?_,?_,.inr (jcd _)⟩
  .rw[qrc];have:=qlp (w:=W1) (g:=w.heap.size) (ja (L.take p)) (qh v) (ja (L.drop p)) hNA (λj a=>s j (by rw[q,O,qaw]at a;omega));rw[q,qaw,show p*6+6=(p+1)*6 by omega,<-l]at this;intro j u b;rw[z];have e:=this j u b;rw[<-e]
   have hh:∀(B:Lv) (o:Nat) (X:Wl),(X.drew.setCells w.heap.size o B).heap=(X.setCells w.heap.size o B).heap:=by
        intro B;induction B with
        |nil=>intro o X;rfl
        |cons u B ih=>intro o X;exact ih (o+1) (X.setCell (AD w.heap.size o) u)
   unfold World.cell?;rw[hh]
  have o1:yu w.heap.size W1 i:=by rw[l];exact zg _ _ _ _
  have o2:yu w.heap.size i I:=by rw[z];exact(yu.ofBelow (jcc _ _).drew).trans (zg _ _ _ _) (.inl rfl)
  have C:=(yu.ofBelow (g:=w.heap.size) H).trans (o1.trans o2 (.inl rfl)) (.inl rfl);exact⟨C.os,C.tape,C.output,C.size,λk hk _=>C.block k hk (λe=>by injection e;omega)⟩
 have hA3:=hcpA W1 (λ_=>rfl) (λ_=>rfl);have hB3:=hcpB i.drew (λx=>by rw[<-l];rfl) (λx=>by rw[<-l];rfl);rw[<-l]at hA3;rw[<-z]at hB3;rw[<-F]at hrz;have hw1:IntKind.i64.wrap ((p:Int)+1)=(p:Int)+1:=mn;have hw2:(0:Int)<=(p:Int)+1:=oe;have hin:p<=A:=oe;have htn:((p:Int)+1).toNat=p+1:=oe;have hG63:G<=9223372036854775807:=by simp only[maxLen]at Q;omega
 have hG1:¬(G=p+1):=oe;have hG2:¬(G=p):=oe;have hc1:¬(A=p):=oe;have hb3:(p:Int)<=(A:Int)+1:=oe;have hb5:(p:Int)<=(A:Int):=oe;have hz2:¬((p:Int)=(A:Int)):=oe;have hz3:(A:Int)<(A:Int)+1:=oe;have EL:=hd1 K;clear O q P hnews h1 htake J hcs hB hg M K hold E D hRs hRA hz6 F l z r s hNA S hcpA hcpB hkk R hi0 hz0 hzs N H hnc hcm Q;go_enter func256,ntmps256;go_wp2_with (first
  |(at_builtin;refine Lib.wpList_append_run _ rfl _ _ _ _ rfl _ _ rfl rfl _ _ (hrz _) ?_)
  |(at_builtin;refine qi7 _ rfl _ _ 184 184 rfl _ _ rfl rfl (hA3 _ _) ?_))
 go_region_law (refine qky rfl _ _ 184 184 rfl _ _ mg mg (hB3 _ _ _) ?_)
 go_wp2_with fail
 go_ret;exact⟨w.heap.size,G,rfl,OUT.out⟩
def q6j (L:List Ver) (v:Ver):qj0 L L.length v=L++[v]:=by simp[qj0]
def qzr {o:Vl} (v:Ver) (a:Nat) (w:Wl) (b:w.ownsRow 0 218 6 o L.length (ja L)) (j:p<=L.length) (c:L.length<=1000) (d:w.heap[a]?=some (.cells (qh v).toArray 218 (0,0))) (i:o.ownBlock≠some a):
 Ca 256 #[o,U p,.slice (PT a) 1 1] w λe w'=>
  ∃g m,e=.returned (.slice (PT g) (L.length+1) m)/\qiy w o (qj0 L p v) g m w':=by
 obtain h|h:=jc7 p L.length
 .obtain⟨_,k⟩|⟨g,m,q,rfl,_⟩:=b.2
  .omega
  by_cases f:L.length+1<=m
  .exact qtg v a w b rfl c h f d (λe=>i mi)
  exact qt4 v a w b rfl c h f d
 obtain rfl:p=L.length:=oe;rw[q6j];exact qyq v a w b c d
end
section
open Go.RowKit
def jc (n:Int):Vl:=if n=0 then .nilIface else .iface 30 (U n)
structure jg (X:Nat->Prop) (w w':Wl):Prop where
 os:w'.os=w.os
 tape:w'.tape=w.tape
 output:w'.output=w.output
 size:w.heap.size<=w'.heap.size
 block:∀k,X k->w'.heap[k]?=w.heap[k]?
def jg.refl (X:Np) (w:Wl):jg X w w:=⟨rfl,rfl,rfl,jcd _,λ_ _=>rfl⟩
variable {X:Np}
def jg.trans {a b c:Wl} (h:jg X a b) (k:jg X b c):jg X a c:=⟨k.os.trans h.os,k.tape.trans h.tape,k.output.trans h.output,jcn h.size k.size,λi d=>(k.block i d).trans (h.block i d)⟩
def jg.below {B:Nat} (h:jg X w w') (a:∀k,k<B->X k):Below B w w':=⟨h.os,h.tape,h.output,h.size,λk b=>h.block k (a k b)⟩
def qd.keeps {b:Nat} {a:Lv} (h:qd w b a) (c:jg X w w') (d:X b):qd w' b a:=h.kept (c.block b d) c.size
variable {l:List Hd}
def qv3 (h:qfk l):qfk (qcr a0 a1 a2 a3 l):=q31 h λ_ a=>(jdq.1 a).1
def qqw:(qcr a0 a1 a2 a3 l).length<=l.length:=jdo _ _
end
open Go.RowKit
def q6w {α:Type} (F:Fence) (n:Nat) (P:Pq) (gf:Nat) (lb:Av) (encs:α->Av) (xs:List α) (N:Wv) (w0:Wl):Prop:=
 ∀(l:Nat) (J:List α->Wv) (W:Wl),Bw w0 W->(∀s A,J s A->N A)->(∀s A B,J s A->Bw A B->J s B)->
  (∀pre x rest W,J pre W->xs=pre++x::rest->YieldAt F (n-1) P l (encs x) W λe W'=>e=.returned (.bool true)/\J (pre++[x]) W')->J [] W->
  CallsIn F n P gf (#[.func (.yield l) #[] #[]]++lb) W λe W'=>(∃v,e=.returned v)/\J xs W'
structure q56 (B:Nat) (W W':Wl):Prop where
 a:W'.heap[B]?=W.heap[B]?
 b:W'.heap[B+1]?=W.heap[B+1]?
def q9a {α:Type} (B:Nat) (I:List α->World->Prop) (xs:List α) (W:Wl):Exit->Act->World->Prop
 |.normal,_,W'=>q56 B W W'/\I xs W'
 |_,_,_=>False
def qli {F:Fence} {n:Nat} {P:Pq} {α:Type} {g:Operand} {Y:Array Tmp} {assign body:Code} {Q:Exit->Act->World->Prop} {a:Act} {w:Wl}
 (Z:F.round=none) (h1:1<=n) {gf:Nat} {lb:Av} (hg:a.eval g=.func (.func gf) #[] lb) (hFg:F.fn gf) (eg:∀args w,(callFunc gf args).run P w=.ok (.enter gf args) w)
 {j:α->Av} {xs:List α} {N:World->Prop} {w0:Wl} (G:q6w F (n-1) P gf lb j xs N w0) (H:Bw w0 w) (hps:∀x,(j x).size=Y.size)
 (I:List α->World->Prop) (hIN:∀s A,I s A->N A) (J:∀s A B,I s A->Bw A B->I s B) (z:∀s A o,I s A->I s (A.putObj (w.heap.size+1) o)) (h0:I [] w) (y:α->Act)
 (m:∀(l:Nat) (x:α) (W:Wl) (K:Act->World->Prop),K (y x) W->
   assign.wpIn (F.inRound l) (n-1-1) P (Exit.then K (λ_ _ _=>False)) {tmps:=(Y.zip (j x)).foldl (λt (p,v)=>t.setIfInBounds p v) a.tmps,defers:=[]} W)
 (C:∀(l:Nat) (pre:List α) (x:α) (rest:List α) (W:Wl),xs=pre++x::rest->w.heap.size+2<=W.heap.size->I pre W->body.wpIn (F.inRound l) (n-1-1) P (q9a w.heap.size I (pre++[x]) W) (y x) W)
 (D:∀(W:Wl),I xs W->W.heap[w.heap.size]?=some (.deferred (some []))->Q .normal {a with defers:={target:=.collected w.heap.size,args:=#[]}::a.defers} W):
 (Code.rangeFunc g Y assign body).wpIn F n P Q a w:=by
 refine wpIn_rangeFunc ?_;intro fn hfn;rw[Z];obtain⟨i,d⟩:∃i:LoopState->Option Code->Loop,i=λst pe=>{state:=st,pending:=pe,fn,tmps:=a.tmps,params:=Y,assign,body,defers:=w.heap.size}:=⟨_,rfl⟩;obtain⟨q,r⟩:∃q,(w.alloc (.deferred (some []))).alloc (.loop (i .ready none))=q:=⟨_,rfl⟩
 have hL1:q.heap[w.heap.size+1]?=some (.loop (i .ready none)):=by
  rw[<-r];have:=World.alloc_heap_new (w.alloc (.deferred (some []))) (.loop (i .ready none));rwa [jdi]at this
 have hK1:q.heap[w.heap.size]?=some (.deferred (some [])):=by
  rw[<-r];exact(jdg _ _ _ oi).trans (World.alloc_heap_new w _)
 have L:Bw w q:=by rw[<-r];exact((jcc _ w).alloc (jcd _) _).alloc oi _
 have hI1:=J _ _ _ h0 L;have hb1:=H.trans (L.mono H.size);refine⟨w.heap.size+1,[{target:=.collected w.heap.size,args:=#[]}],q,{target:=.fn (.func gf) lb,args:=#[.func (.yield (w.heap.size+1)) #[] #[]]},q,gf,
  #[.func (.yield (w.heap.size+1)) #[] #[]]++lb,q,?_,?_,?_,?_,λ_=>h1,?_⟩
 .rw[<-r,d];exact run_enterLoop_outer _ _ _ _ _
 .simp only[resolve,hg];simp[go_sem]
 .intro f' M;simp[Target.leads]at M;subst M;exact hFg
 .simp[invoke,go_sem,eg]
 have blk:∀{A B:Wl} {k:Nat} {o:Obj},Bw A B->A.heap[k]?=some o->B.heap[k]?=some o:=λO h=>(O.block _ (jcs.1 h).1).trans h
 refine(G (w.heap.size+1)
  (λpre W=>I pre W/\W.heap[w.heap.size+1]?=some (.loop (i .ready none))/\W.heap[w.heap.size]?=some (.deferred (some [])))
  q hb1 (λs A R=>hIN s A R.1) (λs A B R O=>⟨J s A B R.1 O,blk O R.2.1,blk O R.2.2⟩) ?_ ⟨hI1,hL1,hK1⟩).mono ?_
 .rintro pre x rest W ⟨hi,T,hk⟩ hx;have hlt:=(jcs.1 T).1;have hy:=run_yield (P:=P) (args:=j x) T (by rw[d];exact hps x);rw[d]at hy;refine⟨fn,_,assign,body,hy,roundIn_of_wpIn hfn (m _ x W _ ⟨_,run_beginRound T (by rw[d]),?_⟩)⟩;have hl2:(W.putObj (w.heap.size+1) (.loop {i .ready none with state:=.busy})).heap[w.heap.size+1]?=some (.loop {i .ready none with state:=.busy}):=World.putObj_heap_same hlt;have hk2:(W.putObj (w.heap.size+1) (.loop {i .ready none with state:=.busy})).heap[w.heap.size]?=some (.deferred (some [])):=(World.putObj_heap_other oe).trans hk;refine wpIn_mono (C _ pre x rest _ hx ou (z _ _ _ hi)) ?_;rintro e a3 W3 E;cases e with
  |normal=>
   obtain⟨V,hi3⟩:=E;have X:=V.b.trans hl2;have hr:=run_endRound (P:=P) none X;rw[d]at hr;exact⟨_,_,hr,rfl,z _ _ _ hi3,by rw[d];exact World.putObj_heap_same (jcs.1 X).1,(World.putObj_heap_other oe).trans (V.a.trans hk2)⟩
  |ret=>exact E.elim
  |exit id=>exact E.elim
  |goto t=>exact E.elim
  |panic ch=>exact E.elim
  |outgrown=>exact E.elim
 rintro e W2 ⟨⟨v,rfl⟩,hi,T,hk⟩;exact⟨none,_,by have:=run_endLoop (P:=P) T (by rw[d];simp);rw[d]at this;exact this,D _ (z _ _ _ hi) ((World.putObj_heap_other oe).trans hk)⟩
end Go.Proofs.YtbfkeoagmajcpaaGreatDoor
