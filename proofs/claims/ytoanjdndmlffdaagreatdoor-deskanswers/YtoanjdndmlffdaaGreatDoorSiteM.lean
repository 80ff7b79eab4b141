import Derived.Shelf.Strings.OnBuilder
import Derived.Shelf.Strconv.Itoa4
import Derived.Shelf.Strconv.ParseIntPublic10
import Derived.Shelf.Strings.Cut
import Derived.Shelf.Strings.Prefix
import Derived.Shelf.Strings.FieldsFuncAny
import Derived.Test.YtoanjdndmlffdaaGreatDoorSiteL
import Derived.Lib.AppendIntMem
import Derived.Lib.ItoaLen
import Derived.RegionDies
import Derived.Shelf.SlIter.Nil
import Derived.Shelf.SortM.Plain
import Derived.Shelf.SortM.SortNone
set_option maxHeartbeats 8000000
set_option maxRecDepth 100000
namespace Go.Proofs.YtoanjdndmlffdaaGreatDoor
section
open Tryz Go.Shelf
def jec:Go.Shelf.Ren:=⟨λ|169=>13|n=>n,λ|70=>29|9=>9|0=>0|72=>32|37=>30|127=>66|3=>3|5=>5|n=>n,λ|n=>n⟩
theorem je5:Go.Proofs.Lays.n169 prog jec:=by constructor<;>intros<;>kernel_rfl
theorem jd8:Builder.Extra prog jec:={
 sizeBuilder:=by kernel_rfl
 liesBuilder:=by kernel_rfl
 t5:=underlying5
 a5:=Tryz.isAgg5
 z5:=Tryz.sizeOf5
 v5:=Tryz.zeroValue5
 infoByte:=by kernel_rfl
 cellsByte:=by kernel_rfl
 sizeByte:=by kernel_rfl
 neB5:=by decide}
open Go.RowKit in
def jeb:Go.Shelf.Ren:=⟨λ|156=>42|165=>90|166=>10|169=>13|240=>24|241=>131|276=>69|277=>184|n=>n,λ|31=>42|9=>9|3=>3|4=>4|0=>0|20=>20|72=>32|76=>38|70=>29|37=>30|75=>37|127=>66|164=>117|5=>5|80=>41|n=>n,λ|n=>n⟩
theorem je4:Go.Proofs.Lays.n156 prog jeb:=by constructor<;>intros<;>kernel_rfl
theorem jd9:Builder.Extra prog jeb:={
 sizeBuilder:=by kernel_rfl
 liesBuilder:=by kernel_rfl
 t5:=underlying5
 a5:=Tryz.isAgg5
 z5:=Tryz.sizeOf5
 v5:=Tryz.zeroValue5
 infoByte:=by kernel_rfl
 cellsByte:=by kernel_rfl
 sizeByte:=by kernel_rfl
 neB5:=by decide}
open Go.RowKit in
theorem jd1 (a o c:Nat) (xs:List ByteArray) (b:ByteArray) (w:World) (d:∀(j:Nat) x,xs[j]?=some x->w.cell? (AD a (o+j))=some (.string x)) (f:a<w.heap.size) (g:xs.length<=140737488355328) (h:xs.length<=c) (i:(Lib.join (xs.map (·.data.toList)) b.data.toList).length<=140737488355328):
 Ca 42 #[.slice (some (AD a o)) xs.length c,.string b] w λe w'=>e=.returned (.string ⟨(Lib.join (xs.map (·.data.toList)) b.data.toList).toArray⟩)/\Bw w w':=Any.strings_Join je4 jd9 a o c xs b w d f g h i
def jeg:Go.Shelf.Ren:=⟨λ|171=>18|243=>45|246=>93|283=>134|284=>135|285=>136|286=>137|129=>195|317=>196|318=>197|319=>198|320=>199|337=>238|338=>239|n=>n,λ|3=>3|9=>9|2=>2|4=>4|171=>191|0=>0|53=>192|37=>30|5=>5|173=>195|212=>252|51=>250|20=>20|213=>253|46=>190|232=>329|233=>330|n=>n,λ|17=>2|18=>8|19=>9|n=>n⟩
theorem jex:Go.Proofs.LaysM.n171 prog jeg:=by constructor<;>intros<;>first|kernel_rfl|(constructor<;>intros<;>first|kernel_rfl|(constructor<;>intros<;>kernel_rfl))
open Go.RowKit Go.Sort Go.Lib in
theorem jej (n:Int) (a: -9223372036854775808<=n) (b:n<=9223372036854775807) (w:World) (c:Lib.TabIs prog w "internal/strconv.uint64pow10" .u64 Lib.pow10Tab):
 Ca 18 #[U n] w λe w'=>e=.returned (.string ⟨(Lib.itoa n).toArray⟩)/\∃k os,w'=grow (w.drewN k) os:=Any.strconv_Itoa jex n a b w c
def jei:Go.Shelf.Ren:=⟨λ|173=>76|246=>93|283=>134|284=>135|285=>136|286=>137|129=>195|317=>196|318=>197|319=>198|320=>199|337=>238|338=>239|n=>n,λ|2=>2|3=>3|9=>9|4=>4|171=>191|0=>0|53=>192|37=>30|5=>5|173=>195|212=>252|51=>250|20=>20|213=>253|46=>190|232=>329|233=>330|n=>n,λ|17=>2|18=>8|19=>9|n=>n⟩
theorem jew:Go.Proofs.LaysM.n173 prog jei:=by constructor<;>intros<;>first|kernel_rfl|(constructor<;>intros<;>first|kernel_rfl|(constructor<;>intros<;>kernel_rfl))
open Go.RowKit Go.Sort Go.Lib in
theorem jd5 (n:Int) (a: -9223372036854775808<=n) (b:n<=9223372036854775807) (w:World) (c:Lib.TabIs prog w "internal/strconv.uint64pow10" .u64 Lib.pow10Tab):
 Ca 76 #[U n,U 10] w λe w'=>e=.returned (.string ⟨(Lib.itoa n).toArray⟩)/\∃k os,w'=grow (w.drewN k) os:=Any.strconv_FormatInt_10 jew n a b w c
def jel:Go.Shelf.Ren:=⟨λ|174=>75|247=>125|245=>126|287=>172|279=>173|280=>174|281=>175|282=>176|321=>228|322=>229|316=>230|171=>18|205=>231|243=>45|246=>93|283=>134|284=>135|285=>136|286=>137|129=>195|317=>196|318=>197|319=>198|320=>199|337=>238|338=>239|n=>n,λ|9=>9|3=>3|2=>2|75=>37|85=>123|4=>4|167=>227|5=>5|53=>192|175=>228|46=>190|168=>230|37=>30|0=>0|210=>287|21=>21|127=>66|145=>326|143=>324|171=>191|173=>195|212=>252|51=>250|20=>20|213=>253|232=>329|233=>330|80=>41|n=>n,λ|15=>6|16=>7|17=>2|18=>8|19=>9|n=>n⟩
theorem jed:Go.Proofs.LaysC.n174 prog jel:=by constructor<;>intros<;>first|kernel_rfl|(constructor<;>intros<;>first|kernel_rfl|(constructor<;>intros<;>kernel_rfl))
open Go.RowKit in
theorem jd2 (s:ByteArray) (a:s.size<=9223372036854775806) (v:Int) (h:Lib.parseIntB 64 s.data.toList=.ok v) (w:World):
 Ca 75 #[.string s,U 10,U 64] w λe w'=>e=.returned (.tuple #[U v,.nilIface])/\(w'=w\/∃t,w'=Lib.bytesWorld w 5 t):=Any.strconv_ParseInt_10_at64_ok jed s a v h w
open Go.RowKit in
theorem jeh (s:ByteArray) (f:s.size<=281474976710656) (g:∀v,Lib.parseIntB 64 s.data.toList≠.ok v) (w:World) (a:∃t p,w.cell? (AD 6 0)=some (.iface t p)) (b:∃t p,w.cell? (AD 7 0)=some (.iface t p)):
 Ca 75 #[.string s,U 10,U 64] w λe w'=>∃n N,e=.returned (.tuple #[U n,.iface 230 (PP N)])/\Bw w w':=by
 obtain⟨_,_,a⟩:=a;obtain⟨_,_,b⟩:=b;cases hp:Lib.parseIntB 64 s.data.toList
 ·exact absurd hp (g _)
 ·exact(Any.strconv_ParseInt_10_at64_syntax jed s f hp _ w a (.inr ⟨_,_,rfl⟩)).mono λe w' ⟨N,c,_,_,d⟩=>⟨_,N,c,d⟩
 exact(Any.strconv_ParseInt_10_at64_range jed s f hp _ w b (.inr ⟨_,_,rfl⟩)).mono λe w' ⟨N,c,_,_,d⟩=>⟨_,N,c,d⟩
def jeo:Go.Shelf.Ren:=⟨λ|145=>23|220=>68|219=>121|217=>167|225=>168|224=>169|267=>170|266=>226|314=>227|n=>n,λ|9=>9|4=>4|59=>61|3=>3|5=>5|46=>190|146=>279|51=>250|n=>n,λ|1=>1|n=>n⟩
theorem je0:Go.Proofs.Lays.n145 prog jeo:=by constructor<;>intros<;>kernel_rfl
open Go.RowKit Go.Lib in
theorem jer (s a:ByteArray) (m:Int) (w:World) (b:s.size<4294967281) (c:w.cell? (AD 1 0)=some (U m)):
 Ca 23 #[.string s,.string a] w λe w'=>e=.returned (.tuple #[.string ⟨(Lib.cut s.data.toList a.data.toList).1.toArray⟩,.string ⟨(Lib.cut s.data.toList a.data.toList).2.1.toArray⟩,.bool (Lib.cut s.data.toList a.data.toList).2.2])/\∃n,w'=w.drewN n:=Any.strings_Cut je0 s a m w b c
def jeq:Go.Shelf.Ren:=⟨λ|102=>22|209=>67|207=>120|n=>n,λ|9=>9|4=>4|3=>3|n=>n,λ|n=>n⟩
theorem je1:Go.Proofs.Lays.n102 prog jeq:=by constructor<;>intros<;>kernel_rfl
open Go.RowKit Go.Lib in
theorem jd7 (s p:ByteArray) (w:World) (a:s.size<=9223372036854775807):
 Ca 22 #[.string s,.string p] w λe w'=>e=.returned (.string ⟨(Lib.trimSuffix s.data.toList p.data.toList).toArray⟩)/\w'=w:=Any.strings_TrimSuffix je1 s p w a
def jep:Go.Shelf.Ren:=⟨λ|229=>70|n=>n,λ|9=>9|40=>120|31=>42|152=>173|3=>3|0=>0|4=>4|21=>21|154=>175|n=>n,λ|n=>n⟩
theorem je3:Go.Proofs.Lays.n229 prog jep:=by constructor<;>intros<;>kernel_rfl
open Go.RowKit Go.Lib in
theorem jd4 (g:Nat) (lb:Array Value) (a:∀args w,(callFunc g args).run prog w=.ok (.enter g args) w) (p:Nat->Bool) (s:ByteArray) (w:World) (b:s.size<=4294967296) (c:PredAtRunes prog g lb p w):
 Ca 70 #[.string s,.func (.func g) #[] lb] w λe w'=>∃A,e=.returned (.slice (PT A) (Lib.goFieldsP p s).length (Lib.goFieldsP p s).length)/\w.heap.size<=A/\
  w'.ownsRow w.heap.size 9 1 (.slice (PT A) (Lib.goFieldsP p s).length (Lib.goFieldsP p s).length) (Lib.goFieldsP p s).length ((Lib.goFieldsP p s).map Value.string)/\Bw w w':=Any.strings_FieldsFunc_runes je3 g lb a p s w b c (by kernel_rfl) (by kernel_rfl)
end
section
open Tryz Go.RowKit
structure Gl (w:World):Prop where
 sz:10<=w.heap.size
 et:w.cell? (AD 3 0)=some (.iface 312 (.agg #[.pointer (some (AD 10 37))]))
 tab:Lib.TabIs prog w "internal/strconv.uint64pow10" .u64 Lib.pow10Tab
 es:∃t p,w.cell? (AD 6 0)=some (.iface t p)
 er:∃t p,w.cell? (AD 7 0)=some (.iface t p)
 ml:∃m,w.cell? (AD 1 0)=some (U m)
theorem qr1:prog.globalNamed "internal/strconv.uint64pow10"=some 2:=by kernel_rfl
theorem Gl.kept {w w':World} (g:Gl w) (b:∀k,k<10->w'.heap[k]?=w.heap[k]?) (d:w.heap.size<=w'.heap.size):Gl w':=by
 have c:∀{k:Nat} {v:Value},k<10->w.cell? (AD k 0)=some v->w'.cell? (AD k 0)=some v:=λe h=>by rw[jch (w:=w) (b _ e)];exact h
 obtain⟨f,i,a,⟨j,l,n⟩,⟨o,p,q⟩,m,r⟩:=g;refine⟨jcn f d,c (by decide) i,?_,⟨j,l,c (by decide) n⟩,⟨o,p,c (by decide) q⟩,m,c (by decide) r⟩;unfold Lib.TabIs World.var? at a ⊢;rw[qr1]at a ⊢;simp only[Option.bind_some]at a ⊢;rw[b _ (by decide)];exact a
theorem Gl.later {w w':World} (g:Gl w) (a:Bw w w'):Gl w':=g.kept (λk b=>a.block k (jci b g.sz)) a.size
def qc7 (n:Int):Ending:=.panicked [{v:=.iface 26 (U n),recovered:=false}]
def jba (o:Option Int) (e:Ending):Prop:=match o with
 |some v=>e=.returned (U v)
 |none=>e=qc7 3
theorem qsn (v:Int) (h:wfI v) (w:World) (g:Gl w):Ca 18 #[U v] w λe w'=>e=.returned (.string (bya (Lib.itoa v)))/\Bw w w':=
 (jej v h.1 h.2 w g.tab).mono λ_ _ ⟨a,k,os,b⟩=>⟨a,by rw[b];exact Lib.below_grow _ w (jcd _) k os⟩
theorem qq9 (v:Int) (h:wfI v) (w:World) (g:Gl w):Ca 76 #[U v,U 10] w λe w'=>e=.returned (.string (bya (Lib.itoa v)))/\Bw w w':=
 (jd5 v h.1 h.2 w g.tab).mono λ_ _ ⟨a,k,os,b⟩=>⟨a,by rw[b];exact Lib.below_grow _ w (jcd _) k os⟩
theorem qvu (s:ByteArray) (c:s.size<=1000000) (v:Int) (h:Lib.parseIntB 64 s.data.toList=.ok v) (w:World):Ca 75 #[.string s,U 10,U 64] w (Rn (.tuple #[U v,.nilIface]) w):=
 (jd2 s (by omega) v h w).mono λ_ _ ⟨a,b⟩=>⟨a,by
  rcases b with rfl|⟨t,rfl⟩
  ·exact jcc _ _
  exact Lib.bytesWorld_below _ _ _⟩
theorem qw9 (s:ByteArray) (p:s.size<=1000000) (w:World) (g:Gl w):
 Ca 201 #[.string s] w λe w'=>jba (qbw s) e/\Bw w w':=by
 by_cases a:∃v,Lib.parseIntB 64 s.data.toList=.ok v
 ·obtain⟨v,a⟩:=a
  have c:wfI v:=by have:=Lib.parseIntB_bounds a;simp at this;exact⟨by omega,by omega⟩
  have k:=qvu s p v a w
  have d:Hid (qbw s=if bya (Lib.itoa v)=s then some v else none):=by show qbw s=_;unfold qbw;rw[a]
  have f:=λw' q=>qq9 v c w' (g.later (w':=w') q);have h:=q93 (bya (Lib.itoa v)) s;clear a
  generalize bya (Lib.itoa v)=t at d f h
  go_enter func201,ntmps201
  go_wp2_with fail
  refine k.mono ?_;rintro e o ⟨rfl,i⟩;replace f:=f o i;by_cases b:t=s
  ·have r:(t.toList==s.toList)=true:=by rw[h];simp[b]
   have j:Hid (qbw s=some v):=by show qbw s=_;rw[d.out,if_pos b]
   clear b h d
   go_wp2_with fail
   refine f.mono ?_;rintro e w2 ⟨rfl,l⟩
   go_wp2
   go_ret;exact⟨by rw[j.out];rfl,qa i l⟩
  have r:(t.toList==s.toList)=false:=by rw[h];simp[b]
  have j:Hid (qbw s=none):=by show qbw s=_;rw[d.out,if_neg b]
  clear b h d
  go_wp2_with fail
  refine f.mono ?_;rintro e w2 ⟨rfl,l⟩
  go_wp2
  exact⟨rfl,by rw[j.out];rfl,qa i l⟩
 have m:∀v,Lib.parseIntB 64 s.data.toList≠.ok v:=λv c=>a ⟨v,c⟩;have k:=jeh s (by omega) m w g.es g.er
 have j:Hid (qbw s=none):=by
  show qbw s=none;unfold qbw;split
  ·rename_i v c;exact absurd c (m v)
  rfl
 clear a m;go_enter func201,ntmps201
 go_wp2_with fail
 refine k.mono ?_;rintro e o ⟨n,N,rfl,i⟩
 go_wp2
 exact⟨rfl,by rw[j.out];rfl,i⟩
structure qfj (w:World) (a:Option Addr) (cap:Nat) (l:List ByteArray):Prop where
 cap:l.length<=cap
 cell:∀(j:Nat) x,l[j]?=some x->∃b o,a=some (AD b o)/\b<w.heap.size/\w.cell? (AD b (o+j))=some (.string x)
theorem qfj.later {w w':World} {a:Option Addr} {cap:Nat} {l:List ByteArray} (h:qfj w a cap l) (c:Bw w w'):qfj w' a cap l:=
 ⟨h.cap,λj x e=>by obtain⟨b,o,f,d,g⟩:=h.cell j x e;exact⟨b,o,f,jci d c.size,(c.cell (p:=AD b (o+j)) d).trans g⟩⟩
theorem q0l:(prog.info? 3).map (λi=>(i.zero,i.size,i.bytes))=some (some (U 0),1,8):=by kernel_rfl
theorem q20 {n:Nat} (a:n<=6) (w:World):(Instr.makeSlice 69 (U n) (U n)).run prog w=.ok (.slice (PT w.heap.size) n n) (w.alloc (.cells (madeCells #[U 0] n) 3)):=
 run_make_row' _ 3 (U 0) 8 underlying69 q0l rfl .i64 .i64 n (by omega) (by omega) w
def qec (l:List Int):List Value:=l.map (λx=>Value.int .i64 x)
def qn7 (w:World) (o:Option (List Int)) (e:Ending) (w':World):Prop:=match o with
 |some l=>∃b,e=.returned (.slice (PT b) l.length l.length)/\qd w' b (qec l)/\Bw w w'
 |none=>e=qc7 3/\Bw w w'
theorem qw0 {l:List ByteArray} {k:Nat} {a:List Int} (b:k<l.length) (h:qb0 (l.take k)=some a):qb0 (l.take (k+1))=(qbw l[k]).map (λv=>a++[v]):=by
 induction l generalizing k a with
 |nil=>simp at b
 |cons x l ih=>
  cases k with
  |zero=>
   simp[qb0]at h;subst h;simp[qb0]
   cases qbw x<;>rfl
  |succ k=>
   simp only[List.take_succ_cons,qb0]at h ⊢;cases hx:qbw x with
   |none=>rw[hx]at h;cases h
   |some v=>
    rw[hx]at h;simp only at h ⊢;cases hl:qb0 (l.take k)with
    |none=>rw[hl]at h;cases h
    |some r=>
     rw[hl]at h;injection h with h;subst h;rw[ih (by simpa using b) hl];simp only[List.getElem_cons_succ]
     cases qbw (l[k]'(by simpa using b))<;>rfl
theorem qw8 {l:List ByteArray} {k:Nat} (h:qb0 (l.take k)=none):qb0 l=none:=by
 induction l generalizing k with
 |nil=>simpa using h
 |cons x l ih=>
  cases k with
  |zero=>simp[qb0]at h
  |succ k=>
   simp only[List.take_succ_cons,qb0]at h ⊢;cases hx:qbw x with
   |none=>rfl
   |some v=>
    rw[hx]at h;simp only at h ⊢;cases hl:qb0 (l.take k)with
    |none=>rw[ih hl]
    |some r=>rw[hl]at h;cases h
theorem qbb:∀{l:List ByteArray} {a:List Int},qb0 l=some a->a.length=l.length
 |[],a,h=>by simp[qb0]at h;subst h;rfl
 |x::l,a,h=>by
  simp only[qb0]at h;cases hx:qbw x with
  |none=>rw[hx]at h;cases h
  |some v=>
   rw[hx]at h;simp only at h;cases hl:qb0 l with
   |none=>rw[hl]at h;cases h
   |some r=>
    rw[hl]at h;injection h with h;subst h;simp[qbb hl]
theorem qiw {a:Option Addr} {cap:Nat} {l:List ByteArray} {m:Nat} (y:m<=6) (B:∀x∈l,x.size<=1000000) (w:World) (g:Gl w) (h:qfj w a cap l):
 Ca 140 #[.slice a l.length cap,U m] w (qn7 w (ju m l)):=by
 by_cases i:l.length=m
 ·subst i;have P:=q20 y w
  have n:Hid (ju l.length l=qb0 l):=by show ju l.length l=_;unfold ju;rw[if_pos rfl]
  have aa:=h.cap
  have I:qd (w.alloc (.cells (madeCells #[U 0] l.length) 3)) w.heap.size (List.replicate l.length (U 0)):=by
   have:=qd.new (w:=w) (T:=3) (madeCells #[Value.int .i64 0] l.length).toList rfl
   rwa [Array.toArray_toList,toList_madeCells_one]at this
  have Q:=hd3 h g B;have J:=boxed (jcc _ w) (.cells (madeCells #[U 0] l.length) 3);have R:=hd1 y;clear h g B y;go_enter func140,ntmps140
  go_wp2
  go_loopw [17] (λiv wr=>∃(k:Nat) (z:Int) (c:List Int),k<=l.length/\z=k/\iv=U z/\Hid (qb0 (l.take k)=some c/\qd wr w.heap.size (qec c++List.replicate (l.length-k) (U 0))/\Bw w wr)) (λiv _=>l.length-(intOf iv).toNat)
  case atStart=>exact⟨0,0,[],jcw _,rfl,rfl,rfl,I,J⟩
  clear I J P;obtain⟨k,z,c,hk,C,rfl,d⟩:=hrel;have S:=hd1 C
  have j:c.length=k:=by rw[qbb d.out.1,jc5];omega
  by_cases q:k<l.length
  ·have V:z<(l.length:Int):=by omega
   have g2:0<=z:=by omega
   have g3:z.toNat=k:=by omega
   have g4:z<6:=by have:=R.out;omega
   obtain⟨x,r⟩:∃x,l[k]?=some x:=⟨_,jcg q⟩;obtain⟨K,L,M⟩:=Q.out;obtain⟨b,o,rfl,hb,hc⟩:=(K.later d.out.2.2).cell k x r
   have D:Hid (qb0 (l.take (k+1))=(qbw x).map (λv=>c++[v])):=by
        have:=qw0 q d.out.1;rw[(jck.1 r).2]at this;exact this
   have W:=qw9 x (M x (jcq r)) wr (L.later d.out.2.2);clear K L M C r
   go_wp2_with fail
   refine W.mono ?_;rintro e w2 ⟨s,E⟩;have F:=qa d.out.2.2 E;have t:=d.out.2.1.later E;cases hn:qbw x with
   |none=>
    rw[hn]at s;have G:e=.panicked [{v:=.iface 26 (U 3),recovered:=false}]:=s;subst G;have f:=D.out;rw[hn]at f;exact⟨rfl,by unfold qn7;rw[n.out,qw8 f];exact⟨rfl,F⟩⟩
   |some v=>
    rw[hn]at s;have G:e=.returned (U v):=s;subst G
    have i:(qec c++List.replicate (l.length-k) (Value.int .i64 0)).length=l.length:=by simp[qec];omega
    have c0:=t.cell k _ (by
        rw[jc0 (by simp[qec,j]),show k-(qec c).length=0 by simp[qec,j],show l.length-k=(l.length-(k+1))+1 by omega]
        rfl)
    have f0:=t.free k (by rw[i];exact q)
    have N:Hid (qd (w2.setCell (AD w.heap.size k) (U v)) w.heap.size (qec (c++[v])++List.replicate (l.length-(k+1)) (U 0))/\Bw w (w2.setCell (AD w.heap.size k) (U v))):=by
        refine⟨?_,F.setCell (p:=AD w.heap.size k) (jcd _) _⟩;have:=t.set k (U v) (by rw[i];exact q);rw[List.set_append_right _ _ (by simp[qec];omega)]at this
        have X:l.length-k=(l.length-(k+1))+1:=by omega
        rw[X,List.replicate_succ]at this;simpa[qec,j]using this
    have Y:Hid (qb0 (l.take (k+1))=some (c++[v])):=by have f:=D.out;rw[hn]at f;exact f
    clear D hn t F E i j
    go_wp2
    go_roundw
    case rel=>exact⟨k+1,z+1,c++[v],q,by have:=S.out;omega,by go_num,Y.out,N.out.1,N.out.2⟩
    simp[intOf];omega
  have V:¬z<(l.length:Int):=by omega
  have u:k=l.length:=by omega
  have H:Hid (ju l.length l=some c/\qd wr w.heap.size (qec c)/\Bw w wr):=by
   have O:=d.out.1;have f:=d.out.2.1;rw[u,jc9]at O;rw[u,Nat.sub_self,List.replicate_zero,jdx]at f;exact⟨n.out.trans O,f,d.out.2.2⟩
  have Z:=hd1 (j.trans u);clear C u d n j
  go_wp2
  go_ret;unfold qn7;rw[H.out.1];exact⟨w.heap.size,by simp[Z.out],H.out.2.1,H.out.2.2⟩
 have n:Hid (ju m l=none):=by show ju m l=none;unfold ju;rw[if_neg i]
 have hne:¬(l.length:Int)=(m:Int):=by omega
 clear h g B i;go_enter func140,ntmps140
 go_wp2
 exact⟨rfl,by unfold qn7;rw[n.out];exact⟨rfl,jcc _ _⟩⟩
end
section
open Tryz Go.RowKit
theorem ja3 {r:List Int} (h:r.length=2):∃u v,r=[u,v]:=by
 match r,h with
 |[u,v],_=>exact⟨u,v,rfl⟩
section
variable {a:Option Addr} {cap:Nat} {l:List ByteArray}
theorem qi1 (j:∀x∈l,x.size<=1000000) (w:World) (g:Gl w) (h:qfj w a cap l):
 Ca 95 #[.slice a l.length cap] w λe w'=>Bw w w'/\((∃v,Hid (ju 1 l=some [v])/\e=.returned (U v))\/(Hid (ju 1 l=none)/\e=qc7 3)):=by
 have k:=qiw (m:=1) (by decide) j w g h
 have n:Hid (∀r,ju 1 l=some r->r.length=1):=λr d=>by
  unfold ju at d;split at d
  ·rename_i q;rw[qbb d,q]
  cases d
 clear h g j;go_enter func95,ntmps95
 go_wp2_with fail
 refine k.mono ?_;rintro e p f;cases hn:ju 1 l with
 |none=>
  rw[hn]at f;obtain⟨rfl,i⟩:e=qc7 3/\_:=f;exact⟨rfl,i,.inr ⟨hn,rfl⟩⟩
 |some r=>
  rw[hn]at f;obtain⟨v,rfl⟩:∃v,r=[v]:=List.length_eq_one_iff.1 (n.out r hn);obtain⟨b,rfl,d,i⟩:=f;have s:=d.c 0;have o:=hd1 hn;clear hn
  go_wp2
  go_ret;exact⟨i,.inl ⟨v,o,rfl⟩⟩
theorem qls (j:∀x∈l,x.size<=1000000) (w:World) (g:Gl w) (h:qfj w a cap l):
 Ca 97 #[.slice a l.length cap] w λe w'=>Bw w w'/\((∃u v,Hid (ju 2 l=some [u,v])/\e=.returned (.tuple #[U u,U v]))\/(Hid (ju 2 l=none)/\e=qc7 3)):=by
 have k:=qiw (m:=2) (by decide) j w g h
 have n:Hid (∀r,ju 2 l=some r->r.length=2):=λr d=>by
  unfold ju at d;split at d
  ·rename_i q;rw[qbb d,q]
  cases d
 clear h g j;go_enter func97,ntmps97
 go_wp2_with fail
 refine k.mono ?_;rintro e p f;cases hn:ju 2 l with
 |none=>
  rw[hn]at f;obtain⟨rfl,i⟩:e=qc7 3/\_:=f;exact⟨rfl,i,.inr ⟨hn,rfl⟩⟩
 |some r=>
  rw[hn]at f;obtain⟨u,v,rfl⟩:∃u v,r=[u,v]:=ja3 (n.out r hn);obtain⟨b,rfl,d,i⟩:=f;have s:=d.c 0;have t:=d.c 1;have o:=hd1 hn;clear hn
  go_wp2
  go_region
  go_wp2
  go_ret2;exact⟨i.drew,.inl ⟨u,v,o,rfl⟩⟩
theorem qpc (i:∀x∈l,x.size<=1000000) (w:World) (g:Gl w) (h:qfj w a cap l):
 Ca 99 #[.slice a l.length cap] w λe w'=>Bw w w'/\((Hid (ju 0 l=some [])/\e=.returned (.tuple #[]))\/(Hid (ju 0 l=none)/\e=qc7 3)):=by
 have j:=qiw (m:=0) (by decide) i w g h
 have k:Hid (∀r,ju 0 l=some r->r.length=0):=λr c=>by
  unfold ju at c;split at c
  ·rename_i q;rw[qbb c,q]
  cases c
 clear h g i;go_enter func99,ntmps99
 go_wp2_with fail
 refine j.mono ?_;rintro e o d;cases hn:ju 0 l with
 |none=>
  rw[hn]at d;obtain⟨rfl,f⟩:e=qc7 3/\_:=d;exact⟨rfl,f,.inr ⟨hn,rfl⟩⟩
 |some r=>
  rw[hn]at d;obtain rfl:r=[]:=jc2 (k.out r hn);obtain⟨b,rfl,c,f⟩:=d;have n:=hd1 hn;clear hn
  go_wp2
  go_end0;exact⟨f,.inl ⟨n,rfl⟩⟩
end
theorem qda (n:Int) (w:World) (g:Gl w):Ca 66 #[jc n] w λe w'=>Bw w w'/\((n=0/\e=.returned (.tuple #[]))\/(n≠0/\e=qc7 n)):=by
 unfold jc;by_cases h:n=0
 ·rw[if_pos h];go_enter func66,ntmps66
  go_wp2
  go_end0;exact⟨jcc _ _,.inl ⟨h,rfl⟩⟩
 rw[if_neg h];have T:=qzi n w g.et;have b:Hid (n≠0):=h;clear h;go_enter func66,ntmps66
 go_wp2_with fail
 refine T.mono ?_;rintro e d ⟨rfl,c⟩
 go_wp2
 exact⟨rfl,c,.inr ⟨b.out,rfl⟩⟩
theorem jz (a b:List UInt8):bya a++bya b=bya (a++b):=by
 apply ByteArray.ext
 simp[bya]
theorem qq7 (n:Int) (b:wfI n) (w:World) (g:Gl w):Ca 7 #[U n] w λe w'=>e=.returned (.string (bya (qgt n)))/\Bw w w':=by
 have d:=Lib.itoa_length_le n b.1 b.2;have T:=qsn n b w g;have f:=λw=>qfi (P:=prog) ⟨#[101,114,114,111,114,32]⟩ (bya (Lib.itoa n)) (by show 6+(Lib.itoa n).toArray.size<=_;simp;omega) w;go_enter func7,ntmps7
 go_wp2_with fail
 refine T.mono ?_;rintro e h ⟨rfl,c⟩
 go_wp2
 go_ret;refine⟨?_,c⟩;have:=jz [101,114,114,111,114,32] (Lib.itoa n);rw[show qgt n=[101,114,114,111,114,32]++Lib.itoa n from rfl,<-this];rfl
def qen (x:Int):ByteArray:=bya (Lib.itoa x)
theorem qn2 (l:List Int):Lib.join ((l.map qen).map (·.data.toList)) [32]=qv l:=by
 unfold qv;rw[List.map_map]
 congr 1
theorem qgl (n:Nat):∀(l:List (List UInt8)),(∀x∈l,x.length<=n)->(Lib.join l [32]).length<=l.length*(n+1)
 |[],_=>by simp[Lib.join,List.intercalate]
 |[x],h=>by
  have:=h x (by simp);simp[Lib.join,List.intercalate];omega
 |x::y::l,h=>by
  have d:=h x (by simp);have b:=qgl n (y::l) (λz c=>h z (jdc _ c))
  have e:Lib.join (x::y::l) [32]=x++[32]++Lib.join (y::l) [32]:=by simp[Lib.join,List.intercalate]
  rw[e];simp only[jcl,List.length_cons,List.length_nil]at b ⊢;rw[Nat.succ_mul];omega
variable {l:List Int}
theorem ze (h:∀x∈l,wfI x):(qv l).length<=l.length*22:=by
 have:=qgl 21 (l.map Lib.itoa) (λy c=>by
  obtain⟨x,b,rfl⟩:=jcz.1 c
  exact Lib.itoa_length_le x (h x b).1 (h x b).2)
 simpa[qv]using this
theorem qg3 {w w':World} {B n N:Nat} {T:TypeId} {v:Value} {xs:List Value} (h:w.ownsRow B T N v n xs) (b:Bw w w'):w'.ownsRow B T N v n xs:=qf h (λk e=>b.block k (h.lt k e).2)
theorem qb1 {b o cap:Nat} (n:l≠[]) (v:l.length<=8) (H:∀x∈l,wfI x) (w:World) (g:Gl w) (d:b<w.heap.size) (f:∀(j:Nat) x,l[j]?=some x->w.cell? (AD b (o+j))=some (U x)):
 Ca 102 #[.slice (some (AD b o)) l.length cap] w λe w'=>e=.returned (.string (bya (qv l)))/\Bw w w':=by
 obtain⟨S,hi,V,W,X⟩:=info_parts qki;have r:=hd6 g H d f n v;clear g H d f n v;go_enter func102,ntmps102
 go_wp2
 go_loopw [3,8] (λI iv wr=>∃(k:Nat) (z:Int),k<=l.length/\z=k/\iv=U z/\Hid (wr.ownsRow w.heap.size 9 1 I k ((l.take k).map (λx=>Value.string (qen x)))/\Bw w wr)) (λ_ iv _=>l.length-(intOf iv).toNat)
 case atStart=>exact⟨0,0,jcw _,rfl,rfl,jcx w _ _ _,jcc _ _⟩
 rename_i I _;obtain⟨k,z,hk,F,rfl,c⟩:=hrel;have Y:=hd1 F;by_cases K:k<l.length
 ·have Z:z<(l.length:Int):=by omega
  have g2:0<=z:=by omega
  have g3:z.toNat=k:=by omega
  have g4:z<8:=by have:=r.out.2.2.2.2.2;omega
  obtain⟨x,B⟩:∃x,l[k]?=some x:=⟨_,jcg K⟩;obtain⟨C,s,d,f,_⟩:=r.out;have c0:=(c.out.2.cell (p:=AD b (o+k)) d).trans (f k x B);have T:=qsn x (s x (jcq B)) wr (C.later c.out.2)
  have L:Hid ((l.take (k+1)).map (λx=>Value.string (qen x))=(l.take k).map (λx=>Value.string (qen x))++[.string (qen x)]):=by
   show _=_;rw[jdu,B];simp
  clear C s d f F B
  go_wp2_with fail
  refine T.mono ?_;rintro e w2 ⟨rfl,t⟩;have M:=boxed (jcc _ w2) (.cells #[.string (qen x)] 9);have G:=qg3 (qg3 c.out.1 t) M;have m:=hd1 (qa c.out.2 t)
  go_wp2_with (at_builtin;refine wpList_append_lies _ rfl _ _ 42 rfl w.heap.size 9 S (.string ⟨#[]⟩) 1 16 underlying42 hi V W X rfl (by decide) _ _ _ rfl G (AD w2.heap.size 0) 1 1 [.string (qen x)] rfl rfl (World.news_of_block (heap_alloc_new w2 (.cells #[.string (qen x)] 9))) ?c2 (by decide) ?c3 ?c4 ?c5 _ rfl ?_)
  case c2=>intro u N;simp at N;subst N;rfl
  case c3=>have:=r.out.2.2.2.2.2;unfold maxLen;omega
  case c4=>have:=r.out.2.2.2.2.2;omega
  case c5=>have:=m.out.size;simp;omega
  intro D E O P Q aa ab
  have ac:Hid (O.ownsRow w.heap.size 9 1 (.slice (PT D) (k+1) E) (k+1) ((l.take (k+1)).map (λx=>Value.string (qen x)))/\Bw w O):=by
   refine⟨by rw[L.out];simpa[List.map_take]using P,?_⟩;exact(m.out.alloc m.out.size _).grown Q (by have:=m.out.size;simp;omega) (λq e=>(G.lt q e).1)
  clear P Q aa ab G L M t
  go_wp2
  go_roundw
  case rel=>exact⟨k+1,z+1,K,by have:=Y.out;omega,by go_num,ac.out⟩
  simp[intOf];omega
 have Z:¬z<(l.length:Int):=by omega
 have ad:k=l.length:=by omega
 subst ad;rw[jc9]at c;obtain⟨C,s,d,f,n,v⟩:=r.out;have ae:=List.length_pos_iff.2 n;obtain⟨D,E,rfl,hB,af⟩:=c.out.1.form ae;have R:=c.out.1.cells (g:=D) rfl
 have ag:l.length<=E:=by
  rcases c.out.1.2 with ⟨h,_⟩|⟨g',c',cur,hv,_,_,hnc,_⟩
  ·cases h
  cases hv;exact hnc
 have J:=jd1 D 0 E (l.map qen) ⟨#[32]⟩ wr (λj y i=>by
  have:=R j (.string y) (by rw[jcv]at i ⊢;cases hq:l[j]?with
   |none=>rw[hq]at i;cases i
   |some q=>rw[hq]at i;injection i with i;subst i;rfl)
  rcases Nat.eq_zero_or_pos j with rfl|hj
  ·simpa[Addr.add]using this
  simpa[Addr.add,Nat.ne_of_gt hj]using this) af (by simp;omega) (by simpa using ag) (by
  rw[show (⟨#[32]⟩:ByteArray).data.toList=[32]from rfl,qn2];have:=ze s
  omega)
 rw[jdh,show (⟨#[32]⟩:ByteArray).data.toList=[32]from rfl,qn2]at J;have m:=hd1 c.out.2;clear C s d f n v R F c
 go_wp2_with fail
 refine J.mono ?_;rintro e w2 ⟨rfl,t⟩
 go_wp2
 go_ret;exact⟨rfl,qa m.out t⟩
end
section
open Go.RowKit Go.Maps
variable {w:World}
theorem qbu {P:Program} {o:Oper} {a:Act} {K:Act->World->Prop} {Q:Exit->Act->World->Prop} (f:FuncId) (args:Array Value) (g:(execOp a.eval o).run P w=.ok (.enter f args) w) {R:Ending->World->Prop} (h:Calls P f args w R)
 (k:∀e w',R e w'->(∃v,e=.returned v/\K (a.put o.dst v) w')\/∃c,e=.panicked c/\Q (.panic c) a w'):Oper.wp P o a w K Q:=by
 unfold Oper.wp;rw[g,Oper.upon_enter];refine h.mono λe w' m=>?_;rcases k e w' m with ⟨v,rfl,d⟩|⟨c,rfl,d⟩
 ·exact d
 exact d
def q3p (i:Nat):Nat:=[46,47,48,49,50,51,52,53,54,55,56,57,58,59,60,61,62,63,64].getD i 0
def doV (cb i:Nat):Value:=.func (.func (q3p i)) #[PP cb] #[]
structure qow (D:DataW Value) (cb n:Nat):Prop where
 size:Maps.size D=n
 has:∀i,i<n->Maps.has D (.string (qn i))=true/\∀z,D.atKey (.string (qn i)) z=.held (doV cb i)
 no:∀s,(∀i,i<n->s≠qn i)->Maps.has D (.string s)=false/\∀z,D.atKey (.string s) z=z
def zm (w:World) (mb cb n:Nat):Prop:=∃D,w.ownsMap Tryz.prog 9 qcd mb n D/\qow D cb n
variable {w':World} {mb cb n:Nat}
theorem zm.kept (h:zm w mb cb n) (e:w'.heap[mb]?=w.heap[mb]?):zm w' mb cb n:=by
 obtain⟨D,⟨c,d,f,r⟩,g⟩:=h;exact⟨D,⟨c,d,by rw[e];exact f,r⟩,g⟩
theorem zm.lt (h:zm w mb cb n):mb<w.heap.size:=by
 obtain⟨D,h,_⟩:=h;exact h.lt
structure qe3 (w:World) (cb mb b:Nat) (Gw:Nat->Prop) (W:WoS):Prop where
 box:w.heap[cb]?=some (.cells #[PP b,.map (some mb)] 57 (0,0))
 map:zm w mb cb 19
 pw:PW w b Gw W
 n1:cb≠mb
 n2:¬Gw cb
 n3:¬Gw mb
def qvq (cb mb:Nat) (W:WoS) (w:World) (G:Nat->Prop):Prop:=∃b Gw,qe3 w cb mb b Gw W/\∀k,G k↔(k=cb\/k=mb\/Gw k)
variable {w1:World}
section
variable {w w':World} {cb mb b:Nat} {Gw G:Nat->Prop} {W W':WoS}
theorem qe3.ltc (h:qe3 w cb mb b Gw W):cb<w.heap.size:=(jcs.1 h.box).1
theorem qe3.kept (h:qe3 w cb mb b Gw W) (c:∀k,(k=cb\/k=mb\/Gw k)->w'.heap[k]?=w.heap[k]?) (d:w.heap.size<=w'.heap.size):qe3 w' cb mb b Gw W:=
 ⟨(c cb (.inl rfl)).trans h.box,h.map.kept (c mb (.inr (.inl rfl))),h.pw.kept (λk e=>c k (.inr (.inr e))) d,h.n1,h.n2,h.n3⟩
theorem qvq.lt (h:qvq cb mb W w G):∀k,G k->k<w.heap.size:=λk c=>by
 obtain⟨b,Gw,h,d⟩:=h;rcases(d k).1 c with rfl|rfl|e
 ·exact h.ltc
 ·exact h.map.lt
 exact h.pw.lt k e
theorem qvq.kept (h:qvq cb mb W w G) (d:∀k,G k->w'.heap[k]?=w.heap[k]?) (f:w.heap.size<=w'.heap.size):qvq cb mb W w' G:=by
 obtain⟨b,Gw,h,c⟩:=h;exact⟨b,Gw,h.kept (λk e=>d k ((c k).2 e)) f,c⟩
def ckP (cb mb:Nat) (W:WoS):qfr:=⟨λw G=>qvq cb mb W w G,λ_ _ h=>h.lt,λ_ _ _ h=>h.kept⟩
theorem qe3.later (h:qe3 w cb mb b Gw W) (c:Bw w w'):qe3 w' cb mb b Gw W:=
 h.kept (λk e=>c.block k (by rcases e with rfl|rfl|e;exact h.ltc;exact h.map.lt;exact h.pw.lt k e)) c.size
theorem qe3.cell0 (h:qe3 w cb mb b Gw W):w.cell? (AD cb 0)=some (PP b):=by rw[Lib.cell_of_heap h.box];rfl
theorem qe3.cell1 (h:qe3 w cb mb b Gw W):w.cell? (AD cb 1)=some (.map (some mb)):=by rw[Lib.cell_of_heap h.box];rfl
theorem qe3.op (h:qe3 w cb mb b Gw W) (d:∀k,G k↔(k=cb\/k=mb\/Gw k)) (g:Bw w w1) (p:vh w1 b Gw W' w'):qbi (ckP cb mb W') w G w':=by
 obtain⟨o,p1,p2,c⟩:=p;have f:=h.later g;have lc:=f.ltc;have r:=f.map.lt;refine⟨λk=>k=cb\/k=mb\/o k,⟨b,o,⟨(c.block cb lc h.n2).trans f.box,f.map.kept (c.block mb r h.n3),p1,h.n1,λe=>?_,λe=>?_⟩,λ_=>jdl⟩,λk m=>?_,?_⟩
 ·rcases p2 cb e with q|q
  ·exact h.n2 q
  omega
 ·rcases p2 mb e with q|q
  ·exact h.n3 q
  omega
 ·rcases m with rfl|rfl|e
  ·exact .inl ((d k).2 (.inl rfl))
  ·exact .inl ((d k).2 (.inr (.inl rfl)))
  rcases p2 k e with q|q
  ·exact .inl ((d k).2 (.inr (.inr q)))
  exact .inr (jcn g.size q)
 exact(qc.ofBelow g).trans ⟨c.os,c.tape,c.output,c.size,λk m s=>c.block k m (λe=>s ((d k).2 (.inr (.inr e))))⟩
theorem qe3.same (h:qe3 w cb mb b Gw W) (d:∀k,G k↔(k=cb\/k=mb\/Gw k)) (c:Bw w w'):qbi (ckP cb mb W) w G w':=
 ⟨G,⟨b,Gw,h.later c,d⟩,λ_ e=>.inl e,qc.ofBelow c⟩
theorem qe3.after (h:qbi (ckP cb mb W') w G w1) (c:Bw w1 w'):qbi (ckP cb mb W') w G w':=by
 obtain⟨d,p1,p2,f⟩:=h;exact⟨d,p1.kept (λk e=>c.block k (p1.lt k e)) c.size,p2,f.trans (qc.ofBelow c)⟩
end
def qlx (er:Int) (told:List UInt8) (e:Ending):Prop:=(er=0/\e=.returned (.string (bya told)))\/(er≠0/\e=qc7 er)
def jm (i:Nat) (W:WoS) (rest:List ByteArray) (w:World) (cb mb:Nat) (G:Nat->Prop) (e:Ending) (w':World):Prop:=
 ∃W' er told,qc2 i W rest W' er told/\qlx er told e/\qbi (ckP cb mb W') w G w'
structure vk (w:World) (cb mb b:Nat) (Gw G:Nat->Prop) (W:WoS) (j:Nat) (a:Option Addr) (cap:Nat) (l:List ByteArray):Prop where
 ck:qe3 w cb mb b Gw W
 g:∀k,G k↔(k=cb\/k=mb\/Gw k)
 gl:Gl w
 gn:∀k,k<10->¬G k
 wi:PlI j W
 di:DkI W
 st:qfj w a cap l
 sm:∀x∈l,x.size<=1000000
variable {i:Nat} {W':WoS} {w2:World} {er:Int}
section
variable {w:World} {cb mb b j cap:Nat} {Gw G:Nat->Prop} {W:WoS} {a:Option Addr} {l:List ByteArray}
theorem vk.no (h:vk w cb mb b Gw G W j a cap l) (hi:i≠18) (c:ju (qqi i) l=none) (d:Bw w w'):jm i W l w cb mb G (qc7 3) w':=
 ⟨W,3,[],by unfold qc2;rw[if_neg hi,c];exact⟨rfl,rfl,rfl⟩,.inr ⟨by decide,rfl⟩,h.ck.same h.g d⟩
theorem vk.gl2 (h:vk w cb mb b Gw G W j a cap l) (c:Bw w w1) (m:vh w1 b Gw W' w2):Gl w2:=by
 obtain⟨o,_,_,d⟩:=m;exact(h.gl.later c).kept (λk f=>d.block k (jci f (h.gl.later c).sz) (λe=>h.gn k f ((h.g k).2 (.inr (.inr e))))) d.size
theorem vk.yes {ns:List Int} {told:List UInt8} {c:World} {e:Ending} (h:vk w cb mb b Gw G W j a cap l) (hi:i≠18) (d:ju (qqi i) l=some ns) (f:Bw w w1) (k:qaa i W ns (l.getD 2 ⟨#[]⟩) W' er told) (m:vh w1 b Gw W' w2) (o:Bw w2 c) (p:qlx er told e):jm i W l w cb mb G e c:=
 ⟨W',er,told,by unfold qc2;rw[if_neg hi,d];exact k,p,qe3.after (h.ck.op h.g f m) o⟩
end
theorem qaa.data {W:WoS} {l:List Int} {d d':ByteArray} {t:List UInt8} (hi:i≠18) (h:qaa i W l d W' er t):qaa i W l d' W' er t:=by
 unfold qaa at h ⊢
 split at h<;>first|exact h|exact absurd rfl hi
end
section
open Tryz Go.RowKit Go.Maps
theorem qhg:Keyed prog 9:=string_keyed underlying9
theorem qps {s:ByteArray} (h:s.size<=maxLen):keyOf prog 9 (.string s)=some (.string s.data.toList):=by
 unfold keyOf;rw[underlying9];simp[mapKey,h,underlying9]
theorem q0a (s:List UInt8):WideAt.IsKeyLit (.string s):=trivial
theorem qo8:∀i<19,∀j<19,qn i=qn j->i=j:=by decide
variable {cb n:Nat}
theorem qow.put {D:DataW Value} (c:Tidy D) (h:qow D cb n) (f:n<19):qow (D.put (.string (qn n)) (.held (doV cb n))) cb (n+1):=by
 have j:=h.no (qn n) (λi hi e=>by have:=qo8 n f i (by omega) e;omega);refine⟨?_,λi hi=>?_,λs g=>?_⟩
 ·rw[size_put c,j.1,h.size];simp
 ·by_cases e:i=n
  ·subst e;exact⟨has_put_same c.isMap (q0a _) _,λz=>atKey_put_same c.isMap (q0a _) _ z⟩
  have a:(Lit.string (qn i))≠.string (qn n):=λd=>e (qo8 i (by omega) n f (by injection d));have b:=h.has i (by omega);exact⟨by rw[has_put_other a];exact b.1,λz=>by rw[atKey_put_other a];exact b.2 z⟩
 have a:(Lit.string s)≠.string (qn n):=λd=>g n (by omega) (by injection d);have b:=h.no s (λi hi=>g i (by omega));exact⟨by rw[has_put_other a];exact b.1,λz=>by rw[atKey_put_other a];exact b.2 z⟩
theorem zm.made (w:World) (cb:Nat):zm (w.alloc (.map #[] 0)) w.heap.size cb 0:=
 ⟨_,World.ownsMap_made w _ _ _,⟨rfl,λi hi=>absurd hi (by omega),λ_ _=>⟨rfl,λ_=>rfl⟩⟩⟩
variable {w:World} {mb:Nat}
theorem zm.put (n:Nat) (s:ByteArray) (h:zm w mb cb n) (b:n<19) (c:s.data.toList=qn n) (e:s.size<=maxLen):∃w',(Instr.mapUpdate 55 (.map (some mb)) (.string s) (doV cb n)).run prog w=.ok () w'/\Hid (zm w' mb cb (n+1)/\w.grownBy w' (some mb)):=by
 obtain⟨D,o,d⟩:=h;obtain⟨w',f,a,t⟩:=o.store qhg underlying55 (by simp only[maxLen];omega) (qps e) (val:=doV cb n) (d:=.held (doV cb n)) (ps:=[]) rfl;rw[c]at a;exact⟨w',f,⟨_,a,d.put (o.tidy qhg) b⟩,t.grown⟩
theorem jo {b w2:World} (a:Below n w b) (d:n<=mb) (g:b.grownBy w2 (some mb)) (f:n<=b.heap.size):Below n w w2:=
 ⟨g.os.trans a.os,g.tape.trans a.tape,g.output.trans a.output,jcn a.size g.size,λk c=>(g.block k (by omega) (λe=>by injection e with e;omega)).trans (a.block k c)⟩
theorem q02 (cb:Nat) (w:World):Ca 19 #[PP cb] w λe w'=>e=.returned (.map (some w.heap.size))/\zm w' w.heap.size cb 19/\Bw w w':=by
 have a:=hd2 (zm.made w cb) (show Bw w (w.alloc (.map #[] 0))from boxed (jcc _ w) _);obtain⟨v,P,H⟩:=zm.put 0 ⟨#[97,98,111,114,116]⟩ a.out.1 (by omega) (by rfl) (by decide);have b:=hd2 (show zm v w.heap.size cb 1 from H.out.1) (jo a.out.2 (jcd _) H.out.2 a.out.2.size);replace P:(Instr.mapUpdate 55 (.map (some w.heap.size)) (.string ⟨#[97,98,111,114,116]⟩) (.func (.func 46) #[PP cb] #[])).run prog (w.alloc (.map #[] 0))=.ok () v:=P;clear H a;obtain⟨w2,Q,H⟩:=zm.put 1 ⟨#[97,115,107]⟩ b.out.1 (by omega) (by rfl) (by decide);have c:=hd2 (show zm w2 w.heap.size cb 2 from H.out.1) (jo b.out.2 (jcd _) H.out.2 b.out.2.size);replace Q:(Instr.mapUpdate 55 (.map (some w.heap.size)) (.string ⟨#[97,115,107]⟩) (.func (.func 47) #[PP cb] #[])).run prog v=.ok () w2:=Q;clear H b;obtain⟨x,R,H⟩:=zm.put 2 ⟨#[98,101,103,105,110]⟩ c.out.1 (by omega) (by rfl) (by decide);have d:=hd2 (show zm x w.heap.size cb 3 from H.out.1) (jo c.out.2 (jcd _) H.out.2 c.out.2.size);replace R:(Instr.mapUpdate 55 (.map (some w.heap.size)) (.string ⟨#[98,101,103,105,110]⟩) (.func (.func 48) #[PP cb] #[])).run prog w2=.ok () x:=R;clear H c;obtain⟨y,S,H⟩:=zm.put 3 ⟨#[99,97,108,109]⟩ d.out.1 (by omega) (by rfl) (by decide);have f:=hd2 (show zm y w.heap.size cb 4 from H.out.1) (jo d.out.2 (jcd _) H.out.2 d.out.2.size);replace S:(Instr.mapUpdate 55 (.map (some w.heap.size)) (.string ⟨#[99,97,108,109]⟩) (.func (.func 49) #[PP cb] #[])).run prog x=.ok () y:=S;clear H d;obtain⟨z,T,H⟩:=zm.put 4 ⟨#[99,108,105,101,110,116]⟩ f.out.1 (by omega) (by rfl) (by decide);have g:=hd2 (show zm z w.heap.size cb 5 from H.out.1) (jo f.out.2 (jcd _) H.out.2 f.out.2.size);replace T:(Instr.mapUpdate 55 (.map (some w.heap.size)) (.string ⟨#[99,108,105,101,110,116]⟩) (.func (.func 50) #[PP cb] #[])).run prog y=.ok () z:=T;clear H f;obtain⟨B,V,H⟩:=zm.put 5 ⟨#[99,111,109,109,105,116]⟩ g.out.1 (by omega) (by rfl) (by decide);have h:=hd2 (show zm B w.heap.size cb 6 from H.out.1) (jo g.out.2 (jcd _) H.out.2 g.out.2.size);replace V:(Instr.mapUpdate 55 (.map (some w.heap.size)) (.string ⟨#[99,111,109,109,105,116]⟩) (.func (.func 51) #[PP cb] #[])).run prog z=.ok () B:=V
 clear H g;obtain⟨C,W,H⟩:=zm.put 6 ⟨#[100,101,108,105,118,101,114]⟩ h.out.1 (by omega) (by rfl) (by decide);have i:=hd2 (show zm C w.heap.size cb 7 from H.out.1) (jo h.out.2 (jcd _) H.out.2 h.out.2.size);replace W:(Instr.mapUpdate 55 (.map (some w.heap.size)) (.string ⟨#[100,101,108,105,118,101,114]⟩) (.func (.func 52) #[PP cb] #[])).run prog B=.ok () C:=W;clear H h;obtain⟨D,X,H⟩:=zm.put 7 ⟨#[100,114,111,112]⟩ i.out.1 (by omega) (by rfl) (by decide);have j:=hd2 (show zm D w.heap.size cb 8 from H.out.1) (jo i.out.2 (jcd _) H.out.2 i.out.2.size);replace X:(Instr.mapUpdate 55 (.map (some w.heap.size)) (.string ⟨#[100,114,111,112]⟩) (.func (.func 53) #[PP cb] #[])).run prog C=.ok () D:=X;clear H i;obtain⟨E,Y,H⟩:=zm.put 8 ⟨#[103,111,101,115]⟩ j.out.1 (by omega) (by rfl) (by decide);have k:=hd2 (show zm E w.heap.size cb 9 from H.out.1) (jo j.out.2 (jcd _) H.out.2 j.out.2.size);replace Y:(Instr.mapUpdate 55 (.map (some w.heap.size)) (.string ⟨#[103,111,101,115]⟩) (.func (.func 54) #[PP cb] #[])).run prog D=.ok () E:=Y;clear H j;obtain⟨F,Z,H⟩:=zm.put 9 ⟨#[104,101,108,112]⟩ k.out.1 (by omega) (by rfl) (by decide);have l:=hd2 (show zm F w.heap.size cb 10 from H.out.1) (jo k.out.2 (jcd _) H.out.2 k.out.2.size);replace Z:(Instr.mapUpdate 55 (.map (some w.heap.size)) (.string ⟨#[104,101,108,112]⟩) (.func (.func 55) #[PP cb] #[])).run prog E=.ok () F:=Z;clear H k;obtain⟨G,aa,H⟩:=zm.put 10 ⟨#[108,111,115,101]⟩ l.out.1 (by omega) (by rfl) (by decide);have m:=hd2 (show zm G w.heap.size cb 11 from H.out.1) (jo l.out.2 (jcd _) H.out.2 l.out.2.size);replace aa:(Instr.mapUpdate 55 (.map (some w.heap.size)) (.string ⟨#[108,111,115,101]⟩) (.func (.func 56) #[PP cb] #[])).run prog F=.ok () G:=aa;clear H l;obtain⟨I,ab,H⟩:=zm.put 11 ⟨#[109,97,110,121]⟩ m.out.1 (by omega) (by rfl) (by decide);have o:=hd2 (show zm I w.heap.size cb 12 from H.out.1) (jo m.out.2 (jcd _) H.out.2 m.out.2.size);replace ab:(Instr.mapUpdate 55 (.map (some w.heap.size)) (.string ⟨#[109,97,110,121]⟩) (.func (.func 57) #[PP cb] #[])).run prog G=.ok () I:=ab
 clear H m;obtain⟨J,ac,H⟩:=zm.put 12 ⟨#[109,111,118,101]⟩ o.out.1 (by omega) (by rfl) (by decide);have p:=hd2 (show zm J w.heap.size cb 13 from H.out.1) (jo o.out.2 (jcd _) H.out.2 o.out.2.size);replace ac:(Instr.mapUpdate 55 (.map (some w.heap.size)) (.string ⟨#[109,111,118,101]⟩) (.func (.func 58) #[PP cb] #[])).run prog I=.ok () J:=ac;clear H o;obtain⟨K,ad,H⟩:=zm.put 13 ⟨#[114,101,97,100]⟩ p.out.1 (by omega) (by rfl) (by decide);have q:=hd2 (show zm K w.heap.size cb 14 from H.out.1) (jo p.out.2 (jcd _) H.out.2 p.out.2.size);replace ad:(Instr.mapUpdate 55 (.map (some w.heap.size)) (.string ⟨#[114,101,97,100]⟩) (.func (.func 59) #[PP cb] #[])).run prog J=.ok () K:=ad;clear H p;obtain⟨L,ae,H⟩:=zm.put 14 ⟨#[115,105,116,101]⟩ q.out.1 (by omega) (by rfl) (by decide);have r:=hd2 (show zm L w.heap.size cb 15 from H.out.1) (jo q.out.2 (jcd _) H.out.2 q.out.2.size);replace ae:(Instr.mapUpdate 55 (.map (some w.heap.size)) (.string ⟨#[115,105,116,101]⟩) (.func (.func 60) #[PP cb] #[])).run prog K=.ok () L:=ae;clear H q;obtain⟨M,af,H⟩:=zm.put 15 ⟨#[115,119,101,101,112]⟩ r.out.1 (by omega) (by rfl) (by decide);have s:=hd2 (show zm M w.heap.size cb 16 from H.out.1) (jo r.out.2 (jcd _) H.out.2 r.out.2.size);replace af:(Instr.mapUpdate 55 (.map (some w.heap.size)) (.string ⟨#[115,119,101,101,112]⟩) (.func (.func 61) #[PP cb] #[])).run prog L=.ok () M:=af;clear H r;obtain⟨N,ag,H⟩:=zm.put 16 ⟨#[116,119,105,99,101]⟩ s.out.1 (by omega) (by rfl) (by decide);have t:=hd2 (show zm N w.heap.size cb 17 from H.out.1) (jo s.out.2 (jcd _) H.out.2 s.out.2.size);replace ag:(Instr.mapUpdate 55 (.map (some w.heap.size)) (.string ⟨#[116,119,105,99,101]⟩) (.func (.func 62) #[PP cb] #[])).run prog M=.ok () N:=ag;clear H s;obtain⟨O,ah,H⟩:=zm.put 17 ⟨#[119,111,114,108,100]⟩ t.out.1 (by omega) (by rfl) (by decide);have u:=hd2 (show zm O w.heap.size cb 18 from H.out.1) (jo t.out.2 (jcd _) H.out.2 t.out.2.size);replace ah:(Instr.mapUpdate 55 (.map (some w.heap.size)) (.string ⟨#[119,111,114,108,100]⟩) (.func (.func 63) #[PP cb] #[])).run prog N=.ok () O:=ah
 clear H t;obtain⟨ai,aj,H⟩:=zm.put 18 ⟨#[119,114,105,116,101]⟩ u.out.1 (by omega) (by rfl) (by decide);have ak:=hd2 (show zm ai w.heap.size cb 19 from H.out.1) (jo u.out.2 (jcd _) H.out.2 u.out.2.size);replace aj:(Instr.mapUpdate 55 (.map (some w.heap.size)) (.string ⟨#[119,114,105,116,101]⟩) (.func (.func 64) #[PP cb] #[])).run prog O=.ok () ai:=aj;clear H u;have al:=@run_makeMap prog;go_enter func19,ntmps19
 go_wp2
 go_ret;exact⟨rfl,ak.out.1,ak.out.2⟩
end
section
open Go.RowKit Go.Maps
def qb8:List (List UInt8):=[[99],[115,115],[99],[],[99],[99],[105],[99,110],[115,110],[],[105],[],[99,115],[99,110],[115],[115],[105],[110,110],[99,110,119]]
def qx (i:Nat):List UInt8:=qb8.getD i []
def qe2:DataW Unit:=.map ((qc9.zip qb8).map λx=>(.string x.1,.lit (.string x.2)))
def qsf (w:World) (bm:Nat):Prop:=w.ownsMap Tryz.prog 9 (plainElem Tryz.prog 9) bm 19 qe2
theorem qsf.kept {w w':World} {bm:Nat} (h:qsf w bm) (e:w'.heap[bm]?=w.heap[bm]?):qsf w' bm:=by
 obtain⟨a,b,c,r⟩:=h;exact⟨a,b,by rw[e];exact c,r⟩
theorem qwp (w:World):(zeroValue 9).run Tryz.prog w=.ok (.string ⟨#[]⟩) w:=by kernel_rfl
theorem qun:∀i,i<19->qe2.atKey (.string (qn i)) .nil=.lit (.string (qx i))
 |0,_=>rfl|1,_=>rfl|2,_=>rfl|3,_=>rfl|4,_=>rfl|5,_=>rfl|6,_=>rfl|7,_=>rfl|8,_=>rfl|9,_=>rfl
 |10,_=>rfl|11,_=>rfl|12,_=>rfl|13,_=>rfl|14,_=>rfl|15,_=>rfl|16,_=>rfl|17,_=>rfl|18,_=>rfl
 |n+19,h=>absurd h (by omega)
theorem q67 {s:List UInt8} (h:∀i,i<19->s≠qn i):qe2.atKey (.string s) .nil=.nil:=by
 have q:((qc9.zip qb8).map λx=>((.string x.1,.lit (.string x.2)):Lit×DataW Unit)).find? (λp=>p.1.sameKey (.string s))=none:=by
  rw[List.find?_eq_none];intro x a;obtain⟨y,b,rfl⟩:=jcz.1 a;obtain⟨i,hi,e⟩:=jdm.1 (List.of_mem_zip b).1;have:=h i hi
  have c:qn i=y.1:=by unfold qn;rw[jdp,jcg hi];exact e
  rw[c]at this;simp[Lit.sameKey,Ne.symm this]
 unfold qe2 DataW.atKey
 dsimp only
 rw[q]
theorem qon {v:Value} {y:DataW Unit×List MemPlace} (h:plainElem Tryz.prog 9 v=some y):∃s:ByteArray,v=.string s/\y.1=.lit (.string s.data.toList):=by
 unfold plainElem at h;rw[Tryz.underlying9]at h
 cases v<;>simp at h
 rename_i s;exact⟨s,rfl,by rw[<-h.2]⟩
theorem qsf.held {w:World} {bm:Nat} (h:qsf w bm) {s:ByteArray} {i:Nat} (d:s.size<=maxLen) (hi:i<19) (b:s.data.toList=qn i):(Instr.lookup 92 (.map (some bm)) (.string s) true).run Tryz.prog w=.ok (.tuple #[.string (bya (qx i)),.bool true]) w:=by
 obtain⟨l,m,f,F,_,e⟩:=h;have key:=qps d;rcases Maps.fit_look true qhg Tryz.underlying92 (qwp w) f F key with ⟨c,_,a⟩|⟨n,y,_,_,c,g,a,_⟩
 ·have:=a .nil;rw[<-e,b,qun i hi]at this;cases this
 have:=a .nil;rw[<-e,b,qun i hi]at this;obtain⟨z,j,k⟩:=qon g;rw[k]at this;injection this with this;injection this with this;rw[c,j,if_pos rfl,this]
theorem qsf.lacks {w:World} {bm:Nat} (h:qsf w bm) {s:ByteArray} (c:s.size<=maxLen) (d:∀i,i<19->s.data.toList≠qn i):(Instr.lookup 92 (.map (some bm)) (.string s) true).run Tryz.prog w=.ok (.tuple #[.string ⟨#[]⟩,.bool false]) w:=by
 obtain⟨k,l,f,F,_,e⟩:=h;have key:=qps c;rcases Maps.fit_look true qhg Tryz.underlying92 (qwp w) f F key with ⟨a,_,b⟩|⟨m,y,_,_,a,g,b,_⟩
 ·exact a
 have:=b .nil;rw[<-e,q67 d]at this;obtain⟨z,n,j⟩:=qon g;rw[j]at this;cases this
end
section
open Go.RowKit
def jb1 (o:Option Int) (e:Ending):Prop:=match o with
 |some v=>e=.returned (.tuple #[U v,.bool true])
 |none=>e=.returned (.tuple #[U 0,.bool false])
theorem qwe (s:ByteArray) (p:s.size<=1000000) (w:World) (g:Gl w):
 Ca 29 #[.string s] w λe w'=>jb1 (qbw s) e/\Bw w w':=by
 by_cases a:∃v,Lib.parseIntB 64 s.data.toList=.ok v
 ·obtain⟨v,a⟩:=a
  have c:wfI v:=by have:=Lib.parseIntB_bounds a;simp at this;exact⟨by omega,by omega⟩
  have k:=qvu s p v a w
  have d:Hid (qbw s=if bya (Lib.itoa v)=s then some v else none):=by show qbw s=_;unfold qbw;rw[a]
  have f:=λw' q=>qq9 v c w' (g.later (w':=w') q);have h:=q93 (bya (Lib.itoa v)) s;clear a
  generalize bya (Lib.itoa v)=t at d f h
  go_enter Tryz.func29,Tryz.ntmps29
  go_wp2_with fail
  refine k.mono ?_;rintro e o ⟨rfl,i⟩;replace f:=f o i;by_cases b:t=s
  ·have r:(t.toList==s.toList)=true:=by rw[h];simp[b]
   have j:Hid (qbw s=some v):=by show qbw s=_;rw[d.out,if_pos b]
   clear b h d
   go_wp2_with fail
   refine f.mono ?_;rintro e w2 ⟨rfl,l⟩
   go_wp2
   go_ret2;exact⟨by rw[j.out];rfl,qa i l⟩
  have r:(t.toList==s.toList)=false:=by rw[h];simp[b]
  have j:Hid (qbw s=none):=by show qbw s=_;rw[d.out,if_neg b]
  clear b h d
  go_wp2_with fail
  refine f.mono ?_;rintro e w2 ⟨rfl,l⟩
  go_wp2
  go_ret2;exact⟨by rw[j.out];rfl,qa i l⟩
 have m:∀v,Lib.parseIntB 64 s.data.toList≠.ok v:=λv c=>a ⟨v,c⟩;have k:=jeh s (by omega) m w g.es g.er
 have j:Hid (qbw s=none):=by
  show qbw s=none;unfold qbw;split
  ·rename_i v c;exact absurd c (m v)
  rfl
 clear a m;go_enter Tryz.func29,Tryz.ntmps29
 go_wp2_with fail
 refine k.mono ?_;rintro e o ⟨n,N,rfl,i⟩
 go_wp2
 go_ret2;exact⟨by rw[j.out];rfl,i⟩
theorem qb7 {b o cap:Nat} {l:List Int} (m:l≠[]) (t:l.length<=8) (G:∀x∈l,wfI x) (w:World) (g:Gl w) (c:b<w.heap.size) (d:∀(j:Nat) x,l[j]?=some x->w.cell? (AD b (o+j))=some (U x)):
 Ca 17 #[.slice (some (AD b o)) l.length cap] w λe w'=>e=.returned (.string (bya (qv l)))/\Bw w w':=by
 obtain⟨R,hi,S,V,W⟩:=info_parts qki;have n:=hd6 g G c d m t;clear g G c d m t;go_enter Tryz.func17,Tryz.ntmps17
 go_wp2
 go_loopw [3,8] (λH iv wr=>∃(k:Nat) (z:Int),k<=l.length/\z=k/\iv=U z/\Hid (wr.ownsRow w.heap.size 9 1 H k ((l.take k).map (λx=>Value.string (qen x)))/\Bw w wr)) (λ_ iv _=>l.length-(intOf iv).toNat)
 case atStart=>exact⟨0,0,jcw _,rfl,rfl,jcx w _ _ _,jcc _ _⟩
 rename_i H _;obtain⟨k,z,hk,E,rfl,a⟩:=hrel;have X:=hd1 E;by_cases I:k<l.length
 ·have Y:z<(l.length:Int):=by omega
  have g2:0<=z:=by omega
  have g3:z.toNat=k:=by omega
  have g4:z<8:=by have:=n.out.2.2.2.2.2;omega
  obtain⟨x,v⟩:∃x,l[k]?=some x:=⟨_,jcg I⟩;obtain⟨B,r,c,d,_⟩:=n.out;have c0:=(a.out.2.cell (p:=AD b (o+k)) c).trans (d k x v);have T:=qsn x (r x (jcq v)) wr (B.later a.out.2)
  have K:Hid ((l.take (k+1)).map (λx=>Value.string (qen x))=(l.take k).map (λx=>Value.string (qen x))++[.string (qen x)]):=by
   show _=_;rw[jdu,v];simp
  clear B r c d E v
  go_wp2_with fail
  refine T.mono ?_;rintro e w2 ⟨rfl,s⟩;have L:=boxed (jcc _ w2) (.cells #[.string (qen x)] 9);have F:=qg3 (qg3 a.out.1 s) L;have i:=hd1 (qa a.out.2 s)
  go_wp2_with (at_builtin;refine wpList_append_lies _ rfl _ _ 42 rfl w.heap.size 9 R (.string ⟨#[]⟩) 1 16 Tryz.underlying42 hi S V W rfl (by decide) _ _ _ rfl F (AD w2.heap.size 0) 1 1 [.string (qen x)] rfl rfl (World.news_of_block (heap_alloc_new w2 (.cells #[.string (qen x)] 9))) ?c2 (by decide) ?c3 ?c4 ?c5 _ rfl ?_)
  case c2=>intro u M;simp at M;subst M;rfl
  case c3=>have:=n.out.2.2.2.2.2;unfold maxLen;omega
  case c4=>have:=n.out.2.2.2.2.2;omega
  case c5=>have:=i.out.size;simp;omega
  intro C D N O P Z aa
  have ab:Hid (N.ownsRow w.heap.size 9 1 (.slice (PT C) (k+1) D) (k+1) ((l.take (k+1)).map (λx=>Value.string (qen x)))/\Bw w N):=by
   refine⟨by rw[K.out];simpa[List.map_take]using O,?_⟩;exact(i.out.alloc i.out.size _).grown P (by have:=i.out.size;simp;omega) (λq e=>(F.lt q e).1)
  clear O P Z aa F K L s
  go_wp2
  go_roundw
  case rel=>exact⟨k+1,z+1,I,by have:=X.out;omega,by go_num,ab.out⟩
  simp[intOf];omega
 have Y:¬z<(l.length:Int):=by omega
 have ac:k=l.length:=by omega
 subst ac;rw[jc9]at a;obtain⟨B,r,c,d,m,t⟩:=n.out;have ad:=List.length_pos_iff.2 m;obtain⟨C,D,rfl,hB,ae⟩:=a.out.1.form ad;have Q:=a.out.1.cells (g:=C) rfl
 have af:l.length<=D:=by
  rcases a.out.1.2 with ⟨h,_⟩|⟨g',c',cur,hv,_,_,hnc,_⟩
  ·cases h
  cases hv;exact hnc
 have J:=jd1 C 0 D (l.map qen) ⟨#[32]⟩ wr (λj y f=>by
  have:=Q j (.string y) (by rw[jcv]at f ⊢;cases hq:l[j]?with
   |none=>rw[hq]at f;cases f
   |some q=>rw[hq]at f;injection f with f;subst f;rfl)
  rcases Nat.eq_zero_or_pos j with rfl|hj
  ·simpa[Addr.add]using this
  simpa[Addr.add,Nat.ne_of_gt hj]using this) ae (by simp;omega) (by simpa using af) (by
  rw[show (⟨#[32]⟩:ByteArray).data.toList=[32]from rfl,qn2];have:=ze r
  omega)
 rw[jdh,show (⟨#[32]⟩:ByteArray).data.toList=[32]from rfl,qn2]at J;have i:=hd1 a.out.2;clear B r c d m t Q E a
 go_wp2_with fail
 refine J.mono ?_;rintro e w2 ⟨rfl,s⟩
 go_wp2
 go_ret;exact⟨rfl,qa i.out s⟩
end
section
open Go.RowKit Go.Lib
theorem qub (x:Nat) (w:World):Ca 71 #[.int .i32 (x:Int)] w λe w'=>e=.returned (.bool (decide (x=32)))/\w'=w:=by
 have h:((x:Int)==32)=decide (x=32):=by rw[Bool.eq_iff_iff,beq_iff_eq,decide_eq_true_eq];omega
 go_enter Tryz.func71,Tryz.ntmps71
 go_wp2
 go_ret;exact⟨rfl,rfl⟩
theorem qkj (s:ByteArray) (d:s.size<=4294967296) (w:World):Ca 26 #[.string s] w λe w'=>∃A,e=.returned (.slice (PT A) (qa9 s).length (qa9 s).length)/\w.heap.size<=A/\qfj w' (PT A) (qa9 s).length (qa9 s)/\Bw w w':=by
 have b:=jd4 71 #[] (λargs w=>by kernel_rfl) (λr=>decide (r=32)) s w d (λW x _ _=>(qub x W).mono λe w' ⟨f,g⟩=>⟨f,0,g⟩);go_enter Tryz.func26,Tryz.ntmps26
 go_wp2_with fail
 refine b.mono ?_;rintro e h ⟨A,rfl,i,a,k⟩
 have l:Hid (qfj h (PT A) (qa9 s).length (qa9 s)):=⟨jcd _,λj x c=>⟨A,0,rfl,(a.lt A rfl).2,by
  have m:=(jck.1 c).1;rw[Nat.zero_add,a.cellAt j (by rw[Nat.mul_one];exact m),jcv];show Option.map _ (qa9 s)[j]?=_
  rw[c];rfl⟩⟩
 clear a b
 go_wp2
 go_ret;exact⟨A,rfl,i,l.out,k⟩
end
section
open Go.RowKit
theorem qo4 (p:Addr) (w:World):
 CallsD Tryz.prog 25 #[.pointer (some p)] .returning w λe a w'=>e=.returned (.tuple #[])/\a=.returning/\w'=w:=by
 have b:∀w,(Instr.typeAssert .nilIface 20 26 true).run Tryz.prog w=.ok (.tuple #[U 0,.bool false]) w:=λ_=>by kernel_rfl
 refine callsD_of_wpS Tryz.func25 rfl λc f d=>?_
 apply wpS_seq
 apply wpS_region
 simp[wpOpsS,go_sem,recoverD,d,Tryz.ntmps25,Exit.thenS,b]
 apply wpS_seq
 apply wpS_region
 simp[wpOpsS,go_sem,Exit.thenS];refine wpS_cond (t:=false) (by simp[Act.eval,Array.replicate]) ?_;simp only[Bool.false_eq_true,if_false];refine wpS_of_wp (wp_skip ?_);cases c
 simp_all [bodyPostS,results,Tryz.results25]
theorem qny (p:Addr) (s:Value) (n:Int) (f:wfI n) (b:List PanicEntry) (w:World) (g:Gl w) (c:w.cell? p=some s) (h:w.frozen? p=false):
 CallsD Tryz.prog 25 #[.pointer (some p)] (.panicking ({v:=.iface 26 (U n),recovered:=false}::b)) w λe i w'=>
  e=.returned (.tuple #[])/\i=.panicking ({v:=.iface 26 (U n),recovered:=true}::b)/\∃w2,Bw w w2/\w'=w2.setCell p (.string (bya (qgt n))):=by
 have j:∀w,(Instr.typeAssert (.iface 26 (U n)) 20 26 true).run Tryz.prog w=.ok (.tuple #[U n,.bool true]) w:=λ_=>by kernel_rfl
 have k:=qq7 n f w g;refine callsD_of_wpS Tryz.func25 rfl λm o l=>?_
 apply wpS_seq
 apply wpS_region
 simp[wpOpsS,go_sem,recoverD,l,Tryz.ntmps25,Exit.thenS,j]
 apply wpS_seq
 apply wpS_region
 simp[wpOpsS,go_sem,Exit.thenS];refine wpS_cond (t:=true) (by simp[Act.eval,Array.replicate]) ?_;simp only[if_true];refine wpS_of_wp ?_;simp only[Array.replicate,List.replicate,List.setIfInBounds_toArray,List.set_cons_zero,List.set_cons_succ,List.append_toArray,jdj,jda]
 go_wp2_with fail
 refine k.mono ?_;rintro e w2 ⟨rfl,a⟩;have d:=jcr _ _ c;have q:=(a.cell d).trans c;have r:=(a.frozen d).trans h
 go_wp2
 simp[bodyPostS,results,Tryz.results25];exact⟨w2,a,rfl⟩
end
section
open Tryz Go.RowKit
variable {f M i:Nat}
section
variable {cb mb b j cap:Nat} {Gw G:Nat->Prop} {W:WoS} {a:Option Addr} {l:List ByteArray}
theorem qka (w:World) (h:vk w cb mb b Gw G W j a cap l) (u:(f,M,i)∈[(46,94,0),(48,98,2),(52,104,6),(56,109,10),(62,116,16),(61,115,15)]) (x:∀(v:Int) d,PW d b Gw W->Ca M #[PP b,U v] d (qgr i W [v] ⟨#[]⟩ d b Gw)):Ca f #[PP cb,.slice a l.length cap] w (jm i W l w cb mb G):=by
 have g:Hid (vk w cb mb b Gw G W j a cap l):=h;have m:=λw' y=>qi1 h.sm w' (h.gl.later (w':=w') y) (h.st.later y);replace m:=m w.drew (jcc _ w).drew;have D:=h.ck.cell0;have E:Hid (∀(v:Int) d,PW d b Gw W->Ca M #[PP b,U v] d (qgr i W [v] ⟨#[]⟩ d b Gw)):=x;clear h x;simp only[jdd,Prod.mk.injEq,List.not_mem_nil,or_false]at u;rcases u with ⟨rfl,rfl,rfl⟩|⟨rfl,rfl,rfl⟩|⟨rfl,rfl,rfl⟩|⟨rfl,rfl,rfl⟩|⟨rfl,rfl,rfl⟩|⟨rfl,rfl,rfl⟩
 all_goals
  first
   |go_enter func46,ntmps46
   |go_enter func48,ntmps48
   |go_enter func52,ntmps52
   |go_enter func56,ntmps56
   |go_enter func62,ntmps62
   |go_enter func61,ntmps61
  go_wp2
  refine wp_region_any (by kernel_rfl) ?_;change wpAny _ _ _ _ _ _ _ (World.drew _);refine wpAny_take (i:=0) (v:=?_) rfl (by kernel_rfl) (by kernel_rfl) (by kernel_rfl) (λ_ _ _ h=>h) (Or.inl ⟨by rfl,?_⟩) ?_
  rotate_left
  ·intro w0;first|(go_simp;done)|(go_simp;with_reducible rfl)
  go_simp
  refine wpAny_take (i:=1) (v:=?_) rfl (by kernel_rfl) (by kernel_rfl) (by kernel_rfl) (λ_ _ _ h=>h) (Or.inl ⟨by rfl,?_⟩) ?_
  rotate_left
  ·intro w0;first|(go_simp;done)|(go_simp;with_reducible rfl)
  go_simp
  refine wpAny_take (i:=2) (v:=?_) rfl (by kernel_rfl) (by kernel_rfl) (by kernel_rfl) (λ_ _ _ h=>h) (Or.inl ⟨by rfl,?_⟩) ?_
  rotate_left
  ·intro w0;first|(go_simp;done)|(go_simp;with_reducible rfl)
  go_simp
  refine wpAny_take (i:=4) (v:=?_) rfl (by kernel_rfl) (by kernel_rfl) (by kernel_rfl) (λ_ _ _ h=>h) (Or.inl ⟨by rfl,?_⟩) ?_
  rotate_left
  ·intro w0;first|(go_simp;done)|(go_simp;with_reducible rfl)
  go_simp
  refine wpAny_ready (rs:=[3,5]) (by kernel_rfl) (by simp) ?_;refine AllReady.cons rfl (λK c=>?_) (AllReady.cons rfl (λK c=>?_) AllReady.nil)
  dsimp only[List.getElem_toArray,List.getElem_cons_succ,List.getElem_cons_zero]
  go_simp
  refine c _ _ ?_;clear c K;refine wpAny_ready (rs:=[5]) (by kernel_rfl) (by simp) ?_;refine AllReady.cons rfl (λK c=>?_) AllReady.nil
  dsimp only[List.getElem_toArray,List.getElem_cons_succ,List.getElem_cons_zero]
  rw[if_pos (by rfl)];refine qbu 95 #[.slice a l.length cap] (by go_simp) m ?_;rintro e d ⟨n,(⟨v,k,rfl⟩|⟨k,rfl⟩)⟩
  rotate_left
  ·exact .inr ⟨_,rfl,rfl,g.out.no (by decide) k.out (qa (jcc _ w).drew n)⟩
  dsimp only[List.getElem_toArray,List.getElem_cons_succ,List.getElem_cons_zero]
  rw[if_pos (by rfl)];refine qbu 95 #[.slice a l.length cap] (by go_simp) m ?_;rintro e d ⟨n,(⟨v,k,rfl⟩|⟨k,rfl⟩)⟩
  rotate_left
  ·exact .inr ⟨_,rfl,rfl,g.out.no (by decide) k.out (qa (jcc _ w).drew n)⟩
  all_goals
   have o:=qa (jcc _ w).drew n;have F:=(g.out.ck.later o).cell0;have z:=E.out v d (g.out.ck.later o).pw;refine .inl ⟨_,rfl,?_⟩
   go_simp
   refine c _ _ ?_;clear c K
  rotate_left
  refine wpAny_ready (rs:=[3]) (by kernel_rfl) (by simp) ?_;refine AllReady.cons rfl (λK c=>?_) AllReady.nil
  dsimp only[List.getElem_toArray,List.getElem_cons_succ,List.getElem_cons_zero]
  go_simp
  refine c _ _ ?_;clear c K
  all_goals
   refine wpAny_ready (rs:=[6]) (by kernel_rfl) (by simp) ?_;refine AllReady.cons rfl (λK c=>?_) AllReady.nil
   dsimp only[List.getElem_toArray,List.getElem_cons_succ,List.getElem_cons_zero]
   rw[if_pos (by rfl)];refine qbu _ #[PP b,U v] (by go_simp) z ?_;rintro e w2 ⟨W',er,B,rfl,s⟩;have C:=qda er w2 (g.out.gl2 o s);have t:Hid (∀e p,Bw w2 p->qlx er (qn _) e->jm _ W l w cb mb G e p):=λe p q H=>g.out.yes (by decide) (by exact k.out) o (B.data (by decide)) s q H;clear B s F D z;refine .inl ⟨_,rfl,?_⟩
   go_simp
   refine c _ _ ?_;clear c K;refine wpAny_ready (rs:=[7]) (by kernel_rfl) (by simp) ?_;refine AllReady.cons rfl (λK c=>?_) AllReady.nil
   dsimp only[List.getElem_toArray,List.getElem_cons_succ,List.getElem_cons_zero]
   rw[if_pos (by rfl)];refine qbu 66 #[jc er] (by go_simp) C ?_;rintro e p ⟨q,(⟨r,rfl⟩|⟨r,rfl⟩)⟩
   rotate_left
   ·exact .inr ⟨_,rfl,rfl,t.out _ _ q (.inr ⟨r,rfl⟩)⟩
   have I:=t.out _ _ q (.inl ⟨r,rfl⟩);clear r t C;refine .inl ⟨_,rfl,?_⟩
   go_simp
   refine c _ _ ?_;clear c K;refine wpAny_done (by kernel_rfl) ?_ _
   go_wp2
   go_ret;exact I
theorem q4h (w:World) (h:vk w cb mb b Gw G W j a cap l):Ca 46 #[PP cb,.slice a l.length cap] w (jm 0 W l w cb mb G):=qka w h (M:=94) (by decide) λv c d=>q4g v c d
theorem q5e (w:World) (h:vk w cb mb b Gw G W j a cap l):Ca 48 #[PP cb,.slice a l.length cap] w (jm 2 W l w cb mb G):=qka w h (M:=98) (by decide) λv c d=>q5d v c d h.wi
theorem qze (w:World) (h:vk w cb mb b Gw G W j a cap l):Ca 52 #[PP cb,.slice a l.length cap] w (jm 6 W l w cb mb G):=qka w h (M:=104) (by decide) λv c d=>qyp v c d h.wi
theorem q8t (w:World) (h:vk w cb mb b Gw G W j a cap l):Ca 56 #[PP cb,.slice a l.length cap] w (jm 10 W l w cb mb G):=qka w h (M:=109) (by decide) λv c d=>q99 v c d h.wi
theorem q6l (w:World) (h:vk w cb mb b Gw G W j a cap l):Ca 62 #[PP cb,.slice a l.length cap] w (jm 16 W l w cb mb G):=qka w h (M:=116) (by decide) λv c d=>q50 v c d
theorem q59 (w:World) (h:vk w cb mb b Gw G W j a cap l):Ca 61 #[PP cb,.slice a l.length cap] w (jm 15 W l w cb mb G):=qka w h (M:=115) (by decide) λv c d=>q39 v c d h.wi
theorem qtj (w:World) (h:vk w cb mb b Gw G W j a cap l) (x:(f,M,i)∈[(47,96,1),(54,106,8),(58,112,12)]) (y:∀(u v:Int) d,PW d b Gw W->Ca M #[PP b,U u,U v] d (qgr i W [u,v] ⟨#[]⟩ d b Gw)):Ca f #[PP cb,.slice a l.length cap] w (jm i W l w cb mb G):=by
 have g:Hid (vk w cb mb b Gw G W j a cap l):=h;have m:=λw' z=>qls h.sm w' (h.gl.later (w':=w') z) (h.st.later z);replace m:=m w.drew (jcc _ w).drew;have E:=h.ck.cell0;have F:Hid (∀(u v:Int) d,PW d b Gw W->Ca M #[PP b,U u,U v] d (qgr i W [u,v] ⟨#[]⟩ d b Gw)):=y;clear h y;simp only[jdd,Prod.mk.injEq,List.not_mem_nil,or_false]at x;rcases x with ⟨rfl,rfl,rfl⟩|⟨rfl,rfl,rfl⟩|⟨rfl,rfl,rfl⟩
 all_goals
  first
   |go_enter func47,ntmps47
   |go_enter func54,ntmps54
   |go_enter func58,ntmps58
  go_wp2
  refine wp_region_any (by kernel_rfl) ?_;change wpAny _ _ _ _ _ _ _ (World.drew _);refine wpAny_take (i:=0) (v:=?_) rfl (by kernel_rfl) (by kernel_rfl) (by kernel_rfl) (λ_ _ _ h=>h) (Or.inl ⟨by rfl,?_⟩) ?_
  rotate_left
  ·intro w0;first|(go_simp;done)|(go_simp;with_reducible rfl)
  go_simp
  refine wpAny_take (i:=1) (v:=?_) rfl (by kernel_rfl) (by kernel_rfl) (by kernel_rfl) (λ_ _ _ h=>h) (Or.inl ⟨by rfl,?_⟩) ?_
  rotate_left
  ·intro w0;first|(go_simp;done)|(go_simp;with_reducible rfl)
  go_simp
  refine wpAny_take (i:=2) (v:=?_) rfl (by kernel_rfl) (by kernel_rfl) (by kernel_rfl) (λ_ _ _ h=>h) (Or.inl ⟨by rfl,?_⟩) ?_
  rotate_left
  ·intro w0;first|(go_simp;done)|(go_simp;with_reducible rfl)
  go_simp
  refine wpAny_take (i:=4) (v:=?_) rfl (by kernel_rfl) (by kernel_rfl) (by kernel_rfl) (λ_ _ _ h=>h) (Or.inl ⟨by rfl,?_⟩) ?_
  rotate_left
  ·intro w0;first|(go_simp;done)|(go_simp;with_reducible rfl)
  go_simp
  refine wpAny_ready (rs:=[3,5]) (by kernel_rfl) (by simp) ?_;refine AllReady.cons rfl (λK c=>?_) (AllReady.cons rfl (λK c=>?_) AllReady.nil)
  dsimp only[List.getElem_toArray,List.getElem_cons_succ,List.getElem_cons_zero]
  go_simp
  refine c _ _ ?_;clear c K;refine wpAny_ready (rs:=[5]) (by kernel_rfl) (by simp) ?_;refine AllReady.cons rfl (λK c=>?_) AllReady.nil
  dsimp only[List.getElem_toArray,List.getElem_cons_succ,List.getElem_cons_zero]
  rw[if_pos (by rfl)];refine qbu 97 #[.slice a l.length cap] (by go_simp) m ?_;rintro e d ⟨n,(⟨u,v,k,rfl⟩|⟨k,rfl⟩)⟩
  rotate_left
  ·exact .inr ⟨_,rfl,rfl,g.out.no (by decide) k.out (qa (jcc _ w).drew n)⟩
  dsimp only[List.getElem_toArray,List.getElem_cons_succ,List.getElem_cons_zero]
  rw[if_pos (by rfl)];refine qbu 97 #[.slice a l.length cap] (by go_simp) m ?_;rintro e d ⟨n,(⟨u,v,k,rfl⟩|⟨k,rfl⟩)⟩
  rotate_left
  ·exact .inr ⟨_,rfl,rfl,g.out.no (by decide) k.out (qa (jcc _ w).drew n)⟩
  all_goals
   have o:=qa (jcc _ w).drew n;have H:=(g.out.ck.later o).cell0;have B:=F.out u v d (g.out.ck.later o).pw;refine .inl ⟨_,rfl,?_⟩
   go_simp
   refine c _ _ ?_;clear c K;refine wpAny_take (i:=6) (v:=?_) rfl (by kernel_rfl) (by kernel_rfl) (by kernel_rfl) (λ_ _ _ h=>h) (Or.inl ⟨by rfl,?_⟩) ?_
   rotate_left
   ·intro w0;first|(go_simp;done)|(go_simp;with_reducible rfl)
   go_simp
   refine wpAny_take (i:=7) (v:=?_) rfl (by kernel_rfl) (by kernel_rfl) (by kernel_rfl) (λ_ _ _ h=>h) (Or.inl ⟨by rfl,?_⟩) ?_
   rotate_left
   ·intro w0;first|(go_simp;done)|(go_simp;with_reducible rfl)
   go_simp
  rotate_left
  refine wpAny_ready (rs:=[3]) (by kernel_rfl) (by simp) ?_;refine AllReady.cons rfl (λK c=>?_) AllReady.nil
  dsimp only[List.getElem_toArray,List.getElem_cons_succ,List.getElem_cons_zero]
  go_simp
  refine c _ _ ?_;clear c K
  all_goals
   refine wpAny_ready (rs:=[8]) (by kernel_rfl) (by simp) ?_;refine AllReady.cons rfl (λK c=>?_) AllReady.nil
   dsimp only[List.getElem_toArray,List.getElem_cons_succ,List.getElem_cons_zero]
   rw[if_pos (by rfl)];refine qbu _ #[PP b,U u,U v] (by go_simp) B ?_;rintro e w2 ⟨W',er,C,rfl,s⟩;have D:=qda er w2 (g.out.gl2 o s);have t:Hid (∀e p,Bw w2 p->qlx er (qn _) e->jm _ W l w cb mb G e p):=λe p q I=>g.out.yes (by decide) (by exact k.out) o (C.data (by decide)) s q I;clear C s H E B;refine .inl ⟨_,rfl,?_⟩
   go_simp
   refine c _ _ ?_;clear c K;refine wpAny_ready (rs:=[9]) (by kernel_rfl) (by simp) ?_;refine AllReady.cons rfl (λK c=>?_) AllReady.nil
   dsimp only[List.getElem_toArray,List.getElem_cons_succ,List.getElem_cons_zero]
   rw[if_pos (by rfl)];refine qbu 66 #[jc er] (by go_simp) D ?_;rintro e p ⟨q,(⟨r,rfl⟩|⟨r,rfl⟩)⟩
   rotate_left
   ·exact .inr ⟨_,rfl,rfl,t.out _ _ q (.inr ⟨r,rfl⟩)⟩
   have J:=t.out _ _ q (.inl ⟨r,rfl⟩);clear r t D;refine .inl ⟨_,rfl,?_⟩
   go_simp
   refine c _ _ ?_;clear c K;refine wpAny_done (by kernel_rfl) ?_ _
   go_wp2
   go_ret;exact J
theorem ja5 (w:World) (h:vk w cb mb b Gw G W j a cap l):Ca 47 #[PP cb,.slice a l.length cap] w (jm 1 W l w cb mb G):=qtj w h (M:=96) (by decide) λu v c d=>ja6 u v c d h.wi
theorem q92 (w:World) (h:vk w cb mb b Gw G W j a cap l):Ca 54 #[PP cb,.slice a l.length cap] w (jm 8 W l w cb mb G):=qtj w h (M:=106) (by decide) λu v c d=>q9o u v c d h.wi
theorem q8m (w:World) (h:vk w cb mb b Gw G W j a cap l):Ca 58 #[PP cb,.slice a l.length cap] w (jm 12 W l w cb mb G):=qtj w h (M:=112) (by decide) λu v c d=>q9j u v c d
end
end
section
open Go.RowKit
section
variable {cb mb b j cap:Nat} {Gw G:Nat->Prop} {W:WoS} {a:Option Addr} {l:List ByteArray}
theorem q8p (w:World) (h:vk w cb mb b Gw G W j a cap l):Ca 53 #[PP cb,.slice a l.length cap] w (jm 7 W l w cb mb G):=by
 have c:=hd1 h;have r:=qls h.sm w h.gl h.st;clear h;go_enter Tryz.func53,Tryz.ntmps53
 go_wp2_with fail
 refine r.mono ?_;rintro e s ⟨d,(⟨u,v,k,rfl⟩|⟨k,rfl⟩)⟩
 ·have t:=(c.out.ck.later d).cell0;have o:=q9z u v s (c.out.ck.later d).pw
  go_wp2_with fail
  refine o.mono ?_;rintro e w2 ⟨W',er,p,rfl,m⟩;have q:=qda er w2 (c.out.gl2 d m);have n:Hid (∀e f,Bw w2 f->qlx er (qn 7) e->jm 7 W l w cb mb G e f):=λe f g x=>c.out.yes (by decide) k.out d (p.data (by decide)) m g x;clear p m t o
  go_wp2_with fail
  refine q.mono ?_;rintro e f ⟨g,(⟨i,rfl⟩|⟨i,rfl⟩)⟩
  ·have y:=n.out _ _ g (.inl ⟨i,rfl⟩);clear i n q
   go_wp2
   go_ret;exact y
  exact⟨rfl,n.out _ _ g (.inr ⟨i,rfl⟩)⟩
 exact⟨rfl,c.out.no (by decide) k.out d⟩
theorem q8k (w:World) (h:vk w cb mb b Gw G W j a cap l):Ca 49 #[PP cb,.slice a l.length cap] w (jm 3 W l w cb mb G):=by
 have c:=hd1 h;have m:=qpc h.sm w h.gl h.st;clear h;go_enter Tryz.func49,Tryz.ntmps49
 go_wp2_with fail
 refine m.mono ?_;rintro e n ⟨d,(⟨f,rfl⟩|⟨f,rfl⟩)⟩
 ·have o:=(c.out.ck.later d).cell0;have g:=q71 n (c.out.ck.later d).pw c.out.wi.wf
  go_wp2_with fail
  refine g.mono ?_;rintro e w2 ⟨rfl,W',i,k⟩;have p:jm 3 W l w cb mb G (.returned (.string (bya (qn 3)))) w2:=c.out.yes (ns:=[]) (by decide) f.out d ⟨rfl,i.out.1,rfl⟩ k (jcc _ _) (.inl ⟨rfl,rfl⟩);clear i k o g
  go_wp2
  go_ret;exact p
 exact⟨rfl,c.out.no (by decide) f.out d⟩
end
def qz4 (cb:Nat) (mv:Value) (n c:Int) (w:World) (e:Ending) (w':World):Prop:=
 (((1<=n/\n<=4)/\(0<=c/\c<=6))/\e=.returned (.tuple #[])/\∃b' G',w'.heap[cb]?=some (.cells #[PP b',mv] 57 (0,0))/\PW w' b' G' (qcb n.toNat c.toNat)/\(∀k,G' k->w.heap.size<=k)/\qc (λk=>k=cb) w w')
 \/(¬((1<=n/\n<=4)/\(0<=c/\c<=6))/\e=qc7 2/\Bw w w')
theorem qkq {cb:Nat} {p v:Value} (n c:Int) (w:World) (s:w.heap[cb]?=some (.cells #[p,v] 57 (0,0))) (g:Gl w):
 Ca 20 #[PP cb,U n,U c] w (qz4 cb v n c w):=by
 have B:=(jcs.1 s).1;by_cases h:(1<=n/\n<=4)/\(0<=c/\c<=6)
 ·obtain⟨i,rfl⟩:∃i:Nat,n=i:=⟨n.toNat,by omega⟩;obtain⟨k,rfl⟩:∃k:Nat,c=k:=⟨c.toNat,by omega⟩;have t:=jbc (n:=i) (c:=k) (by omega) (by omega) (by omega) w;have f:=hd3 h s g;clear h s g;go_enter Tryz.func20,Tryz.ntmps20
  go_wp2_with fail
  refine t.mono ?_;rintro e x ⟨rfl,E,C,y,d⟩;have D:=(d.block cb B).trans f.out.2.1;have m:=qda 0 x (f.out.2.2.later d);rw[show jc 0=Value.nilIface from rfl]at m
  go_wp2_with fail
  refine m.mono ?_;rintro e w2 ⟨o,(⟨_,rfl⟩|⟨z,_⟩)⟩
  ·have u:=(o.block cb (jci B d.size)).trans D
   have K:w2.cell? (AD cb 0)=some p:=by rw[Lib.cell_of_heap u];rfl
   have L:=Lib.frozen_of_heap u 0
   have F:Hid (qz4 cb v i k w (.returned (.tuple #[])) (w2.setCell (AD cb 0) (PP w.heap.size))):=by
        have r:=qa d o;refine .inl ⟨f.out.1,rfl,w.heap.size,E,by simp[World.setCell,Array.getElem?_modify,u],?_,y,r.os,r.tape,r.output,by simp[World.setCell];exact r.size,λq H I=>(jce _ _ _ _ I).trans (r.block q H)⟩;rw[Int.toNat_natCast,Int.toNat_natCast];exact(C.later o).kept (λq e=>jce _ _ _ _ (λJ=>by have:=y q e;have:q=cb:=J;omega)) (by simp[World.setCell])
   clear u o D d C y m t
   go_wp2
   go_end0;exact F.out
  exact absurd rfl z
 have t:=q2a h w;have f:=hd2 h g;clear h s g;go_enter Tryz.func20,Tryz.ntmps20
 go_wp2_with fail
 refine t.mono ?_;rintro e x ⟨rfl,d⟩;have m:=qda 2 x (f.out.2.later d)
 generalize jc 2=ev at m
 go_wp2_with fail
 refine m.mono ?_;rintro e w2 ⟨o,(⟨z,_⟩|⟨_,rfl⟩)⟩
 ·exact absurd z (by decide)
 exact⟨rfl,.inr ⟨f.out.1,rfl,qa d o⟩⟩
section
variable {cb mb b j cap:Nat} {Gw G:Nat->Prop} {W:WoS} {a:Option Addr} {l:List ByteArray}
theorem q4x (w:World) (h:vk w cb mb b Gw G W j a cap l):Ca 63 #[PP cb,.slice a l.length cap] w (jm 17 W l w cb mb G):=by
 have c:=hd1 h;have x:=qls h.sm w h.gl h.st;clear h;go_enter Tryz.func63,Tryz.ntmps63
 go_wp2_with fail
 refine x.mono ?_;rintro e y ⟨d,(⟨u,v,m,rfl⟩|⟨m,rfl⟩)⟩
 ·have q:=qkq u v y (c.out.ck.later d).box (c.out.gl.later d)
  go_wp2_with fail
  refine q.mono ?_;rintro e w2 (⟨o,rfl,z,r,s,t,n,f⟩|⟨o,rfl,B⟩)
  ·have C:jm 17 W l w cb mb G (.returned (.string (bya (qn 17)))) w2:=by
        have i:=c.out.ck.later d;have lc:=i.ltc;have D:=i.map.lt;refine⟨qcb u.toNat v.toNat,0,qn 17,by unfold qc2;rw[if_neg (by decide),show ju (qqi 17) l=some [u,v]from m.out];exact⟨rfl,by rw[if_pos o];exact⟨rfl,rfl⟩⟩,.inl ⟨rfl,rfl⟩,λk=>k=cb\/k=mb\/r k,⟨z,r,⟨s,i.map.kept (f.block mb D (λe=>i.n1 e.symm)),t,i.n1,λe=>by have:=n cb e;omega,λe=>by have:=n mb e;omega⟩,λ_=>jdl⟩,λk p=>?_,(qc.ofBelow d).trans ⟨f.os,f.tape,f.output,f.size,λk p E=>f.block k p (λe=>E ((c.out.g k).2 (.inl e)))⟩⟩;rcases p with rfl|rfl|e
        ·exact .inl ((c.out.g k).2 (.inl rfl))
        ·exact .inl ((c.out.g k).2 (.inr (.inl rfl)))
        exact .inr (jcn d.size (n k e))
   clear s t n f q
   go_wp2
   go_ret;exact C
  exact⟨rfl,c.out.yes (W':=W) (er:=2) (told:=qn 17) (by decide) m.out d ⟨rfl,by rw[if_neg o];exact⟨rfl,rfl⟩⟩ (vh.same (c.out.ck.later d).pw (jcc _ _)) B (.inr ⟨by decide,rfl⟩)⟩
 exact⟨rfl,c.out.no (by decide) m.out d⟩
end
end
section
open Go.RowKit
section
variable {cb mb b j cap:Nat} {Gw G:Nat->Prop} {W:WoS} {a:Option Addr} {l:List ByteArray}
theorem qu0 {w w':World} (h:vk w cb mb b Gw G W j a cap l) (c:(if l.length=3 then ju 2 (l.take 2)else none)=none) (d:Bw w w'):jm 18 W l w cb mb G (qc7 3) w':=
 ⟨W,3,[],by unfold qc2;rw[if_pos rfl,c];exact⟨rfl,rfl,rfl⟩,.inr ⟨by decide,rfl⟩,h.ck.same h.g d⟩
theorem qvr {r:List ByteArray} (h:r.length=3):∃x y z,r=[x,y,z]:=by
 match r,h with
 |[x,y,z],_=>exact⟨x,y,z,rfl⟩
theorem q6z (w:World) (h:vk w cb mb b Gw G W j a cap l):Ca 64 #[PP cb,.slice a l.length cap] w (jm 18 W l w cb mb G):=by
 by_cases m:l.length=3
 ·obtain⟨x,y,z,rfl⟩:=qvr m;clear m;have d:=hd1 h;obtain⟨B,C,rfl,P,Q⟩:=h.st.cell 2 z rfl;have X:3<=cap:=h.st.cap
  have H:qfj w (some (AD B C)) cap [x,y]:=⟨by have:=h.st.cap;simp at this ⊢;omega,λq s f=>h.st.cell q s (by
   match q,f with
   |0,f=>exact f
   |1,f=>exact f)⟩
  have I:=qls (l:=[x,y]) (λs J=>h.sm s (by simp at J ⊢;rcases J with rfl|rfl<;>simp)) w h.gl H;clear h H
  dsimp only[List.length_cons,List.length_nil,Nat.reduceAdd]at I ⊢
  go_enter Tryz.func64,Tryz.ntmps64
  go_wp2_with fail
  refine I.mono ?_;rintro e n ⟨k,(⟨u,v,D,rfl⟩|⟨D,rfl⟩)⟩
  rotate_left
  ·exact⟨rfl,qu0 d.out (by rw[if_pos (show [x,y,z].length=3 from rfl)];exact D.out) k⟩
  have R:n.drew.cell? (AD cb 0)=some (PP b):=(d.out.ck.later k).cell0;have S:n.drew.cell? (AD B (C+2))=some (.string z):=(k.cell (p:=AD B (C+2)) P).trans Q;have L:=q48 u v z n.drew ((d.out.ck.later k).pw.later (jcc _ n).drew);have M:=k.drew
  go_wp2
  refine wp_region_any (by kernel_rfl) ?_;change wpAny _ _ _ _ _ _ _ (World.drew _);refine wpAny_take (i:=0) (v:=?_) rfl (by kernel_rfl) (by kernel_rfl) (by kernel_rfl) (λ_ _ _ h=>h) (Or.inl ⟨by rfl,?_⟩) ?_
  rotate_left
  ·intro w0;first|(go_simp;done)|(go_simp;with_reducible rfl)
  go_simp
  refine wpAny_take (i:=1) (v:=?_) rfl (by kernel_rfl) (by kernel_rfl) (by kernel_rfl) (λ_ _ _ h=>h) (Or.inl ⟨by rfl,?_⟩) ?_
  rotate_left
  ·intro w0;first|(go_simp;done)|(go_simp;with_reducible rfl)
  go_simp
  refine wpAny_take (i:=2) (v:=?_) rfl (by kernel_rfl) (by kernel_rfl) (by kernel_rfl) (λ_ _ _ h=>h) (Or.inl ⟨by rfl,?_⟩) ?_
  rotate_left
  ·intro w0;first|(go_simp;done)|(go_simp;with_reducible rfl)
  go_simp
  refine wpAny_take (i:=4) (v:=?_) rfl (by kernel_rfl) (by kernel_rfl) (by kernel_rfl) (λ_ _ _ h=>h) (Or.inl ⟨by rfl,?_⟩) ?_
  rotate_left
  ·intro w0;first|(go_simp;done)|(go_simp;with_reducible rfl)
  go_simp
  refine wpAny_take (i:=5) (v:=?_) rfl (by kernel_rfl) (by kernel_rfl) (by kernel_rfl) (λ_ _ _ h=>h) (Or.inl ⟨by rfl,?_⟩) ?_
  rotate_left
  ·intro w0;first|(go_simp;done)|(go_simp;with_reducible rfl)
  go_simp
  refine wpAny_take (i:=6) (v:=?_) rfl (by kernel_rfl) (by kernel_rfl) (by kernel_rfl) (λ_ _ _ h=>h) (Or.inl ⟨by rfl,?_⟩) ?_
  rotate_left
  ·intro w0;first|(go_simp;done)|(go_simp;with_reducible rfl)
  go_simp
  refine wpAny_take (i:=7) (v:=?_) rfl (by kernel_rfl) (by kernel_rfl) (by kernel_rfl) (λ_ _ _ h=>h) (Or.inl ⟨by rfl,?_⟩) ?_
  rotate_left
  ·intro w0;first|(go_simp;done)|(go_simp;with_reducible rfl)
  go_simp
  refine wpAny_ready (rs:=[3,8]) (by kernel_rfl) (by simp) ?_;refine AllReady.cons rfl (λK c=>?_) (AllReady.cons rfl (λK c=>?_) AllReady.nil)
  dsimp only[List.getElem_toArray,List.getElem_cons_succ,List.getElem_cons_zero]
  go_simp
  refine c _ _ ?_;clear c K;refine wpAny_ready (rs:=[8]) (by kernel_rfl) (by simp) ?_;refine AllReady.cons rfl (λK c=>?_) AllReady.nil
  dsimp only[List.getElem_toArray,List.getElem_cons_succ,List.getElem_cons_zero]
  go_simp
  refine c _ _ ?_;clear c K;refine wpAny_take (i:=9) (v:=?_) rfl (by kernel_rfl) (by kernel_rfl) (by kernel_rfl) (λ_ _ _ h=>h) (Or.inl ⟨by rfl,?_⟩) ?_
  rotate_left
  ·intro w0;first|(go_simp;done)|(go_simp;with_reducible rfl)
  go_simp
  rotate_left
  dsimp only[List.getElem_toArray,List.getElem_cons_succ,List.getElem_cons_zero]
  go_simp
  refine c _ _ ?_;clear c K;refine wpAny_take (i:=9) (v:=?_) rfl (by kernel_rfl) (by kernel_rfl) (by kernel_rfl) (λ_ _ _ h=>h) (Or.inl ⟨by rfl,?_⟩) ?_
  rotate_left
  ·intro w0;first|(go_simp;done)|(go_simp;with_reducible rfl)
  go_simp
  refine wpAny_ready (rs:=[3]) (by kernel_rfl) (by simp) ?_;refine AllReady.cons rfl (λK c=>?_) AllReady.nil
  dsimp only[List.getElem_toArray,List.getElem_cons_succ,List.getElem_cons_zero]
  go_simp
  refine c _ _ ?_;clear c K
  all_goals
   refine wpAny_ready (rs:=[10]) (by kernel_rfl) (by simp) ?_;refine AllReady.cons rfl (λK c=>?_) AllReady.nil
   dsimp only[List.getElem_toArray,List.getElem_cons_succ,List.getElem_cons_zero]
   rw[if_pos (by rfl)];refine qbu 105 #[PP b,U u,.agg #[U v,.string z,.bool false]] (by go_simp) L ?_;rintro e w2 ⟨W',er,N,rfl,E⟩;have O:=qda er w2 (d.out.gl2 M E);have F:Hid (∀e o,Bw w2 o->qlx er (qn 18) e->jm 18 W [x,y,z] w cb mb G e o):=λe o r T=>⟨W',er,qn 18,by unfold qc2;rw[if_pos rfl,if_pos (show [x,y,z].length=3 from rfl),show ju 2 (List.take 2 [x,y,z])=some [u,v]from D.out];exact N,T,qe3.after (d.out.ck.op d.out.g M E) r⟩;clear N E R S L;refine .inl ⟨_,rfl,?_⟩
   go_simp
   refine c _ _ ?_;clear c K;refine wpAny_ready (rs:=[11]) (by kernel_rfl) (by simp) ?_;refine AllReady.cons rfl (λK c=>?_) AllReady.nil
   dsimp only[List.getElem_toArray,List.getElem_cons_succ,List.getElem_cons_zero]
   rw[if_pos (by rfl)];refine qbu 66 #[jc er] (by go_simp) O ?_;rintro e o ⟨r,(⟨t,rfl⟩|⟨t,rfl⟩)⟩
   rotate_left
   ·exact .inr ⟨_,rfl,rfl,F.out _ _ r (.inr ⟨t,rfl⟩)⟩
   have V:=F.out _ _ r (.inl ⟨t,rfl⟩);clear t F O;refine .inl ⟨_,rfl,?_⟩
   go_simp
   refine c _ _ ?_;clear c K;refine wpAny_done (by kernel_rfl) ?_ _
   go_wp2
   go_ret;exact V
 have d:=hd2 h (show l.length≠3 from m)
 have Y:¬(l.length:Int)=3:=by omega
 clear h m;go_enter Tryz.func64,Tryz.ntmps64
 go_wp2
 exact⟨rfl,qu0 d.out.1 (by rw[if_neg d.out.2]) (jcc _ _)⟩
end
end
section
open Go.RowKit
theorem q70 {s:ByteArray} {v:Int} (h:qbw s=some v):wfI v:=by
 unfold qbw at h;split at h
 ·rename_i x c;split at h
  ·injection h with h;subst h;have:=Lib.parseIntB_bounds c;simp at this;exact⟨by omega,by omega⟩
  cases h
 cases h
theorem qwd:∀{l:List ByteArray} {r:List Int},qb0 l=some r->∀v∈r,wfI v
 |[],r,h=>by simp[qb0]at h;subst h;simp
 |x::l,r,h=>by
  simp only[qb0]at h;cases hx:qbw x with
  |none=>rw[hx]at h;cases h
  |some v=>
   rw[hx]at h;simp only at h;cases hl:qb0 l with
   |none=>rw[hl]at h;cases h
   |some q=>
    rw[hl]at h;injection h with h;subst h;intro y c;rcases jdd.1 c with e|e
    ·rw[e];exact q70 hx
    exact qwd hl y e
theorem q63 {m:Nat} {l:List ByteArray} {r:List Int} (h:ju m l=some r):∀v∈r,wfI v:=by
 unfold ju at h;split at h
 ·exact qwd h
 cases h
theorem qnf {key a0 a1 a2 a3:Int} {l:List Hd} (h:∀x∈l,qau x.v=true):(zz key a0 a1 a2 a3 l).1.data.size<=12:=by
 unfold zz;split
 ·cases hl:zn key a0 a1 a2 a3 l with
  |none=>exact jcw _
  |some v=>
   obtain⟨x,c,rfl,_⟩:=qr0 hl;have:=h x c;simp only[qau,jct,decide_eq_true_eq]at this;unfold qjj;simp only;split
   ·exact jcw _
   show x.v.data.size<=12;have:=this.1.2;omega
 exact jcw _
theorem qjc {S:qe} {s:qy} {key:Int} (c:qe9 s) (d:j3 S):(vi S s key).1.size<=12:=by
 unfold vi;split
 ·exact jcw _
 split
 ·rename_i x e;split
  ·exact jcw _
  exact c.ws x (q5a e).2
 show (qbq S key s.s0 s.s1 s.s2 s.s3).1.data.size<=12;unfold qbq;split
 ·exact qnf d.ok
 exact jcw _
def jbt (W:WoS) (k key:Int) (w:World) (e:Ending) (w':World):Prop:=
 ∃d er told,qaa 13 W [k,key] ⟨#[]⟩ W er told/\(er=0->told=[105,115,32]++d.data.toList)/\d.size<=12/\e=.returned (.tuple #[.string d,jc er])/\Bw w w'
theorem q8y {b:Nat} {G:Nat->Prop} {W:WoS} (k key:Int) (o:wfI key) (w:World) (h:PW w b G W) (n:DkI W):Ca 113 #[PP b,U k,U key] w (jbt W k key w):=by
 obtain⟨j,f⟩:=n.pl;by_cases d:ye k W.c
 ·obtain⟨i,rfl,hi,e⟩:=zq d;exact(q7w key (q8f o) w h f.wf hi).mono λ_ _ ⟨g,m⟩=>⟨_,_,_,⟨rfl,by rw[if_pos d];exact⟨rfl,rfl⟩⟩,λ_=>rfl,qjc (n.ses i hi) (f.wf.inv _ (f.wf.at_ i hi)),g,m⟩
 exact(qzt k key w h d).mono λ_ _ ⟨g,m⟩=>⟨⟨#[]⟩,2,[],⟨rfl,by rw[if_neg d];exact⟨rfl,rfl⟩⟩,λe=>(by cases e),jcw _,g,m⟩
section
variable {cb mb b j cap:Nat} {Gw G:Nat->Prop} {W:WoS} {a:Option Addr} {l:List ByteArray}
theorem vk.told {w:World} {i:Nat} {ns:List Int} {er:Int} {told:List UInt8} {w':World} {e:Ending} (h:vk w cb mb b Gw G W j a cap l) (hi:i≠18) (c:ju (qqi i) l=some ns) (d:qaa i W ns ⟨#[]⟩ W er told) (f:Bw w w') (k:qlx er told e):jm i W l w cb mb G e w':=
 ⟨W,er,told,by unfold qc2;rw[if_neg hi,c];exact d.data hi,k,h.ck.same h.g f⟩
theorem q8w (w:World) (h:vk w cb mb b Gw G W j a cap l):Ca 59 #[PP cb,.slice a l.length cap] w (jm 13 W l w cb mb G):=by
 have f:=hd1 h;have m:=λw' s=>qls h.sm w' (h.gl.later (w':=w') s) (h.st.later s);replace m:=m w.drew (jcc _ w).drew;have F:=h.ck.cell0;clear h;go_enter Tryz.func59,Tryz.ntmps59
 go_wp2
 refine wp_region_any (by kernel_rfl) ?_;change wpAny _ _ _ _ _ _ _ (World.drew _);refine wpAny_take (i:=0) (v:=?_) rfl (by kernel_rfl) (by kernel_rfl) (by kernel_rfl) (λ_ _ _ h=>h) (Or.inl ⟨by rfl,?_⟩) ?_
 rotate_left
 ·intro w0;first|(go_simp;done)|(go_simp;with_reducible rfl)
 go_simp
 refine wpAny_take (i:=1) (v:=?_) rfl (by kernel_rfl) (by kernel_rfl) (by kernel_rfl) (λ_ _ _ h=>h) (Or.inl ⟨by rfl,?_⟩) ?_
 rotate_left
 ·intro w0;first|(go_simp;done)|(go_simp;with_reducible rfl)
 go_simp
 refine wpAny_take (i:=2) (v:=?_) rfl (by kernel_rfl) (by kernel_rfl) (by kernel_rfl) (λ_ _ _ h=>h) (Or.inl ⟨by rfl,?_⟩) ?_
 rotate_left
 ·intro w0;first|(go_simp;done)|(go_simp;with_reducible rfl)
 go_simp
 refine wpAny_take (i:=4) (v:=?_) rfl (by kernel_rfl) (by kernel_rfl) (by kernel_rfl) (λ_ _ _ h=>h) (Or.inl ⟨by rfl,?_⟩) ?_
 rotate_left
 ·intro w0;first|(go_simp;done)|(go_simp;with_reducible rfl)
 go_simp
 refine wpAny_ready (rs:=[3,5]) (by kernel_rfl) (by simp) ?_;refine AllReady.cons rfl (λK c=>?_) (AllReady.cons rfl (λK c=>?_) AllReady.nil)
 dsimp only[List.getElem_toArray,List.getElem_cons_succ,List.getElem_cons_zero]
 go_simp
 refine c _ _ ?_;clear c K;refine wpAny_ready (rs:=[5]) (by kernel_rfl) (by simp) ?_;refine AllReady.cons rfl (λK c=>?_) AllReady.nil
 dsimp only[List.getElem_toArray,List.getElem_cons_succ,List.getElem_cons_zero]
 rw[if_pos (by rfl)];refine qbu 97 #[.slice a l.length cap] (by go_simp) m ?_;rintro e t ⟨n,(⟨u,v,g,rfl⟩|⟨g,rfl⟩)⟩
 rotate_left
 ·exact .inr ⟨_,rfl,rfl,f.out.no (by decide) g.out (qa (jcc _ w).drew n)⟩
 dsimp only[List.getElem_toArray,List.getElem_cons_succ,List.getElem_cons_zero]
 rw[if_pos (by rfl)];refine qbu 97 #[.slice a l.length cap] (by go_simp) m ?_;rintro e t ⟨n,(⟨u,v,g,rfl⟩|⟨g,rfl⟩)⟩
 rotate_left
 ·exact .inr ⟨_,rfl,rfl,f.out.no (by decide) g.out (qa (jcc _ w).drew n)⟩
 all_goals
  have q:=qa (jcc _ w).drew n;have H:=(f.out.ck.later q).cell0;have x:=q8y u v (q63 g.out v (by simp)) t (f.out.ck.later q).pw f.out.di;refine .inl ⟨_,rfl,?_⟩
  go_simp
  refine c _ _ ?_;clear c K;refine wpAny_take (i:=6) (v:=?_) rfl (by kernel_rfl) (by kernel_rfl) (by kernel_rfl) (λ_ _ _ h=>h) (Or.inl ⟨by rfl,?_⟩) ?_
  rotate_left
  ·intro w0;first|(go_simp;done)|(go_simp;with_reducible rfl)
  go_simp
  refine wpAny_take (i:=7) (v:=?_) rfl (by kernel_rfl) (by kernel_rfl) (by kernel_rfl) (λ_ _ _ h=>h) (Or.inl ⟨by rfl,?_⟩) ?_
  rotate_left
  ·intro w0;first|(go_simp;done)|(go_simp;with_reducible rfl)
  go_simp
 rotate_left
 refine wpAny_ready (rs:=[3]) (by kernel_rfl) (by simp) ?_;refine AllReady.cons rfl (λK c=>?_) AllReady.nil
 dsimp only[List.getElem_toArray,List.getElem_cons_succ,List.getElem_cons_zero]
 go_simp
 refine c _ _ ?_;clear c K
 all_goals
  refine wpAny_ready (rs:=[8]) (by kernel_rfl) (by simp) ?_;refine AllReady.cons rfl (λK c=>?_) AllReady.nil
  dsimp only[List.getElem_toArray,List.getElem_cons_succ,List.getElem_cons_zero]
  rw[if_pos (by rfl)];refine qbu 113 #[PP b,U u,U v] (by go_simp) x ?_;rintro e w2 ⟨d,er,told,y,z,I,rfl,J⟩;have B:=qa q J;have C:=qda er w2 (f.out.gl.later B);have r:Hid (∀e o,Bw w2 o->qlx er told e->jm 13 W l w cb mb G e o):=λe o p L=>f.out.told (by decide) g.out y (qa B p) L;have D:=hd1 z;have M:=λw=>qfi (P:=Tryz.prog) ⟨#[105,115,32]⟩ d (by show 3+d.size<=_;omega) w;clear y z I H F x;refine .inl ⟨_,rfl,?_⟩
  go_simp
  refine c _ _ ?_;clear c K;refine wpAny_take (i:=9) (v:=?_) rfl (by kernel_rfl) (by kernel_rfl) (by kernel_rfl) (λ_ _ _ h=>h) (Or.inl ⟨by rfl,?_⟩) ?_
  rotate_left
  ·intro w0;first|(go_simp;done)|(go_simp;with_reducible rfl)
  go_simp
  refine wpAny_take (i:=10) (v:=?_) rfl (by kernel_rfl) (by kernel_rfl) (by kernel_rfl) (λ_ _ _ h=>h) (Or.inl ⟨by rfl,?_⟩) ?_
  rotate_left
  ·intro w0;first|(go_simp;done)|(go_simp;with_reducible rfl)
  go_simp
  refine wpAny_take (i:=11) (v:=?_) rfl (by kernel_rfl) (by kernel_rfl) (by kernel_rfl) (λ_ _ _ h=>h) (Or.inl ⟨by rfl,?_⟩) ?_
  rotate_left
  ·intro w0;first|(go_simp;done)|(go_simp;with_reducible rfl)
  go_simp
  refine wpAny_take (i:=12) (v:=?_) rfl (by kernel_rfl) (by kernel_rfl) (by kernel_rfl) (λ_ _ _ h=>h) (Or.inl ⟨by rfl,?_⟩) ?_
  rotate_left
  ·intro w0;first|(go_simp;done)|(go_simp;with_reducible rfl)
  go_simp
  refine wpAny_take (i:=13) (v:=?_) rfl (by kernel_rfl) (by kernel_rfl) (by kernel_rfl) (λ_ _ _ h=>h) (Or.inl ⟨by rfl,?_⟩) ?_
  rotate_left
  ·intro w0;first|(go_simp;done)|(go_simp;with_reducible rfl)
  go_simp
  refine wpAny_done (by kernel_rfl) ?_ _
  go_wp2_with fail
  refine C.mono ?_;rintro e o ⟨p,(⟨k,rfl⟩|⟨k,rfl⟩)⟩
  rotate_left
  ·exact⟨rfl,r.out _ _ p (.inr ⟨k,rfl⟩)⟩
  have E:=r.out _ _ p (.inl ⟨k,rfl⟩);rw[D.out k,<-jz]at E;clear k r C D
  go_wp2
  go_ret;exact E
end
end
section
open Go.RowKit
section
variable {cb mb b j cap:Nat} {Gw G:Nat->Prop} {W:WoS} {a:Option Addr} {l:List ByteArray}
theorem qee {w:World} {T:TypeId} (l:List Int):∀(q:Nat) x,l[q]?=some x->(w.alloc (.cells (qec l).toArray T)).cell? (AD w.heap.size (0+q))=some (U x):=λq x c=>by
 rw[Nat.zero_add];exact(qd.new (w:=w) (T:=T) (qec l) rfl).cell q _ (by unfold qec;rw[jcv,c];rfl)
theorem q9x (w:World) (h:vk w cb mb b Gw G W j a cap l):Ca 57 #[PP cb,.slice a l.length cap] w (jm 11 W l w cb mb G):=by
 have d:=hd1 h;have p:=qpc h.sm w h.gl h.st;clear h;go_enter Tryz.func57,Tryz.ntmps57
 go_wp2_with fail
 refine p.mono ?_;rintro e c ⟨f,(⟨i,rfl⟩|⟨i,rfl⟩)⟩
 ·have v:=(d.out.ck.later f).cell0;have k:=(d.out.ck.later f).pw.later (jcc _ c).drew;have s:=q81 c.drew k;have t:=q7z c.drew k;have m:Bw w ((c.alloc (.cells #[U W.net.length,U W.lost] 3)).drew):=(boxed f _).drew
  have q:=qb1 (b:=c.heap.size) (o:=0) (cap:=2) (l:=[(W.net.length:Int),W.lost]) (by simp) (by simp) (λx r=>by
   simp at r;rcases r with rfl|rfl
   ·have:=d.out.wi.wf.net;exact⟨by omega,by omega⟩
   exact d.out.di.lost) ((c.alloc (.cells #[U W.net.length,U W.lost] 3)).drew) (d.out.gl.later m) (by simp) (qee (w:=c) (T:=3) [(W.net.length:Int),W.lost])
  have u:Hid (∀g,Below ((c.alloc (.cells #[U W.net.length,U W.lost] 3)).drew).heap.size ((c.alloc (.cells #[U W.net.length,U W.lost] 3)).drew) g->jm 11 W l w cb mb G (.returned (.string (bya (qv [(W.net.length:Int),W.lost])))) g):=λg n=>d.out.told (by decide) i.out ⟨rfl,rfl,rfl⟩ (qa m n) (.inl ⟨rfl,rfl⟩)
  dsimp only[List.length_cons,List.length_nil,Nat.reduceAdd]at q
  clear m k p
  go_wp2
  go_region_with (first|(go_at_call 110;refine s.mono ?_;rintro e w2 ⟨rfl,rfl⟩)|(go_at_call 111;refine t.mono ?_;rintro e w2 ⟨rfl,rfl⟩)|(go_at_call 102;refine q.mono ?_;rintro e g ⟨rfl,n⟩))
  all_goals
   go_wp2
   go_ret;exact u.out _ n
 exact⟨rfl,d.out.no (by decide) i.out f⟩
end
end
section
open Go.RowKit
structure jan (W:WoS) (k at_ p0 p1 p2 p3 s0 s1 s2 s3:Int) (op:Bool) (er:Int):Prop where
 cmd:qaa 4 W [k] ⟨#[]⟩ W er (if er=0 then qv [at_]++[44,32]++qv [p0,p1,p2,p3]++if op=true then [44,32]++qv [s0,s1,s2,s3]else []else [])
 wf:∀x∈[at_,p0,p1,p2,p3,s0,s1,s2,s3],wfI x
theorem j1 {x:Int} (h:qag x):wfI x:=⟨by have:=h.1;omega,by have:=h.2;omega⟩
theorem qq2 {b:Nat} {G:Nat->Prop} {W:WoS} (k:Int) (m:DkI W):∃at_ p0 p1 p2 p3 s0 s1 s2 s3 n er,jan W k at_ p0 p1 p2 p3 s0 s1 s2 s3 n er/\∀w,PW w b G W->Ca 101 #[PP b,U k] w (Rn (.tuple #[U at_,.agg #[U p0,U p1,U p2,U p3],.agg #[U s0,U s1,U s2,U s3],.bool n,jc er]) w):=by
 obtain⟨j,o⟩:=m.pl;by_cases g:ye k W.c
 ·obtain⟨i,rfl,hi,e⟩:=zq g;have d:=m.ses i hi;have p:=o.wf.at_ i hi;have q:=o.wf.n4;refine⟨_,_,_,_,_,_,_,_,_,_,0,⟨⟨rfl,by rw[if_pos g];exact⟨rfl,rfl⟩⟩,λx f=>?_⟩,λw h=>q26 w h hi⟩;simp only[jdd,List.not_mem_nil,or_false]at f;rcases f with rfl|rfl|rfl|rfl|rfl|rfl|rfl|rfl|rfl
  ·exact⟨by omega,by omega⟩
  ·exact j1 d.p0
  ·exact j1 d.p1
  ·exact j1 d.p2
  ·exact j1 d.p3
  ·exact j1 d.s0
  ·exact j1 d.s1
  ·exact j1 d.s2
  exact j1 d.s3
 refine⟨0,0,0,0,0,0,0,0,0,false,2,⟨⟨rfl,by rw[if_neg g];exact⟨rfl,rfl⟩⟩,λx f=>?_⟩,λw h=>qtc k w h g⟩;simp at f;subst f;exact⟨by decide,by decide⟩
section
variable {cb mb b j cap:Nat} {Gw G:Nat->Prop} {W:WoS} {a:Option Addr} {l:List ByteArray}
theorem q23 (w:World) (h:vk w cb mb b Gw G W j a cap l) (c:ju 1 l=none):Ca 50 #[PP cb,.slice a l.length cap] w (jm 4 W l w cb mb G):=by
 have g:=hd1 h
 have i:Hid (∀w',Bw w w'->Ca 95 #[.slice a l.length cap] w' λe w2=>e=qc7 3/\Bw w' w2):=λw' d=>(qi1 h.sm w' (h.gl.later d) (h.st.later d)).mono λe w2 ⟨k,m⟩=>by
  rcases m with ⟨v,n,_⟩|⟨_,p⟩
  ·rw[n.out]at c;cases c
  exact⟨p,k⟩
 have f:=h.ck.cell0;have q:=hd1 c;have t:=λo=>cell_later (boxed (jcc _ w) o) f;have u:=λo r=>cell_later (boxed (boxed (jcc _ w) o) r) f;clear h c;go_enter Tryz.func50,Tryz.ntmps50
 go_wp2
 go_region_dies
 all_goals
  refine(i.out _ (by repeat (first|(with_reducible exact jcc _ _)|(with_reducible refine boxed ?_ _)|(with_reducible refine jc6 ?_)))).mono ?_;rintro e x ⟨rfl,s⟩;exact⟨rfl,g.out.no (by decide) q.out (qa (by repeat (first|(with_reducible exact jcc _ _)|(with_reducible refine boxed ?_ _)|(with_reducible refine jc6 ?_))) s)⟩
end
end
section
open Go.RowKit
theorem zo (l:List UInt8):(bya l).size=l.length:=by simp[ByteArray.size]
theorem qm2 {w:World} {b:Nat} {a0 a1 a2 a3:Int} (h:qo w b a0 a1 a2 a3):∀(q:Nat) x,[a0,a1,a2,a3][q]?=some x->w.cell? (AD b (0+q))=some (U x)
 |0,x,hx=>by simp at hx;subst hx;exact h.c0
 |1,x,hx=>by simp at hx;subst hx;exact h.c1
 |2,x,hx=>by simp at hx;subst hx;exact h.c2
 |3,x,hx=>by simp at hx;subst hx;exact h.c3
 |q+4,x,hx=>by simp at hx
end
section
open Go.RowKit
section
variable {cb mb b j cap:Nat} {Gw G:Nat->Prop} {W:WoS} {a:Option Addr} {l:List ByteArray}
theorem qys (w:World) (h:vk w cb mb b Gw G W j a cap l) {r:List Int} (f:ju 1 l=some r):Ca 50 #[PP cb,.slice a l.length cap] w (jm 4 W l w cb mb G):=by
 have m:Hid (vk w cb mb b Gw G W j a cap l):=h
 obtain⟨v,rfl⟩:∃v,r=[v]:=by
  unfold ju at f;split at f
  ·rename_i q;exact List.length_eq_one_iff.1 ((qbb f).trans q)
  cases f
 have X:Hid (∀w',Bw w w'->Ca 95 #[.slice a l.length cap] w' λe w2=>e=.returned (U v)/\Bw w' w2):=λw' n=>(qi1 h.sm w' (h.gl.later n) (h.st.later n)).mono λe w2 ⟨D,g⟩=>by
  rcases g with ⟨u,J,he⟩|⟨J,_⟩
  ·have:=J.out;rw[f]at this;injection this with this;injection this with this;rw[this];exact⟨he,D⟩
  have:=J.out;rw[f]at this;cases this
 obtain⟨at_,p0,p1,p2,p3,s0,s1,s2,s3,E,er,Y,Z⟩:=qq2 (b:=b) (G:=Gw) v h.di;have OP:Hid (∀w',Bw w w'->Ca 101 #[PP b,U v] w' λe w2=>e=.returned (.tuple #[U at_,.agg #[U p0,U p1,U p2,U p3],.agg #[U s0,U s1,U s2,U s3],.bool E,jc er])/\Bw w' w2):=λw' n=>Z w' (h.ck.later n).pw;have p:Hid (jan W v at_ p0 p1 p2 p3 s0 s1 s2 s3 E er/\ju 1 l=some [v]):=⟨Y,f⟩;have c0:=h.ck.cell0;have X0:=λ(w':World) (h:Bw w w')=>cell_later h c0;clear h f Z Y c0;go_enter Tryz.func50,Tryz.ntmps50
 go_wp2
 go_cut [5,6,7,8,9] (λt5 t6 t7 t8 t9 K=>∃s t:Nat,t5=U at_/\t6=.pointer (PT s)/\t7=.pointer (PT t)/\t8=.bool E/\t9=jc er/\Bw w K/\qo K s p0 p1 p2 p3/\qo K t s0 s1 s2 s3)
 case first=>
  go_region_held3 (λw'=>Bw w w') ((repeat (first|(with_reducible assumption)|(with_reducible refine boxed ?_ _)|(with_reducible refine jc6 ?_)|(with_reducible refine jdz ?_ (by first|(simp;done)|(simp;omega)) _)|(with_reducible exact jcc _ _))))
   (first|(go_at_call 95;refine(X.out _ (by with_reducible assumption)).mono ?_;rintro e wa ⟨rfl,y⟩;have hS:Bw w wa:=qa (by with_reducible assumption) y;have hla:=hS.size;obtain⟨hc1,hf1⟩:=qdb y;have hz1:=blt y;have n1:=bne y;have m1:=jbf y)|(go_at_call 101;refine(OP.out _ (by with_reducible assumption)).mono ?_;rintro e wb ⟨rfl,z⟩;have hSb:Bw w wb:=qa (by with_reducible assumption) z;have hlb:=hSb.size;have hab:Bw wa wb:=(by first|exact z|exact qa (boxed (jcc _ _) _) z|exact qa (boxed (boxed (jcc _ _) _) _) z);have h12:=qa y hab;obtain⟨hc2,hf2⟩:=qdb z;obtain⟨hc3,hf3⟩:=qdb h12;have hz2:=blt z;have hz3:=blt h12))
  all_goals
   go_wp2
   go_meet
   case rel=>
        refine⟨_,_,rfl,rfl,rfl,rfl,rfl,by assumption,?_,?_⟩
        ·(repeat (first|(with_reducible refine qo.newest ?_;(first|rfl|(simp;done)))|(with_reducible refine qo.boxed ?_ _)|(with_reducible refine qo.set (a0:=0) (a1:=0) (a2:=0) (a3:=0) ?_)|(with_reducible refine qo.far4 ?_ ?_;rotate_left;(first|(simp;done)|(simp;omega)|omega))));all_goals (constructor<;>go_simp)
        (repeat (first|(with_reducible refine qo.newest ?_;(first|rfl|(simp;done)))|(with_reducible refine qo.boxed ?_ _)|(with_reducible refine qo.set (a0:=0) (a1:=0) (a2:=0) (a3:=0) ?_)|(with_reducible refine qo.far4 ?_ ?_;rotate_left;(first|(simp;done)|(simp;omega)|omega))));all_goals (constructor<;>go_simp)
 obtain⟨s,t,rfl,rfl,rfl,rfl,rfl,L,R6,R7⟩:=hcut;have B:Hid (Bw w wc/\qo wc s p0 p1 p2 p3/\qo wc t s0 s1 s2 s3):=⟨L,R6,R7⟩;have MU:=qda er wc (m.out.gl.later L);clear L R6 R7 X0 X OP
 go_wp2_with fail
 refine MU.mono ?_;rintro e d ⟨C,(⟨F,rfl⟩|⟨F,rfl⟩)⟩
 rotate_left
 ·exact⟨rfl,m.out.told (by decide) p.out.2 p.out.1.cmd (qa B.out.1 C) (.inr ⟨F,rfl⟩)⟩
 have M:=qa B.out.1 C;have i:=p.out.1.wf;have N:Bw w ((d.alloc (.cells #[U at_] 3)).drew):=(boxed M _).drew;have O:=qb1 (b:=d.heap.size) (o:=0) (cap:=1) (l:=[at_]) (by simp) (by simp) (λx c=>i x (by simp at c;simp[c])) ((d.alloc (.cells #[U at_] 3)).drew) (m.out.gl.later N) (by simp) (qee (w:=d) (T:=3) [at_])
 dsimp only[List.length_cons,List.length_nil,Nat.reduceAdd]at O
 have Q:Hid (∀w',Bw w w'->Bw d w'->Ca 102 #[.slice (PT s) 4 4] w' λe w2=>e=.returned (.string (bya (qv [p0,p1,p2,p3])))/\Bw w' w2):=λw' D g=>qb1 (b:=s) (o:=0) (cap:=4) (l:=[p0,p1,p2,p3]) (by simp) (by simp) (λx c=>i x (by simp at c ⊢;rcases c with e|e|e|e<;>simp[e])) w' (m.out.gl.later D) (jci (B.out.2.1.later C).lt g.size) (qm2 ((B.out.2.1.later C).later g));have R:Hid (∀w',Bw w w'->Bw d w'->Ca 102 #[.slice (PT t) 4 4] w' λe w2=>e=.returned (.string (bya (qv [s0,s1,s2,s3])))/\Bw w' w2):=λw' D g=>qb1 (b:=t) (o:=0) (cap:=4) (l:=[s0,s1,s2,s3]) (by simp) (by simp) (λx c=>i x (by simp at c ⊢;rcases c with e|e|e|e<;>simp[e])) w' (m.out.gl.later D) (jci (B.out.2.2.later C).lt g.size) (qm2 ((B.out.2.2.later C).later g))
 have l1:(qv [at_]).length<=22:=by have:=ze (l:=[at_]) (λx c=>i x (by simp at c;simp[c]));simpa using this
 have l2:(qv [p0,p1,p2,p3]).length<=88:=by have:=ze (l:=[p0,p1,p2,p3]) (λx c=>i x (by simp at c ⊢;rcases c with e|e|e|e<;>simp[e]));simpa using this
 have l3:(qv [s0,s1,s2,s3]).length<=88:=by have:=ze (l:=[s0,s1,s2,s3]) (λx c=>i x (by simp at c ⊢;rcases c with e|e|e|e<;>simp[e]));simpa using this
 have A1:=λw=>qfi (P:=Tryz.prog) (bya (qv [at_])) ⟨#[44,32]⟩ (by simp[zo];omega) w;have A2:=λw=>qfi (P:=Tryz.prog) (bya (qv [at_])++⟨#[44,32]⟩) (bya (qv [p0,p1,p2,p3])) (by simp[zo];omega) w;have A3:=λw=>qfi (P:=Tryz.prog) ⟨#[44,32]⟩ (bya (qv [s0,s1,s2,s3])) (by simp[zo];omega) w;have A4:=λw=>qfi (P:=Tryz.prog) (bya (qv [at_])++⟨#[44,32]⟩++bya (qv [p0,p1,p2,p3])) (⟨#[44,32]⟩++bya (qv [s0,s1,s2,s3])) (by simp[zo];omega) w;clear l1 l2 l3;have H:Hid (∀w',Bw w w'->jm 4 W l w cb mb G (.returned (.string (bya (qv [at_]++[44,32]++qv [p0,p1,p2,p3]++if E=true then [44,32]++qv [s0,s1,s2,s3]else [])))) w'):=λw' n=>m.out.told (by decide) p.out.2 p.out.1.cmd n (.inl ⟨F,by rw[if_pos F]⟩);have HX3:Hid (Bw w d):=M;clear F M i MU p;have hw3:Bw d ((d.alloc (.cells #[U at_] 3)).drew):=(boxed (jcc _ d) _).drew
 go_wp2
 go_region_with (first|(go_at_call 102;(with_reducible refine O.mono ?_);rintro e S ⟨rfl,hb4⟩;have hb4w:Bw w S:=qa N hb4;have hb43:Bw d S:=qa hw3 hb4;have BL2:=Q.out S hb4w hb43)|(go_at_call 102;(with_reducible refine BL2.mono ?_);rintro e I ⟨rfl,hb5⟩;have V:Bw w I:=qa hb4w hb5;have hb53:Bw d I:=qa hb43 hb5))
 all_goals
  clear O BL2 N hw3;cases E
  ·have k:=H.out I V;rw[if_neg (by simp)]at k
   rw[show bya (qv [at_]++[44,32]++qv [p0,p1,p2,p3]++[])=bya (qv [at_])++⟨#[44,32]⟩++bya (qv [p0,p1,p2,p3]) by
        rw[show (⟨#[44,32]⟩:ByteArray)=bya [44,32]from rfl,jz,jz];simp]at k
   clear Q R H A1 A2 A3 A4
   go_wp2
   go_ret;exact k
  have BL3:=R.out I V hb53
  go_wp2_with fail
  refine BL3.mono ?_;rintro e w6 ⟨rfl,hb6⟩;have k:=H.out w6 (qa V hb6);rw[if_pos (by trivial)]at k
  rw[show bya (qv [at_]++[44,32]++qv [p0,p1,p2,p3]++([44,32]++qv [s0,s1,s2,s3]))=bya (qv [at_])++⟨#[44,32]⟩++bya (qv [p0,p1,p2,p3])++(⟨#[44,32]⟩++bya (qv [s0,s1,s2,s3])) by
   rw[show (⟨#[44,32]⟩:ByteArray)=bya [44,32]from rfl,jz,jz,jz,jz]]at k
  clear Q R H BL3
  go_wp2
  go_ret;exact k
theorem q3r (w:World) (h:vk w cb mb b Gw G W j a cap l):Ca 50 #[PP cb,.slice a l.length cap] w (jm 4 W l w cb mb G):=by
 cases hn:ju 1 l with
 |none=>exact q23 w h hn
 |some r=>exact qys w h hn
end
end
section
open Go.RowKit Go.Maps
theorem q34 (x:List UInt8):x∈qc9↔∃i,i<19/\x=qn i:=by
 constructor
 ·intro h;obtain⟨i,hi,e⟩:=jdm.1 h;exact⟨i,hi,by unfold qn;rw[jdp,jcg hi];exact e.symm⟩
 rintro ⟨i,hi,rfl⟩;unfold qn;rw[jdp,jcg (show i<qc9.length from hi)];exact jdr _
theorem qup {w:World} {mb cb:Nat} {D:DataW Value} (h:w.ownsMap Tryz.prog 9 qcd mb 19 D) (d:qow D cb 19) {ss:List (List UInt8)} (hs:ss.Perm (Go.strKeys D)):ss.mergeSort (λx y=>decide (x<=y))=qc9:=by
 have hc:Go.Collected D (λ_=>false) qc9:=⟨by decide,λx=>by
  rw[q34]
  constructor
  ·rintro ⟨i,hi,rfl⟩;exact⟨(d.has i hi).1,rfl⟩
  rintro ⟨q,_⟩;rcases Classical.em (∃i,i<19/\x=qn i)with e|e
  ·exact e
  have:=(d.no x (λi hi e2=>e ⟨i,hi,e2⟩)).1;rw[q]at this
  cases this⟩
 exact qu9 (hs.trans (hc.perm h qhg Tryz.underlying9 (λ_=>rfl)).symm)
end
section
open Tryz Go.RowKit Go.Maps Go.Sort Go.Shelf
def jea:Go.Shelf.Ren:=⟨λ|7=>108|10=>157|n=>n,λ|23=>55|26=>9|3=>65|28=>34|0=>0|27=>33|33=>24|4=>4|n=>n,λ|n=>n⟩
theorem jes:Go.Proofs.SlLaysZ.n7 prog jea:={
 mixed:=by kernel_rfl
 f7:=⟨f108.name,by decide,func108.trans (congrArg some (by kernel_rfl))⟩
 f10:=⟨f157.name,by decide,func157.trans (congrArg some (by kernel_rfl))⟩
 t0:=underlying0
 a0:=Tryz.isAgg0
 z0:=Tryz.sizeOf0
 v0:=Tryz.zeroValue0
 t4:=underlying4
 a4:=Tryz.isAgg4
 z4:=Tryz.sizeOf4
 v4:=Tryz.zeroValue4
 t23:=underlying55
 a23:=Tryz.isAgg55
 z23:=Tryz.sizeOf55
 v23:=Tryz.zeroValue55
 t26:=underlying9
 a26:=Tryz.isAgg9
 z26:=Tryz.sizeOf9
 v26:=Tryz.zeroValue9
 t27:=underlying33
 a27:=Tryz.isAgg33
 z27:=Tryz.sizeOf33
 v27:=Tryz.zeroValue33
 t28:=underlying34
 a28:=Tryz.isAgg34
 z28:=Tryz.sizeOf34
 v28:=Tryz.zeroValue34
 t33:=underlying24
 a33:=Tryz.isAgg24
 z33:=Tryz.sizeOf24
 v33:=Tryz.zeroValue24}
def jd6:Go.Shelf.Ren:=⟨λ|6=>107|8=>156|9=>92|11=>214|13=>133|12=>132|23=>194|24=>195|14=>185|15=>186|16=>187|17=>188|18=>189|19=>190|20=>191|21=>192|22=>193|25=>232|26=>233|27=>234|28=>235|29=>236|30=>237|31=>267|n=>n,λ|26=>9|28=>34|24=>42|0=>0|3=>3|37=>190|48=>250|50=>192|4=>4|40=>244|39=>243|45=>93|5=>5|9=>9|51=>289|55=>293|57=>327|58=>144|33=>24|n=>n,λ|n=>n⟩
theorem jeu:Go.Proofs.SlLaysZ.n6 prog jd6:={
 mixed:=by kernel_rfl
 f6:=⟨f107.name,by decide,func107.trans (congrArg some (by kernel_rfl))⟩
 f8:=⟨f156.name,by decide,func156.trans (congrArg some (by kernel_rfl))⟩
 f11:=⟨f214.name,by decide,func214.trans (congrArg some (by kernel_rfl))⟩
 t0:=underlying0
 a0:=Tryz.isAgg0
 z0:=Tryz.sizeOf0
 v0:=Tryz.zeroValue0
 t24:=underlying42
 a24:=Tryz.isAgg42
 z24:=Tryz.sizeOf42
 v24:=Tryz.zeroValue42
 t26:=underlying9
 a26:=Tryz.isAgg9
 z26:=Tryz.sizeOf9
 v26:=Tryz.zeroValue9
 t28:=underlying34
 a28:=Tryz.isAgg34
 z28:=Tryz.sizeOf34
 v28:=Tryz.zeroValue34
 i26:=by kernel_rfl}
def jet:Go.Shelf.Ren:=⟨λ|6=>92|8=>133|9=>132|19=>194|20=>195|21=>185|22=>186|23=>187|24=>188|25=>189|26=>190|27=>191|28=>192|29=>193|36=>232|31=>233|32=>234|37=>235|38=>236|39=>237|41=>267|n=>n,λ|27=>42|29=>9|3=>3|32=>190|26=>42|0=>0|44=>250|46=>192|4=>4|36=>244|35=>243|41=>93|5=>5|9=>9|53=>289|57=>293|63=>327|64=>144|n=>n,λ|n=>n⟩
theorem jev:Go.Proofs.SlLaysM.n6 prog jet:={
 mixed:=by kernel_rfl
 f6:=⟨f92.name,by decide,func92.trans (congrArg some (by kernel_rfl))⟩
 f8:=func133.trans (congrArg some (by kernel_rfl))
 f9:=⟨f132.name,by decide,func132.trans (congrArg some (by kernel_rfl))⟩
 f19:=func194.trans (congrArg some (by kernel_rfl))
 f20:=func195.trans (congrArg some (by kernel_rfl))
 f21:=⟨f185.name,by decide,func185.trans (congrArg some (by kernel_rfl))⟩
 f22:=⟨f186.name,by decide,func186.trans (congrArg some (by kernel_rfl))⟩
 f23:=⟨f187.name,by decide,func187.trans (congrArg some (by kernel_rfl))⟩
 f24:=⟨f188.name,by decide,func188.trans (congrArg some (by kernel_rfl))⟩
 f25:=⟨f189.name,by decide,func189.trans (congrArg some (by kernel_rfl))⟩
 f26:=⟨f190.name,by decide,func190.trans (congrArg some (by kernel_rfl))⟩
 f27:=⟨f191.name,by decide,func191.trans (congrArg some (by kernel_rfl))⟩
 f28:=⟨f192.name,by decide,func192.trans (congrArg some (by kernel_rfl))⟩
 f29:=⟨f193.name,by decide,func193.trans (congrArg some (by kernel_rfl))⟩
 f31:=func233.trans (congrArg some (by kernel_rfl))
 f32:=func234.trans (congrArg some (by kernel_rfl))
 f36:=⟨f232.name,by decide,func232.trans (congrArg some (by kernel_rfl))⟩
 f37:=⟨f235.name,by decide,func235.trans (congrArg some (by kernel_rfl))⟩
 f38:=⟨f236.name,by decide,func236.trans (congrArg some (by kernel_rfl))⟩
 f39:=⟨f237.name,by decide,func237.trans (congrArg some (by kernel_rfl))⟩
 f41:=⟨f267.name,by decide,func267.trans (congrArg some (by kernel_rfl))⟩
 t0:=underlying0
 a0:=Tryz.isAgg0
 z0:=Tryz.sizeOf0
 v0:=Tryz.zeroValue0
 t3:=underlying3
 a3:=Tryz.isAgg3
 z3:=Tryz.sizeOf3
 v3:=Tryz.zeroValue3
 t4:=underlying4
 a4:=Tryz.isAgg4
 z4:=Tryz.sizeOf4
 v4:=Tryz.zeroValue4
 t5:=underlying5
 a5:=Tryz.isAgg5
 z5:=Tryz.sizeOf5
 v5:=Tryz.zeroValue5
 t9:=underlying9
 a9:=Tryz.isAgg9
 z9:=Tryz.sizeOf9
 v9:=Tryz.zeroValue9
 t26:=underlying42
 a26:=Tryz.isAgg42
 z26:=Tryz.sizeOf42
 v26:=Tryz.zeroValue42
 t27:=underlying42
 a27:=Tryz.isAgg42
 z27:=Tryz.sizeOf42
 v27:=Tryz.zeroValue42
 t29:=underlying9
 a29:=Tryz.isAgg9
 z29:=Tryz.sizeOf9
 v29:=Tryz.zeroValue9
 t32:=underlying190
 a32:=Tryz.isAgg190
 z32:=Tryz.sizeOf190
 v32:=Tryz.zeroValue190
 t35:=underlying243
 a35:=Tryz.isAgg243
 z35:=Tryz.sizeOf243
 v35:=Tryz.zeroValue243
 t36:=underlying244
 a36:=Tryz.isAgg244
 z36:=Tryz.sizeOf244
 v36:=Tryz.zeroValue244
 t41:=underlying93
 a41:=Tryz.isAgg93
 z41:=Tryz.sizeOf93
 v41:=Tryz.zeroValue93
 t44:=underlying250
 a44:=Tryz.isAgg250
 z44:=Tryz.sizeOf250
 v44:=Tryz.zeroValue250
 t46:=underlying192
 a46:=Tryz.isAgg192
 z46:=Tryz.sizeOf192
 v46:=Tryz.zeroValue192
 t53:=underlying289
 a53:=Tryz.isAgg289
 z53:=Tryz.sizeOf289
 v53:=Tryz.zeroValue289
 t57:=underlying293
 a57:=Tryz.isAgg293
 z57:=Tryz.sizeOf293
 v57:=Tryz.zeroValue293
 t63:=underlying327
 a63:=Tryz.isAgg327
 z63:=Tryz.sizeOf327
 v63:=Tryz.zeroValue327
 t64:=underlying144
 a64:=Tryz.isAgg144
 z64:=Tryz.sizeOf144
 v64:=Tryz.zeroValue144}
theorem jey (m:Nat):AnyZ.SortsIn prog jd6 Fence.wide m:=
 ⟨λa b cap c W d e f=>callsIn_wide.2 (AnyM.slices_Sort_string jev a b cap c W d e f),
  λp cap W=>callsIn_wide.2 (AnyM.slices_Sort_string_none jev p cap W)⟩
theorem jef (mb:Option Nat) (W:World):CallsIn Fence.wide 5 prog 108 #[.map mb] W λe w'=>e=.returned (.func (.func 157) #[] #[PP W.heap.size])/\w'=W.alloc (.cells #[.map mb] 55):=
 AnyZ.keys_in jes Fence.wide 5 trivial rfl mb W
theorem jd3 {H:Type} (b d:Nat) (a:DataW H) (R:Value->Option (DataW H×List MemPlace)) (w:World) (f:w.ownsMap prog 9 R b d a) (g:Maps.size a<=maxLen) (h:Maps.size a*16<=140737488355328):
 CallsIn Fence.wide 5 prog 107 #[.func (.func 157) #[] #[PP w.heap.size]] (w.alloc (.cells #[.map (some b)] 55)) λe w'=>∃(v:Value) (c:List (List UInt8)),e=.returned v/\c.Perm (strKeys a)/\
  w'.ownsRow (w.alloc (.cells #[.map (some b)] 55)).heap.size 9 1 v c.length ((c.mergeSort (λx y=>decide (x<=y))).map encStr)/\(v=.slice none 0 0↔c=[])/\Below (w.alloc (.cells #[.map (some b)] 55)).heap.size (w.alloc (.cells #[.map (some b)] 55)) w':=by
 have i:=f.lt
 have j:SeqGives Fence.wide 2 prog 157 #[PP w.heap.size] encStr (λc=>c.Perm (strKeys a)) (Maps.size a) (w.alloc (.cells #[.map (some b)] 55)):=
  AnyZ.keys_gives (ρ:=jea) {jes with} Fence.wide _ trivial rfl (by omega) w.heap.size b d a _ (by simp) (by simp) (by
   obtain⟨k,l,m,n,o,p⟩:=f
   exact⟨k,l,(jdg _ _ b i).trans m,n,o,p⟩)
 exact AnyZ.sorted_in jeu Fence.wide 5 trivial trivial trivial trivial rfl (by omega) (jey _) (enters_of func92 (by kernel_rfl) rfl) 157 #[PP w.heap.size] trivial (enters_of func157 (by kernel_rfl) rfl) _ _ g h _ j
end
open Go.RowKit
def jal (cb:Nat) (w w':World):Prop:=∃mb G,qvq cb mb (qcb 2 2) w' G/\(∀k,G k->w.heap.size<=k)/\Bw w w'/\Gl w'
theorem qsk (w:World) (g:Gl w):Ca 8 #[] w λe w'=>∃cb,e=.returned (PP cb)/\jal cb w w':=by
 have i:=hd1 g;have o:=boxed (jcc w.heap.size w) (.cells #[.pointer none,.map none] 57);have p:=q02 w.heap.size (w.alloc (.cells #[.pointer none,.map none] 57));clear g;go_enter Tryz.func8,Tryz.ntmps8
 go_wp2_with fail
 refine p.mono ?_;rintro e d ⟨rfl,f,j⟩
 have r:(w.alloc (.cells #[.pointer none,.map none] 57)).heap.size=w.heap.size+1:=by simp
 rw[r]at f;have h:=(j.block w.heap.size (by rw[r];omega)).trans (by show (w.heap.push _)[w.heap.size]?=_;exact Array.getElem?_push_size)
 have C:d.cell? (AD w.heap.size 1)=some (.map none):=by rw[Lib.cell_of_heap h];rfl
 have f1:=Lib.frozen_of_heap h 1
 have s:(d.setCell (AD w.heap.size 1) (.map (some (w.heap.size+1)))).heap[w.heap.size]?=some (.cells #[.pointer none,.map (some (w.heap.size+1))] 57 (0,0)):=by simp[World.setCell,Array.getElem?_modify,h]
 have t:=qa o j;have l:Bw w (d.setCell (AD w.heap.size 1) (.map (some (w.heap.size+1)))):=jdz t (jcd _) _;have l1:=f.lt;have u:=qkq 2 2 _ s (i.out.later l);have v:=hd2 (show zm (d.setCell (AD w.heap.size 1) (.map (some (w.heap.size+1)))) (w.heap.size+1) w.heap.size 19 from f.kept (jce _ _ _ _ (by show w.heap.size+1≠w.heap.size;omega))) l;clear t l h s o j f p
 go_wp2_with fail
 refine u.mono ?_;rintro e D (⟨x,rfl,E,n,y,z,B,a⟩|⟨x,_⟩)
 rotate_left
 ·exact absurd (by omega) x
 have F:Hid (jal w.heap.size w D):=by
  obtain⟨m,b⟩:=v.out;have H:=b.size;have G:=m.lt
  have q:∀k,n k->w.heap.size+1<k:=λk c=>by have:=B k c;omega
  refine⟨w.heap.size+1,λk=>k=w.heap.size\/k=w.heap.size+1\/n k,⟨E,n,⟨y,m.kept (a.block _ G (by omega)),z,by omega,λe=>by have:=q _ e;omega,λe=>by have:=q _ e;omega⟩,λ_=>jdl⟩,λk c=>?_,?_,?_⟩
  ·rcases c with rfl|rfl|e
   ·exact jcd _
   ·omega
   have:=q k e;omega
  ·exact⟨a.os.trans b.os,a.tape.trans b.tape,a.output.trans b.output,jcn b.size a.size,λk c=>(a.block k (by omega) (by omega)).trans (b.block k c)⟩
  have I:=i.out.sz;exact(i.out.later b).kept (λk c=>a.block k (by omega) (by omega)) a.size
 clear y z B a u v C f1
 go_wp2
 go_ret;exact⟨_,rfl,F.out⟩
end Go.Proofs.YtoanjdndmlffdaaGreatDoor
