import Derived.Shelf.Strings.OnBuilder
import Derived.Shelf.Strconv.Itoa4
import Derived.Shelf.Strconv.ParseIntPublic10
import Derived.Shelf.Strings.Cut
import Derived.Shelf.Strings.Prefix
import Derived.Shelf.Strings.FieldsFuncAny
import Derived.Shelf.SlIter.Nil
import Derived.Shelf.SortM.Plain
import Derived.Shelf.SortM.SortNone
import Derived.Test.YtbfkeoagmajcpaaGreatDoorSiteC
set_option maxHeartbeats 2000000
set_option maxRecDepth 100000
set_option linter.defProp false
namespace Go.Proofs.YtbfkeoagmajcpaaGreatDoor
section
open _root_.Go.Proofs.Tryz Go.Shelf
def jec:Go.Shelf.Ren:=⟨λ|169=>18|n=>n,λ|70=>50|9=>9|0=>0|72=>53|37=>51|127=>92|3=>3|5=>5|n=>n,λ|n=>n⟩
def je5:Go.Proofs.Lays.n169 prog jec:=by constructor<;>intros<;>kernel_rfl
def jd8:Builder.Extra prog jec:={
 sizeBuilder:=oh
 liesBuilder:=oh
 t5:=underlying5
 a5:=isAgg5
 z5:=sizeOf5
 v5:=zeroValue5
 infoByte:=oh
 cellsByte:=oh
 sizeByte:=oh
 neB5:=oj}
open Go.RowKit in
def jeb:Go.Shelf.Ren:=⟨λ|156=>92|165=>130|166=>15|169=>18|240=>43|241=>166|276=>75|277=>206|n=>n,λ|31=>22|9=>9|3=>3|4=>4|0=>0|20=>20|72=>53|76=>57|70=>50|37=>51|75=>24|127=>92|164=>63|5=>5|80=>60|n=>n,λ|n=>n⟩
def je4:Go.Proofs.Lays.n156 prog jeb:=by constructor<;>intros<;>kernel_rfl
def jd9:Builder.Extra prog jeb:={
 sizeBuilder:=oh
 liesBuilder:=oh
 t5:=underlying5
 a5:=isAgg5
 z5:=sizeOf5
 v5:=zeroValue5
 infoByte:=oh
 cellsByte:=oh
 sizeByte:=oh
 neB5:=oj}
open Go.RowKit in
def jd1 (a o c:Nat) (k:List By) (b:By) (w:Wl) (d:∀(j:Nat) x,k[j]?=some x->w.cell? (AD a (o+j))=some (.string x)) (f:a<w.heap.size) (g:k.length<=140737488355328) (h:k.length<=c) (i:(Lib.join (k.map (·.data.toList)) b.data.toList).length<=140737488355328):
 Ca 92 #[.slice (some (AD a o)) k.length c,.string b] w λe w'=>e=.returned (.string ⟨(Lib.join (k.map (·.data.toList)) b.data.toList).toArray⟩)/\Bw w w':=Any.strings_Join je4 jd9 a o c k b w d f g h i
def jeg:Go.Shelf.Ren:=⟨λ|171=>37|243=>51|246=>78|283=>108|284=>109|285=>110|286=>111|129=>148|317=>147|318=>149|319=>150|320=>151|337=>183|338=>184|n=>n,λ|3=>3|9=>9|2=>2|4=>4|171=>156|0=>0|53=>36|37=>51|5=>5|173=>159|212=>198|51=>39|20=>20|213=>199|46=>46|232=>279|233=>280|n=>n,λ|17=>1|18=>3|19=>4|n=>n⟩
def jex:Go.Proofs.LaysM.n171 prog jeg:=by constructor<;>intros<;>first|kernel_rfl|(constructor<;>intros<;>first|kernel_rfl|(constructor<;>intros<;>kernel_rfl))
open Go.RowKit Go.Sort Go.Lib in
def jej (n:Int) (a: -9223372036854775808<=n) (b:n<=9223372036854775807) (w:Wl) (c:Lib.TabIs prog w "internal/strconv.uint64pow10" .u64 Lib.pow10Tab):
 Ca 37 #[U n] w λe w'=>e=.returned (.string ⟨(Lib.itoa n).toArray⟩)/\∃k d,w'=grow (w.drewN k) d:=Any.strconv_Itoa jex n a b w c
def jei:Go.Shelf.Ren:=⟨λ|173=>187|246=>78|283=>108|284=>109|285=>110|286=>111|129=>148|317=>147|318=>149|319=>150|320=>151|337=>183|338=>184|n=>n,λ|2=>2|3=>3|9=>9|4=>4|171=>156|0=>0|53=>36|37=>51|5=>5|173=>159|212=>198|51=>39|20=>20|213=>199|46=>46|232=>279|233=>280|n=>n,λ|17=>1|18=>3|19=>4|n=>n⟩
def jew:Go.Proofs.LaysM.n173 prog jei:=by constructor<;>intros<;>first|kernel_rfl|(constructor<;>intros<;>first|kernel_rfl|(constructor<;>intros<;>kernel_rfl))
open Go.RowKit Go.Sort Go.Lib in
def jd5 (n:Int) (a: -9223372036854775808<=n) (b:n<=9223372036854775807) (w:Wl) (c:Lib.TabIs prog w "internal/strconv.uint64pow10" .u64 Lib.pow10Tab):
 Ca 187 #[U n,U 10] w λe w'=>e=.returned (.string ⟨(Lib.itoa n).toArray⟩)/\∃k d,w'=grow (w.drewN k) d:=Any.strconv_FormatInt_10 jew n a b w c
def jel:Go.Shelf.Ren:=⟨λ|174=>186|247=>226|245=>227|287=>248|279=>249|280=>250|281=>251|282=>252|321=>260|322=>261|316=>262|171=>37|205=>263|243=>51|246=>78|283=>108|284=>109|285=>110|286=>111|129=>148|317=>147|318=>149|319=>150|320=>151|337=>183|338=>184|n=>n,λ|9=>9|3=>3|2=>2|75=>24|85=>237|4=>4|167=>302|5=>5|53=>36|175=>303|46=>46|168=>305|37=>51|0=>0|210=>316|21=>21|127=>92|145=>322|143=>320|171=>156|173=>159|212=>198|51=>39|20=>20|213=>199|232=>279|233=>280|80=>60|n=>n,λ|15=>5|16=>6|17=>1|18=>3|19=>4|n=>n⟩
def jed:Go.Proofs.LaysC.n174 prog jel:=by constructor<;>intros<;>first|kernel_rfl|(constructor<;>intros<;>first|kernel_rfl|(constructor<;>intros<;>kernel_rfl))
open Go.RowKit in
def jd2 (s:By) (a:s.size<=9223372036854775806) (v:Int) (h:Lib.parseIntB 64 s.data.toList=.ok v) (w:Wl):
 Ca 186 #[.string s,U 10,U 64] w λe w'=>e=.returned (.tuple #[U v,.nilIface])/\(w'=w\/∃t,w'=Lib.bytesWorld w 5 t):=Any.strconv_ParseInt_10_at64_ok jed s a v h w
open Go.RowKit in
def jeh (s:By) (f:s.size<=281474976710656) (g:∀v,Lib.parseIntB 64 s.data.toList≠.ok v) (w:Wl) (a:∃t p,w.cell? (AD 5 0)=some (.iface t p)) (b:∃t p,w.cell? (AD 6 0)=some (.iface t p)):
 Ca 186 #[.string s,U 10,U 64] w λe w'=>∃n N,e=.returned (.tuple #[U n,.iface 305 (PP N)])/\Bw w w':=by
 obtain⟨_,_,a⟩:=a;obtain⟨_,_,b⟩:=b;cases hp:Lib.parseIntB 64 s.data.toList
 .exact absurd hp (g _)
 .exact(Any.strconv_ParseInt_10_at64_syntax jed s f hp _ w a (.inr ⟨_,_,rfl⟩)).mono λe w' ⟨N,c,_,_,d⟩=>⟨_,N,c,d⟩
 exact(Any.strconv_ParseInt_10_at64_range jed s f hp _ w b (.inr ⟨_,_,rfl⟩)).mono λe w' ⟨N,c,_,_,d⟩=>⟨_,N,c,d⟩
def jeo:Go.Shelf.Ren:=⟨λ|145=>42|220=>74|219=>107|217=>143|225=>144|224=>145|267=>146|266=>181|314=>182|n=>n,λ|9=>9|4=>4|59=>87|3=>3|5=>5|46=>46|146=>234|51=>39|n=>n,λ|1=>0|n=>n⟩
def je0:Go.Proofs.Lays.n145 prog jeo:=by constructor<;>intros<;>kernel_rfl
open Go.RowKit Go.Lib in
def jer (s a:By) (m:Int) (w:Wl) (b:s.size<4294967281) (c:w.cell? (AD 0 0)=some (U m)):
 Ca 42 #[.string s,.string a] w λe w'=>e=.returned (.tuple #[.string ⟨(Lib.cut s.data.toList a.data.toList).1.toArray⟩,.string ⟨(Lib.cut s.data.toList a.data.toList).2.1.toArray⟩,.bool (Lib.cut s.data.toList a.data.toList).2.2])/\∃n,w'=w.drewN n:=Any.strings_Cut je0 s a m w b c
def jeq:Go.Shelf.Ren:=⟨λ|102=>41|209=>73|207=>106|n=>n,λ|9=>9|4=>4|3=>3|n=>n,λ|n=>n⟩
def je1:Go.Proofs.Lays.n102 prog jeq:=by constructor<;>intros<;>kernel_rfl
open Go.RowKit Go.Lib in
def jd7 (s p:By) (w:Wl) (a:s.size<=9223372036854775807):
 Ca 41 #[.string s,.string p] w λe w'=>e=.returned (.string ⟨(Lib.trimSuffix s.data.toList p.data.toList).toArray⟩)/\w'=w:=Any.strings_TrimSuffix je1 s p w a
def jep:Go.Shelf.Ren:=⟨λ|229=>76|n=>n,λ|9=>9|40=>104|31=>22|152=>153|3=>3|0=>0|4=>4|21=>21|154=>155|n=>n,λ|n=>n⟩
def je3:Go.Proofs.Lays.n229 prog jep:=by constructor<;>intros<;>kernel_rfl
open Go.RowKit Go.Lib in
def jd4 (g:Nat) (d:Av) (a:∀args w,(callFunc g args).run prog w=.ok (.enter g args) w) (p:Nat->Bool) (s:By) (w:Wl) (b:s.size<=4294967296) (c:PredAtRunes prog g d p w):
 Ca 76 #[.string s,.func (.func g) #[] d] w λe w'=>∃A,e=.returned (.slice (PT A) (Lib.goFieldsP p s).length (Lib.goFieldsP p s).length)/\w.heap.size<=A/\
  w'.ownsRow w.heap.size 9 1 (.slice (PT A) (Lib.goFieldsP p s).length (Lib.goFieldsP p s).length) (Lib.goFieldsP p s).length ((Lib.goFieldsP p s).map Value.string)/\Bw w w':=Any.strings_FieldsFunc_runes je3 g d a p s w b c oh oh
end
section
open _root_.Go.Proofs.Tryz Go.RowKit Go.Maps Go.Sort Go.Shelf
def jea:Go.Shelf.Ren:=⟨λ|7=>94|10=>133|n=>n,λ|23=>80|26=>9|3=>91|28=>55|0=>0|27=>54|33=>85|4=>4|n=>n,λ|n=>n⟩
def jes:Go.Proofs.SlLaysZ.n7 prog jea:={
 mixed:=oh
 f7:=⟨f94.name,oj,func94.trans (congrArg some oh)⟩
 f10:=⟨f133.name,oj,func133.trans (congrArg some oh)⟩
 t0:=underlying0
 a0:=isAgg0
 z0:=sizeOf0
 v0:=zeroValue0
 t4:=underlying4
 a4:=isAgg4
 z4:=sizeOf4
 v4:=zeroValue4
 t23:=underlying80
 a23:=isAgg80
 z23:=sizeOf80
 v23:=zeroValue80
 t26:=underlying9
 a26:=isAgg9
 z26:=sizeOf9
 v26:=zeroValue9
 t27:=underlying54
 a27:=isAgg54
 z27:=sizeOf54
 v27:=zeroValue54
 t28:=underlying55
 a28:=isAgg55
 z28:=sizeOf55
 v28:=zeroValue55
 t33:=underlying85
 a33:=isAgg85
 z33:=sizeOf85
 v33:=zeroValue85}
def jd6:Go.Shelf.Ren:=⟨λ|6=>93|8=>131|9=>132|11=>167|13=>169|12=>168|23=>216|24=>148|14=>207|15=>208|16=>209|17=>210|18=>211|19=>212|20=>213|21=>214|22=>215|25=>239|26=>240|27=>241|28=>242|29=>243|30=>244|31=>258|n=>n,λ|26=>9|28=>55|24=>22|0=>0|3=>3|37=>46|48=>39|50=>36|4=>4|40=>255|39=>254|45=>258|5=>5|9=>9|51=>293|55=>296|57=>312|58=>109|33=>85|n=>n,λ|n=>n⟩
def jeu:Go.Proofs.SlLaysZ.n6 prog jd6:={
 mixed:=oh
 f6:=⟨f93.name,oj,func93.trans (congrArg some oh)⟩
 f8:=⟨f131.name,oj,func131.trans (congrArg some oh)⟩
 f11:=⟨f167.name,oj,func167.trans (congrArg some oh)⟩
 t0:=underlying0
 a0:=isAgg0
 z0:=sizeOf0
 v0:=zeroValue0
 t24:=underlying22
 a24:=isAgg22
 z24:=sizeOf22
 v24:=zeroValue22
 t26:=underlying9
 a26:=isAgg9
 z26:=sizeOf9
 v26:=zeroValue9
 t28:=underlying55
 a28:=isAgg55
 z28:=sizeOf55
 v28:=zeroValue55
 i26:=oh}
def jet:Go.Shelf.Ren:=⟨λ|6=>132|8=>169|9=>168|19=>216|20=>148|21=>207|22=>208|23=>209|24=>210|25=>211|26=>212|27=>213|28=>214|29=>215|36=>239|31=>240|32=>241|37=>242|38=>243|39=>244|41=>258|n=>n,λ|27=>22|29=>9|3=>3|32=>46|26=>22|0=>0|44=>39|46=>36|4=>4|36=>255|35=>254|41=>258|5=>5|9=>9|53=>293|57=>296|63=>312|64=>109|n=>n,λ|n=>n⟩
def jev:Go.Proofs.SlLaysM.n6 prog jet:={
 mixed:=oh
 f6:=⟨f132.name,oj,func132.trans (congrArg some oh)⟩
 f8:=func169.trans (congrArg some oh)
 f9:=⟨f168.name,oj,func168.trans (congrArg some oh)⟩
 f19:=func216.trans (congrArg some oh)
 f20:=func148.trans (congrArg some oh)
 f21:=⟨f207.name,oj,func207.trans (congrArg some oh)⟩
 f22:=⟨f208.name,oj,func208.trans (congrArg some oh)⟩
 f23:=⟨f209.name,oj,func209.trans (congrArg some oh)⟩
 f24:=⟨f210.name,oj,func210.trans (congrArg some oh)⟩
 f25:=⟨f211.name,oj,func211.trans (congrArg some oh)⟩
 f26:=⟨f212.name,oj,func212.trans (congrArg some oh)⟩
 f27:=⟨f213.name,oj,func213.trans (congrArg some oh)⟩
 f28:=⟨f214.name,oj,func214.trans (congrArg some oh)⟩
 f29:=⟨f215.name,oj,func215.trans (congrArg some oh)⟩
 f31:=func240.trans (congrArg some oh)
 f32:=func241.trans (congrArg some oh)
 f36:=⟨f239.name,oj,func239.trans (congrArg some oh)⟩
 f37:=⟨f242.name,oj,func242.trans (congrArg some oh)⟩
 f38:=⟨f243.name,oj,func243.trans (congrArg some oh)⟩
 f39:=⟨f244.name,oj,func244.trans (congrArg some oh)⟩
 f41:=⟨f258.name,oj,func258.trans (congrArg some oh)⟩
 t0:=underlying0
 a0:=isAgg0
 z0:=sizeOf0
 v0:=zeroValue0
 t3:=underlying3
 a3:=isAgg3
 z3:=sizeOf3
 v3:=zeroValue3
 t4:=underlying4
 a4:=isAgg4
 z4:=sizeOf4
 v4:=zeroValue4
 t5:=underlying5
 a5:=isAgg5
 z5:=sizeOf5
 v5:=zeroValue5
 t9:=underlying9
 a9:=isAgg9
 z9:=sizeOf9
 v9:=zeroValue9
 t26:=underlying22
 a26:=isAgg22
 z26:=sizeOf22
 v26:=zeroValue22
 t27:=underlying22
 a27:=isAgg22
 z27:=sizeOf22
 v27:=zeroValue22
 t29:=underlying9
 a29:=isAgg9
 z29:=sizeOf9
 v29:=zeroValue9
 t32:=underlying46
 a32:=isAgg46
 z32:=sizeOf46
 v32:=zeroValue46
 t35:=underlying254
 a35:=isAgg254
 z35:=sizeOf254
 v35:=zeroValue254
 t36:=underlying255
 a36:=isAgg255
 z36:=sizeOf255
 v36:=zeroValue255
 t41:=underlying258
 a41:=isAgg258
 z41:=sizeOf258
 v41:=zeroValue258
 t44:=underlying39
 a44:=isAgg39
 z44:=sizeOf39
 v44:=zeroValue39
 t46:=underlying36
 a46:=isAgg36
 z46:=sizeOf36
 v46:=zeroValue36
 t53:=underlying293
 a53:=isAgg293
 z53:=sizeOf293
 v53:=zeroValue293
 t57:=underlying296
 a57:=isAgg296
 z57:=sizeOf296
 v57:=zeroValue296
 t63:=underlying312
 a63:=isAgg312
 z63:=sizeOf312
 v63:=zeroValue312
 t64:=underlying109
 a64:=isAgg109
 z64:=sizeOf109
 v64:=zeroValue109}
def jey (m:Nat):AnyZ.SortsIn prog jd6 Fence.wide m:=
 ⟨λa b h c W d e f=>callsIn_wide.2 (AnyM.slices_Sort_string jev a b h c W d e f),
  λp h W=>callsIn_wide.2 (AnyM.slices_Sort_string_none jev p h W)⟩
def jef (a:Option Nat) (W:Wl):CallsIn Fence.wide 5 prog 94 #[.map a] W λe w'=>e=.returned (.func (.func 133) #[] #[PP W.heap.size])/\w'=W.alloc (.cells #[.map a] 80):=
 AnyZ.keys_in jes Fence.wide 5 trivial rfl a W
def jd3 {H:Type} (b d:Nat) (a:DataW H) (R:Vl->Option (DataW H×List MemPlace)) (w:Wl) (f:w.ownsMap prog 9 R b d a) (g:Maps.size a<=maxLen) (h:Maps.size a*16<=140737488355328):
 CallsIn Fence.wide 5 prog 93 #[.func (.func 133) #[] #[PP w.heap.size]] (w.alloc (.cells #[.map (some b)] 80)) λe w'=>∃(v:Vl) (c:List (List UInt8)),e=.returned v/\c.Perm (strKeys a)/\
  w'.ownsRow (w.alloc (.cells #[.map (some b)] 80)).heap.size 9 1 v c.length ((c.mergeSort (λx y=>decide (x<=y))).map encStr)/\(v=.slice none 0 0↔c=[])/\Below (w.alloc (.cells #[.map (some b)] 80)).heap.size (w.alloc (.cells #[.map (some b)] 80)) w':=by
 have i:=f.lt;have j:SeqGives Fence.wide 2 prog 133 #[PP w.heap.size] encStr (λc=>c.Perm (strKeys a)) (Maps.size a) (w.alloc (.cells #[.map (some b)] 80)):=
  AnyZ.keys_gives (ρ:=jea) {jes with} Fence.wide _ trivial rfl oe w.heap.size b d a _ oi oi (by
   obtain⟨k,l,m,n,o,p⟩:=f;exact⟨k,l,(jdg _ _ b i).trans m,n,o,p⟩)
 exact AnyZ.sorted_in jeu Fence.wide 5 trivial trivial trivial trivial rfl oe (jey _) (enters_of func132 oh rfl) 133 #[PP w.heap.size] trivial (enters_of func133 oh rfl) _ _ g h _ j
end
open Tryz Go.RowKit
def qht (B b:Nat) (l:List UInt8) (w:Wl) (G:Np):Prop:=
 B<=b/\∃p v,(p=.pointer none\/p=.pointer (PT b))/\w.heap[b]?=some (.cells #[p,v] 53 (0,0))/\w.ownsRow B 5 1 v (Lib.byteCells l).length (Lib.byteCells l)/\v.ownBlock≠some b/\∀k,G k↔(k=b\/v.ownBlock=some k)
variable {B b:Nat} {l:List UInt8} {w:Wl} {G:Np}
def qht.lt (h:qht B b l w G):∀k,G k->k<w.heap.size:=λk a=>by
 obtain⟨_,p,v,_,c,d,_,f⟩:=h;rcases(f k).1 a with rfl|e
 .exact(jcs.1 c).1
 exact(d.lt k e).2
def qht.kept {w':Wl} (h:qht B b l w G) (c:∀k,G k->w'.heap[k]?=w.heap[k]?):qht B b l w' G:=by
 obtain⟨d,p,v,f,g,i,j,a⟩:=h;exact⟨d,p,v,f,(c b ((a b).2 (.inl rfl))).trans g,qf i (λk e=>c k ((a k).2 (.inr e))),j,a⟩
def q2z (B b:Nat) (l:List UInt8):qfr:=⟨λw G=>qht B b l w G,λ_ _ h=>h.lt,λ_ _ _ h hk _=>h.kept hk⟩
def qht.is (h:qht B b l w G):Lib.IsBuilder 53 5 B b (Lib.byteCells l) w:=by
 obtain⟨a,p,v,f,c,d,e,g⟩:=h;obtain rfl|rfl:=f
 .exact .inl ⟨a,v,c,d,e⟩
 exact .inr ⟨a,v,c,d,e⟩
def qt2:(prog.info? 5).map (λi=>(i.zero,i.size,i.bytes))=some (some (.int .u8 0),1,1):=oh
def qz6:(prog.info? 53).map (·.size)=some 2:=oh
def q8h:liesAt prog prog.depth 53 (2/prog.cellsOf 53) 0 53 1=true:=oh
def qpg (b:Nat) (w:Wl) (c:w.cell? (AD b 0)=some (PP b)):
 Ca 43 #[PP b] w λe w'=>e=.returned (.tuple #[])/\w'=w:=by
 obtain⟨j,a,_⟩:=mL.1 qz6;go_enter func43,ntmps43;go_wp2;rw[Lib.run_neq_ptr_same w _ underlying50 a];go_wp2;go_end0;exact⟨rfl,rfl⟩
def qnp (b:Nat) (w:Wl) (f:w.cell? (AD b 0)=some (.pointer none)) (a:w.shape? b=some (53,2)) (g:w.frozen? (AD b 0)=false):
 Ca 43 #[PP b] w λe w'=>e=.returned (.tuple #[])/\w'=w.setCell (AD b 0) (PP b):=by
 obtain⟨j,c,d⟩:=mL.1 qz6;have h:=@run_callFunc_extern prog 75 _ Extern.AbiNoEscape.same func75 oh oh oh oh;have i:=λx w=>Lib.run_noEscape (P:=prog) (w:=w) x;have k:=Lib.run_to_unsafe (P:=prog) w (AD b 0) underlying50 underlying63 c (by rw[d];decide) a (Nat.zero_lt_succ 1);have m:=Lib.run_from_unsafe (P:=prog) w (AD b 0) underlying63 underlying50 c a q8h;go_enter func43,ntmps43
 go_wp2;go_end0;exact⟨rfl,rfl⟩
def qkv (w:Wl) (h:qht B b l w G):
 Ca 43 #[PP b] w λe w'=>e=.returned (.tuple #[])/\∃v,w'.heap[b]?=some (.cells #[PP b,v] 53 (0,0))/\w'.ownsRow B 5 1 v (Lib.byteCells l).length (Lib.byteCells l)/\v.ownBlock≠some b/\(∀k,G k↔(k=b\/v.ownBlock=some k))/\qc G w w':=by
 obtain⟨m,p,v,i,a,g,c,d⟩:=h;obtain rfl|rfl:=i
 .refine(qnp b w (by rw[Lib.cell_of_heap a];rfl) (by simp[World.shape?,a]) (Lib.frozen_of_heap a 0)).mono ?_;rintro e w' ⟨rfl,rfl⟩;refine⟨rfl,v,by simp[World.setCell,Array.getElem?_modify,a],qf g (λk e=>jce _ _ _ _ (λf=>c (by rw[e,f]))),c,d,rfl,rfl,rfl,oF,λk _ j=>jce _ _ _ _ (λf=>j ((d k).2 (.inl f)))⟩
 refine(qpg b w (by rw[Lib.cell_of_heap a];rfl)).mono ?_;rintro e w' ⟨rfl,rfl⟩;exact⟨rfl,v,a,g,c,d,qc.ofBelow (jcc _ _)⟩
def q0u {g:List UInt8} {v A:Vl} {a z:Wl} (p:B<=b) (c:qc G w a) (d:∀k,G k↔(k=b\/v.ownBlock=some k))
 (m:z.heap[b]?=some (.cells #[PP b,v] 53 (0,0))) (n:z.ownsRow B 5 1 A (Lib.byteCells g).length (Lib.byteCells g)) (q:∀k,A.ownBlock=some k->v.ownBlock=some k\/a.heap.size<=k)
 (r:a.heap.size<=z.heap.size/\z.os=a.os/\z.tape=a.tape/\z.output=a.output/\∀k,k<a.heap.size->v.ownBlock≠some k->z.heap[k]?=a.heap[k]?):
 qbi (q2z B b g) w G (z.setCell (AD b 1) A):=by
 have o:=Lib.ownBlock_ne n m oj;obtain⟨s,t,u,x,y⟩:=r;refine⟨λk=>k=b\/A.ownBlock=some k,⟨p,PP b,A,.inr rfl,by simp[World.setCell,Array.getElem?_modify,m],qf n (λk e=>jce _ _ _ _ (λi=>o (by rw[e,i]))),o,λ_=>jdl⟩,λk f=>?_,?_⟩
 .obtain rfl|e:=f
  .exact .inl ((d k).2 (.inl rfl))
  obtain h|h:=q k e
  .exact .inl ((d k).2 (.inr h))
  exact .inr (jcn c.size h)
 refine⟨t.trans c.os,u.trans c.tape,x.trans c.output,jcn c.size (by simp[World.setCell];exact s),λk f j=>?_⟩;rw[jce _ _ _ _ (λi=>j ((d k).2 (.inl i))),y k (jci f c.size) (λe=>j ((d k).2 (.inr e))),c.block k f j]
def qkw (a b:List UInt8):Lib.byteCells (a++b)=Lib.byteCells a++Lib.byteCells b:=by simp[Lib.byteCells]
def qfd (a:List UInt8):(Lib.byteCells a).length=a.length:=by simp[Lib.byteCells]
variable {P:Pq}
def qqm (w:Wl) (r:Nat) (t u c e:Tp) (i:TypeInfo) (d:P.underlying t=some (.slice e)) (f:P.underlying u=some .string) (M:P.info? e=some i) (m:i.zero=some (.int .u8 0)) (h:i.size=1) (o:i.bytes=1)
 (v:Vl) (n:Nat) (N:Lv) (j:w.ownsRow r e 1 v n N) (s:By) (x:n+s.size<=maxLen) (D:n+s.size<=140737488355328):
 ∃R w',(Builtin.append_ #[t,u] c #[v,.string s]).run P w=.ok R w'/\∀k,R.ownBlock=some k->v.ownBlock=some k\/k=w.heap.size:=by
 have E:n+s.size<=9223372036854775807:=by simp only[maxLen]at x;omega
 have y:N.length=n:=by simpa using j.1
 obtain⟨rfl,rfl⟩|⟨g,L,O,rfl,F,z,H,I,J,K⟩:=j.2
 .by_cases p:s.size=0
  .refine⟨.slice none 0 0,w,?_,λk a=>.inl a⟩;have q:=Lib.run_firstCells_string (P:=P) w 1 s;rw[p]at q;simp[Builtin.append_,run_underlying d,run_underlying f,sizeOf,typeInfo,M,h,Builtin.lenOf,p,q]
  exact⟨_,_,run_append_nil_string (P:=P) w t u c e i (.int .u8 0) d f M m s oe oe (by rw[o];omega),λk a=>.inr (by simpa[Value.ownBlock,eq_comm]using a)⟩
 by_cases A:n+s.size<=L
 .exact⟨_,_,Lib.run_append_room_string (P:=P) w t u c e i d f M h g n L O z s A oe,λk a=>.inl (by simpa[Value.ownBlock]using a)⟩
 have C:=j.cells (g:=g) rfl;exact⟨_,_,Lib.run_append_grow_string (P:=P) w t u c e i (.int .u8 0) d f M m (AD g 0) n L N (by rw[h];simpa using y) C s oe oe (by rw[o];exact growslice_fits oe oe),λk a=>.inr (by simpa[Value.ownBlock,eq_comm]using a)⟩
def ql8 (w:Wl) {d:Array Oper} {rest:List Oper} {o:Oper} {a:Act} {Q:Exit->Act->Wv} (D:o.guard=none) (f x:Operand) (t u:Tp)
 (E:o.op=.call {callee:=.builtin .append,args:=#[f,x],argTypes:=#[t,u]})
 (c:Nat) (e:Tp) (i:TypeInfo) (g:P.underlying t=some (.slice e)) (j:P.underlying u=some .string) (X:P.info? e=some i) (m:i.zero=some (.int .u8 0))
 (p:i.size=1) (q:i.bytes=1)
 (v:Vl) (n:Nat) (V:Lv) (F:a.eval f=v) (r:w.ownsRow c e 1 v n V) (s:By) (H:a.eval x=.string s)
 (y:n+s.size<=maxLen) (z:n+s.size<=140737488355328) (I:c<=w.heap.size)
 (h:∀T w',w'.ownsRow c e 1 T (n+s.size) (V++Lib.strCells s)->w.grownBy w' v.ownBlock->(∀k,T.ownBlock=some k->v.ownBlock=some k\/k=w.heap.size)->wpList P d Q rest (a.put o.dst T) w'):wpList P d Q (o::rest) a w:=by
 refine wpList_plain D λK J=>?_;obtain⟨T,w',A,L,M,O⟩:=Lib.run_append_own_string (P:=P) w c t u o.type e i g j X m p q v n V r s y z I;obtain⟨R,Y,C,N⟩:=qqm (P:=P) w c t u o.type e i g j X m p q v n V r s y z;rw[A]at C;injection C with e1 e2;subst e1;unfold Oper.wp execOp;simp only[E,resolve,invoke,builtin,Sem.run_bind,Sem.run_pure,Result.andThen_ok,List.map_toArray,List.map_cons,List.map_nil,F,H,A];exact J _ _ (h T w' L M N)
def qnq (s:By) (w:Wl) (h:qht B b l w G) (J:l.length+s.size<=140737488355328) (K:B<=w.heap.size):
 Ca 15 #[PP b,.string s] w λe w'=>e=.returned (.tuple #[U s.size,.nilIface])/\qbi (q2z B b (l++s.data.toList)) w G w':=by
 obtain⟨u,O,x,y,z⟩:=info_parts qt2;have o:=qkv w h;have C:=hd1 h.1;clear h;go_enter func15,ntmps15;go_wp2_with fail
 refine o.mono ?_;clear o;rintro e D ⟨rfl,v,c,p,q,r,f⟩;have L:D.cell? (AD b 1)=some v:=by rw[Lib.cell_of_heap c];rfl
 go_wp2_with (at_builtin;refine ql8 _ rfl _ _ 51 9 rfl B 5 u underlying51 underlying9 O x y z _ _ _ rfl p s rfl ?c3 ?c4 ?c5 ?_)
 case c3=>rw[qfd];unfold maxLen;omega
 case c4=>rw[qfd];omega
 case c5=>have:=f.size;omega
 intro R N i a t;have E:=(jcs.1 c).1;have d:=(a.block b E (λe=>q e.symm)).trans c;have M:N.cell? (AD b 1)=some v:=by rw[Lib.cell_of_heap d];rfl
 have V:=Lib.frozen_of_heap d 1;obtain⟨j,m,A,rfl⟩:∃j m A,R=.slice j m A:=by
  obtain⟨n,_⟩|⟨g,A,T,n,_⟩:=i.2
  .exact⟨_,_,_,n⟩
  exact⟨_,_,_,n⟩
 have F:Hid (qbi (q2z B b (l++s.data.toList)) w G (N.setCell (AD b 1) (.slice j m A))):=
  q0u C.out f r d (by rw[qkw,jcl];simpa[Lib.strCells_length,Lib.strCells,Lib.byteCells]using i) (λk e=>(t k e).imp_right (λe=>oe)) ⟨a.size,a.os,a.tape,a.output,λk H I=>a.block k H (λe=>I e.symm)⟩
 clear i a t r f p c q d;go_wp2;go_ret2;exact⟨rfl,F.out⟩
def qql (c:UInt8) (z:Int) (o:z=c.toNat) (w:Wl) (h:qht B b l w G) (O:l.length+1<=140737488355328) (Q:B<=w.heap.size):
 Ca 17 #[PP b,.int .u8 z] w λe w'=>e=.returned .nilIface/\qbi (q2z B b (l++[c])) w G w':=by
 obtain⟨D,V,E,F,H⟩:=info_parts qt2;have p:=qkv w h;have I:=hd1 h.1;have J:=hd1 o;clear h o;go_enter func17,ntmps17;go_wp2_with fail
 refine p.mono ?_;clear p;rintro e d ⟨rfl,v,f,q,r,s,n⟩;have K:=(jcs.1 f).1;have t:d.cell? (AD b 1)=some v:=by rw[Lib.cell_of_heap f];rfl
 go_wp2_with (at_builtin;refine wpList_append_lies _ rfl _ _ 51 rfl B 5 D (.int .u8 0) 1 1 underlying51 V E F H rfl oj _ _ _ rfl (q.alloc _) (AD d.heap.size 0) 1 1 [.int .u8 z] rfl rfl ?t ?c2 oj ?c3 ?c4 ?c5 _ rfl ?_)
 case t=>
  intro j u i;match j,i with
  |0,i=>simp at i;subst i;simp[Addr.add]
 case c2=>intro u x;simp at x;subst x;rfl
 case c3=>rw[qfd];unfold maxLen;omega
 case c4=>rw[qfd];omega
 case c5=>have:=n.size;simp;omega
 intro g A T y a C R;have m:T.heap[b]?=some (.cells #[PP b,v] 53 (0,0)):=by
  rw[a.block b ou (λe=>r e.symm),Lib.alloc_old d _ b K];exact f
 have S:T.cell? (AD b 1)=some v:=by rw[Lib.cell_of_heap m];rfl
 have X:=Lib.frozen_of_heap m 1;have L:Hid (qbi (q2z B b (l++[c])) w G (T.setCell (AD b 1) (.slice (PT g) ((Lib.byteCells l).length+1) A))):=
  q0u I.out n s m (by rw[qkw,jcl];simpa[Lib.byteCells,J.out]using y) (λk e=>by
   simp[Value.ownBlock]at e;subst e;obtain h|h:=C
   .exact .inl h
   exact .inr (by rw[h];simp)) ⟨by have:=a.size;simp at this;omega,a.os,a.tape,a.output,λk M N=>(a.block k ou (λe=>N e.symm)).trans (Lib.alloc_old d _ k M)⟩
 clear y a C s n q f r m;go_wp2;go_ret;exact⟨rfl,L.out⟩
end Go.Proofs.YtbfkeoagmajcpaaGreatDoor
