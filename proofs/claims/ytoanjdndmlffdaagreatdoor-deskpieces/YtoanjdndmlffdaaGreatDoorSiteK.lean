import Derived.Shelf.Strings.OnBuilder
import Derived.Shelf.Strconv.Itoa4
import Derived.Shelf.Strconv.ParseIntPublic10
import Derived.Shelf.Strings.Cut
import Derived.Shelf.Strings.Prefix
import Derived.Shelf.Strings.FieldsFuncAny
import Derived.Shelf.SlIter.Nil
import Derived.Shelf.SortM.Plain
import Derived.Shelf.SortM.SortNone
import Derived.Test.YtoanjdndmlffdaaGreatDoorSiteO
import Derived.Test.YtoanjdndmlffdaaGreatDoorTellB
import Derived.Lib.AppendIntMem
import Derived.Test.YtoanjdndmlffdaaGreatDoorWoQ
import Derived.Test.YtoanjdndmlffdaaGreatDoorWoP
import Derived.Lib.ItoaLen
namespace Go.Proofs.YtoanjdndmlffdaaGreatDoor
section
open Go.Shelf
def Tryz.lays169_ren : Go.Shelf.Ren := ⟨fun | 169 => 13 | n => n, fun | 70 => 29 | 9 => 9 | 0 => 0 | 72 => 32 | 37 => 30 | 127 => 66 | 3 => 3 | 5 => 5 | n => n, fun | n => n⟩
theorem Tryz.lays169 : Go.Proofs.Lays.n169 Tryz.prog Tryz.lays169_ren := {
  mixed := by kernel_rfl
  f169 := Tryz.func13.trans (congrArg some (by kernel_rfl))
  t0 := Tryz.underlying0
  a0 := Tryz.isAgg0
  z0 := Tryz.sizeOf0
  v0 := Tryz.zeroValue0
  t3 := Tryz.underlying3
  a3 := Tryz.isAgg3
  z3 := Tryz.sizeOf3
  v3 := Tryz.zeroValue3
  t9 := Tryz.underlying9
  a9 := Tryz.isAgg9
  z9 := Tryz.sizeOf9
  v9 := Tryz.zeroValue9
  t37 := Tryz.underlying30
  a37 := Tryz.isAgg30
  z37 := Tryz.sizeOf30
  v37 := Tryz.zeroValue30
  t70 := Tryz.underlying29
  a70 := Tryz.isAgg29
  z70 := Tryz.sizeOf29
  v70 := Tryz.zeroValue29
  t72 := Tryz.underlying32
  a72 := Tryz.isAgg32
  z72 := Tryz.sizeOf32
  v72 := Tryz.zeroValue32
  t127 := Tryz.underlying66
  a127 := Tryz.isAgg66
  z127 := Tryz.sizeOf66
  v127 := Tryz.zeroValue66 }
theorem Tryz.Builder_Extra_169 : Builder.Extra Tryz.prog Tryz.lays169_ren := {
  sizeBuilder := by kernel_rfl
  liesBuilder := by kernel_rfl
  t5 := Tryz.underlying5
  a5 := Tryz.isAgg5
  z5 := Tryz.sizeOf5
  v5 := Tryz.zeroValue5
  infoByte := by kernel_rfl
  cellsByte := by kernel_rfl
  sizeByte := by kernel_rfl
  neB5 := by decide }
open Go.RowKit in
def Tryz.lays156_ren : Go.Shelf.Ren := ⟨fun | 156 => 42 | 165 => 90 | 166 => 10 | 169 => 13 | 240 => 24 | 241 => 131 | 276 => 69 | 277 => 184 | n => n, fun | 31 => 42 | 9 => 9 | 3 => 3 | 4 => 4 | 0 => 0 | 20 => 20 | 72 => 32 | 76 => 38 | 70 => 29 | 37 => 30 | 75 => 37 | 127 => 66 | 164 => 117 | 5 => 5 | 80 => 41 | n => n, fun | n => n⟩
theorem Tryz.lays156 : Go.Proofs.Lays.n156 Tryz.prog Tryz.lays156_ren := {
  mixed := by kernel_rfl
  f156 := Tryz.func42.trans (congrArg some (by kernel_rfl))
  f165 := Tryz.func90.trans (congrArg some (by kernel_rfl))
  f166 := Tryz.func10.trans (congrArg some (by kernel_rfl))
  f169 := Tryz.func13.trans (congrArg some (by kernel_rfl))
  f240 := Tryz.func24.trans (congrArg some (by kernel_rfl))
  f241 := Tryz.func131.trans (congrArg some (by kernel_rfl))
  f276 := Tryz.func69.trans (congrArg some (by kernel_rfl))
  f277 := Tryz.func184.trans (congrArg some (by kernel_rfl))
  t0 := Tryz.underlying0
  a0 := Tryz.isAgg0
  z0 := Tryz.sizeOf0
  v0 := Tryz.zeroValue0
  t3 := Tryz.underlying3
  a3 := Tryz.isAgg3
  z3 := Tryz.sizeOf3
  v3 := Tryz.zeroValue3
  t4 := Tryz.underlying4
  a4 := Tryz.isAgg4
  z4 := Tryz.sizeOf4
  v4 := Tryz.zeroValue4
  t9 := Tryz.underlying9
  a9 := Tryz.isAgg9
  z9 := Tryz.sizeOf9
  v9 := Tryz.zeroValue9
  t20 := Tryz.underlying20
  a20 := Tryz.isAgg20
  z20 := Tryz.sizeOf20
  v20 := Tryz.zeroValue20
  t31 := Tryz.underlying42
  a31 := Tryz.isAgg42
  z31 := Tryz.sizeOf42
  v31 := Tryz.zeroValue42
  t37 := Tryz.underlying30
  a37 := Tryz.isAgg30
  z37 := Tryz.sizeOf30
  v37 := Tryz.zeroValue30
  t70 := Tryz.underlying29
  a70 := Tryz.isAgg29
  z70 := Tryz.sizeOf29
  v70 := Tryz.zeroValue29
  t72 := Tryz.underlying32
  a72 := Tryz.isAgg32
  z72 := Tryz.sizeOf32
  v72 := Tryz.zeroValue32
  t75 := Tryz.underlying37
  a75 := Tryz.isAgg37
  z75 := Tryz.sizeOf37
  v75 := Tryz.zeroValue37
  t76 := Tryz.underlying38
  a76 := Tryz.isAgg38
  z76 := Tryz.sizeOf38
  v76 := Tryz.zeroValue38
  t127 := Tryz.underlying66
  a127 := Tryz.isAgg66
  z127 := Tryz.sizeOf66
  v127 := Tryz.zeroValue66
  t164 := Tryz.underlying117
  a164 := Tryz.isAgg117
  z164 := Tryz.sizeOf117
  v164 := Tryz.zeroValue117 }
theorem Tryz.Builder_Extra_156 : Builder.Extra Tryz.prog Tryz.lays156_ren := {
  sizeBuilder := by kernel_rfl
  liesBuilder := by kernel_rfl
  t5 := Tryz.underlying5
  a5 := Tryz.isAgg5
  z5 := Tryz.sizeOf5
  v5 := Tryz.zeroValue5
  infoByte := by kernel_rfl
  cellsByte := by kernel_rfl
  sizeByte := by kernel_rfl
  neB5 := by decide }
open Go.RowKit in
theorem Tryz.strings_Join (bk o c : Nat) (xs : List ByteArray) (sep : ByteArray) (w : World) (hcells : ∀ (j : Nat) x, xs[j]? = some x → w.cell? ⟨bk, o + j, none⟩ = some (.string x)) (hbk : bk < w.heap.size) (hN : xs.length ≤ 140737488355328) (hcap : xs.length ≤ c) (hlen : (Lib.join (xs.map (·.data.toList)) sep.data.toList).length ≤ 140737488355328) :
    Calls Tryz.prog 42 #[.slice (some ⟨bk, o, none⟩) xs.length c, .string sep] w fun e w' => e = .returned (.string ⟨(Lib.join (xs.map (·.data.toList)) sep.data.toList).toArray⟩) ∧ Below w.heap.size w w' := Any.strings_Join Tryz.lays156 Tryz.Builder_Extra_156 bk o c xs sep w hcells hbk hN hcap hlen
def Tryz.laysM171_ren : Go.Shelf.Ren := ⟨fun | 171 => 18 | 243 => 45 | 246 => 93 | 283 => 134 | 284 => 135 | 285 => 136 | 286 => 137 | 129 => 195 | 317 => 196 | 318 => 197 | 319 => 198 | 320 => 199 | 337 => 238 | 338 => 239 | n => n, fun | 3 => 3 | 9 => 9 | 2 => 2 | 4 => 4 | 171 => 191 | 0 => 0 | 53 => 192 | 37 => 30 | 5 => 5 | 173 => 195 | 212 => 252 | 51 => 250 | 20 => 20 | 213 => 253 | 46 => 190 | 232 => 329 | 233 => 330 | n => n, fun | 17 => 2 | 18 => 8 | 19 => 9 | n => n⟩
theorem Tryz.laysM171 : Go.Proofs.LaysM.n171 Tryz.prog Tryz.laysM171_ren := {
  mixed := by kernel_rfl
  f129 := Tryz.func195.trans (congrArg some (by kernel_rfl))
  f171 := Tryz.func18.trans (congrArg some (by kernel_rfl))
  f243 := Tryz.func45.trans (congrArg some (by kernel_rfl))
  f246 := Tryz.func93.trans (congrArg some (by kernel_rfl))
  f283 := Tryz.func134.trans (congrArg some (by kernel_rfl))
  f284 := Tryz.func135.trans (congrArg some (by kernel_rfl))
  f285 := Tryz.func136.trans (congrArg some (by kernel_rfl))
  f286 := Tryz.func137.trans (congrArg some (by kernel_rfl))
  f317 := Tryz.func196.trans (congrArg some (by kernel_rfl))
  f318 := Tryz.func197.trans (congrArg some (by kernel_rfl))
  f319 := Tryz.func198.trans (congrArg some (by kernel_rfl))
  f320 := Tryz.func199.trans (congrArg some (by kernel_rfl))
  f337 := Tryz.func238.trans (congrArg some (by kernel_rfl))
  f338 := Tryz.func239.trans (congrArg some (by kernel_rfl))
  t0 := Tryz.underlying0
  a0 := Tryz.isAgg0
  z0 := Tryz.sizeOf0
  v0 := Tryz.zeroValue0
  t2 := Tryz.underlying2
  a2 := Tryz.isAgg2
  z2 := Tryz.sizeOf2
  v2 := Tryz.zeroValue2
  t3 := Tryz.underlying3
  a3 := Tryz.isAgg3
  z3 := Tryz.sizeOf3
  v3 := Tryz.zeroValue3
  t4 := Tryz.underlying4
  a4 := Tryz.isAgg4
  z4 := Tryz.sizeOf4
  v4 := Tryz.zeroValue4
  t5 := Tryz.underlying5
  a5 := Tryz.isAgg5
  z5 := Tryz.sizeOf5
  v5 := Tryz.zeroValue5
  t9 := Tryz.underlying9
  a9 := Tryz.isAgg9
  z9 := Tryz.sizeOf9
  v9 := Tryz.zeroValue9
  t20 := Tryz.underlying20
  a20 := Tryz.isAgg20
  z20 := Tryz.sizeOf20
  v20 := Tryz.zeroValue20
  t37 := Tryz.underlying30
  a37 := Tryz.isAgg30
  z37 := Tryz.sizeOf30
  v37 := Tryz.zeroValue30
  t46 := Tryz.underlying190
  a46 := Tryz.isAgg190
  z46 := Tryz.sizeOf190
  v46 := Tryz.zeroValue190
  t51 := Tryz.underlying250
  a51 := Tryz.isAgg250
  z51 := Tryz.sizeOf250
  v51 := Tryz.zeroValue250
  t53 := Tryz.underlying192
  a53 := Tryz.isAgg192
  z53 := Tryz.sizeOf192
  v53 := Tryz.zeroValue192
  t171 := Tryz.underlying191
  a171 := Tryz.isAgg191
  z171 := Tryz.sizeOf191
  v171 := Tryz.zeroValue191
  t173 := Tryz.underlying195
  a173 := Tryz.isAgg195
  z173 := Tryz.sizeOf195
  v173 := Tryz.zeroValue195
  t212 := Tryz.underlying252
  a212 := Tryz.isAgg252
  z212 := Tryz.sizeOf252
  v212 := Tryz.zeroValue252
  t213 := Tryz.underlying253
  a213 := Tryz.isAgg253
  z213 := Tryz.sizeOf253
  t232 := Tryz.underlying329
  a232 := Tryz.isAgg329
  z232 := Tryz.sizeOf329
  v232 := Tryz.zeroValue329
  t233 := Tryz.underlying330
  a233 := Tryz.isAgg330
  z233 := Tryz.sizeOf330
  v233 := Tryz.zeroValue330
  g17 := by kernel_rfl
  g18 := by kernel_rfl
  g19 := by kernel_rfl
  i0 := by kernel_rfl
  i2 := by kernel_rfl
  i3 := by kernel_rfl
  i4 := by kernel_rfl
  i5 := by kernel_rfl
  i9 := by kernel_rfl
  i20 := by kernel_rfl
  i37 := by kernel_rfl
  i46 := by kernel_rfl
  i51 := by kernel_rfl
  i53 := by kernel_rfl
  i171 := by kernel_rfl
  i173 := by kernel_rfl
  i212 := by kernel_rfl
  i232 := by kernel_rfl
  i233 := by kernel_rfl
  m17 := by kernel_rfl
  m18 := by kernel_rfl
  m19 := by kernel_rfl }
open Go.RowKit Go.Sort Go.Lib in
theorem Tryz.strconv_Itoa (n : Int) (h0 : -9223372036854775808 ≤ n) (h1 : n ≤ 9223372036854775807) (w : World) (htab : Lib.TabIs Tryz.prog w "internal/strconv.uint64pow10" .u64 Lib.pow10Tab) :
    Calls Tryz.prog 18 #[.int .i64 n] w fun e w' => e = .returned (.string ⟨(Lib.itoa n).toArray⟩) ∧ ∃ k os, w' = grow (w.drewN k) os := Any.strconv_Itoa Tryz.laysM171 n h0 h1 w htab
def Tryz.laysM173_ren : Go.Shelf.Ren := ⟨fun | 173 => 76 | 246 => 93 | 283 => 134 | 284 => 135 | 285 => 136 | 286 => 137 | 129 => 195 | 317 => 196 | 318 => 197 | 319 => 198 | 320 => 199 | 337 => 238 | 338 => 239 | n => n, fun | 2 => 2 | 3 => 3 | 9 => 9 | 4 => 4 | 171 => 191 | 0 => 0 | 53 => 192 | 37 => 30 | 5 => 5 | 173 => 195 | 212 => 252 | 51 => 250 | 20 => 20 | 213 => 253 | 46 => 190 | 232 => 329 | 233 => 330 | n => n, fun | 17 => 2 | 18 => 8 | 19 => 9 | n => n⟩
theorem Tryz.laysM173 : Go.Proofs.LaysM.n173 Tryz.prog Tryz.laysM173_ren := {
  mixed := by kernel_rfl
  f129 := Tryz.func195.trans (congrArg some (by kernel_rfl))
  f173 := Tryz.func76.trans (congrArg some (by kernel_rfl))
  f246 := Tryz.func93.trans (congrArg some (by kernel_rfl))
  f283 := Tryz.func134.trans (congrArg some (by kernel_rfl))
  f284 := Tryz.func135.trans (congrArg some (by kernel_rfl))
  f285 := Tryz.func136.trans (congrArg some (by kernel_rfl))
  f286 := Tryz.func137.trans (congrArg some (by kernel_rfl))
  f317 := Tryz.func196.trans (congrArg some (by kernel_rfl))
  f318 := Tryz.func197.trans (congrArg some (by kernel_rfl))
  f319 := Tryz.func198.trans (congrArg some (by kernel_rfl))
  f320 := Tryz.func199.trans (congrArg some (by kernel_rfl))
  f337 := Tryz.func238.trans (congrArg some (by kernel_rfl))
  f338 := Tryz.func239.trans (congrArg some (by kernel_rfl))
  t0 := Tryz.underlying0
  a0 := Tryz.isAgg0
  z0 := Tryz.sizeOf0
  v0 := Tryz.zeroValue0
  t2 := Tryz.underlying2
  a2 := Tryz.isAgg2
  z2 := Tryz.sizeOf2
  v2 := Tryz.zeroValue2
  t3 := Tryz.underlying3
  a3 := Tryz.isAgg3
  z3 := Tryz.sizeOf3
  v3 := Tryz.zeroValue3
  t4 := Tryz.underlying4
  a4 := Tryz.isAgg4
  z4 := Tryz.sizeOf4
  v4 := Tryz.zeroValue4
  t5 := Tryz.underlying5
  a5 := Tryz.isAgg5
  z5 := Tryz.sizeOf5
  v5 := Tryz.zeroValue5
  t9 := Tryz.underlying9
  a9 := Tryz.isAgg9
  z9 := Tryz.sizeOf9
  v9 := Tryz.zeroValue9
  t20 := Tryz.underlying20
  a20 := Tryz.isAgg20
  z20 := Tryz.sizeOf20
  v20 := Tryz.zeroValue20
  t37 := Tryz.underlying30
  a37 := Tryz.isAgg30
  z37 := Tryz.sizeOf30
  v37 := Tryz.zeroValue30
  t46 := Tryz.underlying190
  a46 := Tryz.isAgg190
  z46 := Tryz.sizeOf190
  v46 := Tryz.zeroValue190
  t51 := Tryz.underlying250
  a51 := Tryz.isAgg250
  z51 := Tryz.sizeOf250
  v51 := Tryz.zeroValue250
  t53 := Tryz.underlying192
  a53 := Tryz.isAgg192
  z53 := Tryz.sizeOf192
  v53 := Tryz.zeroValue192
  t171 := Tryz.underlying191
  a171 := Tryz.isAgg191
  z171 := Tryz.sizeOf191
  v171 := Tryz.zeroValue191
  t173 := Tryz.underlying195
  a173 := Tryz.isAgg195
  z173 := Tryz.sizeOf195
  v173 := Tryz.zeroValue195
  t212 := Tryz.underlying252
  a212 := Tryz.isAgg252
  z212 := Tryz.sizeOf252
  v212 := Tryz.zeroValue252
  t213 := Tryz.underlying253
  a213 := Tryz.isAgg253
  z213 := Tryz.sizeOf253
  t232 := Tryz.underlying329
  a232 := Tryz.isAgg329
  z232 := Tryz.sizeOf329
  v232 := Tryz.zeroValue329
  t233 := Tryz.underlying330
  a233 := Tryz.isAgg330
  z233 := Tryz.sizeOf330
  v233 := Tryz.zeroValue330
  g17 := by kernel_rfl
  g18 := by kernel_rfl
  g19 := by kernel_rfl
  i0 := by kernel_rfl
  i2 := by kernel_rfl
  i3 := by kernel_rfl
  i4 := by kernel_rfl
  i5 := by kernel_rfl
  i9 := by kernel_rfl
  i20 := by kernel_rfl
  i37 := by kernel_rfl
  i46 := by kernel_rfl
  i51 := by kernel_rfl
  i53 := by kernel_rfl
  i171 := by kernel_rfl
  i173 := by kernel_rfl
  i212 := by kernel_rfl
  i232 := by kernel_rfl
  i233 := by kernel_rfl
  m17 := by kernel_rfl
  m18 := by kernel_rfl
  m19 := by kernel_rfl }
open Go.RowKit Go.Sort Go.Lib in
theorem Tryz.strconv_FormatInt_10 (n : Int) (h0 : -9223372036854775808 ≤ n) (h1 : n ≤ 9223372036854775807) (w : World) (htab : Lib.TabIs Tryz.prog w "internal/strconv.uint64pow10" .u64 Lib.pow10Tab) :
    Calls Tryz.prog 76 #[.int .i64 n, .int .i64 10] w fun e w' => e = .returned (.string ⟨(Lib.itoa n).toArray⟩) ∧ ∃ k os, w' = grow (w.drewN k) os := Any.strconv_FormatInt_10 Tryz.laysM173 n h0 h1 w htab
def Tryz.laysC174_ren : Go.Shelf.Ren := ⟨fun | 174 => 75 | 247 => 125 | 245 => 126 | 287 => 172 | 279 => 173 | 280 => 174 | 281 => 175 | 282 => 176 | 321 => 228 | 322 => 229 | 316 => 230 | 171 => 18 | 205 => 231 | 243 => 45 | 246 => 93 | 283 => 134 | 284 => 135 | 285 => 136 | 286 => 137 | 129 => 195 | 317 => 196 | 318 => 197 | 319 => 198 | 320 => 199 | 337 => 238 | 338 => 239 | n => n, fun | 9 => 9 | 3 => 3 | 2 => 2 | 75 => 37 | 85 => 123 | 4 => 4 | 167 => 227 | 5 => 5 | 53 => 192 | 175 => 228 | 46 => 190 | 168 => 230 | 37 => 30 | 0 => 0 | 210 => 287 | 21 => 21 | 127 => 66 | 145 => 326 | 143 => 324 | 171 => 191 | 173 => 195 | 212 => 252 | 51 => 250 | 20 => 20 | 213 => 253 | 232 => 329 | 233 => 330 | 80 => 41 | n => n, fun | 15 => 6 | 16 => 7 | 17 => 2 | 18 => 8 | 19 => 9 | n => n⟩
theorem Tryz.laysC174 : Go.Proofs.LaysC.n174 Tryz.prog Tryz.laysC174_ren := {
  mixed := by kernel_rfl
  f129 := Tryz.func195.trans (congrArg some (by kernel_rfl))
  f171 := Tryz.func18.trans (congrArg some (by kernel_rfl))
  f174 := Tryz.func75.trans (congrArg some (by kernel_rfl))
  f205 := Tryz.func231.trans (congrArg some (by kernel_rfl))
  f243 := Tryz.func45.trans (congrArg some (by kernel_rfl))
  f245 := Tryz.func126.trans (congrArg some (by kernel_rfl))
  f246 := Tryz.func93.trans (congrArg some (by kernel_rfl))
  f247 := Tryz.func125.trans (congrArg some (by kernel_rfl))
  f279 := Tryz.func173.trans (congrArg some (by kernel_rfl))
  f280 := Tryz.func174.trans (congrArg some (by kernel_rfl))
  f281 := Tryz.func175.trans (congrArg some (by kernel_rfl))
  f282 := Tryz.func176.trans (congrArg some (by kernel_rfl))
  f283 := Tryz.func134.trans (congrArg some (by kernel_rfl))
  f284 := Tryz.func135.trans (congrArg some (by kernel_rfl))
  f285 := Tryz.func136.trans (congrArg some (by kernel_rfl))
  f286 := Tryz.func137.trans (congrArg some (by kernel_rfl))
  f287 := Tryz.func172.trans (congrArg some (by kernel_rfl))
  f316 := Tryz.func230.trans (congrArg some (by kernel_rfl))
  f317 := Tryz.func196.trans (congrArg some (by kernel_rfl))
  f318 := Tryz.func197.trans (congrArg some (by kernel_rfl))
  f319 := Tryz.func198.trans (congrArg some (by kernel_rfl))
  f320 := Tryz.func199.trans (congrArg some (by kernel_rfl))
  f321 := Tryz.func228.trans (congrArg some (by kernel_rfl))
  f322 := Tryz.func229.trans (congrArg some (by kernel_rfl))
  f337 := Tryz.func238.trans (congrArg some (by kernel_rfl))
  f338 := Tryz.func239.trans (congrArg some (by kernel_rfl))
  t0 := Tryz.underlying0
  a0 := Tryz.isAgg0
  z0 := Tryz.sizeOf0
  v0 := Tryz.zeroValue0
  t2 := Tryz.underlying2
  a2 := Tryz.isAgg2
  z2 := Tryz.sizeOf2
  v2 := Tryz.zeroValue2
  t3 := Tryz.underlying3
  a3 := Tryz.isAgg3
  z3 := Tryz.sizeOf3
  v3 := Tryz.zeroValue3
  t4 := Tryz.underlying4
  a4 := Tryz.isAgg4
  z4 := Tryz.sizeOf4
  v4 := Tryz.zeroValue4
  t5 := Tryz.underlying5
  a5 := Tryz.isAgg5
  z5 := Tryz.sizeOf5
  v5 := Tryz.zeroValue5
  t9 := Tryz.underlying9
  a9 := Tryz.isAgg9
  z9 := Tryz.sizeOf9
  v9 := Tryz.zeroValue9
  t20 := Tryz.underlying20
  a20 := Tryz.isAgg20
  z20 := Tryz.sizeOf20
  v20 := Tryz.zeroValue20
  t21 := Tryz.underlying21
  a21 := Tryz.isAgg21
  z21 := Tryz.sizeOf21
  v21 := Tryz.zeroValue21
  t37 := Tryz.underlying30
  a37 := Tryz.isAgg30
  z37 := Tryz.sizeOf30
  v37 := Tryz.zeroValue30
  t46 := Tryz.underlying190
  a46 := Tryz.isAgg190
  z46 := Tryz.sizeOf190
  v46 := Tryz.zeroValue190
  t51 := Tryz.underlying250
  a51 := Tryz.isAgg250
  z51 := Tryz.sizeOf250
  v51 := Tryz.zeroValue250
  t53 := Tryz.underlying192
  a53 := Tryz.isAgg192
  z53 := Tryz.sizeOf192
  v53 := Tryz.zeroValue192
  t75 := Tryz.underlying37
  a75 := Tryz.isAgg37
  z75 := Tryz.sizeOf37
  v75 := Tryz.zeroValue37
  t85 := Tryz.underlying123
  a85 := Tryz.isAgg123
  z85 := Tryz.sizeOf123
  v85 := Tryz.zeroValue123
  t127 := Tryz.underlying66
  a127 := Tryz.isAgg66
  z127 := Tryz.sizeOf66
  v127 := Tryz.zeroValue66
  t143 := Tryz.underlying324
  a143 := Tryz.isAgg324
  z143 := Tryz.sizeOf324
  v143 := Tryz.zeroValue324
  t145 := Tryz.underlying326
  a145 := Tryz.isAgg326
  z145 := Tryz.sizeOf326
  v145 := Tryz.zeroValue326
  t167 := Tryz.underlying227
  a167 := Tryz.isAgg227
  z167 := Tryz.sizeOf227
  v167 := Tryz.zeroValue227
  t168 := Tryz.underlying230
  a168 := Tryz.isAgg230
  z168 := Tryz.sizeOf230
  v168 := Tryz.zeroValue230
  t171 := Tryz.underlying191
  a171 := Tryz.isAgg191
  z171 := Tryz.sizeOf191
  v171 := Tryz.zeroValue191
  t173 := Tryz.underlying195
  a173 := Tryz.isAgg195
  z173 := Tryz.sizeOf195
  v173 := Tryz.zeroValue195
  t175 := Tryz.underlying228
  a175 := Tryz.isAgg228
  z175 := Tryz.sizeOf228
  v175 := Tryz.zeroValue228
  t210 := Tryz.underlying287
  a210 := Tryz.isAgg287
  z210 := Tryz.sizeOf287
  v210 := Tryz.zeroValue287
  t212 := Tryz.underlying252
  a212 := Tryz.isAgg252
  z212 := Tryz.sizeOf252
  v212 := Tryz.zeroValue252
  t213 := Tryz.underlying253
  a213 := Tryz.isAgg253
  z213 := Tryz.sizeOf253
  t232 := Tryz.underlying329
  a232 := Tryz.isAgg329
  z232 := Tryz.sizeOf329
  v232 := Tryz.zeroValue329
  t233 := Tryz.underlying330
  a233 := Tryz.isAgg330
  z233 := Tryz.sizeOf330
  v233 := Tryz.zeroValue330
  g15 := by kernel_rfl
  g16 := by kernel_rfl
  g17 := by kernel_rfl
  g18 := by kernel_rfl
  g19 := by kernel_rfl
  t80 := Tryz.underlying41
  a80 := Tryz.isAgg41
  z80 := Tryz.sizeOf41
  v80 := Tryz.zeroValue41
  i0 := by kernel_rfl
  i2 := by kernel_rfl
  i3 := by kernel_rfl
  i4 := by kernel_rfl
  i5 := by kernel_rfl
  i9 := by kernel_rfl
  i20 := by kernel_rfl
  i21 := by kernel_rfl
  i37 := by kernel_rfl
  i46 := by kernel_rfl
  i51 := by kernel_rfl
  i53 := by kernel_rfl
  i75 := by kernel_rfl
  i80 := by kernel_rfl
  i85 := by kernel_rfl
  i127 := by kernel_rfl
  i143 := by kernel_rfl
  i145 := by kernel_rfl
  i167 := by kernel_rfl
  i168 := by kernel_rfl
  i171 := by kernel_rfl
  i173 := by kernel_rfl
  i175 := by kernel_rfl
  i210 := by kernel_rfl
  i212 := by kernel_rfl
  i232 := by kernel_rfl
  i233 := by kernel_rfl
  m15 := by kernel_rfl
  m16 := by kernel_rfl
  m17 := by kernel_rfl
  m18 := by kernel_rfl
  m19 := by kernel_rfl
  c0 := by kernel_rfl
  c2 := by kernel_rfl
  c3 := by kernel_rfl
  c4 := by kernel_rfl
  c5 := by kernel_rfl
  c9 := by kernel_rfl
  c20 := by kernel_rfl
  c21 := by kernel_rfl
  c37 := by kernel_rfl
  c46 := by kernel_rfl
  c51 := by kernel_rfl
  c53 := by kernel_rfl
  c75 := by kernel_rfl
  c80 := by kernel_rfl
  c85 := by kernel_rfl
  c127 := by kernel_rfl
  c143 := by kernel_rfl
  c145 := by kernel_rfl
  c167 := by kernel_rfl
  c168 := by kernel_rfl
  c171 := by kernel_rfl
  c173 := by kernel_rfl
  c175 := by kernel_rfl
  c210 := by kernel_rfl
  c212 := by kernel_rfl
  c213 := by kernel_rfl
  c232 := by kernel_rfl
  c233 := by kernel_rfl }
open Go.RowKit in
theorem Tryz.strconv_ParseInt_10_at64_ok (s : ByteArray) (hmax : s.size ≤ 9223372036854775806) (v : Int) (h : Lib.parseIntB 64 s.data.toList = .ok v) (w : World) :
    Calls Tryz.prog 75 #[.string s, .int .i64 10, .int .i64 64] w fun e w' => e = .returned (.tuple #[.int .i64 v, .nilIface]) ∧ (w' = w ∨ ∃ t, w' = Lib.bytesWorld w 5 t) := Any.strconv_ParseInt_10_at64_ok Tryz.laysC174 s hmax v h w
open Go.RowKit in
theorem Tryz.parse_no (s : ByteArray) (hlim : s.size ≤ 281474976710656) (hno : ∀ v, Lib.parseIntB 64 s.data.toList ≠ .ok v) (w : World) (h6 : ∃ t p, w.cell? ⟨6, 0, none⟩ = some (.iface t p)) (h7 : ∃ t p, w.cell? ⟨7, 0, none⟩ = some (.iface t p)) :
    Calls Tryz.prog 75 #[.string s, .int .i64 10, .int .i64 64] w fun e w' => ∃ n N, e = .returned (.tuple #[.int .i64 n, .iface 230 (.pointer (some ⟨N, 0, none⟩))]) ∧ Below w.heap.size w w' := by
  obtain ⟨_, _, h6⟩ := h6
  obtain ⟨_, _, h7⟩ := h7
  cases hp : Lib.parseIntB 64 s.data.toList
  · exact absurd hp (hno _)
  · exact (Any.strconv_ParseInt_10_at64_syntax Tryz.laysC174 s hlim hp _ w h6 (.inr ⟨_, _, rfl⟩)).mono fun e w' ⟨N, h1, _, _, h4⟩ => ⟨_, N, h1, h4⟩
  · exact (Any.strconv_ParseInt_10_at64_range Tryz.laysC174 s hlim hp _ w h7 (.inr ⟨_, _, rfl⟩)).mono fun e w' ⟨N, h1, _, _, h4⟩ => ⟨_, N, h1, h4⟩
def Tryz.lays145_ren : Go.Shelf.Ren := ⟨fun | 145 => 23 | 220 => 68 | 219 => 121 | 217 => 167 | 225 => 168 | 224 => 169 | 267 => 170 | 266 => 226 | 314 => 227 | n => n, fun | 9 => 9 | 4 => 4 | 59 => 61 | 3 => 3 | 5 => 5 | 46 => 190 | 146 => 279 | 51 => 250 | n => n, fun | 1 => 1 | n => n⟩
theorem Tryz.lays145 : Go.Proofs.Lays.n145 Tryz.prog Tryz.lays145_ren := {
  mixed := by kernel_rfl
  f145 := Tryz.func23.trans (congrArg some (by kernel_rfl))
  f217 := Tryz.func167.trans (congrArg some (by kernel_rfl))
  f219 := Tryz.func121.trans (congrArg some (by kernel_rfl))
  f220 := Tryz.func68.trans (congrArg some (by kernel_rfl))
  f224 := Tryz.func169.trans (congrArg some (by kernel_rfl))
  f225 := Tryz.func168.trans (congrArg some (by kernel_rfl))
  f266 := Tryz.func226.trans (congrArg some (by kernel_rfl))
  f267 := Tryz.func170.trans (congrArg some (by kernel_rfl))
  f314 := Tryz.func227.trans (congrArg some (by kernel_rfl))
  t3 := Tryz.underlying3
  a3 := Tryz.isAgg3
  z3 := Tryz.sizeOf3
  v3 := Tryz.zeroValue3
  t4 := Tryz.underlying4
  a4 := Tryz.isAgg4
  z4 := Tryz.sizeOf4
  v4 := Tryz.zeroValue4
  t5 := Tryz.underlying5
  a5 := Tryz.isAgg5
  z5 := Tryz.sizeOf5
  v5 := Tryz.zeroValue5
  t9 := Tryz.underlying9
  a9 := Tryz.isAgg9
  z9 := Tryz.sizeOf9
  v9 := Tryz.zeroValue9
  t46 := Tryz.underlying190
  a46 := Tryz.isAgg190
  z46 := Tryz.sizeOf190
  v46 := Tryz.zeroValue190
  t51 := Tryz.underlying250
  a51 := Tryz.isAgg250
  z51 := Tryz.sizeOf250
  v51 := Tryz.zeroValue250
  t59 := Tryz.underlying61
  a59 := Tryz.isAgg61
  z59 := Tryz.sizeOf61
  v59 := Tryz.zeroValue61
  t146 := Tryz.underlying279
  a146 := Tryz.isAgg279
  z146 := Tryz.sizeOf279
  v146 := Tryz.zeroValue279
  g1 := by kernel_rfl }
open Go.RowKit Go.Lib in
theorem Tryz.strings_Cut (s sep : ByteArray) (m : Int) (w : World) (hs : s.size < 4294967281) (hm : w.cell? ⟨1, 0, none⟩ = some (.int .i64 m)) :
    Calls Tryz.prog 23 #[.string s, .string sep] w fun e w' => e = .returned (.tuple #[.string ⟨(Lib.cut s.data.toList sep.data.toList).1.toArray⟩, .string ⟨(Lib.cut s.data.toList sep.data.toList).2.1.toArray⟩, .bool (Lib.cut s.data.toList sep.data.toList).2.2]) ∧ ∃ n, w' = w.drewN n := Any.strings_Cut Tryz.lays145 s sep m w hs hm
def Tryz.lays102_ren : Go.Shelf.Ren := ⟨fun | 102 => 22 | 209 => 67 | 207 => 120 | n => n, fun | 9 => 9 | 4 => 4 | 3 => 3 | n => n, fun | n => n⟩
theorem Tryz.lays102 : Go.Proofs.Lays.n102 Tryz.prog Tryz.lays102_ren := {
  mixed := by kernel_rfl
  f102 := Tryz.func22.trans (congrArg some (by kernel_rfl))
  f207 := Tryz.func120.trans (congrArg some (by kernel_rfl))
  f209 := Tryz.func67.trans (congrArg some (by kernel_rfl))
  t3 := Tryz.underlying3
  a3 := Tryz.isAgg3
  z3 := Tryz.sizeOf3
  v3 := Tryz.zeroValue3
  t4 := Tryz.underlying4
  a4 := Tryz.isAgg4
  z4 := Tryz.sizeOf4
  v4 := Tryz.zeroValue4
  t9 := Tryz.underlying9
  a9 := Tryz.isAgg9
  z9 := Tryz.sizeOf9
  v9 := Tryz.zeroValue9 }
open Go.RowKit Go.Lib in
theorem Tryz.strings_TrimSuffix (s p : ByteArray) (w : World) (hs : s.size ≤ 9223372036854775807) :
    Calls Tryz.prog 22 #[.string s, .string p] w fun e w' => e = .returned (.string ⟨(Lib.trimSuffix s.data.toList p.data.toList).toArray⟩) ∧ w' = w := Any.strings_TrimSuffix Tryz.lays102 s p w hs
def Tryz.lays229_ren : Go.Shelf.Ren := ⟨fun | 229 => 70 | n => n, fun | 9 => 9 | 40 => 120 | 31 => 42 | 152 => 173 | 3 => 3 | 0 => 0 | 4 => 4 | 21 => 21 | 154 => 175 | n => n, fun | n => n⟩
theorem Tryz.lays229 : Go.Proofs.Lays.n229 Tryz.prog Tryz.lays229_ren := {
  mixed := by kernel_rfl
  f229 := Tryz.func70.trans (congrArg some (by kernel_rfl))
  t0 := Tryz.underlying0
  a0 := Tryz.isAgg0
  z0 := Tryz.sizeOf0
  v0 := Tryz.zeroValue0
  t3 := Tryz.underlying3
  a3 := Tryz.isAgg3
  z3 := Tryz.sizeOf3
  v3 := Tryz.zeroValue3
  t4 := Tryz.underlying4
  a4 := Tryz.isAgg4
  z4 := Tryz.sizeOf4
  v4 := Tryz.zeroValue4
  t9 := Tryz.underlying9
  a9 := Tryz.isAgg9
  z9 := Tryz.sizeOf9
  v9 := Tryz.zeroValue9
  t21 := Tryz.underlying21
  a21 := Tryz.isAgg21
  z21 := Tryz.sizeOf21
  v21 := Tryz.zeroValue21
  t31 := Tryz.underlying42
  a31 := Tryz.isAgg42
  z31 := Tryz.sizeOf42
  v31 := Tryz.zeroValue42
  t40 := Tryz.underlying120
  a40 := Tryz.isAgg120
  z40 := Tryz.sizeOf120
  v40 := Tryz.zeroValue120
  t152 := Tryz.underlying173
  a152 := Tryz.isAgg173
  z152 := Tryz.sizeOf173
  v152 := Tryz.zeroValue173
  t154 := Tryz.underlying175
  a154 := Tryz.isAgg175
  z154 := Tryz.sizeOf175
  v154 := Tryz.zeroValue175 }
open Go.RowKit Go.Lib in
theorem Tryz.strings_FieldsFunc_runes (g : Nat) (lb : Array Value) (eg : ∀ args w, (callFunc g args).run Tryz.prog w = .ok (.enter g args) w) (p : Nat → Bool) (s : ByteArray) (w : World) (hs : s.size ≤ 4294967296) (hp : PredAtRunes Tryz.prog g lb p w) :
    Calls Tryz.prog 70 #[.string s, .func (.func g) #[] lb] w fun e w' => ∃ A, e = .returned (.slice (some ⟨A, 0, none⟩) (Lib.goFieldsP p s).length (Lib.goFieldsP p s).length) ∧ w.heap.size ≤ A ∧
      w'.ownsRow w.heap.size 9 1 (.slice (some ⟨A, 0, none⟩) (Lib.goFieldsP p s).length (Lib.goFieldsP p s).length) (Lib.goFieldsP p s).length ((Lib.goFieldsP p s).map Value.string) ∧ Below w.heap.size w w' := Any.strings_FieldsFunc_runes Tryz.lays229 g lb eg p s w hs hp (by kernel_rfl) (by kernel_rfl)
end
section
open Go.RowKit Go.Maps Go.Sort Go.Shelf
def Tryz.keys108_ren : Go.Shelf.Ren := ⟨fun | 7 => 108 | 10 => 157 | n => n, fun | 23 => 55 | 26 => 9 | 3 => 65 | 28 => 34 | 0 => 0 | 27 => 33 | 33 => 24 | 4 => 4 | n => n, fun | n => n⟩
theorem Tryz.keys108 : Go.Proofs.SlLaysZ.n7 Tryz.prog Tryz.keys108_ren := {
  mixed := by kernel_rfl
  f7 := ⟨Tryz.f108.name, by decide, Tryz.func108.trans (congrArg some (by kernel_rfl))⟩
  f10 := ⟨Tryz.f157.name, by decide, Tryz.func157.trans (congrArg some (by kernel_rfl))⟩
  t0 := Tryz.underlying0
  a0 := Tryz.isAgg0
  z0 := Tryz.sizeOf0
  v0 := Tryz.zeroValue0
  t4 := Tryz.underlying4
  a4 := Tryz.isAgg4
  z4 := Tryz.sizeOf4
  v4 := Tryz.zeroValue4
  t23 := Tryz.underlying55
  a23 := Tryz.isAgg55
  z23 := Tryz.sizeOf55
  v23 := Tryz.zeroValue55
  t26 := Tryz.underlying9
  a26 := Tryz.isAgg9
  z26 := Tryz.sizeOf9
  v26 := Tryz.zeroValue9
  t27 := Tryz.underlying33
  a27 := Tryz.isAgg33
  z27 := Tryz.sizeOf33
  v27 := Tryz.zeroValue33
  t28 := Tryz.underlying34
  a28 := Tryz.isAgg34
  z28 := Tryz.sizeOf34
  v28 := Tryz.zeroValue34
  t33 := Tryz.underlying24
  a33 := Tryz.isAgg24
  z33 := Tryz.sizeOf24
  v33 := Tryz.zeroValue24 }
def Tryz.sorted107_ren : Go.Shelf.Ren := ⟨fun | 6 => 107 | 8 => 156 | 9 => 92 | 11 => 214 | 13 => 133 | 12 => 132 | 23 => 194 | 24 => 195 | 14 => 185 | 15 => 186 | 16 => 187 | 17 => 188 | 18 => 189 | 19 => 190 | 20 => 191 | 21 => 192 | 22 => 193 | 25 => 232 | 26 => 233 | 27 => 234 | 28 => 235 | 29 => 236 | 30 => 237 | 31 => 267 | n => n, fun | 26 => 9 | 28 => 34 | 24 => 42 | 0 => 0 | 3 => 3 | 37 => 190 | 48 => 250 | 50 => 192 | 4 => 4 | 40 => 244 | 39 => 243 | 45 => 93 | 5 => 5 | 9 => 9 | 51 => 289 | 55 => 293 | 57 => 327 | 58 => 144 | 33 => 24 | n => n, fun | n => n⟩
theorem Tryz.sorted107 : Go.Proofs.SlLaysZ.n6 Tryz.prog Tryz.sorted107_ren := {
  mixed := by kernel_rfl
  f6 := ⟨Tryz.f107.name, by decide, Tryz.func107.trans (congrArg some (by kernel_rfl))⟩
  f8 := ⟨Tryz.f156.name, by decide, Tryz.func156.trans (congrArg some (by kernel_rfl))⟩
  f11 := ⟨Tryz.f214.name, by decide, Tryz.func214.trans (congrArg some (by kernel_rfl))⟩
  t0 := Tryz.underlying0
  a0 := Tryz.isAgg0
  z0 := Tryz.sizeOf0
  v0 := Tryz.zeroValue0
  t24 := Tryz.underlying42
  a24 := Tryz.isAgg42
  z24 := Tryz.sizeOf42
  v24 := Tryz.zeroValue42
  t26 := Tryz.underlying9
  a26 := Tryz.isAgg9
  z26 := Tryz.sizeOf9
  v26 := Tryz.zeroValue9
  t28 := Tryz.underlying34
  a28 := Tryz.isAgg34
  z28 := Tryz.sizeOf34
  v28 := Tryz.zeroValue34
  i26 := by kernel_rfl }
def Tryz.sort92_ren : Go.Shelf.Ren := ⟨fun | 6 => 92 | 8 => 133 | 9 => 132 | 19 => 194 | 20 => 195 | 21 => 185 | 22 => 186 | 23 => 187 | 24 => 188 | 25 => 189 | 26 => 190 | 27 => 191 | 28 => 192 | 29 => 193 | 36 => 232 | 31 => 233 | 32 => 234 | 37 => 235 | 38 => 236 | 39 => 237 | 41 => 267 | n => n, fun | 27 => 42 | 29 => 9 | 3 => 3 | 32 => 190 | 26 => 42 | 0 => 0 | 44 => 250 | 46 => 192 | 4 => 4 | 36 => 244 | 35 => 243 | 41 => 93 | 5 => 5 | 9 => 9 | 53 => 289 | 57 => 293 | 63 => 327 | 64 => 144 | n => n, fun | n => n⟩
theorem Tryz.sort92 : Go.Proofs.SlLaysM.n6 Tryz.prog Tryz.sort92_ren := {
  mixed := by kernel_rfl
  f6 := ⟨Tryz.f92.name, by decide, Tryz.func92.trans (congrArg some (by kernel_rfl))⟩
  f8 := Tryz.func133.trans (congrArg some (by kernel_rfl))
  f9 := ⟨Tryz.f132.name, by decide, Tryz.func132.trans (congrArg some (by kernel_rfl))⟩
  f19 := Tryz.func194.trans (congrArg some (by kernel_rfl))
  f20 := Tryz.func195.trans (congrArg some (by kernel_rfl))
  f21 := ⟨Tryz.f185.name, by decide, Tryz.func185.trans (congrArg some (by kernel_rfl))⟩
  f22 := ⟨Tryz.f186.name, by decide, Tryz.func186.trans (congrArg some (by kernel_rfl))⟩
  f23 := ⟨Tryz.f187.name, by decide, Tryz.func187.trans (congrArg some (by kernel_rfl))⟩
  f24 := ⟨Tryz.f188.name, by decide, Tryz.func188.trans (congrArg some (by kernel_rfl))⟩
  f25 := ⟨Tryz.f189.name, by decide, Tryz.func189.trans (congrArg some (by kernel_rfl))⟩
  f26 := ⟨Tryz.f190.name, by decide, Tryz.func190.trans (congrArg some (by kernel_rfl))⟩
  f27 := ⟨Tryz.f191.name, by decide, Tryz.func191.trans (congrArg some (by kernel_rfl))⟩
  f28 := ⟨Tryz.f192.name, by decide, Tryz.func192.trans (congrArg some (by kernel_rfl))⟩
  f29 := ⟨Tryz.f193.name, by decide, Tryz.func193.trans (congrArg some (by kernel_rfl))⟩
  f31 := Tryz.func233.trans (congrArg some (by kernel_rfl))
  f32 := Tryz.func234.trans (congrArg some (by kernel_rfl))
  f36 := ⟨Tryz.f232.name, by decide, Tryz.func232.trans (congrArg some (by kernel_rfl))⟩
  f37 := ⟨Tryz.f235.name, by decide, Tryz.func235.trans (congrArg some (by kernel_rfl))⟩
  f38 := ⟨Tryz.f236.name, by decide, Tryz.func236.trans (congrArg some (by kernel_rfl))⟩
  f39 := ⟨Tryz.f237.name, by decide, Tryz.func237.trans (congrArg some (by kernel_rfl))⟩
  f41 := ⟨Tryz.f267.name, by decide, Tryz.func267.trans (congrArg some (by kernel_rfl))⟩
  t0 := Tryz.underlying0
  a0 := Tryz.isAgg0
  z0 := Tryz.sizeOf0
  v0 := Tryz.zeroValue0
  t3 := Tryz.underlying3
  a3 := Tryz.isAgg3
  z3 := Tryz.sizeOf3
  v3 := Tryz.zeroValue3
  t4 := Tryz.underlying4
  a4 := Tryz.isAgg4
  z4 := Tryz.sizeOf4
  v4 := Tryz.zeroValue4
  t5 := Tryz.underlying5
  a5 := Tryz.isAgg5
  z5 := Tryz.sizeOf5
  v5 := Tryz.zeroValue5
  t9 := Tryz.underlying9
  a9 := Tryz.isAgg9
  z9 := Tryz.sizeOf9
  v9 := Tryz.zeroValue9
  t26 := Tryz.underlying42
  a26 := Tryz.isAgg42
  z26 := Tryz.sizeOf42
  v26 := Tryz.zeroValue42
  t27 := Tryz.underlying42
  a27 := Tryz.isAgg42
  z27 := Tryz.sizeOf42
  v27 := Tryz.zeroValue42
  t29 := Tryz.underlying9
  a29 := Tryz.isAgg9
  z29 := Tryz.sizeOf9
  v29 := Tryz.zeroValue9
  t32 := Tryz.underlying190
  a32 := Tryz.isAgg190
  z32 := Tryz.sizeOf190
  v32 := Tryz.zeroValue190
  t35 := Tryz.underlying243
  a35 := Tryz.isAgg243
  z35 := Tryz.sizeOf243
  v35 := Tryz.zeroValue243
  t36 := Tryz.underlying244
  a36 := Tryz.isAgg244
  z36 := Tryz.sizeOf244
  v36 := Tryz.zeroValue244
  t41 := Tryz.underlying93
  a41 := Tryz.isAgg93
  z41 := Tryz.sizeOf93
  v41 := Tryz.zeroValue93
  t44 := Tryz.underlying250
  a44 := Tryz.isAgg250
  z44 := Tryz.sizeOf250
  v44 := Tryz.zeroValue250
  t46 := Tryz.underlying192
  a46 := Tryz.isAgg192
  z46 := Tryz.sizeOf192
  v46 := Tryz.zeroValue192
  t53 := Tryz.underlying289
  a53 := Tryz.isAgg289
  z53 := Tryz.sizeOf289
  v53 := Tryz.zeroValue289
  t57 := Tryz.underlying293
  a57 := Tryz.isAgg293
  z57 := Tryz.sizeOf293
  v57 := Tryz.zeroValue293
  t63 := Tryz.underlying327
  a63 := Tryz.isAgg327
  z63 := Tryz.sizeOf327
  v63 := Tryz.zeroValue327
  t64 := Tryz.underlying144
  a64 := Tryz.isAgg144
  z64 := Tryz.sizeOf144
  v64 := Tryz.zeroValue144 }
theorem Tryz.sorts107 (m : Nat) : AnyZ.SortsIn Tryz.prog Tryz.sorted107_ren Fence.wide m :=
  ⟨fun blk off cap ss W hH hblk hsz => callsIn_wide.2 (AnyM.slices_Sort_string Tryz.sort92 blk off cap ss W hH hblk hsz),
   fun p cap W => callsIn_wide.2 (AnyM.slices_Sort_string_none Tryz.sort92 p cap W)⟩

theorem Tryz.maps_Keys_108 (mb : Option Nat) (W : World) : CallsIn Fence.wide 5 Tryz.prog 108 #[.map mb] W fun e w' => e = .returned (.func (.func 157) #[] #[.pointer (some ⟨W.heap.size, 0, none⟩)]) ∧ w' = W.alloc (.cells #[.map mb] 55) :=
  AnyZ.keys_in Tryz.keys108 Fence.wide 5 trivial rfl mb W

set_option maxHeartbeats 1000000 in
theorem Tryz.slices_Sorted_keys_107_108 {H : Type} (b nn : Nat) (D0 : DataW H) (R : Value → Option (DataW H × List MemPlace)) (w : World) (hown : w.ownsMap Tryz.prog 9 R b nn D0) (hmax : Maps.size D0 ≤ maxLen) (hbytes : Maps.size D0 * 16 ≤ 140737488355328) :
    CallsIn Fence.wide 5 Tryz.prog 107 #[.func (.func 157) #[] #[.pointer (some ⟨w.heap.size, 0, none⟩)]] (w.alloc (.cells #[.map (some b)] 55)) fun e w' => ∃ (v : Value) (ss : List (List UInt8)), e = .returned v ∧ ss.Perm (strKeys D0) ∧
      w'.ownsRow (w.alloc (.cells #[.map (some b)] 55)).heap.size 9 1 v ss.length ((ss.mergeSort (fun x y => decide (x ≤ y))).map encStr) ∧ (v = .slice none 0 0 ↔ ss = []) ∧ Below (w.alloc (.cells #[.map (some b)] 55)).heap.size (w.alloc (.cells #[.map (some b)] 55)) w' := by
  have hbl := hown.lt
  have hseq : SeqGives Fence.wide 2 Tryz.prog 157 #[.pointer (some ⟨w.heap.size, 0, none⟩)] encStr (fun ss => ss.Perm (strKeys D0)) (Maps.size D0) (w.alloc (.cells #[.map (some b)] 55)) :=
    AnyZ.keys_gives (ρ := Tryz.keys108_ren) { Tryz.keys108 with } Fence.wide _ trivial rfl (by omega) w.heap.size b nn D0 _ (by simp) (by simp) (by
      obtain ⟨es, clock, hb, Ft, hs, hD⟩ := hown
      exact ⟨es, clock, (Below.heap_alloc _ _ b hbl).trans hb, Ft, hs, hD⟩)
  exact AnyZ.sorted_in Tryz.sorted107 Fence.wide 5 trivial trivial trivial trivial rfl (by omega) (Tryz.sorts107 _) (enters_of Tryz.func92 (by kernel_rfl) rfl) 157 #[.pointer (some ⟨w.heap.size, 0, none⟩)] trivial (enters_of Tryz.func157 (by kernel_rfl) rfl) _ _ hmax hbytes _ hseq
end
section
open Go.RowKit
/-- the builder's box and its row, from B on, with these bytes; G: its blocks -/
def BldIs (B b : Nat) (l : List UInt8) (w : World) (G : Nat → Prop) : Prop :=
  B ≤ b ∧ ∃ p v, (p = .pointer none ∨ p = .pointer (some ⟨b, 0, none⟩)) ∧ w.heap[b]? = some (.cells #[p, v] 32 (0, 0)) ∧ w.ownsRow B 5 1 v (Lib.byteCells l).length (Lib.byteCells l) ∧ v.ownBlock ≠ some b ∧ ∀ k, G k ↔ (k = b ∨ v.ownBlock = some k)
theorem BldIs.lt {B b : Nat} {l : List UInt8} {w : World} {G : Nat → Prop} (h : BldIs B b l w G) : ∀ k, G k → k < w.heap.size := fun k hk => by
  obtain ⟨_, p, v, _, hb, hown, _, hG⟩ := h
  rcases (hG k).1 hk with rfl | e
  · exact (Array.getElem?_eq_some_iff.1 hb).1
  · exact (hown.lt k e).2
theorem BldIs.kept {B b : Nat} {l : List UInt8} {w w' : World} {G : Nat → Prop} (h : BldIs B b l w G) (hk : ∀ k, G k → w'.heap[k]? = w.heap[k]?) : BldIs B b l w' G := by
  obtain ⟨hB, p, v, hp, hb, hown, hne, hG⟩ := h
  exact ⟨hB, p, v, hp, (hk b ((hG b).2 (.inl rfl))).trans hb, own_keptN hown (fun k e => hk k ((hG k).2 (.inr e))), hne, hG⟩
def bldP (B b : Nat) (l : List UInt8) : Part := ⟨fun w G => BldIs B b l w G, fun _ _ h => h.lt, fun _ _ _ h hk _ => h.kept hk⟩
theorem BldIs.is {B b : Nat} {l : List UInt8} {w : World} {G : Nat → Prop} (h : BldIs B b l w G) : Lib.IsBuilder 32 5 B b (Lib.byteCells l) w := by
  obtain ⟨hB, p, v, hp, hb, hown, hne, hG⟩ := h
  rcases hp with rfl | rfl
  · exact .inl ⟨hB, v, hb, hown, hne⟩
  · exact .inr ⟨hB, v, hb, hown, hne⟩
theorem byteInfo : (Tryz.prog.info? 5).map (fun i => (i.zero, i.size, i.bytes)) = some (some (.int .u8 0), 1, 1) := by kernel_rfl
theorem bldSize : (Tryz.prog.info? 32).map (·.size) = some 2 := by kernel_rfl
theorem bldLies : liesAt Tryz.prog Tryz.prog.depth 32 (2 / Tryz.prog.cellsOf 32) 0 32 1 = true := by kernel_rfl

set_option maxHeartbeats 1000000 in
set_option maxRecDepth 100000 in
theorem copyCheck_used (b : Nat) (w : World) (h0 : w.cell? ⟨b, 0, none⟩ = some (.pointer (some ⟨b, 0, none⟩))) :
    Calls Tryz.prog 24 #[.pointer (some ⟨b, 0, none⟩)] w fun e w' => e = .returned (.tuple #[]) ∧ w' = w := by
  obtain ⟨j, hj, _⟩ := Option.map_eq_some_iff.1 bldSize
  go_enter Tryz.func24, Tryz.ntmps24
  go_wp2
  rw [Lib.run_neq_ptr_same w _ Tryz.underlying29 hj]
  go_wp2
  go_end0
  exact ⟨rfl, rfl⟩
set_option maxHeartbeats 1000000 in
set_option maxRecDepth 100000 in
theorem copyCheck_fresh (b : Nat) (w : World) (h0 : w.cell? ⟨b, 0, none⟩ = some (.pointer none)) (hsh : w.shape? b = some (32, 2)) (hfz : w.frozen? ⟨b, 0, none⟩ = false) :
    Calls Tryz.prog 24 #[.pointer (some ⟨b, 0, none⟩)] w fun e w' => e = .returned (.tuple #[]) ∧ w' = w.setCell ⟨b, 0, none⟩ (.pointer (some ⟨b, 0, none⟩)) := by
  obtain ⟨j, hj, hjs⟩ := Option.map_eq_some_iff.1 bldSize
  have h6 := @run_callFunc_extern Tryz.prog 69 _ Extern.AbiNoEscape.same Tryz.func69 (by kernel_rfl) (by kernel_rfl) (by kernel_rfl) (by kernel_rfl)
  have h7 := fun x w => Lib.run_noEscape (P := Tryz.prog) (w := w) x
  have h8 := Lib.run_to_unsafe (P := Tryz.prog) w ⟨b, 0, none⟩ Tryz.underlying29 Tryz.underlying117 hj (by rw [hjs]; decide) hsh (Nat.zero_lt_succ 1)
  have h9 := Lib.run_from_unsafe (P := Tryz.prog) w ⟨b, 0, none⟩ Tryz.underlying117 Tryz.underlying29 hj hsh bldLies
  go_enter Tryz.func24, Tryz.ntmps24
  go_wp2
  go_end0
  exact ⟨rfl, rfl⟩

theorem copyCheck_any {B b : Nat} {l : List UInt8} {G : Nat → Prop} (w : World) (h : BldIs B b l w G) :
    Calls Tryz.prog 24 #[.pointer (some ⟨b, 0, none⟩)] w fun e w' => e = .returned (.tuple #[]) ∧ ∃ v, w'.heap[b]? = some (.cells #[.pointer (some ⟨b, 0, none⟩), v] 32 (0, 0)) ∧ w'.ownsRow B 5 1 v (Lib.byteCells l).length (Lib.byteCells l) ∧ v.ownBlock ≠ some b ∧ (∀ k, G k ↔ (k = b ∨ v.ownBlock = some k)) ∧ Touch G w w' := by
  obtain ⟨hB, p, v, hp, hb, hown, hne, hG⟩ := h
  rcases hp with rfl | rfl
  · refine (copyCheck_fresh b w (by rw [Lib.cell_of_heap hb]; rfl) (by simp [World.shape?, hb]) (Lib.frozen_of_heap hb 0)).mono ?_
    rintro e w' ⟨rfl, rfl⟩
    refine ⟨rfl, v, by simp [World.setCell, Array.getElem?_modify, hb], own_keptN hown (fun k e => Below.heap_setCell _ _ _ _ (fun e2 => hne (by rw [e, e2]))), hne, hG, rfl, rfl, rfl, by simp [World.setCell], fun k _ hk => Below.heap_setCell _ _ _ _ (fun e2 => hk ((hG k).2 (.inl e2)))⟩
  · refine (copyCheck_used b w (by rw [Lib.cell_of_heap hb]; rfl)).mono ?_
    rintro e w' ⟨rfl, rfl⟩
    exact ⟨rfl, v, hb, hown, hne, hG, Touch.ofBelow (Below.refl _ _)⟩
theorem bld_put {B b : Nat} {l' : List UInt8} {v v' : Value} {G : Nat → Prop} {w w1 w2 : World} (hB : B ≤ b) (hT : Touch G w w1) (hG : ∀ k, G k ↔ (k = b ∨ v.ownBlock = some k))
    (hb2 : w2.heap[b]? = some (.cells #[.pointer (some ⟨b, 0, none⟩), v] 32 (0, 0))) (hown' : w2.ownsRow B 5 1 v' (Lib.byteCells l').length (Lib.byteCells l')) (hn : ∀ k, v'.ownBlock = some k → v.ownBlock = some k ∨ w1.heap.size ≤ k)
    (hg : w1.heap.size ≤ w2.heap.size ∧ w2.os = w1.os ∧ w2.tape = w1.tape ∧ w2.output = w1.output ∧ ∀ k, k < w1.heap.size → v.ownBlock ≠ some k → w2.heap[k]? = w1.heap[k]?) :
    Left (bldP B b l') w G (w2.setCell ⟨b, 1, none⟩ v') := by
  have hne := Lib.ownBlock_ne hown' hb2 (by decide)
  obtain ⟨g1, g2, g3, g4, g5⟩ := hg
  refine ⟨fun k => k = b ∨ v'.ownBlock = some k, ⟨hB, .pointer (some ⟨b, 0, none⟩), v', .inr rfl, by simp [World.setCell, Array.getElem?_modify, hb2], own_keptN hown' (fun k e => Below.heap_setCell _ _ _ _ (fun e2 => hne (by rw [e, e2]))), hne, fun _ => Iff.rfl⟩, fun k hk => ?_, ?_⟩
  · rcases hk with rfl | e
    · exact .inl ((hG k).2 (.inl rfl))
    · rcases hn k e with h | h
      · exact .inl ((hG k).2 (.inr h))
      · exact .inr (Nat.le_trans hT.size h)
  · refine ⟨g2.trans hT.os, g3.trans hT.tape, g4.trans hT.output, Nat.le_trans hT.size (by simp [World.setCell]; exact g1), fun k hk hkG => ?_⟩
    rw [Below.heap_setCell _ _ _ _ (fun e2 => hkG ((hG k).2 (.inl e2))), g5 k (Nat.lt_of_lt_of_le hk hT.size) (fun e => hkG ((hG k).2 (.inr e))), hT.block k hk hkG]
theorem byteCells_app (a b : List UInt8) : Lib.byteCells (a ++ b) = Lib.byteCells a ++ Lib.byteCells b := by simp [Lib.byteCells]
theorem byteCells_len (a : List UInt8) : (Lib.byteCells a).length = a.length := by simp [Lib.byteCells]
theorem append_str_at {P : Program} (w : World) (base : Nat) (t u ty e : TypeId) (i : TypeInfo) (ht : P.underlying t = some (.slice e)) (hu : P.underlying u = some .string) (hi : P.info? e = some i) (hz : i.zero = some (.int .u8 0)) (hsize : i.size = 1) (hby : i.bytes = 1)
    (v : Value) (n : Nat) (xs : List Value) (hown : w.ownsRow base e 1 v n xs) (s : ByteArray) (h63 : n + s.size ≤ maxLen) (hbytes : n + s.size ≤ 140737488355328) :
    ∃ v' w', (Builtin.append_ #[t, u] ty #[v, .string s]).run P w = .ok v' w' ∧ ∀ k, v'.ownBlock = some k → v.ownBlock = some k ∨ k = w.heap.size := by
  have hsmall : n + s.size ≤ 9223372036854775807 := by simp only [maxLen] at h63; omega
  have hxl : xs.length = n := by simpa using hown.1
  rcases hown.2 with ⟨rfl, rfl⟩ | ⟨g, cap, cur, rfl, hbg, hg, hnc, hcm, hcs, htake⟩
  · by_cases hm : s.size = 0
    · refine ⟨.slice none 0 0, w, ?_, fun k hk => .inl hk⟩
      have hf := Lib.run_firstCells_string (P := P) w 1 s
      rw [hm] at hf
      simp [Builtin.append_, run_underlying ht, run_underlying hu, sizeOf, typeInfo, hi, hsize, Builtin.lenOf, hm, hf]
    · exact ⟨_, _, run_append_nil_string (P := P) w t u ty e i (.int .u8 0) ht hu hi hz s (by omega) (by omega) (by rw [hby]; omega), fun k hk => .inr (by simpa [Value.ownBlock, eq_comm] using hk)⟩
  · by_cases hroom : n + s.size ≤ cap
    · exact ⟨_, _, Lib.run_append_room_string (P := P) w t u ty e i ht hu hi hsize g n cap cur hg s hroom (by omega), fun k hk => .inl (by simpa [Value.ownBlock] using hk)⟩
    · have holds : ∀ j u, xs[j]? = some u → w.cell? ((⟨g, 0, none⟩ : Addr).add j) = some u := hown.cells (g := g) rfl
      exact ⟨_, _, Lib.run_append_grow_string (P := P) w t u ty e i (.int .u8 0) ht hu hi hz ⟨g, 0, none⟩ n cap xs (by rw [hsize]; simpa using hxl) holds s (by omega) (by omega) (by rw [hby]; exact growslice_fits (by omega) (by omega)), fun k hk => .inr (by simpa [Value.ownBlock, eq_comm] using hk)⟩
theorem wpList_append_str {P : Program} (w : World) {ops : Array Oper} {rest : List Oper} {o : Oper} {a : Act} {Q : Exit → Act → World → Prop} (hgd : o.guard = none) (sl x : Operand) (t u : TypeId)
    (ho : o.op = .call { callee := .builtin .append, args := #[sl, x], argTypes := #[t, u] })
    (base : Nat) (e : TypeId) (i : TypeInfo) (ht : P.underlying t = some (.slice e)) (hu : P.underlying u = some .string) (hi : P.info? e = some i) (hz : i.zero = some (.int .u8 0))
    (hsize : i.size = 1) (hby : i.bytes = 1)
    (v : Value) (n : Nat) (xs : List Value) (hs : a.eval sl = v) (hown : w.ownsRow base e 1 v n xs) (s : ByteArray) (hx : a.eval x = .string s)
    (h63 : n + s.size ≤ maxLen) (hbytes : n + s.size ≤ 140737488355328) (hbase : base ≤ w.heap.size)
    (h : ∀ v' w', w'.ownsRow base e 1 v' (n + s.size) (xs ++ Lib.strCells s) → w.grownBy w' v.ownBlock → (∀ k, v'.ownBlock = some k → v.ownBlock = some k ∨ k = w.heap.size) → wpList P ops Q rest (a.put o.dst v') w') : wpList P ops Q (o :: rest) a w := by
  refine wpList_plain hgd fun K hK => ?_
  obtain ⟨v', w', hr, h2, h3, h4⟩ := Lib.run_append_own_string (P := P) w base t u o.type e i ht hu hi hz hsize hby v n xs hown s h63 hbytes hbase
  obtain ⟨v2, w2, hr2, h5⟩ := append_str_at (P := P) w base t u o.type e i ht hu hi hz hsize hby v n xs hown s h63 hbytes
  rw [hr] at hr2
  injection hr2 with e1 e2
  subst e1
  unfold Oper.wp execOp
  simp only [ho, resolve, invoke, builtin, Sem.run_bind, Sem.run_pure, Result.andThen_ok, List.map_toArray, List.map_cons, List.map_nil, hs, hx, hr]
  exact hK _ _ (h v' w' h2 h3 h5)

set_option maxHeartbeats 2000000 in
set_option maxRecDepth 100000 in
theorem writeString_any {B b : Nat} {l : List UInt8} {G : Nat → Prop} (s : ByteArray) (w : World) (h : BldIs B b l w G) (hlen : l.length + s.size ≤ 140737488355328) (hBw : B ≤ w.heap.size) :
    Calls Tryz.prog 10 #[.pointer (some ⟨b, 0, none⟩), .string s] w fun e w' => e = .returned (.tuple #[.int .i64 s.size, .nilIface]) ∧ Left (bldP B b (l ++ s.data.toList)) w G w' := by
  obtain ⟨i0, hi, hz0, hz1, hz2⟩ := info_parts byteInfo
  have CC := copyCheck_any w h
  have HB : Hid (B ≤ b) := h.1
  clear h
  go_enter Tryz.func10, Tryz.ntmps10
  go_wp2_with fail
  refine CC.mono ?_
  clear CC
  rintro e w1 ⟨rfl, v, hbk, hown, hne, hG, hT⟩
  have c1 : w1.cell? ⟨b, 1, none⟩ = some v := by rw [Lib.cell_of_heap hbk]; rfl
  go_wp2_with (at_builtin; refine wpList_append_str _ rfl _ _ 30 9 rfl B 5 i0 Tryz.underlying30 Tryz.underlying9 hi hz0 hz1 hz2 _ _ _ rfl hown s rfl ?c3 ?c4 ?c5 ?_)
  case c3 => rw [byteCells_len]; unfold maxLen; omega
  case c4 => rw [byteCells_len]; omega
  case c5 => have := hT.size; omega
  intro v' w2 hown' hgrow hnew
  have hlt : b < w1.heap.size := (Array.getElem?_eq_some_iff.1 hbk).1
  have hb2 : w2.heap[b]? = some (.cells #[.pointer (some ⟨b, 0, none⟩), v] 32 (0, 0)) := (hgrow.block b hlt (fun e => hne e.symm)).trans hbk
  have d1 : w2.cell? ⟨b, 1, none⟩ = some v := by rw [Lib.cell_of_heap hb2]; rfl
  have f1 : w2.frozen? ⟨b, 1, none⟩ = false := Lib.frozen_of_heap hb2 1
  obtain ⟨ao, n', cap, rfl⟩ : ∃ ao n' cap, v' = .slice ao n' cap := by
    rcases hown'.2 with ⟨hv, _⟩ | ⟨g, cap, cur, hv, _⟩
    · exact ⟨_, _, _, hv⟩
    · exact ⟨_, _, _, hv⟩
  have FIN : Hid (Left (bldP B b (l ++ s.data.toList)) w G (w2.setCell ⟨b, 1, none⟩ (.slice ao n' cap))) :=
    bld_put HB.out hT hG hb2 (by rw [byteCells_app, List.length_append]; simpa [Lib.strCells_length, Lib.strCells, Lib.byteCells] using hown') (fun k e => (hnew k e).imp_right (fun e => by omega)) ⟨hgrow.size, hgrow.os, hgrow.tape, hgrow.output, fun k hk hn => hgrow.block k hk (fun e => hn e.symm)⟩
  clear hown' hgrow hnew hG hT hown hbk hne hb2
  go_wp2
  go_ret2
  exact ⟨rfl, FIN.out⟩

set_option maxHeartbeats 2000000 in
set_option maxRecDepth 100000 in
theorem writeByte_any {B b : Nat} {l : List UInt8} {G : Nat → Prop} (c : UInt8) (z : Int) (hz : z = c.toNat) (w : World) (h : BldIs B b l w G) (hlen : l.length + 1 ≤ 140737488355328) (hBw : B ≤ w.heap.size) :
    Calls Tryz.prog 12 #[.pointer (some ⟨b, 0, none⟩), .int .u8 z] w fun e w' => e = .returned .nilIface ∧ Left (bldP B b (l ++ [c])) w G w' := by
  obtain ⟨i0, hi, hz0, hz1, hz2⟩ := info_parts byteInfo
  have CC := copyCheck_any w h
  have HB : Hid (B ≤ b) := h.1
  have HZ : Hid (z = c.toNat) := hz
  clear h hz
  go_enter Tryz.func12, Tryz.ntmps12
  go_wp2_with fail
  refine CC.mono ?_
  clear CC
  rintro e w1 ⟨rfl, v, hbk, hown, hne, hG, hT⟩
  have hlt : b < w1.heap.size := (Array.getElem?_eq_some_iff.1 hbk).1
  have c1 : w1.cell? ⟨b, 1, none⟩ = some v := by rw [Lib.cell_of_heap hbk]; rfl
  go_wp2_with (at_builtin; refine wpList_append_lies _ rfl _ _ 30 rfl B 5 i0 (.int .u8 0) 1 1 Tryz.underlying30 hi hz0 hz1 hz2 rfl (by decide) _ _ _ rfl (hown.alloc _) ⟨w1.heap.size, 0, none⟩ 1 1 [.int .u8 z] rfl rfl ?c1 ?c2 (by decide) ?c3 ?c4 ?c5 _ rfl ?_)
  case c1 =>
    intro j u hj
    match j, hj with
    | 0, hj => simp at hj; subst hj; simp [Addr.add]
  case c2 => intro u hu; simp at hu; subst hu; rfl
  case c3 => rw [byteCells_len]; unfold maxLen; omega
  case c4 => rw [byteCells_len]; omega
  case c5 => have := hT.size; simp; omega
  intro g cap w2 hown' hgrow hat hglt
  have hb2 : w2.heap[b]? = some (.cells #[.pointer (some ⟨b, 0, none⟩), v] 32 (0, 0)) := by
    rw [hgrow.block b (by simp; omega) (fun e => hne e.symm), Lib.alloc_old w1 _ b hlt]
    exact hbk
  have d1 : w2.cell? ⟨b, 1, none⟩ = some v := by rw [Lib.cell_of_heap hb2]; rfl
  have f1 : w2.frozen? ⟨b, 1, none⟩ = false := Lib.frozen_of_heap hb2 1
  have FIN : Hid (Left (bldP B b (l ++ [c])) w G (w2.setCell ⟨b, 1, none⟩ (.slice (some ⟨g, 0, none⟩) ((Lib.byteCells l).length + 1) cap))) :=
    bld_put HB.out hT hG hb2 (by rw [byteCells_app, List.length_append]; simpa [Lib.byteCells, HZ.out] using hown') (fun k e => by
      simp [Value.ownBlock] at e
      subst e
      rcases hat with h | h
      · exact .inl h
      · exact .inr (by rw [h]; simp)) ⟨by have := hgrow.size; simp at this; omega, hgrow.os, hgrow.tape, hgrow.output, fun k hk hn => (hgrow.block k (by simp; omega) (fun e => hn e.symm)).trans (Lib.alloc_old w1 _ k hk)⟩
  clear hown' hgrow hat hG hT hown hbk hne hb2
  go_wp2
  go_ret
  exact ⟨rfl, FIN.out⟩
end
section
open Go.RowKit
/-- what an iterator does that hands on xs, one behind the other, to a body that always goes on (N: what is so of each world that it is run in) -/
def SeqAll {α : Type} (F : Fence) (n : Nat) (P : Program) (gf : Nat) (lb : Array Value) (encs : α → Array Value) (xs : List α) (N : World → Prop) (w0 : World) : Prop :=
  ∀ (l : Nat) (J : List α → World → Prop) (W : World), Below w0.heap.size w0 W → (∀ s A, J s A → N A) → (∀ s A B, J s A → Below A.heap.size A B → J s B) →
    (∀ pre x rest W, J pre W → xs = pre ++ x :: rest → YieldAt F (n - 1) P l (encs x) W fun e W' => e = .returned (.bool true) ∧ J (pre ++ [x]) W') → J [] W →
    CallsIn F n P gf (#[.func (.yield l) #[] #[]] ++ lb) W fun e W' => (∃ v, e = .returned v) ∧ J xs W'
/-- the loop's two blocks are as they were -/
structure KeepsTwo (B : Nat) (W W' : World) : Prop where
  a : W'.heap[B]? = W.heap[B]?
  b : W'.heap[B + 1]? = W.heap[B + 1]?
def twoPost {α : Type} (B : Nat) (I : List α → World → Prop) (xs : List α) (W : World) : Exit → Act → World → Prop
  | .normal, _, W' => KeepsTwo B W W' ∧ I xs W'
  | _, _, _ => False

theorem wpIn_rangeFunc_two {F : Fence} {n : Nat} {P : Program} {α : Type} {g : Operand} {ps : Array Tmp} {assign body : Code} {Q : Exit → Act → World → Prop} {a : Act} {w : World}
    (hro : F.round = none) (h1 : 1 ≤ n) {gf : Nat} {lb : Array Value} (hg : a.eval g = .func (.func gf) #[] lb) (hFg : F.fn gf) (eg : ∀ args w, (callFunc gf args).run P w = .ok (.enter gf args) w)
    {encs : α → Array Value} {xs : List α} {N : World → Prop} {w0 : World} (hseq : SeqAll F (n - 1) P gf lb encs xs N w0) (hb0 : Below w0.heap.size w0 w) (hps : ∀ x, (encs x).size = ps.size)
    (I : List α → World → Prop) (hIN : ∀ s A, I s A → N A) (hIb : ∀ s A B, I s A → Below A.heap.size A B → I s B) (hIl : ∀ s A o, I s A → I s (A.putObj (w.heap.size + 1) o)) (h0 : I [] w) (a₁ : α → Act)
    (hassign : ∀ (l : Nat) (x : α) (W : World) (K : Act → World → Prop), K (a₁ x) W →
      assign.wpIn (F.inRound l) (n - 1 - 1) P (Exit.then K (fun _ _ _ => False)) { tmps := (ps.zip (encs x)).foldl (fun t (p, v) => t.setIfInBounds p v) a.tmps, defers := [] } W)
    (hbody : ∀ (l : Nat) (pre : List α) (x : α) (rest : List α) (W : World), xs = pre ++ x :: rest → w.heap.size + 2 ≤ W.heap.size → I pre W → body.wpIn (F.inRound l) (n - 1 - 1) P (twoPost w.heap.size I (pre ++ [x]) W) (a₁ x) W)
    (hdone : ∀ (W : World), I xs W → W.heap[w.heap.size]? = some (.deferred (some [])) → Q .normal { a with defers := { target := .collected w.heap.size, args := #[] } :: a.defers } W) :
    (Code.rangeFunc g ps assign body).wpIn F n P Q a w := by
  refine wpIn_rangeFunc ?_
  intro fn hfn
  rw [hro]
  obtain ⟨rec, hrec⟩ : ∃ rec : LoopState → Option Code → Loop, rec = fun st pe => { state := st, pending := pe, fn, tmps := a.tmps, params := ps, assign, body, defers := w.heap.size } := ⟨_, rfl⟩
  obtain ⟨W1, hW1⟩ : ∃ W1, (w.alloc (.deferred (some []))).alloc (.loop (rec .ready none)) = W1 := ⟨_, rfl⟩
  have hL1 : W1.heap[w.heap.size + 1]? = some (.loop (rec .ready none)) := by
    rw [← hW1]; have := World.alloc_heap_new (w.alloc (.deferred (some []))) (.loop (rec .ready none)); rwa [World.size_alloc] at this
  have hK1 : W1.heap[w.heap.size]? = some (.deferred (some [])) := by
    rw [← hW1]; exact (Below.heap_alloc _ _ _ (by simp)).trans (World.alloc_heap_new w _)
  have hbw : Below w.heap.size w W1 := by rw [← hW1]; exact ((Below.refl _ w).alloc (Nat.le_refl _) _).alloc (by simp) _
  have hI1 : I [] W1 := hIb _ _ _ h0 hbw
  have hb1 : Below w0.heap.size w0 W1 := hb0.trans (hbw.mono hb0.size)
  refine ⟨w.heap.size + 1, [{ target := .collected w.heap.size, args := #[] }], W1, { target := .fn (.func gf) lb, args := #[.func (.yield (w.heap.size + 1)) #[] #[]] }, W1, gf,
    #[.func (.yield (w.heap.size + 1)) #[] #[]] ++ lb, W1, ?_, ?_, ?_, ?_, fun _ => h1, ?_⟩
  · rw [← hW1, hrec]; exact run_enterLoop_outer _ _ _ _ _
  · simp only [resolve, hg]
    simp [go_sem]
  · intro f' hf'; simp [Target.leads] at hf'; subst hf'; exact hFg
  · simp [invoke, go_sem, eg]
  · have blk : ∀ {A B : World} {k : Nat} {o : Obj}, Below A.heap.size A B → A.heap[k]? = some o → B.heap[k]? = some o := fun hb h => (hb.block _ (Array.getElem?_eq_some_iff.1 h).1).trans h
    refine (hseq (w.heap.size + 1)
      (fun pre W => I pre W ∧ W.heap[w.heap.size + 1]? = some (.loop (rec .ready none)) ∧ W.heap[w.heap.size]? = some (.deferred (some [])))
      W1 hb1 (fun s A hs => hIN s A hs.1) (fun s A B hs hb => ⟨hIb s A B hs.1 hb, blk hb hs.2.1, blk hb hs.2.2⟩) ?_ ⟨hI1, hL1, hK1⟩).mono ?_
    · rintro pre x rest W ⟨hi, hl, hk⟩ hx
      have hlt : w.heap.size + 1 < W.heap.size := (Array.getElem?_eq_some_iff.1 hl).1
      have hy := run_yield (P := P) (args := encs x) hl (by rw [hrec]; exact hps x)
      rw [hrec] at hy
      refine ⟨fn, _, assign, body, hy, roundIn_of_wpIn hfn (hassign _ x W _ ⟨_, run_beginRound hl (by rw [hrec]), ?_⟩)⟩
      have hl2 : (W.putObj (w.heap.size + 1) (.loop { rec .ready none with state := .busy })).heap[w.heap.size + 1]? = some (.loop { rec .ready none with state := .busy }) := World.putObj_heap_same hlt
      have hk2 : (W.putObj (w.heap.size + 1) (.loop { rec .ready none with state := .busy })).heap[w.heap.size]? = some (.deferred (some [])) := (World.putObj_heap_other (by omega)).trans hk
      refine wpIn_mono (hbody _ pre x rest _ hx (by simp; omega) (hIl _ _ _ hi)) ?_
      rintro e a3 W3 hp
      cases e with
      | normal =>
        obtain ⟨hk3, hi3⟩ := hp
        have hl3 := hk3.b.trans hl2
        have hr := run_endRound (P := P) none hl3
        rw [hrec] at hr
        exact ⟨_, _, hr, rfl, hIl _ _ _ hi3, by rw [hrec]; exact World.putObj_heap_same (Array.getElem?_eq_some_iff.1 hl3).1, (World.putObj_heap_other (by omega)).trans (hk3.a.trans hk2)⟩
      | ret => exact hp.elim
      | exit id => exact hp.elim
      | goto t => exact hp.elim
      | panic ch => exact hp.elim
      | outgrown => exact hp.elim
    · rintro e W2 ⟨⟨v, rfl⟩, hi, hl, hk⟩
      exact ⟨none, _, by have := run_endLoop (P := P) hl (by rw [hrec]; simp); rw [hrec] at this; exact this, hdone _ (hIl _ _ _ hi) ((World.putObj_heap_other (by omega)).trans hk)⟩
end
section
open Go.RowKit
/-- the package variables are as they are laid -/
structure Gl (w : World) : Prop where
  sz : 10 ≤ w.heap.size
  et : w.cell? ⟨3, 0, none⟩ = some (.iface 312 (.agg #[.pointer (some ⟨10, 37, none⟩)]))
  tab : Lib.TabIs Tryz.prog w "internal/strconv.uint64pow10" .u64 Lib.pow10Tab
  es : ∃ t p, w.cell? ⟨6, 0, none⟩ = some (.iface t p)
  er : ∃ t p, w.cell? ⟨7, 0, none⟩ = some (.iface t p)
  ml : ∃ m, w.cell? ⟨1, 0, none⟩ = some (.int .i64 m)
theorem tab_named : Tryz.prog.globalNamed "internal/strconv.uint64pow10" = some 2 := by kernel_rfl
theorem Gl.kept {w w' : World} (g : Gl w) (hk : ∀ k, k < 10 → w'.heap[k]? = w.heap[k]?) (hs : w.heap.size ≤ w'.heap.size) : Gl w' := by
  have c : ∀ {k : Nat} {v : Value}, k < 10 → w.cell? ⟨k, 0, none⟩ = some v → w'.cell? ⟨k, 0, none⟩ = some v := fun hlt h => by rw [World.cell?_of_block (w := w) (hk _ hlt)]; exact h
  obtain ⟨h1, h2, h3, ⟨t4, p4, h4⟩, ⟨t5, p5, h5⟩, m, h6⟩ := g
  refine ⟨Nat.le_trans h1 hs, c (by decide) h2, ?_, ⟨t4, p4, c (by decide) h4⟩, ⟨t5, p5, c (by decide) h5⟩, m, c (by decide) h6⟩
  unfold Lib.TabIs World.var? at h3 ⊢
  rw [tab_named] at h3 ⊢
  simp only [Option.bind_some] at h3 ⊢
  rw [hk _ (by decide)]
  exact h3
theorem Gl.later {w w' : World} (g : Gl w) (hb : Below w.heap.size w w') : Gl w' := g.kept (fun k hk => hb.block k (Nat.lt_of_lt_of_le hk g.sz)) hb.size
/-- an api.Errno is thrown -/
def thrown (n : Int) : Ending := .panicked [{ v := .iface 26 (.int .i64 n), recovered := false }]
def NumEnd (o : Option Int) (e : Ending) : Prop := match o with
  | some v => e = .returned (.int .i64 v)
  | none => e = thrown 3
theorem sh_itoa (v : Int) (h : wfI v) (w : World) (g : Gl w) : Calls Tryz.prog 18 #[.int .i64 v] w fun e w' => e = .returned (.string (bya (Lib.itoa v))) ∧ Below w.heap.size w w' :=
  (Tryz.strconv_Itoa v h.1 h.2 w g.tab).mono fun _ _ ⟨h1, k, os, h2⟩ => ⟨h1, by rw [h2]; exact Lib.below_grow _ w (Nat.le_refl _) k os⟩
theorem sh_format (v : Int) (h : wfI v) (w : World) (g : Gl w) : Calls Tryz.prog 76 #[.int .i64 v, .int .i64 10] w fun e w' => e = .returned (.string (bya (Lib.itoa v))) ∧ Below w.heap.size w w' :=
  (Tryz.strconv_FormatInt_10 v h.1 h.2 w g.tab).mono fun _ _ ⟨h1, k, os, h2⟩ => ⟨h1, by rw [h2]; exact Lib.below_grow _ w (Nat.le_refl _) k os⟩
theorem sh_parse (s : ByteArray) (hs : s.size ≤ 1000000) (v : Int) (h : Lib.parseIntB 64 s.data.toList = .ok v) (w : World) : Calls Tryz.prog 75 #[.string s, .int .i64 10, .int .i64 64] w fun e w' => e = .returned (.tuple #[.int .i64 v, .nilIface]) ∧ Below w.heap.size w w' :=
  (Tryz.strconv_ParseInt_10_at64_ok s (by omega) v h w).mono fun _ _ ⟨h1, h2⟩ => ⟨h1, by
    rcases h2 with rfl | ⟨t, rfl⟩
    · exact Below.refl _ _
    · exact Lib.bytesWorld_below _ _ _⟩

set_option maxHeartbeats 2000000 in
theorem number_any (s : ByteArray) (hs : s.size ≤ 1000000) (w : World) (g : Gl w) :
    Calls Tryz.prog 201 #[.string s] w fun e w' => NumEnd (numW s) e ∧ Below w.heap.size w w' := by
  by_cases hp : ∃ v, Lib.parseIntB 64 s.data.toList = .ok v
  · obtain ⟨v, hp⟩ := hp
    have hv : wfI v := by have := Lib.parseIntB_bounds hp; simp at this; exact ⟨by omega, by omega⟩
    have P1 := sh_parse s hs v hp w
    have HE : Hid (numW s = if bya (Lib.itoa v) = s then some v else none) := by show numW s = _; unfold numW; rw [hp]
    have F1 := fun w' hb => sh_format v hv w' (g.later (w' := w') hb)
    have hq := strB (bya (Lib.itoa v)) s
    clear hp
    generalize bya (Lib.itoa v) = t at HE F1 hq
    go_enter Tryz.func201, Tryz.ntmps201
    go_wp2_with fail
    refine P1.mono ?_
    rintro e w1 ⟨rfl, b1⟩
    replace F1 := F1 w1 b1
    by_cases he : t = s
    · have hq1 : (t.toList == s.toList) = true := by rw [hq]; simp [he]
      have HE2 : Hid (numW s = some v) := by show numW s = _; rw [HE.out, if_pos he]
      clear he hq HE
      go_wp2_with fail
      refine F1.mono ?_
      rintro e w2 ⟨rfl, b2⟩
      go_wp2
      go_ret
      exact ⟨by rw [HE2.out]; rfl, behind b1 b2⟩
    · have hq1 : (t.toList == s.toList) = false := by rw [hq]; simp [he]
      have HE2 : Hid (numW s = none) := by show numW s = _; rw [HE.out, if_neg he]
      clear he hq HE
      go_wp2_with fail
      refine F1.mono ?_
      rintro e w2 ⟨rfl, b2⟩
      go_wp2
      exact ⟨rfl, by rw [HE2.out]; rfl, behind b1 b2⟩
  · have hno : ∀ v, Lib.parseIntB 64 s.data.toList ≠ .ok v := fun v hv => hp ⟨v, hv⟩
    have P1 := Tryz.parse_no s (by omega) hno w g.es g.er
    have HE2 : Hid (numW s = none) := by
      show numW s = none
      unfold numW
      split
      · rename_i v hv; exact absurd hv (hno v)
      · rfl
    clear hp hno
    go_enter Tryz.func201, Tryz.ntmps201
    go_wp2_with fail
    refine P1.mono ?_
    rintro e w1 ⟨n, N, rfl, b1⟩
    go_wp2
    exact ⟨rfl, by rw [HE2.out]; rfl, b1⟩

/-- strings in memory, one behind the other -/
structure StrIn (w : World) (a : Option Addr) (cap : Nat) (l : List ByteArray) : Prop where
  cap : l.length ≤ cap
  cell : ∀ (j : Nat) x, l[j]? = some x → ∃ b o, a = some ⟨b, o, none⟩ ∧ b < w.heap.size ∧ w.cell? ⟨b, o + j, none⟩ = some (.string x)
theorem StrIn.later {w w' : World} {a : Option Addr} {cap : Nat} {l : List ByteArray} (h : StrIn w a cap l) (hb : Below w.heap.size w w') : StrIn w' a cap l :=
  ⟨h.cap, fun j x hx => by obtain ⟨b, o, h1, h2, h3⟩ := h.cell j x hx; exact ⟨b, o, h1, Nat.lt_of_lt_of_le h2 hb.size, (hb.cell (p := ⟨b, o + j, none⟩) h2).trans h3⟩⟩
theorem intInfo : (Tryz.prog.info? 3).map (fun i => (i.zero, i.size, i.bytes)) = some (some (.int .i64 0), 1, 8) := by kernel_rfl
theorem make_ints {n : Nat} (hn : n ≤ 6) (w : World) : (Instr.makeSlice 69 (.int .i64 n) (.int .i64 n)).run Tryz.prog w = .ok (.slice (some ⟨w.heap.size, 0, none⟩) n n) (w.alloc (.cells (madeCells #[.int .i64 0] n) 3)) :=
  run_make_row' _ 3 (.int .i64 0) 8 Tryz.underlying69 intInfo rfl .i64 .i64 n (by omega) (by omega) w
def intsV (l : List Int) : List Value := l.map (fun x => Value.int .i64 x)
/-- numbers, in a row of their own, or what is thrown -/
def NumsEnd (w : World) (o : Option (List Int)) (e : Ending) (w' : World) : Prop := match o with
  | some l => ∃ b, e = .returned (.slice (some ⟨b, 0, none⟩) l.length l.length) ∧ RowL w' b (intsV l) ∧ Below w.heap.size w w'
  | none => e = thrown 3 ∧ Below w.heap.size w w'
theorem numsW_take {l : List ByteArray} {k : Nat} {vs : List Int} (hk : k < l.length) (h : numsW (l.take k) = some vs) : numsW (l.take (k + 1)) = (numW l[k]).map (fun v => vs ++ [v]) := by
  induction l generalizing k vs with
  | nil => simp at hk
  | cons x l ih =>
    cases k with
    | zero =>
      simp [numsW] at h
      subst h
      simp [numsW]
      cases numW x <;> rfl
    | succ k =>
      simp only [List.take_succ_cons, numsW] at h ⊢
      cases hx : numW x with
      | none => rw [hx] at h; cases h
      | some v =>
        rw [hx] at h
        simp only at h ⊢
        cases hl : numsW (l.take k) with
        | none => rw [hl] at h; cases h
        | some r =>
          rw [hl] at h
          injection h with h
          subst h
          rw [ih (by simpa using hk) hl]
          simp only [List.getElem_cons_succ]
          cases numW (l[k]'(by simpa using hk)) <;> rfl
theorem numsW_none {l : List ByteArray} {k : Nat} (h : numsW (l.take k) = none) : numsW l = none := by
  induction l generalizing k with
  | nil => simpa using h
  | cons x l ih =>
    cases k with
    | zero => simp [numsW] at h
    | succ k =>
      simp only [List.take_succ_cons, numsW] at h ⊢
      cases hx : numW x with
      | none => rfl
      | some v =>
        rw [hx] at h
        simp only at h ⊢
        cases hl : numsW (l.take k) with
        | none => rw [ih hl]
        | some r => rw [hl] at h; cases h
theorem numsW_length : ∀ {l : List ByteArray} {vs : List Int}, numsW l = some vs → vs.length = l.length
  | [], vs, h => by simp [numsW] at h; subst h; rfl
  | x :: l, vs, h => by
    simp only [numsW] at h
    cases hx : numW x with
    | none => rw [hx] at h; cases h
    | some v =>
      rw [hx] at h
      simp only at h
      cases hl : numsW l with
      | none => rw [hl] at h; cases h
      | some r =>
        rw [hl] at h
        injection h with h
        subst h
        simp [numsW_length hl]

set_option maxHeartbeats 4000000 in
set_option maxRecDepth 100000 in
theorem dnumbers_any {a : Option Addr} {cap : Nat} {l : List ByteArray} {m : Nat} (hm : m ≤ 6) (hl : ∀ x ∈ l, x.size ≤ 1000000) (w : World) (g : Gl w) (h : StrIn w a cap l) :
    Calls Tryz.prog 140 #[.slice a l.length cap, .int .i64 m] w (NumsEnd w (numsN m l)) := by
  by_cases hlen : l.length = m
  · subst hlen
    have MK := make_ints hm w
    have HN : Hid (numsN l.length l = numsW l) := by show numsN l.length l = _; unfold numsN; rw [if_pos rfl]
    have hcap := h.cap
    have R0 : RowL (w.alloc (.cells (madeCells #[.int .i64 0] l.length) 3)) w.heap.size (List.replicate l.length (.int .i64 0)) := by
      have := RowL.new (w := w) (T := 3) (madeCells #[Value.int .i64 0] l.length).toList rfl
      rwa [Array.toArray_toList, toList_madeCells_one] at this
    have HH : Hid (StrIn w a cap l ∧ Gl w ∧ ∀ x ∈ l, x.size ≤ 1000000) := ⟨h, g, hl⟩
    have hb0 := boxed (Below.refl _ w) (.cells (madeCells #[.int .i64 0] l.length) 3)
    have H6 : Hid (l.length ≤ 6) := hm
    clear h g hl hm
    go_enter Tryz.func140, Tryz.ntmps140
    go_wp2
    go_loopw [17] (fun iv wr => ∃ (k : Nat) (z : Int) (vs : List Int), k ≤ l.length ∧ z = k ∧ iv = .int .i64 z ∧ Hid (numsW (l.take k) = some vs ∧ RowL wr w.heap.size (intsV vs ++ List.replicate (l.length - k) (.int .i64 0)) ∧ Below w.heap.size w wr)) (fun iv _ => l.length - (intOf iv).toNat)
    case atStart => exact ⟨0, 0, [], Nat.zero_le _, rfl, rfl, rfl, R0, hb0⟩
    case round =>
      clear R0 hb0 MK
      obtain ⟨k, z, vs, hk, hz, rfl, HS⟩ := hrel
      have HZ : Hid (z = k) := hz
      have hvl : vs.length = k := by rw [numsW_length HS.out.1, List.length_take]; omega
      by_cases hlt : k < l.length
      · have g1 : z < (l.length : Int) := by omega
        have g2 : 0 ≤ z := by omega
        have g3 : z.toNat = k := by omega
        have g4 : z < 6 := by have := H6.out; omega
        obtain ⟨x, hx⟩ : ∃ x, l[k]? = some x := ⟨_, List.getElem?_eq_getElem hlt⟩
        obtain ⟨hS, hg, hsz⟩ := HH.out
        obtain ⟨b, o, rfl, hb, hc⟩ := (hS.later HS.out.2.2).cell k x hx
        have NX : Hid (numsW (l.take (k + 1)) = (numW x).map (fun v => vs ++ [v])) := by
          have := numsW_take hlt HS.out.1
          rw [(List.getElem?_eq_some_iff.1 hx).2] at this
          exact this
        have NN := number_any x (hsz x (List.mem_of_getElem? hx)) wr (hg.later HS.out.2.2)
        clear hS hg hsz hz hx
        go_wp2_with fail
        refine NN.mono ?_
        rintro e w2 ⟨he, hb2⟩
        have hb3 := behind HS.out.2.2 hb2
        have R2 := HS.out.2.1.later hb2
        cases hn : numW x with
        | none =>
          rw [hn] at he
          have he' : e = .panicked [{ v := .iface 26 (.int .i64 3), recovered := false }] := he
          subst he'
          have e2 := NX.out
          rw [hn] at e2
          exact ⟨rfl, by unfold NumsEnd; rw [HN.out, numsW_none e2]; exact ⟨rfl, hb3⟩⟩
        | some v =>
          rw [hn] at he
          have he' : e = .returned (.int .i64 v) := he
          subst he'
          have hlen : (intsV vs ++ List.replicate (l.length - k) (Value.int .i64 0)).length = l.length := by simp [intsV]; omega
          have c0 : w2.cell? ⟨w.heap.size, k, none⟩ = some (.int .i64 0) := R2.cell k _ (by
            rw [List.getElem?_append_right (by simp [intsV, hvl]), show k - (intsV vs).length = 0 by simp [intsV, hvl], show l.length - k = (l.length - (k + 1)) + 1 by omega]
            rfl)
          have f0 := R2.free k (by rw [hlen]; exact hlt)
          have R3 : Hid (RowL (w2.setCell ⟨w.heap.size, k, none⟩ (.int .i64 v)) w.heap.size (intsV (vs ++ [v]) ++ List.replicate (l.length - (k + 1)) (.int .i64 0)) ∧ Below w.heap.size w (w2.setCell ⟨w.heap.size, k, none⟩ (.int .i64 v))) := by
            refine ⟨?_, hb3.setCell (p := ⟨w.heap.size, k, none⟩) (Nat.le_refl _) _⟩
            have := R2.set k (.int .i64 v) (by rw [hlen]; exact hlt)
            rw [List.set_append_right _ _ (by simp [intsV]; omega)] at this
            have e3 : l.length - k = (l.length - (k + 1)) + 1 := by omega
            rw [e3, List.replicate_succ] at this
            simpa [intsV, hvl] using this
          have HV : Hid (numsW (l.take (k + 1)) = some (vs ++ [v])) := by have e2 := NX.out; rw [hn] at e2; exact e2
          clear NX hn R2 hb3 hb2 hlen hvl
          go_wp2
          go_roundw
          case rel => exact ⟨k + 1, z + 1, vs ++ [v], hlt, by have := HZ.out; omega, by go_num, HV.out, R3.out.1, R3.out.2⟩
          case measure => simp [intOf]; omega
      · have g1 : ¬ z < (l.length : Int) := by omega
        have hkl : k = l.length := by omega
        have FIN : Hid (numsN l.length l = some vs ∧ RowL wr w.heap.size (intsV vs) ∧ Below w.heap.size w wr) := by
          have e1 := HS.out.1
          have e2 := HS.out.2.1
          rw [hkl, List.take_length] at e1
          rw [hkl, Nat.sub_self, List.replicate_zero, List.append_nil] at e2
          exact ⟨HN.out.trans e1, e2, HS.out.2.2⟩
        have HL : Hid (vs.length = l.length) := hvl.trans hkl
        clear hz hkl HS HN hvl
        go_wp2
        go_ret
        unfold NumsEnd
        rw [FIN.out.1]
        exact ⟨w.heap.size, by simp [HL.out], FIN.out.2.1, FIN.out.2.2⟩
  · have HN : Hid (numsN m l = none) := by show numsN m l = none; unfold numsN; rw [if_neg hlen]
    have hne : ¬ (l.length : Int) = (m : Int) := by omega
    clear h g hl hlen
    go_enter Tryz.func140, Tryz.ntmps140
    go_wp2
    exact ⟨rfl, by unfold NumsEnd; rw [HN.out]; exact ⟨rfl, Below.refl _ _⟩⟩
end
section
open Go.RowKit
section
variable {w : World} {b : Nat} {G : Nat → Prop} {W : WoS}
theorem PW.lens (h : PW w b G W) : ∃ a0 k0 a1 k1 a2 k2, w.cell? ⟨b, 0, none⟩ = some (.slice a0 W.n k0) ∧ w.cell? ⟨b, 1, none⟩ = some (.slice a1 W.c k1) ∧ w.cell? ⟨b, 2, none⟩ = some (.slice a2 W.net.length k2) ∧ w.cell? ⟨b, 3, none⟩ = some (.int .i64 W.lost) ∧ b < w.heap.size := by
  obtain ⟨M, Gs, h, _⟩ := h
  obtain ⟨a0, k0, e0, _⟩ := rowIn_own h.pr
  obtain ⟨a1, k1, e1, _⟩ := rowIn_own h.cr
  obtain ⟨a2, k2, e2, _⟩ := rowIn_own h.nr
  have hl : M.l.length = W.net.length := by rw [← h.nl]; simp
  have c0 := h.box.cell 0 _ rfl
  have c1 := h.box.cell 1 _ rfl
  have c2 := h.box.cell 2 _ rfl
  rw [e0] at c0
  rw [e1] at c1
  rw [e2, hl] at c2
  exact ⟨a0, k0, a1, k1, a2, k2, c0, c1, c2, h.box.cell 3 _ rfl, h.box.lt⟩
set_option maxRecDepth 100000 in
set_option maxHeartbeats 4000000 in
theorem pw_begin_no (k : Int) (w : World) (h : PW w b G W) (hk : ¬ (0 ≤ k ∧ k < (W.c : Int))) :
    Calls Tryz.prog 98 #[.pointer (some ⟨b, 0, none⟩), .int .i64 k] w fun e w' => e = .returned (errV 2) ∧ Below w.heap.size w w' := by
  obtain ⟨a0, k0, a1, k1, a2, k2, c0, c1, c2, c3, hlt⟩ := h.lens
  have IC := isClient_is (k := k) (v := false) w c1 (by
    have q : ¬ (0 ≤ k) ∨ ¬ (k < (W.c : Int)) := by omega
    rcases q with q | q <;> simp [q])
  clear h c0 c1 c2 c3
  go_enter Tryz.func98, Tryz.ntmps98
  go_wp2_with fail
  refine IC.mono ?_
  rintro e w2 ⟨rfl, hw2⟩
  have hw2' := hw2.symm
  clear hw2 IC
  subst hw2'
  go_wp2_with fail
  go_ret
  exact ⟨rfl, Below.refl _ _⟩
set_option maxRecDepth 100000 in
set_option maxHeartbeats 4000000 in
theorem pw_read_no (k : Int) (key : Int) (w : World) (h : PW w b G W) (hk : ¬ (0 ≤ k ∧ k < (W.c : Int))) :
    Calls Tryz.prog 113 #[.pointer (some ⟨b, 0, none⟩), .int .i64 k, .int .i64 key] w fun e w' => e = .returned (.tuple #[.string ⟨#[]⟩, errV 2]) ∧ Below w.heap.size w w' := by
  obtain ⟨a0, k0, a1, k1, a2, k2, c0, c1, c2, c3, hlt⟩ := h.lens
  have IC := isClient_is (k := k) (v := false) w c1 (by
    have q : ¬ (0 ≤ k) ∨ ¬ (k < (W.c : Int)) := by omega
    rcases q with q | q <;> simp [q])
  clear h c0 c1 c2 c3
  go_enter Tryz.func113, Tryz.ntmps113
  go_wp2_with fail
  refine IC.mono ?_
  rintro e w2 ⟨rfl, hw2⟩
  have hw2' := hw2.symm
  clear hw2 IC
  subst hw2'
  go_wp2_with fail
  go_ret2
  exact ⟨rfl, Below.refl _ _⟩
set_option maxRecDepth 100000 in
set_option maxHeartbeats 4000000 in
theorem pw_write_no (k : Int) (xk : Int) (xd : ByteArray) (xg : Bool) (w : World) (h : PW w b G W) (hk : ¬ (0 ≤ k ∧ k < (W.c : Int))) :
    Calls Tryz.prog 105 #[.pointer (some ⟨b, 0, none⟩), .int .i64 k, .agg #[.int .i64 xk, .string xd, .bool xg]] w fun e w' => e = .returned (errV 2) ∧ Below w.heap.size w w' := by
  obtain ⟨a0, k0, a1, k1, a2, k2, c0, c1, c2, c3, hlt⟩ := h.lens
  have bx := boxed (Below.refl _ w) (.cells #[.int .i64 xk, .string xd, .bool xg] 100)
  have IC := isClient_is (k := k) (v := false) (w.alloc (.cells #[.int .i64 xk, .string xd, .bool xg] 100)) (cell_later bx c1) (by
    have q : ¬ (0 ≤ k) ∨ ¬ (k < (W.c : Int)) := by omega
    rcases q with q | q <;> simp [q])
  clear h c0 c1 c2 c3
  go_enter Tryz.func105, Tryz.ntmps105
  go_wp2_with fail
  refine IC.mono ?_
  rintro e w2 ⟨rfl, hw2⟩
  have hw2' := hw2.symm
  clear hw2 IC
  subst hw2'
  go_wp2_with fail
  go_ret
  exact ⟨rfl, boxed (Below.refl _ w) _⟩
set_option maxRecDepth 100000 in
set_option maxHeartbeats 4000000 in
theorem pw_commit_no (k : Int) (w : World) (h : PW w b G W) (hk : ¬ (0 ≤ k ∧ k < (W.c : Int))) :
    Calls Tryz.prog 103 #[.pointer (some ⟨b, 0, none⟩), .int .i64 k] w fun e w' => e = .returned (.tuple #[.agg #[.int .i64 0, .int .i64 0, .int .i64 0, .int .i64 0, .int .i64 0, .int .i64 0, .int .i64 0, .int .i64 0, .slice none 0 0], errV 2]) ∧ Below w.heap.size w w' := by
  obtain ⟨a0, k0, a1, k1, a2, k2, c0, c1, c2, c3, hlt⟩ := h.lens
  have bx := boxed (Below.refl _ w) (.cells #[.int .i64 0, .int .i64 0, .int .i64 0, .int .i64 0, .int .i64 0, .int .i64 0, .int .i64 0, .int .i64 0, .slice none 0 0] 102)
  have RZ := RowL.new (w := w) (T := 102) (n := w.heap.size) [.int .i64 0, .int .i64 0, .int .i64 0, .int .i64 0, .int .i64 0, .int .i64 0, .int .i64 0, .int .i64 0, .slice none 0 0] rfl
  have z0 := RZ.cell 0 _ rfl
  have f0 := RZ.free 0 (by simp)
  have z1 := RZ.cell 1 _ rfl
  have f1 := RZ.free 1 (by simp)
  have z2 := RZ.cell 2 _ rfl
  have f2 := RZ.free 2 (by simp)
  have z3 := RZ.cell 3 _ rfl
  have f3 := RZ.free 3 (by simp)
  have z4 := RZ.cell 4 _ rfl
  have f4 := RZ.free 4 (by simp)
  have z5 := RZ.cell 5 _ rfl
  have f5 := RZ.free 5 (by simp)
  have z6 := RZ.cell 6 _ rfl
  have f6 := RZ.free 6 (by simp)
  have z7 := RZ.cell 7 _ rfl
  have f7 := RZ.free 7 (by simp)
  have z8 := RZ.cell 8 _ rfl
  have f8 := RZ.free 8 (by simp)
  have RS := tx_set RZ rfl 0 0 0 0 0 0 0 0 (.slice none 0 0)
  simp only [setTx] at RS
  have HZ : Hid _ := RZ
  clear RZ RS
  have IC := isClient_is (k := k) (v := false) (w.alloc (.cells #[.int .i64 0, .int .i64 0, .int .i64 0, .int .i64 0, .int .i64 0, .int .i64 0, .int .i64 0, .int .i64 0, .slice none 0 0] 102)) (cell_later bx c1) (by
    have q : ¬ (0 ≤ k) ∨ ¬ (k < (W.c : Int)) := by omega
    rcases q with q | q <;> simp [q])
  clear h c0 c1 c2 c3
  go_enter Tryz.func103, Tryz.ntmps103
  go_wp2_with fail
  refine IC.mono ?_
  rintro e w2 ⟨rfl, hw2⟩
  have hw2' := hw2.symm
  clear hw2 IC
  subst hw2'
  go_wp2_with fail
  (try simp only [Exit.inBlock, Exit.then])
  exact bodyPost_ret (wcommit_results HZ.out rfl rfl) rfl ⟨rfl, bx⟩
set_option maxRecDepth 100000 in
set_option maxHeartbeats 4000000 in
theorem pw_abort_no (k : Int) (w : World) (h : PW w b G W) (hk : ¬ (0 ≤ k ∧ k < (W.c : Int))) :
    Calls Tryz.prog 94 #[.pointer (some ⟨b, 0, none⟩), .int .i64 k] w fun e w' => e = .returned (errV 2) ∧ Below w.heap.size w w' := by
  obtain ⟨a0, k0, a1, k1, a2, k2, c0, c1, c2, c3, hlt⟩ := h.lens
  have IC := isClient_is (k := k) (v := false) w c1 (by
    have q : ¬ (0 ≤ k) ∨ ¬ (k < (W.c : Int)) := by omega
    rcases q with q | q <;> simp [q])
  clear h c0 c1 c2 c3
  go_enter Tryz.func94, Tryz.ntmps94
  go_wp2_with fail
  refine IC.mono ?_
  rintro e w2 ⟨rfl, hw2⟩
  have hw2' := hw2.symm
  clear hw2 IC
  subst hw2'
  go_wp2_with fail
  go_ret
  exact ⟨rfl, Below.refl _ _⟩
set_option maxRecDepth 100000 in
set_option maxHeartbeats 4000000 in
theorem pw_deliver_nok (k : Int) (w : World) (h : PW w b G W) (hk : ¬ (0 ≤ k ∧ k < (W.net.length : Int))) :
    Calls Tryz.prog 104 #[.pointer (some ⟨b, 0, none⟩), .int .i64 k] w fun e w' => e = .returned (errV 2) ∧ Below w.heap.size w w' := by
  obtain ⟨a0, k0, a1, k1, a2, k2, c0, c1, c2, c3, hlt⟩ := h.lens
  have IC := isUnder_is (k := k) (v := false) w c2 (by
    have q : ¬ (0 ≤ k) ∨ ¬ (k < (W.net.length : Int)) := by omega
    rcases q with q | q <;> simp [q])
  clear h c0 c1 c2 c3
  go_enter Tryz.func104, Tryz.ntmps104
  go_wp2_with fail
  refine IC.mono ?_
  rintro e w2 ⟨rfl, hw2⟩
  have hw2' := hw2.symm
  clear hw2 IC
  subst hw2'
  go_wp2_with fail
  go_ret
  exact ⟨rfl, Below.refl _ _⟩
set_option maxRecDepth 100000 in
set_option maxHeartbeats 4000000 in
theorem pw_lose_nok (k : Int) (w : World) (h : PW w b G W) (hk : ¬ (0 ≤ k ∧ k < (W.net.length : Int))) :
    Calls Tryz.prog 109 #[.pointer (some ⟨b, 0, none⟩), .int .i64 k] w fun e w' => e = .returned (errV 2) ∧ Below w.heap.size w w' := by
  obtain ⟨a0, k0, a1, k1, a2, k2, c0, c1, c2, c3, hlt⟩ := h.lens
  have IC := isUnder_is (k := k) (v := false) w c2 (by
    have q : ¬ (0 ≤ k) ∨ ¬ (k < (W.net.length : Int)) := by omega
    rcases q with q | q <;> simp [q])
  clear h c0 c1 c2 c3
  go_enter Tryz.func109, Tryz.ntmps109
  go_wp2_with fail
  refine IC.mono ?_
  rintro e w2 ⟨rfl, hw2⟩
  have hw2' := hw2.symm
  clear hw2 IC
  subst hw2'
  go_wp2_with fail
  go_ret
  exact ⟨rfl, Below.refl _ _⟩
set_option maxRecDepth 100000 in
set_option maxHeartbeats 4000000 in
theorem pw_twice_nok (k : Int) (w : World) (h : PW w b G W) (hk : ¬ (0 ≤ k ∧ k < (W.net.length : Int))) :
    Calls Tryz.prog 116 #[.pointer (some ⟨b, 0, none⟩), .int .i64 k] w fun e w' => e = .returned (errV 2) ∧ Below w.heap.size w w' := by
  obtain ⟨a0, k0, a1, k1, a2, k2, c0, c1, c2, c3, hlt⟩ := h.lens
  have IC := isUnder_is (k := k) (v := false) w c2 (by
    have q : ¬ (0 ≤ k) ∨ ¬ (k < (W.net.length : Int)) := by omega
    rcases q with q | q <;> simp [q])
  clear h c0 c1 c2 c3
  go_enter Tryz.func116, Tryz.ntmps116
  go_wp2_with fail
  refine IC.mono ?_
  rintro e w2 ⟨rfl, hw2⟩
  have hw2' := hw2.symm
  clear hw2 IC
  subst hw2'
  go_wp2_with fail
  go_ret
  exact ⟨rfl, Below.refl _ _⟩
set_option maxRecDepth 100000 in
set_option maxHeartbeats 4000000 in
theorem pw_sweep_no (k : Int) (w : World) (h : PW w b G W) (hk : ¬ (0 ≤ k ∧ k < (W.n : Int))) :
    Calls Tryz.prog 115 #[.pointer (some ⟨b, 0, none⟩), .int .i64 k] w fun e w' => e = .returned (errV 2) ∧ Below w.heap.size w w' := by
  obtain ⟨a0, k0, a1, k1, a2, k2, c0, c1, c2, c3, hlt⟩ := h.lens
  have IC := wIsSite_is (k := k) (v := false) w c0 (by
    have q : ¬ (0 ≤ k) ∨ ¬ (k < (W.n : Int)) := by omega
    rcases q with q | q <;> simp [q])
  clear h c0 c1 c2 c3
  go_enter Tryz.func115, Tryz.ntmps115
  go_wp2_with fail
  refine IC.mono ?_
  rintro e w2 ⟨rfl, hw2⟩
  have hw2' := hw2.symm
  clear hw2 IC
  subst hw2'
  go_wp2_with fail
  go_ret
  exact ⟨rfl, Below.refl _ _⟩
set_option maxRecDepth 100000 in
set_option maxHeartbeats 4000000 in
theorem pw_goes_no (k : Int) (y : Int) (w : World) (h : PW w b G W) (hk : ¬ (0 ≤ k ∧ k < (W.n : Int))) :
    Calls Tryz.prog 106 #[.pointer (some ⟨b, 0, none⟩), .int .i64 k, .int .i64 y] w fun e w' => e = .returned (errV 2) ∧ Below w.heap.size w w' := by
  obtain ⟨a0, k0, a1, k1, a2, k2, c0, c1, c2, c3, hlt⟩ := h.lens
  have IC := wIsSite_is (k := k) (v := false) w c0 (by
    have q : ¬ (0 ≤ k) ∨ ¬ (k < (W.n : Int)) := by omega
    rcases q with q | q <;> simp [q])
  clear h c0 c1 c2 c3
  go_enter Tryz.func106, Tryz.ntmps106
  go_wp2_with fail
  refine IC.mono ?_
  rintro e w2 ⟨rfl, hw2⟩
  have hw2' := hw2.symm
  clear hw2 IC
  subst hw2'
  go_wp2_with fail
  go_ret
  exact ⟨rfl, Below.refl _ _⟩
set_option maxRecDepth 100000 in
set_option maxHeartbeats 4000000 in
theorem pw_move_no (k : Int) (y : Int) (w : World) (h : PW w b G W) (hk : ¬ (0 ≤ k ∧ k < (W.c : Int))) :
    Calls Tryz.prog 112 #[.pointer (some ⟨b, 0, none⟩), .int .i64 k, .int .i64 y] w fun e w' => e = .returned (errV 2) ∧ Below w.heap.size w w' := by
  obtain ⟨a0, k0, a1, k1, a2, k2, c0, c1, c2, c3, hlt⟩ := h.lens
  have IC := isClient_is (k := k) (v := false) w c1 (by
    have q : ¬ (0 ≤ k) ∨ ¬ (k < (W.c : Int)) := by omega
    rcases q with q | q <;> simp [q])
  clear h c0 c1 c2 c3
  go_enter Tryz.func112, Tryz.ntmps112
  go_wp2_with fail
  refine IC.mono ?_
  rintro e w2 ⟨rfl, hw2⟩
  have hw2' := hw2.symm
  clear hw2 IC
  subst hw2'
  go_wp2_with fail
  go_ret
  exact ⟨rfl, Below.refl _ _⟩
set_option maxRecDepth 100000 in
set_option maxHeartbeats 4000000 in
theorem pw_move_no2 {i : Nat} (y : Int) (w : World) (h : PW w b G W) (hi : i < W.c) (hk : ¬ (0 ≤ y ∧ y < (W.n : Int))) :
    Calls Tryz.prog 112 #[.pointer (some ⟨b, 0, none⟩), .int .i64 i, .int .i64 y] w fun e w' => e = .returned (errV 2) ∧ Below w.heap.size w w' := by
  obtain ⟨a0, k0, a1, k1, a2, k2, c0, c1, c2, c3, hlt⟩ := h.lens
  have IC := isClient_is (k := i) (v := true) w c1 (by simp; omega)
  have IS := wIsSite_is (k := y) (v := false) w c0 (by
    have q : ¬ (0 ≤ y) ∨ ¬ (y < (W.n : Int)) := by omega
    rcases q with q | q <;> simp [q])
  clear h c0 c1 c2 c3
  go_enter Tryz.func112, Tryz.ntmps112
  go_wp2_with fail
  refine IC.mono ?_
  rintro e w2 ⟨rfl, hw2⟩
  have hw2' := hw2.symm
  clear hw2 IC
  subst hw2'
  go_wp2_with fail
  refine IS.mono ?_
  rintro e w3 ⟨rfl, hw3⟩
  have hw3' := hw3.symm
  clear hw3 IS
  subst hw3'
  go_wp2_with fail
  go_ret
  exact ⟨rfl, Below.refl _ _⟩
set_option maxRecDepth 100000 in
set_option maxHeartbeats 4000000 in
theorem pw_goes_no2 {i : Nat} (y : Int) (w : World) (h : PW w b G W) (hi : i < W.n) (hk : ¬ (0 ≤ y ∧ y ≤ 1099511627776)) :
    Calls Tryz.prog 106 #[.pointer (some ⟨b, 0, none⟩), .int .i64 i, .int .i64 y] w fun e w' => e = .returned (errV 2) ∧ Below w.heap.size w w' := by
  obtain ⟨a0, k0, a1, k1, a2, k2, c0, c1, c2, c3, hlt⟩ := h.lens
  have IC := wIsSite_is (k := i) (v := true) w c0 (by simp; omega)
  clear h c0 c1 c2 c3
  by_cases hy : y < 0
  · skip
    go_enter Tryz.func106, Tryz.ntmps106
    go_wp2_with fail
    refine IC.mono ?_
    rintro e w2 ⟨rfl, hw2⟩
    have hw2' := hw2.symm
    clear hw2 IC
    subst hw2'
    go_wp2_with fail
    go_ret
    exact ⟨rfl, Below.refl _ _⟩
  · have hy2 : 1099511627776 < y := by omega
    go_enter Tryz.func106, Tryz.ntmps106
    go_wp2_with fail
    refine IC.mono ?_
    rintro e w2 ⟨rfl, hw2⟩
    have hw2' := hw2.symm
    clear hw2 IC
    subst hw2'
    go_wp2_with fail
    go_ret
    exact ⟨rfl, Below.refl _ _⟩
set_option maxRecDepth 100000 in
set_option maxHeartbeats 4000000 in
theorem pw_ask_no (k : Int) (y : Int) (w : World) (h : PW w b G W) (hk : ¬ (0 ≤ k ∧ k < (W.n : Int))) :
    Calls Tryz.prog 96 #[.pointer (some ⟨b, 0, none⟩), .int .i64 k, .int .i64 y] w fun e w' => e = .returned (errV 2) ∧ Below w.heap.size w w' := by
  obtain ⟨a0, k0, a1, k1, a2, k2, c0, c1, c2, c3, hlt⟩ := h.lens
  have IC := wIsSite_is (k := k) (v := false) w c0 (by
    have q : ¬ (0 ≤ k) ∨ ¬ (k < (W.n : Int)) := by omega
    rcases q with q | q <;> simp [q])
  clear h c0 c1 c2 c3
  go_enter Tryz.func96, Tryz.ntmps96
  go_wp2_with fail
  refine IC.mono ?_
  rintro e w2 ⟨rfl, hw2⟩
  have hw2' := hw2.symm
  clear hw2 IC
  subst hw2'
  go_wp2_with fail
  go_ret
  exact ⟨rfl, Below.refl _ _⟩
set_option maxRecDepth 100000 in
set_option maxHeartbeats 4000000 in
theorem pw_ask_no2 {i : Nat} (y : Int) (w : World) (h : PW w b G W) (hi : i < W.n) (hk : ¬ (0 ≤ y ∧ y < (W.n : Int))) :
    Calls Tryz.prog 96 #[.pointer (some ⟨b, 0, none⟩), .int .i64 i, .int .i64 y] w fun e w' => e = .returned (errV 2) ∧ Below w.heap.size w w' := by
  obtain ⟨a0, k0, a1, k1, a2, k2, c0, c1, c2, c3, hlt⟩ := h.lens
  have IC := wIsSite_is (k := i) (v := true) w c0 (by simp; omega)
  have IS := wIsSite_is (k := y) (v := false) w c0 (by
    have q : ¬ (0 ≤ y) ∨ ¬ (y < (W.n : Int)) := by omega
    rcases q with q | q <;> simp [q])
  clear h c0 c1 c2 c3
  go_enter Tryz.func96, Tryz.ntmps96
  go_wp2_with fail
  refine IC.mono ?_
  rintro e w2 ⟨rfl, hw2⟩
  have hw2' := hw2.symm
  clear hw2 IC
  subst hw2'
  go_wp2_with fail
  refine IS.mono ?_
  rintro e w3 ⟨rfl, hw3⟩
  have hw3' := hw3.symm
  clear hw3 IS
  subst hw3'
  go_wp2_with fail
  go_ret
  exact ⟨rfl, Below.refl _ _⟩
set_option maxRecDepth 100000 in
set_option maxHeartbeats 4000000 in
theorem pw_lost (w : World) (h : PW w b G W) : Calls Tryz.prog 111 #[.pointer (some ⟨b, 0, none⟩)] w fun e w' => e = .returned (.int .i64 W.lost) ∧ w' = w := by
  obtain ⟨a0, k0, a1, k1, a2, k2, c0, c1, c2, c3, hlt⟩ := h.lens
  clear h c0 c1 c2
  go_enter Tryz.func111, Tryz.ntmps111
  go_wp2_with fail
  go_ret
  exact ⟨rfl, rfl⟩
set_option maxRecDepth 100000 in
set_option maxHeartbeats 4000000 in
theorem pw_site_no (k : Int) (w : World) (h : PW w b G W) (hk : ¬ (0 ≤ k ∧ k < (W.n : Int))) :
    Calls Tryz.prog 114 #[.pointer (some ⟨b, 0, none⟩), .int .i64 k] w fun e w' => e = .returned (.tuple #[.agg #[.int .i64 0, .int .i64 0, .int .i64 0, .int .i64 0], .int .i64 0, .slice none 0 0, .int .i64 0, errV 2]) ∧ Below w.heap.size w w' := by
  obtain ⟨a0, k0, a1, k1, a2, k2, c0, c1, c2, c3, hlt⟩ := h.lens
  have bx := boxed (Below.refl _ w) (.cells #[.int .i64 0, .int .i64 0, .int .i64 0, .int .i64 0] 77)
  have RZ := RowL.new (w := w) (T := 77) (n := w.heap.size) [.int .i64 0, .int .i64 0, .int .i64 0, .int .i64 0] rfl
  have z0 := RZ.cell 0 _ rfl
  have f0 := RZ.free 0 (by simp)
  have z1 := RZ.cell 1 _ rfl
  have f1 := RZ.free 1 (by simp)
  have z2 := RZ.cell 2 _ rfl
  have f2 := RZ.free 2 (by simp)
  have z3 := RZ.cell 3 _ rfl
  have f3 := RZ.free 3 (by simp)
  have HZ : Hid _ := RZ
  clear RZ
  have IC := wIsSite_is (k := k) (v := false) (w.alloc (.cells #[.int .i64 0, .int .i64 0, .int .i64 0, .int .i64 0] 77)) (cell_later bx c0) (by
    have q : ¬ (0 ≤ k) ∨ ¬ (k < (W.n : Int)) := by omega
    rcases q with q | q <;> simp [q])
  clear h c0 c1 c2 c3
  go_enter Tryz.func114, Tryz.ntmps114
  go_wp2_with fail
  refine IC.mono ?_
  rintro e w2 ⟨rfl, hw2⟩
  have hw2' := hw2.symm
  clear hw2 IC
  subst hw2'
  go_wp2_with fail
  (try simp only [Exit.inBlock, Exit.then])
  exact bodyPost_ret (site_results HZ.out rfl rfl rfl rfl rfl) rfl ⟨rfl, bx⟩
set_option maxRecDepth 100000 in
set_option maxHeartbeats 4000000 in
theorem pw_client_no (k : Int) (w : World) (h : PW w b G W) (hk : ¬ (0 ≤ k ∧ k < (W.c : Int))) :
    Calls Tryz.prog 101 #[.pointer (some ⟨b, 0, none⟩), .int .i64 k] w fun e w' => e = .returned (.tuple #[.int .i64 0, .agg #[.int .i64 0, .int .i64 0, .int .i64 0, .int .i64 0], .agg #[.int .i64 0, .int .i64 0, .int .i64 0, .int .i64 0], .bool false, errV 2]) ∧ Below w.heap.size w w' := by
  obtain ⟨a0, k0, a1, k1, a2, k2, c0, c1, c2, c3, hlt⟩ := h.lens
  have bx := boxed (boxed (Below.refl _ w) (.cells #[.int .i64 0, .int .i64 0, .int .i64 0, .int .i64 0] 77)) (.cells #[.int .i64 0, .int .i64 0, .int .i64 0, .int .i64 0] 77)
  have RZ := (RowL.new (w := w) (T := 77) (n := w.heap.size) [.int .i64 0, .int .i64 0, .int .i64 0, .int .i64 0] rfl).later (boxed (Below.refl _ _) (.cells #[.int .i64 0, .int .i64 0, .int .i64 0, .int .i64 0] 77))
  have RY := RowL.new (w := w.alloc (.cells #[.int .i64 0, .int .i64 0, .int .i64 0, .int .i64 0] 77)) (T := 77) (n := w.heap.size + 1) [.int .i64 0, .int .i64 0, .int .i64 0, .int .i64 0] (by simp)
  have z0 := RZ.cell 0 _ rfl
  have f0 := RZ.free 0 (by simp)
  have y0 := RY.cell 0 _ rfl
  have g0 := RY.free 0 (by simp)
  have z1 := RZ.cell 1 _ rfl
  have f1 := RZ.free 1 (by simp)
  have y1 := RY.cell 1 _ rfl
  have g1 := RY.free 1 (by simp)
  have z2 := RZ.cell 2 _ rfl
  have f2 := RZ.free 2 (by simp)
  have y2 := RY.cell 2 _ rfl
  have g2 := RY.free 2 (by simp)
  have z3 := RZ.cell 3 _ rfl
  have f3 := RZ.free 3 (by simp)
  have y3 := RY.cell 3 _ rfl
  have g3 := RY.free 3 (by simp)
  have HZ : Hid _ := And.intro RZ RY
  clear RZ RY
  have IC := isClient_is (k := k) (v := false) ((w.alloc (.cells #[.int .i64 0, .int .i64 0, .int .i64 0, .int .i64 0] 77)).alloc (.cells #[.int .i64 0, .int .i64 0, .int .i64 0, .int .i64 0] 77)) (cell_later bx c1) (by
    have q : ¬ (0 ≤ k) ∨ ¬ (k < (W.c : Int)) := by omega
    rcases q with q | q <;> simp [q])
  clear h c0 c1 c2 c3
  go_enter Tryz.func101, Tryz.ntmps101
  go_wp2_with fail
  refine IC.mono ?_
  rintro e w2 ⟨rfl, hw2⟩
  have hw2' := hw2.symm
  clear hw2 IC
  subst hw2'
  go_wp2_with fail
  (try simp only [Exit.inBlock, Exit.then])
  exact bodyPost_ret (client_results HZ.out.1 HZ.out.2 rfl rfl rfl rfl rfl) rfl ⟨rfl, bx⟩
set_option maxRecDepth 100000 in
set_option maxHeartbeats 4000000 in
theorem pw_new_no {n c : Int} (hk : ¬ ((1 ≤ n ∧ n ≤ 4) ∧ (0 ≤ c ∧ c ≤ 6))) (w : World) :
    Calls Tryz.prog 65 #[.int .i64 n, .int .i64 c] w fun e w' => e = .returned (.tuple #[.pointer none, errV 2]) ∧ Below w.heap.size w w' := by
  by_cases h1 : n < 1
  · skip
    go_enter Tryz.func65, Tryz.ntmps65
    go_wp2_with fail
    go_ret2
    exact ⟨rfl, Below.refl _ _⟩
  by_cases h2 : 4 < n
  · skip
    go_enter Tryz.func65, Tryz.ntmps65
    go_wp2_with fail
    go_ret2
    exact ⟨rfl, Below.refl _ _⟩
  by_cases h3 : c < 0
  · skip
    go_enter Tryz.func65, Tryz.ntmps65
    go_wp2_with fail
    go_ret2
    exact ⟨rfl, Below.refl _ _⟩
  · have h4 : 6 < c := by omega
    go_enter Tryz.func65, Tryz.ntmps65
    go_wp2_with fail
    go_ret2
    exact ⟨rfl, Below.refl _ _⟩
end
end
section
open Go.RowKit
/-- a call that tells an error alone -/
def OpEnd (i : Nat) (W : WoS) (l : List Int) (d : ByteArray) (w : World) (b : Nat) (G : Nat → Prop) (e : Ending) (w' : World) : Prop :=
  ∃ W' er, CmdTo i W l d W' er (nameOf i) ∧ e = .returned (errV er) ∧ PWPo w b G W' w'
section
variable {b : Nat} {G : Nat → Prop} {W : WoS} {j : Nat}
theorem there_nat {k : Int} {n : Nat} (h : There k n) : ∃ i : Nat, k = i ∧ i < n ∧ k.toNat = i := ⟨k.toNat, by have := h.1; omega, by have := h.1; have := h.2; omega, rfl⟩
theorem op_abort (k : Int) (w : World) (h : PW w b G W) : Calls Tryz.prog 94 #[.pointer (some ⟨b, 0, none⟩), .int .i64 k] w (OpEnd 0 W [k] ⟨#[]⟩ w b G) := by
  by_cases hk : There k W.c
  · obtain ⟨i, rfl, hi, e⟩ := there_nat hk
    exact (pw_abort w h hi).mono fun _ _ ⟨h1, h2⟩ => ⟨_, _, ⟨rfl, by rw [if_pos hk]; exact ⟨rfl, rfl⟩⟩, h1, h2⟩
  · exact (pw_abort_no k w h hk).mono fun _ _ ⟨h1, h2⟩ => ⟨W, 2, ⟨rfl, by rw [if_neg hk]; exact ⟨rfl, rfl⟩⟩, h1, PWPo.same h h2⟩
theorem op_begin (k : Int) (w : World) (h : PW w b G W) (hI : PlI j W) : Calls Tryz.prog 98 #[.pointer (some ⟨b, 0, none⟩), .int .i64 k] w (OpEnd 2 W [k] ⟨#[]⟩ w b G) := by
  by_cases hk : There k W.c
  · obtain ⟨i, rfl, hi, e⟩ := there_nat hk
    exact (pw_begin w h hI.wf hi).mono fun _ _ ⟨h1, h2⟩ => ⟨_, _, ⟨rfl, by rw [if_pos hk]; exact ⟨rfl, rfl⟩⟩, h1, h2⟩
  · exact (pw_begin_no k w h hk).mono fun _ _ ⟨h1, h2⟩ => ⟨W, 2, ⟨rfl, by rw [if_neg hk]; exact ⟨rfl, rfl⟩⟩, h1, PWPo.same h h2⟩
theorem op_ask (k o : Int) (w : World) (h : PW w b G W) (hI : PlI j W) : Calls Tryz.prog 96 #[.pointer (some ⟨b, 0, none⟩), .int .i64 k, .int .i64 o] w (OpEnd 1 W [k, o] ⟨#[]⟩ w b G) := by
  by_cases hk : There k W.n
  · obtain ⟨i, rfl, hi, e⟩ := there_nat hk
    by_cases ho : There o W.n
    · obtain ⟨m, rfl, hm, e2⟩ := there_nat ho
      by_cases hne : i = m
      · subst hne
        exact (pw_ask_self w h hi).mono fun _ _ ⟨h1, h2⟩ => ⟨W, 2, ⟨rfl, by rw [if_neg (fun q => q.2.2 rfl)]; exact ⟨rfl, rfl⟩⟩, h1, h2⟩
      · exact (pw_ask w h hI.wf hi hm hne).mono fun _ _ ⟨h1, h2⟩ => ⟨_, _, ⟨rfl, by rw [if_pos ⟨hk, ho, by omega⟩]; exact ⟨rfl, rfl⟩⟩, h1, h2⟩
    · exact (pw_ask_no2 o w h hi ho).mono fun _ _ ⟨h1, h2⟩ => ⟨W, 2, ⟨rfl, by rw [if_neg (fun q => ho q.2.1)]; exact ⟨rfl, rfl⟩⟩, h1, PWPo.same h h2⟩
  · exact (pw_ask_no k o w h hk).mono fun _ _ ⟨h1, h2⟩ => ⟨W, 2, ⟨rfl, by rw [if_neg (fun q => hk q.1)]; exact ⟨rfl, rfl⟩⟩, h1, PWPo.same h h2⟩
theorem net_at_there {k : Int} (hk : There k W.net.length) : ∃ (i : Nat) (g : GrS), k = i ∧ k.toNat = i ∧ W.net[i]? = some g := by
  obtain ⟨i, e, hi, e2⟩ := there_nat hk
  exact ⟨i, W.net[i], e, e2, List.getElem?_eq_getElem hi⟩
theorem op_deliver (k : Int) (w : World) (h : PW w b G W) (hI : PlI j W) : Calls Tryz.prog 104 #[.pointer (some ⟨b, 0, none⟩), .int .i64 k] w (OpEnd 6 W [k] ⟨#[]⟩ w b G) := by
  by_cases hk : There k W.net.length
  · obtain ⟨i, g, rfl, e, hg⟩ := net_at_there hk
    exact (pw_deliver w h hI.wf hg).mono fun _ _ ⟨h1, W', h2, h3⟩ => ⟨W', 0, ⟨rfl, by rw [if_pos hk]; exact ⟨h2.out, rfl⟩⟩, h1, h3⟩
  · exact (pw_deliver_nok k w h hk).mono fun _ _ ⟨h1, h2⟩ => ⟨W, 2, ⟨rfl, by rw [if_neg hk]; exact ⟨rfl, rfl⟩⟩, h1, PWPo.same h h2⟩
theorem op_lose (k : Int) (w : World) (h : PW w b G W) (hI : PlI j W) : Calls Tryz.prog 109 #[.pointer (some ⟨b, 0, none⟩), .int .i64 k] w (OpEnd 10 W [k] ⟨#[]⟩ w b G) := by
  by_cases hk : There k W.net.length
  · obtain ⟨i, g, rfl, e, hg⟩ := net_at_there hk
    exact (pw_lose w h hI.wf.net hg).mono fun _ _ ⟨h1, h2⟩ => ⟨_, 0, ⟨rfl, by rw [if_pos hk]; exact ⟨rfl, rfl⟩⟩, h1, h2⟩
  · exact (pw_lose_nok k w h hk).mono fun _ _ ⟨h1, h2⟩ => ⟨W, 2, ⟨rfl, by rw [if_neg hk]; exact ⟨rfl, rfl⟩⟩, h1, PWPo.same h h2⟩
theorem op_twice (k : Int) (w : World) (h : PW w b G W) : Calls Tryz.prog 116 #[.pointer (some ⟨b, 0, none⟩), .int .i64 k] w (OpEnd 16 W [k] ⟨#[]⟩ w b G) := by
  by_cases hk : There k W.net.length
  · obtain ⟨i, g, rfl, e, hg⟩ := net_at_there hk
    exact (pw_twice w h hg).mono fun _ _ ⟨h1, h2⟩ => ⟨_, 0, ⟨rfl, by rw [if_pos hk]; exact ⟨⟨g, hg, rfl⟩, rfl⟩⟩, h1, h2⟩
  · exact (pw_twice_nok k w h hk).mono fun _ _ ⟨h1, h2⟩ => ⟨W, 2, ⟨rfl, by rw [if_neg hk]; exact ⟨rfl, rfl⟩⟩, h1, PWPo.same h h2⟩
theorem op_sweep (k : Int) (w : World) (h : PW w b G W) (hI : PlI j W) : Calls Tryz.prog 115 #[.pointer (some ⟨b, 0, none⟩), .int .i64 k] w (OpEnd 15 W [k] ⟨#[]⟩ w b G) := by
  by_cases hk : There k W.n
  · obtain ⟨i, rfl, hi, e⟩ := there_nat hk
    exact (pw_sweep w h hI.wf hi).mono fun _ _ ⟨h1, h2⟩ => ⟨_, 0, ⟨rfl, by rw [if_pos hk]; exact ⟨rfl, rfl⟩⟩, h1, h2⟩
  · exact (pw_sweep_no k w h hk).mono fun _ _ ⟨h1, h2⟩ => ⟨W, 2, ⟨rfl, by rw [if_neg hk]; exact ⟨rfl, rfl⟩⟩, h1, PWPo.same h h2⟩
theorem op_goes (k y : Int) (w : World) (h : PW w b G W) (hI : PlI j W) : Calls Tryz.prog 106 #[.pointer (some ⟨b, 0, none⟩), .int .i64 k, .int .i64 y] w (OpEnd 8 W [k, y] ⟨#[]⟩ w b G) := by
  by_cases hk : There k W.n
  · obtain ⟨i, rfl, hi, e⟩ := there_nat hk
    by_cases hy : 0 ≤ y ∧ y ≤ 1099511627776
    · exact (pw_goes w h hi hy.1 hy.2 (hI.wl i hi).1 (hI.wl i hi).2).mono fun _ _ ⟨h1, h2⟩ => ⟨_, 0, ⟨rfl, by rw [if_pos ⟨hk, hy⟩]; exact ⟨rfl, rfl⟩⟩, h1, h2⟩
    · exact (pw_goes_no2 y w h hi hy).mono fun _ _ ⟨h1, h2⟩ => ⟨W, 2, ⟨rfl, by rw [if_neg (fun q => hy q.2)]; exact ⟨rfl, rfl⟩⟩, h1, PWPo.same h h2⟩
  · exact (pw_goes_no k y w h hk).mono fun _ _ ⟨h1, h2⟩ => ⟨W, 2, ⟨rfl, by rw [if_neg (fun q => hk q.1)]; exact ⟨rfl, rfl⟩⟩, h1, PWPo.same h h2⟩
theorem op_move (k y : Int) (w : World) (h : PW w b G W) : Calls Tryz.prog 112 #[.pointer (some ⟨b, 0, none⟩), .int .i64 k, .int .i64 y] w (OpEnd 12 W [k, y] ⟨#[]⟩ w b G) := by
  by_cases hk : There k W.c
  · obtain ⟨i, rfl, hi, e⟩ := there_nat hk
    by_cases hy : There y W.n
    · obtain ⟨m, rfl, hm, e2⟩ := there_nat hy
      exact (pw_move w h hi hm).mono fun _ _ ⟨h1, h2⟩ => ⟨_, _, ⟨rfl, by rw [if_pos ⟨hk, hy⟩]; exact ⟨rfl, rfl⟩⟩, h1, h2⟩
    · exact (pw_move_no2 y w h hi hy).mono fun _ _ ⟨h1, h2⟩ => ⟨W, 2, ⟨rfl, by rw [if_neg (fun q => hy q.2)]; exact ⟨rfl, rfl⟩⟩, h1, PWPo.same h h2⟩
  · exact (pw_move_no k y w h hk).mono fun _ _ ⟨h1, h2⟩ => ⟨W, 2, ⟨rfl, by rw [if_neg (fun q => hk q.1)]; exact ⟨rfl, rfl⟩⟩, h1, PWPo.same h h2⟩
theorem op_drop (k key : Int) (w : World) (h : PW w b G W) : Calls Tryz.prog 105 #[.pointer (some ⟨b, 0, none⟩), .int .i64 k, .agg #[.int .i64 key, .string ⟨#[]⟩, .bool true]] w (OpEnd 7 W [k, key] ⟨#[]⟩ w b G) := by
  by_cases hk : There k W.c
  · obtain ⟨i, rfl, hi, e⟩ := there_nat hk
    exact (pw_write key ⟨#[]⟩ true w h hi).mono fun _ _ ⟨h1, h2⟩ => ⟨_, _, ⟨rfl, by rw [if_pos hk]; exact ⟨rfl, rfl⟩⟩, h1, h2⟩
  · exact (pw_write_no k key ⟨#[]⟩ true w h hk).mono fun _ _ ⟨h1, h2⟩ => ⟨W, 2, ⟨rfl, by rw [if_neg hk]; exact ⟨rfl, rfl⟩⟩, h1, PWPo.same h h2⟩
theorem op_write (k key : Int) (d : ByteArray) (w : World) (h : PW w b G W) : Calls Tryz.prog 105 #[.pointer (some ⟨b, 0, none⟩), .int .i64 k, .agg #[.int .i64 key, .string d, .bool false]] w (OpEnd 18 W [k, key] d w b G) := by
  by_cases hk : There k W.c
  · obtain ⟨i, rfl, hi, e⟩ := there_nat hk
    exact (pw_write key d false w h hi).mono fun _ _ ⟨h1, h2⟩ => ⟨_, _, ⟨rfl, by rw [if_pos hk]; exact ⟨rfl, rfl⟩⟩, h1, h2⟩
  · exact (pw_write_no k key d false w h hk).mono fun _ _ ⟨h1, h2⟩ => ⟨W, 2, ⟨rfl, by rw [if_neg hk]; exact ⟨rfl, rfl⟩⟩, h1, PWPo.same h h2⟩
end
end
section
open Go.RowKit
set_option maxHeartbeats 2000000
theorem two_of {r : List Int} (h : r.length = 2) : ∃ u v, r = [u, v] := by
  match r, h with
  | [u, v], _ => exact ⟨u, v, rfl⟩
section
variable {a : Option Addr} {cap : Nat} {l : List ByteArray}
theorem one_any (hl : ∀ x ∈ l, x.size ≤ 1000000) (w : World) (g : Gl w) (h : StrIn w a cap l) :
    Calls Tryz.prog 95 #[.slice a l.length cap] w fun e w' => Below w.heap.size w w' ∧ ((∃ v, Hid (numsN 1 l = some [v]) ∧ e = .returned (.int .i64 v)) ∨ (Hid (numsN 1 l = none) ∧ e = thrown 3)) := by
  have NN := dnumbers_any (m := 1) (by decide) hl w g h
  have HL : Hid (∀ r, numsN 1 l = some r → r.length = 1) := fun r hr => by
    unfold numsN at hr
    split at hr
    · rename_i q; rw [numsW_length hr, q]
    · cases hr
  clear h g hl
  go_enter Tryz.func95, Tryz.ntmps95
  go_wp2_with fail
  refine NN.mono ?_
  rintro e w1 he
  cases hn : numsN 1 l with
  | none =>
    rw [hn] at he
    obtain ⟨rfl, hb⟩ : e = thrown 3 ∧ _ := he
    exact ⟨rfl, hb, .inr ⟨hn, rfl⟩⟩
  | some r =>
    rw [hn] at he
    obtain ⟨v, rfl⟩ : ∃ v, r = [v] := List.length_eq_one_iff.1 (HL.out r hn)
    obtain ⟨b, rfl, hr, hb⟩ := he
    have c0 := hr.cell 0 _ rfl
    have HN : Hid (numsN 1 l = some [v]) := hn
    clear hn
    go_wp2
    go_ret
    exact ⟨hb, .inl ⟨v, HN, rfl⟩⟩
theorem two_any (hl : ∀ x ∈ l, x.size ≤ 1000000) (w : World) (g : Gl w) (h : StrIn w a cap l) :
    Calls Tryz.prog 97 #[.slice a l.length cap] w fun e w' => Below w.heap.size w w' ∧ ((∃ u v, Hid (numsN 2 l = some [u, v]) ∧ e = .returned (.tuple #[.int .i64 u, .int .i64 v])) ∨ (Hid (numsN 2 l = none) ∧ e = thrown 3)) := by
  have NN := dnumbers_any (m := 2) (by decide) hl w g h
  have HL : Hid (∀ r, numsN 2 l = some r → r.length = 2) := fun r hr => by
    unfold numsN at hr
    split at hr
    · rename_i q; rw [numsW_length hr, q]
    · cases hr
  clear h g hl
  go_enter Tryz.func97, Tryz.ntmps97
  go_wp2_with fail
  refine NN.mono ?_
  rintro e w1 he
  cases hn : numsN 2 l with
  | none =>
    rw [hn] at he
    obtain ⟨rfl, hb⟩ : e = thrown 3 ∧ _ := he
    exact ⟨rfl, hb, .inr ⟨hn, rfl⟩⟩
  | some r =>
    rw [hn] at he
    obtain ⟨u, v, rfl⟩ : ∃ u v, r = [u, v] := two_of (HL.out r hn)
    obtain ⟨b, rfl, hr, hb⟩ := he
    have c0 := hr.cell 0 _ rfl
    have c1 := hr.cell 1 _ rfl
    have HN : Hid (numsN 2 l = some [u, v]) := hn
    clear hn
    go_wp2
    go_region
    go_wp2
    go_ret2
    exact ⟨hb.drew, .inl ⟨u, v, HN, rfl⟩⟩
theorem none_any (hl : ∀ x ∈ l, x.size ≤ 1000000) (w : World) (g : Gl w) (h : StrIn w a cap l) :
    Calls Tryz.prog 99 #[.slice a l.length cap] w fun e w' => Below w.heap.size w w' ∧ ((Hid (numsN 0 l = some []) ∧ e = .returned (.tuple #[])) ∨ (Hid (numsN 0 l = none) ∧ e = thrown 3)) := by
  have NN := dnumbers_any (m := 0) (by decide) hl w g h
  have HL : Hid (∀ r, numsN 0 l = some r → r.length = 0) := fun r hr => by
    unfold numsN at hr
    split at hr
    · rename_i q; rw [numsW_length hr, q]
    · cases hr
  clear h g hl
  go_enter Tryz.func99, Tryz.ntmps99
  go_wp2_with fail
  refine NN.mono ?_
  rintro e w1 he
  cases hn : numsN 0 l with
  | none =>
    rw [hn] at he
    obtain ⟨rfl, hb⟩ : e = thrown 3 ∧ _ := he
    exact ⟨rfl, hb, .inr ⟨hn, rfl⟩⟩
  | some r =>
    rw [hn] at he
    obtain rfl : r = [] := List.eq_nil_of_length_eq_zero (HL.out r hn)
    obtain ⟨b, rfl, hr, hb⟩ := he
    have HN : Hid (numsN 0 l = some []) := hn
    clear hn
    go_wp2
    go_end0
    exact ⟨hb, .inl ⟨HN, rfl⟩⟩
end
theorem must_any (n : Int) (w : World) (g : Gl w) : Calls Tryz.prog 66 #[errV n] w fun e w' => Below w.heap.size w w' ∧ ((n = 0 ∧ e = .returned (.tuple #[])) ∨ (n ≠ 0 ∧ e = thrown n)) := by
  unfold errV
  by_cases h : n = 0
  · rw [if_pos h]
    go_enter Tryz.func66, Tryz.ntmps66
    go_wp2
    go_end0
    exact ⟨Below.refl _ _, .inl ⟨h, rfl⟩⟩
  · rw [if_neg h]
    have T := tell_errno n w g.et
    have HN : Hid (n ≠ 0) := h
    clear h
    go_enter Tryz.func66, Tryz.ntmps66
    go_wp2_with fail
    refine T.mono ?_
    rintro e w1 ⟨rfl, hb⟩
    go_wp2
    exact ⟨rfl, hb, .inr ⟨HN.out, rfl⟩⟩
theorem bya_app (a b : List UInt8) : bya a ++ bya b = bya (a ++ b) := by
  apply ByteArray.ext
  simp [bya]
theorem wrong_any (n : Int) (hn : wfI n) (w : World) (g : Gl w) : Calls Tryz.prog 7 #[.int .i64 n] w fun e w' => e = .returned (.string (bya (errT n))) ∧ Below w.heap.size w w' := by
  have hs := Lib.itoa_length_le n hn.1 hn.2
  have T := sh_itoa n hn w g
  have A1 := fun w => addS (P := Tryz.prog) ⟨#[101, 114, 114, 111, 114, 32]⟩ (bya (Lib.itoa n)) (by show 6 + (Lib.itoa n).toArray.size ≤ _; simp; omega) w
  go_enter Tryz.func7, Tryz.ntmps7
  go_wp2_with fail
  refine T.mono ?_
  rintro e w1 ⟨rfl, hb⟩
  go_wp2
  go_ret
  refine ⟨?_, hb⟩
  have := bya_app [101, 114, 114, 111, 114, 32] (Lib.itoa n)
  rw [show errT n = [101, 114, 114, 111, 114, 32] ++ Lib.itoa n from rfl, ← this]
  rfl

def itoaS (x : Int) : ByteArray := bya (Lib.itoa x)
theorem blkd_is (l : List Int) : Lib.join ((l.map itoaS).map (·.data.toList)) [32] = blkd l := by
  unfold blkd
  rw [List.map_map]
  congr 1
theorem join_len (n : Nat) : ∀ (l : List (List UInt8)), (∀ x ∈ l, x.length ≤ n) → (Lib.join l [32]).length ≤ l.length * (n + 1)
  | [], _ => by simp [Lib.join, List.intercalate]
  | [x], h => by
    have := h x (by simp)
    simp [Lib.join, List.intercalate]
    omega
  | x :: y :: l, h => by
    have h1 := h x (by simp)
    have h2 := join_len n (y :: l) (fun z hz => h z (List.mem_cons_of_mem _ hz))
    have e : Lib.join (x :: y :: l) [32] = x ++ [32] ++ Lib.join (y :: l) [32] := by simp [Lib.join, List.intercalate]
    rw [e]
    simp only [List.length_append, List.length_cons, List.length_nil] at h2 ⊢
    rw [Nat.succ_mul]
    omega
theorem blkd_len {l : List Int} (h : ∀ x ∈ l, wfI x) : (blkd l).length ≤ l.length * 22 := by
  have := join_len 21 (l.map Lib.itoa) (fun y hy => by
    obtain ⟨x, hx, rfl⟩ := List.mem_map.1 hy
    exact Lib.itoa_length_le x (h x hx).1 (h x hx).2)
  simpa [blkd] using this
theorem own_lat {w w' : World} {B n N : Nat} {T : TypeId} {v : Value} {xs : List Value} (h : w.ownsRow B T N v n xs) (hb : Below w.heap.size w w') : w'.ownsRow B T N v n xs := own_keptN h (fun k e => hb.block k (h.lt k e).2)

set_option maxHeartbeats 4000000 in
set_option maxRecDepth 100000 in
theorem blanked_any {b o cap : Nat} {l : List Int} (h0 : l ≠ []) (h8 : l.length ≤ 8) (hw : ∀ x ∈ l, wfI x) (w : World) (g : Gl w) (hb : b < w.heap.size) (hc : ∀ (j : Nat) x, l[j]? = some x → w.cell? ⟨b, o + j, none⟩ = some (.int .i64 x)) :
    Calls Tryz.prog 102 #[.slice (some ⟨b, o, none⟩) l.length cap] w fun e w' => e = .returned (.string (bya (blkd l))) ∧ Below w.heap.size w w' := by
  obtain ⟨i0, hi, hz0, hz1, hz2⟩ := info_parts strInfo
  have HH : Hid (Gl w ∧ (∀ x ∈ l, wfI x) ∧ b < w.heap.size ∧ (∀ (j : Nat) x, l[j]? = some x → w.cell? ⟨b, o + j, none⟩ = some (.int .i64 x)) ∧ l ≠ [] ∧ l.length ≤ 8) := ⟨g, hw, hb, hc, h0, h8⟩
  clear g hw hb hc h0 h8
  go_enter Tryz.func102, Tryz.ntmps102
  go_wp2
  go_loopw [3, 8] (fun tv iv wr => ∃ (k : Nat) (z : Int), k ≤ l.length ∧ z = k ∧ iv = .int .i64 z ∧ Hid (wr.ownsRow w.heap.size 9 1 tv k ((l.take k).map (fun x => Value.string (itoaS x))) ∧ Below w.heap.size w wr)) (fun _ iv _ => l.length - (intOf iv).toNat)
  case atStart => exact ⟨0, 0, Nat.zero_le _, rfl, rfl, World.ownsRow_nil w _ _ _, Below.refl _ _⟩
  case round =>
    rename_i tv _
    obtain ⟨k, z, hk, hz, rfl, HS⟩ := hrel
    have HZ : Hid (z = k) := hz
    by_cases hlt : k < l.length
    · have g1 : z < (l.length : Int) := by omega
      have g2 : 0 ≤ z := by omega
      have g3 : z.toNat = k := by omega
      have g4 : z < 8 := by have := HH.out.2.2.2.2.2; omega
      obtain ⟨x, hx⟩ : ∃ x, l[k]? = some x := ⟨_, List.getElem?_eq_getElem hlt⟩
      obtain ⟨hg, hwf, hb, hc, _⟩ := HH.out
      have c0 : wr.cell? ⟨b, o + k, none⟩ = some (.int .i64 x) := (HS.out.2.cell (p := ⟨b, o + k, none⟩) hb).trans (hc k x hx)
      have T := sh_itoa x (hwf x (List.mem_of_getElem? hx)) wr (hg.later HS.out.2)
      have HX : Hid ((l.take (k + 1)).map (fun x => Value.string (itoaS x)) = (l.take k).map (fun x => Value.string (itoaS x)) ++ [.string (itoaS x)]) := by
        show _ = _
        rw [List.take_add_one, hx]
        simp
      clear hg hwf hb hc hz hx
      go_wp2_with fail
      refine T.mono ?_
      rintro e w2 ⟨rfl, hb2⟩
      have bz := boxed (Below.refl _ w2) (.cells #[.string (itoaS x)] 9)
      have own2 := own_lat (own_lat HS.out.1 hb2) bz
      have HB : Hid (Below w.heap.size w w2) := behind HS.out.2 hb2
      go_wp2_with (at_builtin; refine wpList_append_lies _ rfl _ _ 42 rfl w.heap.size 9 i0 (.string ⟨#[]⟩) 1 16 Tryz.underlying42 hi hz0 hz1 hz2 rfl (by decide) _ _ _ rfl own2 ⟨w2.heap.size, 0, none⟩ 1 1 [.string (itoaS x)] rfl rfl (World.news_of_block (heap_alloc_new w2 (.cells #[.string (itoaS x)] 9))) ?c2 (by decide) ?c3 ?c4 ?c5 _ rfl ?_)
      case c2 => intro u hu; simp at hu; subst hu; rfl
      case c3 => have := HH.out.2.2.2.2.2; unfold maxLen; omega
      case c4 => have := HH.out.2.2.2.2.2; omega
      case c5 => have := HB.out.size; simp; omega
      intro gb gc w3 own3 gr3 at3 lt3
      have FIN : Hid (w3.ownsRow w.heap.size 9 1 (.slice (some ⟨gb, 0, none⟩) (k + 1) gc) (k + 1) ((l.take (k + 1)).map (fun x => Value.string (itoaS x))) ∧ Below w.heap.size w w3) := by
        refine ⟨by rw [HX.out]; simpa [List.map_take] using own3, ?_⟩
        exact (HB.out.alloc HB.out.size _).grown gr3 (by have := HB.out.size; simp; omega) (fun q e => (own2.lt q e).1)
      clear own3 gr3 at3 lt3 own2 HX bz hb2
      go_wp2
      go_roundw
      case rel => exact ⟨k + 1, z + 1, hlt, by have := HZ.out; omega, by go_num, FIN.out⟩
      case measure => simp [intOf]; omega
    · have g1 : ¬ z < (l.length : Int) := by omega
      have hkl : k = l.length := by omega
      subst hkl
      rw [List.take_length] at HS
      obtain ⟨hg, hwf, hb, hc, h0, h8⟩ := HH.out
      have hpos : 0 < l.length := List.length_pos_iff.2 h0
      obtain ⟨gb, gc, rfl, hB, hlt2⟩ := HS.out.1.form hpos
      have hcs := HS.out.1.cells (g := gb) rfl
      have hcap2 : l.length ≤ gc := by
        rcases HS.out.1.2 with ⟨h, _⟩ | ⟨g', c', cur, hv, _, _, hnc, _⟩
        · cases h
        · cases hv; exact hnc
      have J := Tryz.strings_Join gb 0 gc (l.map itoaS) ⟨#[32]⟩ wr (fun j y hy => by
        have := hcs j (.string y) (by rw [List.getElem?_map] at hy ⊢; cases hq : l[j]? with
          | none => rw [hq] at hy; cases hy
          | some q => rw [hq] at hy; injection hy with hy; subst hy; rfl)
        rcases Nat.eq_zero_or_pos j with rfl | hj
        · simpa [Addr.add] using this
        · simpa [Addr.add, Nat.ne_of_gt hj] using this) hlt2 (by simp; omega) (by simpa using hcap2) (by
          rw [show (⟨#[32]⟩ : ByteArray).data.toList = [32] from rfl, blkd_is]
          have := blkd_len hwf
          omega)
      rw [List.length_map, show (⟨#[32]⟩ : ByteArray).data.toList = [32] from rfl, blkd_is] at J
      have HB : Hid (Below w.heap.size w wr) := HS.out.2
      clear hg hwf hb hc h0 h8 hcs hz HS
      go_wp2_with fail
      refine J.mono ?_
      rintro e w2 ⟨rfl, hb2⟩
      go_wp2
      go_ret
      exact ⟨rfl, behind HB.out hb2⟩
end
section
open Go.RowKit Go.Maps
theorem wp_callP {P : Program} {o : Oper} {a : Act} {w : World} {K : Act → World → Prop} {Q : Exit → Act → World → Prop} (f : FuncId) (args : Array Value) (he : (execOp a.eval o).run P w = .ok (.enter f args) w) {R : Ending → World → Prop} (h : Calls P f args w R)
    (hK : ∀ e w', R e w' → (∃ v, e = .returned v ∧ K (a.put o.dst v) w') ∨ ∃ ch, e = .panicked ch ∧ Q (.panic ch) a w') : Oper.wp P o a w K Q := by
  unfold Oper.wp
  rw [he, Oper.upon_enter]
  refine h.mono fun e w' hr => ?_
  rcases hK e w' hr with ⟨v, rfl, hk⟩ | ⟨ch, rfl, hk⟩
  · exact hk
  · exact hk
def fnOf (i : Nat) : Nat := [46, 47, 48, 49, 50, 51, 52, 53, 54, 55, 56, 57, 58, 59, 60, 61, 62, 63, 64].getD i 0
/-- what the table holds: a method of this clerk -/
def doV (cb i : Nat) : Value := .func (.func (fnOf i)) #[.pointer (some ⟨cb, 0, none⟩)] #[]
/-- the first n entries of the table -/
structure DMapIs (D : DataW Value) (cb n : Nat) : Prop where
  size : Maps.size D = n
  has : ∀ i, i < n → Maps.has D (.string (nameOf i)) = true ∧ ∀ z, D.atKey (.string (nameOf i)) z = .held (doV cb i)
  no : ∀ s, (∀ i, i < n → s ≠ nameOf i) → Maps.has D (.string s) = false ∧ ∀ z, D.atKey (.string s) z = z
def DMap (w : World) (mb cb n : Nat) : Prop := ∃ D, w.ownsMap Tryz.prog 9 heldR mb n D ∧ DMapIs D cb n
theorem DMap.kept {w w' : World} {mb cb n : Nat} (h : DMap w mb cb n) (e : w'.heap[mb]? = w.heap[mb]?) : DMap w' mb cb n := by
  obtain ⟨D, ⟨es, clock, hb, r⟩, h4⟩ := h
  exact ⟨D, ⟨es, clock, by rw [e]; exact hb, r⟩, h4⟩
theorem DMap.lt {w : World} {mb cb n : Nat} (h : DMap w mb cb n) : mb < w.heap.size := by
  obtain ⟨D, h, _⟩ := h
  exact h.lt
/-- a clerk, its world in the box b, in blocks of Gw -/
structure CkAt (w : World) (cb mb b : Nat) (Gw : Nat → Prop) (W : WoS) : Prop where
  box : w.heap[cb]? = some (.cells #[.pointer (some ⟨b, 0, none⟩), .map (some mb)] 57 (0, 0))
  map : DMap w mb cb 19
  pw : PW w b Gw W
  n1 : cb ≠ mb
  n2 : ¬ Gw cb
  n3 : ¬ Gw mb
def CkIs (cb mb : Nat) (W : WoS) (w : World) (G : Nat → Prop) : Prop := ∃ b Gw, CkAt w cb mb b Gw W ∧ ∀ k, G k ↔ (k = cb ∨ k = mb ∨ Gw k)
section
variable {w w' : World} {cb mb b : Nat} {Gw G : Nat → Prop} {W W' : WoS}
theorem CkAt.ltc (h : CkAt w cb mb b Gw W) : cb < w.heap.size := (Array.getElem?_eq_some_iff.1 h.box).1
theorem CkAt.kept (h : CkAt w cb mb b Gw W) (hk : ∀ k, (k = cb ∨ k = mb ∨ Gw k) → w'.heap[k]? = w.heap[k]?) (hs : w.heap.size ≤ w'.heap.size) : CkAt w' cb mb b Gw W :=
  ⟨(hk cb (.inl rfl)).trans h.box, h.map.kept (hk mb (.inr (.inl rfl))), h.pw.kept (fun k e => hk k (.inr (.inr e))) hs, h.n1, h.n2, h.n3⟩
theorem CkIs.lt (h : CkIs cb mb W w G) : ∀ k, G k → k < w.heap.size := fun k hk => by
  obtain ⟨b, Gw, h, hG⟩ := h
  rcases (hG k).1 hk with rfl | rfl | e
  · exact h.ltc
  · exact h.map.lt
  · exact h.pw.lt k e
theorem CkIs.kept (h : CkIs cb mb W w G) (hk : ∀ k, G k → w'.heap[k]? = w.heap[k]?) (hs : w.heap.size ≤ w'.heap.size) : CkIs cb mb W w' G := by
  obtain ⟨b, Gw, h, hG⟩ := h
  exact ⟨b, Gw, h.kept (fun k e => hk k ((hG k).2 e)) hs, hG⟩
def ckP (cb mb : Nat) (W : WoS) : Part := ⟨fun w G => CkIs cb mb W w G, fun _ _ h => h.lt, fun _ _ _ h => h.kept⟩
theorem CkAt.later (h : CkAt w cb mb b Gw W) (hb : Below w.heap.size w w') : CkAt w' cb mb b Gw W :=
  h.kept (fun k e => hb.block k (by rcases e with rfl | rfl | e; exact h.ltc; exact h.map.lt; exact h.pw.lt k e)) hb.size
theorem CkAt.cell0 (h : CkAt w cb mb b Gw W) : w.cell? ⟨cb, 0, none⟩ = some (.pointer (some ⟨b, 0, none⟩)) := by rw [Lib.cell_of_heap h.box]; rfl
theorem CkAt.cell1 (h : CkAt w cb mb b Gw W) : w.cell? ⟨cb, 1, none⟩ = some (.map (some mb)) := by rw [Lib.cell_of_heap h.box]; rfl
theorem CkAt.op {w1 : World} (h : CkAt w cb mb b Gw W) (hG : ∀ k, G k ↔ (k = cb ∨ k = mb ∨ Gw k)) (hb : Below w.heap.size w w1) (hp : PWPo w1 b Gw W' w') : Left (ckP cb mb W') w G w' := by
  obtain ⟨G', p1, p2, tt⟩ := hp
  have h1 := h.later hb
  have lc : cb < w1.heap.size := h1.ltc
  have lm : mb < w1.heap.size := h1.map.lt
  refine ⟨fun k => k = cb ∨ k = mb ∨ G' k, ⟨b, G', ⟨(tt.block cb lc h.n2).trans h1.box, h1.map.kept (tt.block mb lm h.n3), p1, h.n1, fun e => ?_, fun e => ?_⟩, fun _ => Iff.rfl⟩, fun k hk => ?_, ?_⟩
  · rcases p2 cb e with q | q
    · exact h.n2 q
    · omega
  · rcases p2 mb e with q | q
    · exact h.n3 q
    · omega
  · rcases hk with rfl | rfl | e
    · exact .inl ((hG k).2 (.inl rfl))
    · exact .inl ((hG k).2 (.inr (.inl rfl)))
    · rcases p2 k e with q | q
      · exact .inl ((hG k).2 (.inr (.inr q)))
      · exact .inr (Nat.le_trans hb.size q)
  · exact (Touch.ofBelow hb).trans ⟨tt.os, tt.tape, tt.output, tt.size, fun k hk hn => tt.block k hk (fun e => hn ((hG k).2 (.inr (.inr e))))⟩
theorem CkAt.same (h : CkAt w cb mb b Gw W) (hG : ∀ k, G k ↔ (k = cb ∨ k = mb ∨ Gw k)) (hb : Below w.heap.size w w') : Left (ckP cb mb W) w G w' :=
  ⟨G, ⟨b, Gw, h.later hb, hG⟩, fun _ hk => .inl hk, Touch.ofBelow hb⟩
theorem CkAt.after {w1 : World} (h : Left (ckP cb mb W') w G w1) (hb : Below w1.heap.size w1 w') : Left (ckP cb mb W') w G w' := by
  obtain ⟨G', p1, p2, tt⟩ := h
  exact ⟨G', p1.kept (fun k e => hb.block k (p1.lt k e)) hb.size, p2, tt.trans (Touch.ofBelow hb)⟩
end
/-- how a command ends: what is told, or what is thrown -/
def EndIs (er : Int) (told : List UInt8) (e : Ending) : Prop := (er = 0 ∧ e = .returned (.string (bya told))) ∨ (er ≠ 0 ∧ e = thrown er)
def DoPost (i : Nat) (W : WoS) (rest : List ByteArray) (w : World) (cb mb : Nat) (G : Nat → Prop) (e : Ending) (w' : World) : Prop :=
  ∃ W' er told, DoTo i W rest W' er told ∧ EndIs er told e ∧ Left (ckP cb mb W') w G w'
/-- what a command's walk has to hand -/
structure DoPre (w : World) (cb mb b : Nat) (Gw G : Nat → Prop) (W : WoS) (j : Nat) (a : Option Addr) (cap : Nat) (l : List ByteArray) : Prop where
  ck : CkAt w cb mb b Gw W
  g : ∀ k, G k ↔ (k = cb ∨ k = mb ∨ Gw k)
  gl : Gl w
  gn : ∀ k, k < 10 → ¬ G k
  wi : PlI j W
  di : DkI W
  st : StrIn w a cap l
  sm : ∀ x ∈ l, x.size ≤ 1000000
section
variable {w : World} {cb mb b j cap : Nat} {Gw G : Nat → Prop} {W : WoS} {a : Option Addr} {l : List ByteArray}
theorem DoPre.no {i : Nat} {w' : World} (h : DoPre w cb mb b Gw G W j a cap l) (hi : i ≠ 18) (hn : numsN (arity i) l = none) (hb : Below w.heap.size w w') : DoPost i W l w cb mb G (thrown 3) w' :=
  ⟨W, 3, [], by unfold DoTo; rw [if_neg hi, hn]; exact ⟨rfl, rfl, rfl⟩, .inr ⟨by decide, rfl⟩, h.ck.same h.g hb⟩
theorem DoPre.gl2 {W' : WoS} {w1 w2 : World} (h : DoPre w cb mb b Gw G W j a cap l) (hb : Below w.heap.size w w1) (hp : PWPo w1 b Gw W' w2) : Gl w2 := by
  obtain ⟨G', _, _, tt⟩ := hp
  exact (h.gl.later hb).kept (fun k hk => tt.block k (Nat.lt_of_lt_of_le hk (h.gl.later hb).sz) (fun e => h.gn k hk ((h.g k).2 (.inr (.inr e))))) tt.size
theorem DoPre.yes {i : Nat} {ns : List Int} {W' : WoS} {er : Int} {told : List UInt8} {w1 w2 w3 : World} {e : Ending} (h : DoPre w cb mb b Gw G W j a cap l) (hi : i ≠ 18) (hn : numsN (arity i) l = some ns) (hb : Below w.heap.size w w1) (hc : CmdTo i W ns (l.getD 2 ⟨#[]⟩) W' er told) (hp : PWPo w1 b Gw W' w2) (hb2 : Below w2.heap.size w2 w3) (he : EndIs er told e) : DoPost i W l w cb mb G e w3 :=
  ⟨W', er, told, by unfold DoTo; rw [if_neg hi, hn]; exact hc, he, CkAt.after (h.ck.op h.g hb hp) hb2⟩
end
theorem CmdTo.data {i : Nat} {W W' : WoS} {l : List Int} {d d' : ByteArray} {er : Int} {t : List UInt8} (hi : i ≠ 18) (h : CmdTo i W l d W' er t) : CmdTo i W l d' W' er t := by
  unfold CmdTo at h ⊢
  split at h <;> first | exact h | exact absurd rfl hi
end
section
open Go.RowKit
theorem bya_size (l : List UInt8) : (bya l).size = l.length := by simp [ByteArray.size]
theorem row4_ints {w : World} {b : Nat} {a0 a1 a2 a3 : Int} (h : Row4 w b a0 a1 a2 a3) : ∀ (q : Nat) x, [a0, a1, a2, a3][q]? = some x → w.cell? ⟨b, 0 + q, none⟩ = some (.int .i64 x)
  | 0, x, hx => by simp at hx; subst hx; exact h.c0
  | 1, x, hx => by simp at hx; subst hx; exact h.c1
  | 2, x, hx => by simp at hx; subst hx; exact h.c2
  | 3, x, hx => by simp at hx; subst hx; exact h.c3
  | q + 4, x, hx => by simp at hx
end
/-- small, and no less than 0 -/
def Few (n : Int) : Prop := 0 ≤ n ∧ n ≤ 100
theorem Few.wf {n : Int} (h : Few n) : wfI n := ⟨by have := h.1; omega, by have := h.2; omega⟩
theorem few_if {c : Prop} [Decidable c] {a b : Int} (h : Few a) (k : Few b) : Few (if c then a else b) := by
  by_cases q : c
  · rw [if_pos q]; exact h
  · rw [if_neg q]; exact k
theorem few_0 : Few 0 := ⟨by decide, by decide⟩
theorem few_1 : Few 1 := ⟨by decide, by decide⟩
theorem few_2 : Few 2 := ⟨by decide, by decide⟩
theorem few_3 : Few 3 := ⟨by decide, by decide⟩
theorem few_4 : Few 4 := ⟨by decide, by decide⟩
theorem few_6 : Few 6 := ⟨by decide, by decide⟩
theorem few_8 : Few 8 := ⟨by decide, by decide⟩
theorem few_10 : Few 10 := ⟨by decide, by decide⟩
theorem few_12 : Few 12 := ⟨by decide, by decide⟩
theorem few_abo (s : SesS) : Few (aboE s) := few_if few_6 few_0
theorem few_beg (S : SiteS) (s : SesS) : Few (begE S s) := few_if few_6 (few_if few_10 few_0)
theorem few_wri (s : SesS) (x : Wr) : Few (wriE s x) := few_if few_6 (few_if few_2 (few_if few_4 (few_if few_1 (few_if few_12 few_0))))
theorem few_move (W : WoS) (k : Nat) : Few (moveE W k) := few_if few_6 few_0
theorem if_snd {α : Type} {c : Prop} [Decidable c] {a b : α × Int} (h : Few a.2) (k : Few b.2) : Few (if c then a else b).2 := by
  by_cases q : c
  · rw [if_pos q]; exact h
  · rw [if_neg q]; exact k
theorem if_snd2 {α β : Type} {c : Prop} [Decidable c] {a b : α × β × Int} (h : Few a.2.2) (k : Few b.2.2) : Few (if c then a else b).2.2 := by
  by_cases q : c
  · rw [if_pos q]; exact h
  · rw [if_neg q]; exact k
theorem few_next (a b c : Int) : Few (nextP a b c).2.2 := if_snd2 few_2 (if_snd2 few_2 (if_snd2 few_0 (if_snd2 few_12 few_0)))
theorem few_o (o : Option Ver) : Few (readO o).2 := by
  unfold readO
  repeat' split
  all_goals first | exact few_0 | exact few_8
theorem few_commit (S : SiteS) (n : Nat) (now d0 d1 d2 d3 : Int) (ws : List Wr) : Few (commitE S n now d0 d1 d2 d3 ws) := by
  unfold commitE
  exact few_if few_1 (few_if few_10 (few_if few_10 (few_if few_12 (few_next ..))))
theorem few_com (W : WoS) (k : Nat) : Few (wcE W k) := few_if few_6 (few_if few_0 (few_commit ..))
theorem few_rd (S : SiteS) (k a0 a1 a2 a3 : Int) : Few (readS S k a0 a1 a2 a3).2 := if_snd (if_snd (few_o _) few_2) few_10
theorem few_read (S : SiteS) (s : SesS) (k : Int) : Few (sreadV S s k).2 := by
  unfold sreadV
  by_cases q : s.opn = false
  · rw [if_pos q]; exact few_6
  · rw [if_neg q]
    cases ownW s.ws k with
    | none => exact few_rd ..
    | some x =>
      by_cases g : x.gone = true
      · simp only [if_pos g]; exact few_8
      · simp only [if_neg g]; exact few_0
theorem CmdTo.few {i : Nat} {W W' : WoS} {l : List Int} {d : ByteArray} {er : Int} {t : List UInt8} (h : CmdTo i W l d W' er t) : Few er := by
  unfold CmdTo at h
  split at h
  case h_1 => have h := h.2; split at h <;> (rw [h.2]; first | exact few_abo _ | exact few_2)
  case h_2 => have h := h.2; split at h <;> (rw [h.2]; first | exact few_0 | exact few_2)
  case h_3 => have h := h.2; split at h <;> (rw [h.2]; first | exact few_beg _ _ | exact few_2)
  case h_4 => rw [h.2.2]; exact few_0
  case h_5 => have h := h.2; split at h <;> (rw [h.2]; first | exact few_0 | exact few_2)
  case h_6 => split at h <;> (rw [h.2.2]; first | exact few_com _ _ | exact few_2)
  case h_7 => have h := h.2; split at h <;> (rw [h.2]; first | exact few_0 | exact few_2)
  case h_8 => have h := h.2; split at h <;> (rw [h.2]; first | exact few_wri _ _ | exact few_2)
  case h_9 => have h := h.2; split at h <;> (rw [h.2]; first | exact few_0 | exact few_2)
  case h_10 => rw [h.2.2]; exact few_0
  case h_11 => have h := h.2; split at h <;> (rw [h.2]; first | exact few_0 | exact few_2)
  case h_12 => rw [h.2.2]; exact few_0
  case h_13 => have h := h.2; split at h <;> (rw [h.2]; first | exact few_move _ _ | exact few_2)
  case h_14 => have h := h.2; split at h <;> (rw [h.2]; first | exact few_read _ _ _ | exact few_2)
  case h_15 => have h := h.2; split at h <;> (rw [h.2]; first | exact few_0 | exact few_2)
  case h_16 => have h := h.2; split at h <;> (rw [h.2]; first | exact few_0 | exact few_2)
  case h_17 => have h := h.2; split at h <;> (rw [h.2]; first | exact few_0 | exact few_2)
  case h_18 => have h := h.2; split at h <;> (rw [h.2]; first | exact few_0 | exact few_2)
  case h_19 => have h := h.2; split at h <;> (rw [h.2]; first | exact few_wri _ _ | exact few_2)
  case h_20 => exact h.elim
theorem DoTo.few {i : Nat} {W W' : WoS} {l : List ByteArray} {er : Int} {t : List UInt8} (h : DoTo i W l W' er t) : Few er := by
  unfold DoTo at h
  split at h
  · rw [h.2.1]; exact few_3
  · exact h.few
section
open Go.RowKit Go.Maps
set_option maxRecDepth 100000
set_option maxHeartbeats 8000000
theorem strLaw : Keyed Tryz.prog 9 := string_keyed Tryz.underlying9
theorem strKey {s : ByteArray} (h : s.size ≤ maxLen) : keyOf Tryz.prog 9 (.string s) = some (.string s.data.toList) := by
  unfold keyOf
  rw [Tryz.underlying9]
  simp [mapKey, h, Tryz.underlying9]
theorem str_key (s : List UInt8) : WideAt.IsKeyLit (.string s) := trivial
theorem nameOf_inj : ∀ i < 19, ∀ j < 19, nameOf i = nameOf j → i = j := by decide
theorem DMapIs.put {D : DataW Value} {cb n : Nat} (hD : Tidy D) (h : DMapIs D cb n) (hn : n < 19) : DMapIs (D.put (.string (nameOf n)) (.held (doV cb n))) cb (n + 1) := by
  have hno := h.no (nameOf n) (fun i hi e => by have := nameOf_inj n hn i (by omega) e; omega)
  refine ⟨?_, fun i hi => ?_, fun s hs => ?_⟩
  · rw [size_put hD, hno.1, h.size]; simp
  · by_cases e : i = n
    · subst e
      exact ⟨has_put_same hD.isMap (str_key _) _, fun z => atKey_put_same hD.isMap (str_key _) _ z⟩
    · have hne : (Lit.string (nameOf i)) ≠ .string (nameOf n) := fun e2 => e (nameOf_inj i (by omega) n hn (by injection e2))
      have hh := h.has i (by omega)
      exact ⟨by rw [has_put_other hne]; exact hh.1, fun z => by rw [atKey_put_other hne]; exact hh.2 z⟩
  · have hne : (Lit.string s) ≠ .string (nameOf n) := fun e2 => hs n (by omega) (by injection e2)
    have hh := h.no s (fun i hi => hs i (by omega))
    exact ⟨by rw [has_put_other hne]; exact hh.1, fun z => by rw [atKey_put_other hne]; exact hh.2 z⟩
theorem DMap.made (w : World) (cb : Nat) : DMap (w.alloc (.map #[] 0)) w.heap.size cb 0 :=
  ⟨_, World.ownsMap_made w _ _ _, ⟨rfl, fun i hi => absurd hi (by omega), fun _ _ => ⟨rfl, fun _ => rfl⟩⟩⟩
theorem DMap.put {w : World} {mb cb : Nat} (n : Nat) (s : ByteArray) (h : DMap w mb cb n) (hn : n < 19) (hs : s.data.toList = nameOf n) (hz : s.size ≤ maxLen) : ∃ w', (Instr.mapUpdate 55 (.map (some mb)) (.string s) (doV cb n)).run Tryz.prog w = .ok () w' ∧ Hid (DMap w' mb cb (n + 1) ∧ w.grownBy w' (some mb)) := by
  obtain ⟨D, o, d⟩ := h
  obtain ⟨w', hr, o', t⟩ := o.store strLaw Tryz.underlying55 (by simp only [maxLen]; omega) (strKey hz) (val := doV cb n) (d := .held (doV cb n)) (ps := []) rfl
  rw [hs] at o'
  exact ⟨w', hr, ⟨_, o', d.put (o.tidy strLaw) hn⟩, t.grown⟩
theorem grown_below {n mb : Nat} {w w1 w2 : World} (hb : Below n w w1) (hm : n ≤ mb) (g : w1.grownBy w2 (some mb)) (hn : n ≤ w1.heap.size) : Below n w w2 :=
  ⟨g.os.trans hb.os, g.tape.trans hb.tape, g.output.trans hb.output, Nat.le_trans hb.size g.size, fun k hk => (g.block k (by omega) (fun e => by injection e with e; omega)).trans (hb.block k hk)⟩
theorem table_any (cb : Nat) (w : World) : Calls Tryz.prog 19 #[.pointer (some ⟨cb, 0, none⟩)] w fun e w' => e = .returned (.map (some w.heap.size)) ∧ DMap w' w.heap.size cb 19 ∧ Below w.heap.size w w' := by
  have M0 : Hid (DMap (w.alloc (.map #[] 0)) w.heap.size cb 0 ∧ Below w.heap.size w (w.alloc (.map #[] 0))) := ⟨DMap.made w cb, boxed (Below.refl _ w) _⟩
  obtain ⟨w1, r1, H⟩ := DMap.put 0 ⟨#[97, 98, 111, 114, 116]⟩ M0.out.1 (by omega) (by rfl) (by decide)
  have M1 : Hid (DMap w1 w.heap.size cb 1 ∧ Below w.heap.size w w1) := ⟨H.out.1, grown_below M0.out.2 (Nat.le_refl _) H.out.2 M0.out.2.size⟩
  replace r1 : (Instr.mapUpdate 55 (.map (some w.heap.size)) (.string ⟨#[97, 98, 111, 114, 116]⟩) (.func (.func 46) #[.pointer (some ⟨cb, 0, none⟩)] #[])).run Tryz.prog (w.alloc (.map #[] 0)) = .ok () w1 := r1
  clear H M0
  obtain ⟨w2, r2, H⟩ := DMap.put 1 ⟨#[97, 115, 107]⟩ M1.out.1 (by omega) (by rfl) (by decide)
  have M2 : Hid (DMap w2 w.heap.size cb 2 ∧ Below w.heap.size w w2) := ⟨H.out.1, grown_below M1.out.2 (Nat.le_refl _) H.out.2 M1.out.2.size⟩
  replace r2 : (Instr.mapUpdate 55 (.map (some w.heap.size)) (.string ⟨#[97, 115, 107]⟩) (.func (.func 47) #[.pointer (some ⟨cb, 0, none⟩)] #[])).run Tryz.prog w1 = .ok () w2 := r2
  clear H M1
  obtain ⟨w3, r3, H⟩ := DMap.put 2 ⟨#[98, 101, 103, 105, 110]⟩ M2.out.1 (by omega) (by rfl) (by decide)
  have M3 : Hid (DMap w3 w.heap.size cb 3 ∧ Below w.heap.size w w3) := ⟨H.out.1, grown_below M2.out.2 (Nat.le_refl _) H.out.2 M2.out.2.size⟩
  replace r3 : (Instr.mapUpdate 55 (.map (some w.heap.size)) (.string ⟨#[98, 101, 103, 105, 110]⟩) (.func (.func 48) #[.pointer (some ⟨cb, 0, none⟩)] #[])).run Tryz.prog w2 = .ok () w3 := r3
  clear H M2
  obtain ⟨w4, r4, H⟩ := DMap.put 3 ⟨#[99, 97, 108, 109]⟩ M3.out.1 (by omega) (by rfl) (by decide)
  have M4 : Hid (DMap w4 w.heap.size cb 4 ∧ Below w.heap.size w w4) := ⟨H.out.1, grown_below M3.out.2 (Nat.le_refl _) H.out.2 M3.out.2.size⟩
  replace r4 : (Instr.mapUpdate 55 (.map (some w.heap.size)) (.string ⟨#[99, 97, 108, 109]⟩) (.func (.func 49) #[.pointer (some ⟨cb, 0, none⟩)] #[])).run Tryz.prog w3 = .ok () w4 := r4
  clear H M3
  obtain ⟨w5, r5, H⟩ := DMap.put 4 ⟨#[99, 108, 105, 101, 110, 116]⟩ M4.out.1 (by omega) (by rfl) (by decide)
  have M5 : Hid (DMap w5 w.heap.size cb 5 ∧ Below w.heap.size w w5) := ⟨H.out.1, grown_below M4.out.2 (Nat.le_refl _) H.out.2 M4.out.2.size⟩
  replace r5 : (Instr.mapUpdate 55 (.map (some w.heap.size)) (.string ⟨#[99, 108, 105, 101, 110, 116]⟩) (.func (.func 50) #[.pointer (some ⟨cb, 0, none⟩)] #[])).run Tryz.prog w4 = .ok () w5 := r5
  clear H M4
  obtain ⟨w6, r6, H⟩ := DMap.put 5 ⟨#[99, 111, 109, 109, 105, 116]⟩ M5.out.1 (by omega) (by rfl) (by decide)
  have M6 : Hid (DMap w6 w.heap.size cb 6 ∧ Below w.heap.size w w6) := ⟨H.out.1, grown_below M5.out.2 (Nat.le_refl _) H.out.2 M5.out.2.size⟩
  replace r6 : (Instr.mapUpdate 55 (.map (some w.heap.size)) (.string ⟨#[99, 111, 109, 109, 105, 116]⟩) (.func (.func 51) #[.pointer (some ⟨cb, 0, none⟩)] #[])).run Tryz.prog w5 = .ok () w6 := r6
  clear H M5
  obtain ⟨w7, r7, H⟩ := DMap.put 6 ⟨#[100, 101, 108, 105, 118, 101, 114]⟩ M6.out.1 (by omega) (by rfl) (by decide)
  have M7 : Hid (DMap w7 w.heap.size cb 7 ∧ Below w.heap.size w w7) := ⟨H.out.1, grown_below M6.out.2 (Nat.le_refl _) H.out.2 M6.out.2.size⟩
  replace r7 : (Instr.mapUpdate 55 (.map (some w.heap.size)) (.string ⟨#[100, 101, 108, 105, 118, 101, 114]⟩) (.func (.func 52) #[.pointer (some ⟨cb, 0, none⟩)] #[])).run Tryz.prog w6 = .ok () w7 := r7
  clear H M6
  obtain ⟨w8, r8, H⟩ := DMap.put 7 ⟨#[100, 114, 111, 112]⟩ M7.out.1 (by omega) (by rfl) (by decide)
  have M8 : Hid (DMap w8 w.heap.size cb 8 ∧ Below w.heap.size w w8) := ⟨H.out.1, grown_below M7.out.2 (Nat.le_refl _) H.out.2 M7.out.2.size⟩
  replace r8 : (Instr.mapUpdate 55 (.map (some w.heap.size)) (.string ⟨#[100, 114, 111, 112]⟩) (.func (.func 53) #[.pointer (some ⟨cb, 0, none⟩)] #[])).run Tryz.prog w7 = .ok () w8 := r8
  clear H M7
  obtain ⟨w9, r9, H⟩ := DMap.put 8 ⟨#[103, 111, 101, 115]⟩ M8.out.1 (by omega) (by rfl) (by decide)
  have M9 : Hid (DMap w9 w.heap.size cb 9 ∧ Below w.heap.size w w9) := ⟨H.out.1, grown_below M8.out.2 (Nat.le_refl _) H.out.2 M8.out.2.size⟩
  replace r9 : (Instr.mapUpdate 55 (.map (some w.heap.size)) (.string ⟨#[103, 111, 101, 115]⟩) (.func (.func 54) #[.pointer (some ⟨cb, 0, none⟩)] #[])).run Tryz.prog w8 = .ok () w9 := r9
  clear H M8
  obtain ⟨w10, r10, H⟩ := DMap.put 9 ⟨#[104, 101, 108, 112]⟩ M9.out.1 (by omega) (by rfl) (by decide)
  have M10 : Hid (DMap w10 w.heap.size cb 10 ∧ Below w.heap.size w w10) := ⟨H.out.1, grown_below M9.out.2 (Nat.le_refl _) H.out.2 M9.out.2.size⟩
  replace r10 : (Instr.mapUpdate 55 (.map (some w.heap.size)) (.string ⟨#[104, 101, 108, 112]⟩) (.func (.func 55) #[.pointer (some ⟨cb, 0, none⟩)] #[])).run Tryz.prog w9 = .ok () w10 := r10
  clear H M9
  obtain ⟨w11, r11, H⟩ := DMap.put 10 ⟨#[108, 111, 115, 101]⟩ M10.out.1 (by omega) (by rfl) (by decide)
  have M11 : Hid (DMap w11 w.heap.size cb 11 ∧ Below w.heap.size w w11) := ⟨H.out.1, grown_below M10.out.2 (Nat.le_refl _) H.out.2 M10.out.2.size⟩
  replace r11 : (Instr.mapUpdate 55 (.map (some w.heap.size)) (.string ⟨#[108, 111, 115, 101]⟩) (.func (.func 56) #[.pointer (some ⟨cb, 0, none⟩)] #[])).run Tryz.prog w10 = .ok () w11 := r11
  clear H M10
  obtain ⟨w12, r12, H⟩ := DMap.put 11 ⟨#[109, 97, 110, 121]⟩ M11.out.1 (by omega) (by rfl) (by decide)
  have M12 : Hid (DMap w12 w.heap.size cb 12 ∧ Below w.heap.size w w12) := ⟨H.out.1, grown_below M11.out.2 (Nat.le_refl _) H.out.2 M11.out.2.size⟩
  replace r12 : (Instr.mapUpdate 55 (.map (some w.heap.size)) (.string ⟨#[109, 97, 110, 121]⟩) (.func (.func 57) #[.pointer (some ⟨cb, 0, none⟩)] #[])).run Tryz.prog w11 = .ok () w12 := r12
  clear H M11
  obtain ⟨w13, r13, H⟩ := DMap.put 12 ⟨#[109, 111, 118, 101]⟩ M12.out.1 (by omega) (by rfl) (by decide)
  have M13 : Hid (DMap w13 w.heap.size cb 13 ∧ Below w.heap.size w w13) := ⟨H.out.1, grown_below M12.out.2 (Nat.le_refl _) H.out.2 M12.out.2.size⟩
  replace r13 : (Instr.mapUpdate 55 (.map (some w.heap.size)) (.string ⟨#[109, 111, 118, 101]⟩) (.func (.func 58) #[.pointer (some ⟨cb, 0, none⟩)] #[])).run Tryz.prog w12 = .ok () w13 := r13
  clear H M12
  obtain ⟨w14, r14, H⟩ := DMap.put 13 ⟨#[114, 101, 97, 100]⟩ M13.out.1 (by omega) (by rfl) (by decide)
  have M14 : Hid (DMap w14 w.heap.size cb 14 ∧ Below w.heap.size w w14) := ⟨H.out.1, grown_below M13.out.2 (Nat.le_refl _) H.out.2 M13.out.2.size⟩
  replace r14 : (Instr.mapUpdate 55 (.map (some w.heap.size)) (.string ⟨#[114, 101, 97, 100]⟩) (.func (.func 59) #[.pointer (some ⟨cb, 0, none⟩)] #[])).run Tryz.prog w13 = .ok () w14 := r14
  clear H M13
  obtain ⟨w15, r15, H⟩ := DMap.put 14 ⟨#[115, 105, 116, 101]⟩ M14.out.1 (by omega) (by rfl) (by decide)
  have M15 : Hid (DMap w15 w.heap.size cb 15 ∧ Below w.heap.size w w15) := ⟨H.out.1, grown_below M14.out.2 (Nat.le_refl _) H.out.2 M14.out.2.size⟩
  replace r15 : (Instr.mapUpdate 55 (.map (some w.heap.size)) (.string ⟨#[115, 105, 116, 101]⟩) (.func (.func 60) #[.pointer (some ⟨cb, 0, none⟩)] #[])).run Tryz.prog w14 = .ok () w15 := r15
  clear H M14
  obtain ⟨w16, r16, H⟩ := DMap.put 15 ⟨#[115, 119, 101, 101, 112]⟩ M15.out.1 (by omega) (by rfl) (by decide)
  have M16 : Hid (DMap w16 w.heap.size cb 16 ∧ Below w.heap.size w w16) := ⟨H.out.1, grown_below M15.out.2 (Nat.le_refl _) H.out.2 M15.out.2.size⟩
  replace r16 : (Instr.mapUpdate 55 (.map (some w.heap.size)) (.string ⟨#[115, 119, 101, 101, 112]⟩) (.func (.func 61) #[.pointer (some ⟨cb, 0, none⟩)] #[])).run Tryz.prog w15 = .ok () w16 := r16
  clear H M15
  obtain ⟨w17, r17, H⟩ := DMap.put 16 ⟨#[116, 119, 105, 99, 101]⟩ M16.out.1 (by omega) (by rfl) (by decide)
  have M17 : Hid (DMap w17 w.heap.size cb 17 ∧ Below w.heap.size w w17) := ⟨H.out.1, grown_below M16.out.2 (Nat.le_refl _) H.out.2 M16.out.2.size⟩
  replace r17 : (Instr.mapUpdate 55 (.map (some w.heap.size)) (.string ⟨#[116, 119, 105, 99, 101]⟩) (.func (.func 62) #[.pointer (some ⟨cb, 0, none⟩)] #[])).run Tryz.prog w16 = .ok () w17 := r17
  clear H M16
  obtain ⟨w18, r18, H⟩ := DMap.put 17 ⟨#[119, 111, 114, 108, 100]⟩ M17.out.1 (by omega) (by rfl) (by decide)
  have M18 : Hid (DMap w18 w.heap.size cb 18 ∧ Below w.heap.size w w18) := ⟨H.out.1, grown_below M17.out.2 (Nat.le_refl _) H.out.2 M17.out.2.size⟩
  replace r18 : (Instr.mapUpdate 55 (.map (some w.heap.size)) (.string ⟨#[119, 111, 114, 108, 100]⟩) (.func (.func 63) #[.pointer (some ⟨cb, 0, none⟩)] #[])).run Tryz.prog w17 = .ok () w18 := r18
  clear H M17
  obtain ⟨w19, r19, H⟩ := DMap.put 18 ⟨#[119, 114, 105, 116, 101]⟩ M18.out.1 (by omega) (by rfl) (by decide)
  have M19 : Hid (DMap w19 w.heap.size cb 19 ∧ Below w.heap.size w w19) := ⟨H.out.1, grown_below M18.out.2 (Nat.le_refl _) H.out.2 M18.out.2.size⟩
  replace r19 : (Instr.mapUpdate 55 (.map (some w.heap.size)) (.string ⟨#[119, 114, 105, 116, 101]⟩) (.func (.func 64) #[.pointer (some ⟨cb, 0, none⟩)] #[])).run Tryz.prog w18 = .ok () w19 := r19
  clear H M18
  have hmm := @run_makeMap Tryz.prog
  go_enter Tryz.func19, Tryz.ntmps19
  go_wp2
  go_ret
  exact ⟨rfl, M19.out.1, M19.out.2⟩
end
section
open Go.RowKit Go.Lib
set_option maxRecDepth 100000
set_option maxHeartbeats 8000000
theorem isBlank_any (x : Nat) (w : World) : Calls Tryz.prog 71 #[.int .i32 (x : Int)] w fun e w' => e = .returned (.bool (decide (x = 32))) ∧ w' = w := by
  have h : ((x : Int) == 32) = decide (x = 32) := by rw [Bool.eq_iff_iff, beq_iff_eq, decide_eq_true_eq]; omega
  go_enter Tryz.func71, Tryz.ntmps71
  go_wp2
  go_ret
  exact ⟨rfl, rfl⟩
theorem words_any (s : ByteArray) (hs : s.size ≤ 4294967296) (w : World) : Calls Tryz.prog 26 #[.string s] w fun e w' => ∃ A, e = .returned (.slice (some ⟨A, 0, none⟩) (wordsB s).length (wordsB s).length) ∧ w.heap.size ≤ A ∧ StrIn w' (some ⟨A, 0, none⟩) (wordsB s).length (wordsB s) ∧ Below w.heap.size w w' := by
  have FF := Tryz.strings_FieldsFunc_runes 71 #[] (fun args w => by kernel_rfl) (fun r => decide (r = 32)) s w hs (fun W x _ _ => (isBlank_any x W).mono fun e w' ⟨h1, h2⟩ => ⟨h1, 0, h2⟩)
  go_enter Tryz.func26, Tryz.ntmps26
  go_wp2_with fail
  refine FF.mono ?_
  rintro e w1 ⟨A, rfl, hA, ho, hb⟩
  have FIN : Hid (StrIn w1 (some ⟨A, 0, none⟩) (wordsB s).length (wordsB s)) := ⟨Nat.le_refl _, fun j x hx => ⟨A, 0, rfl, (ho.lt A rfl).2, by
    have hj : j < (wordsB s).length := (List.getElem?_eq_some_iff.1 hx).1
    rw [Nat.zero_add, ho.cellAt j (by rw [Nat.mul_one]; exact hj), List.getElem?_map]
    show Option.map _ (wordsB s)[j]? = _
    rw [hx]; rfl⟩⟩
  clear ho FF
  go_wp2
  go_ret
  exact ⟨A, rfl, hA, FIN.out, hb⟩
end
section
open Go.RowKit
set_option maxRecDepth 100000
set_option maxHeartbeats 8000000
theorem catch_idle (p : Addr) (w : World) :
    CallsD Tryz.prog 25 #[.pointer (some p)] .returning w fun e u' w' => e = .returned (.tuple #[]) ∧ u' = .returning ∧ w' = w := by
  have ta : ∀ w, (Instr.typeAssert .nilIface 20 26 true).run Tryz.prog w = .ok (.tuple #[.int .i64 0, .bool false]) w := fun _ => by kernel_rfl
  refine callsD_of_wpS Tryz.func25 rfl fun c₀ cs hu => ?_
  apply wpS_seq
  apply wpS_region
  simp [wpOpsS, go_sem, recoverD, hu, Tryz.ntmps25, Exit.thenS, ta]
  apply wpS_seq
  apply wpS_region
  simp [wpOpsS, go_sem, Exit.thenS]
  refine wpS_cond (t := false) (by simp [Act.eval, Array.replicate]) ?_
  simp only [Bool.false_eq_true, if_false]
  refine wpS_of_wp (wp_skip ?_)
  cases c₀
  simp_all [bodyPostS, results, Tryz.results25]
theorem catch_panicking (p : Addr) (s : Value) (n : Int) (hn : wfI n) (older : List PanicEntry) (w : World) (g : Gl w) (hc : w.cell? p = some s) (hz : w.frozen? p = false) :
    CallsD Tryz.prog 25 #[.pointer (some p)] (.panicking ({ v := .iface 26 (.int .i64 n), recovered := false } :: older)) w fun e u' w' =>
      e = .returned (.tuple #[]) ∧ u' = .panicking ({ v := .iface 26 (.int .i64 n), recovered := true } :: older) ∧ ∃ w2, Below w.heap.size w w2 ∧ w' = w2.setCell p (.string (bya (errT n))) := by
  have ta : ∀ w, (Instr.typeAssert (.iface 26 (.int .i64 n)) 20 26 true).run Tryz.prog w = .ok (.tuple #[.int .i64 n, .bool true]) w := fun _ => by kernel_rfl
  have WR := wrong_any n hn w g
  refine callsD_of_wpS Tryz.func25 rfl fun c₀ cs hu => ?_
  apply wpS_seq
  apply wpS_region
  simp [wpOpsS, go_sem, recoverD, hu, Tryz.ntmps25, Exit.thenS, ta]
  apply wpS_seq
  apply wpS_region
  simp [wpOpsS, go_sem, Exit.thenS]
  refine wpS_cond (t := true) (by simp [Act.eval, Array.replicate]) ?_
  simp only [if_true]
  refine wpS_of_wp ?_
  simp only [Array.replicate, List.replicate, List.setIfInBounds_toArray, List.set_cons_zero, List.set_cons_succ, List.append_toArray, List.cons_append, List.nil_append]
  go_wp2_with fail
  refine WR.mono ?_
  rintro e w2 ⟨rfl, hb⟩
  have lp : p.block < w.heap.size := World.block_lt_of_cell? _ _ hc
  have hc2 : w2.cell? p = some s := (hb.cell lp).trans hc
  have hz2 : w2.frozen? p = false := (hb.frozen lp).trans hz
  go_wp2
  simp [bodyPostS, results, Tryz.results25]
  exact ⟨w2, hb, rfl⟩
end
section
open Go.RowKit
set_option maxRecDepth 100000
set_option maxHeartbeats 4000000
section
variable {cb mb b j cap : Nat} {Gw G : Nat → Prop} {W : WoS} {a : Option Addr} {l : List ByteArray}
theorem do_drop (w : World) (h : DoPre w cb mb b Gw G W j a cap l) : Calls Tryz.prog 53 #[.pointer (some ⟨cb, 0, none⟩), .slice a l.length cap] w (DoPost 7 W l w cb mb G) := by
  have HH : Hid (DoPre w cb mb b Gw G W j a cap l) := h
  have N1 := two_any h.sm w h.gl h.st
  clear h
  go_enter Tryz.func53, Tryz.ntmps53
  go_wp2_with fail
  refine N1.mono ?_
  rintro e w1 ⟨hb1, (⟨u, v, hv, rfl⟩ | ⟨hv, rfl⟩)⟩
  · have c1 := (HH.out.ck.later hb1).cell0
    have OP := op_drop u v w1 (HH.out.ck.later hb1).pw
    go_wp2_with fail
    refine OP.mono ?_
    rintro e w2 ⟨W', er, hc, rfl, hp⟩
    have MU := must_any er w2 (HH.out.gl2 hb1 hp)
    have HC : Hid (∀ e w3, Below w2.heap.size w2 w3 → EndIs er (nameOf 7) e → DoPost 7 W l w cb mb G e w3) := fun e w3 hb3 he => HH.out.yes (by decide) hv.out hb1 (hc.data (by decide)) hp hb3 he
    clear hc hp c1 OP
    go_wp2_with fail
    refine MU.mono ?_
    rintro e w3 ⟨hb3, (⟨h0, rfl⟩ | ⟨h0, rfl⟩)⟩
    · have HF := HC.out _ _ hb3 (.inl ⟨h0, rfl⟩)
      clear h0 HC MU
      go_wp2
      go_ret
      exact HF
    · exact ⟨rfl, HC.out _ _ hb3 (.inr ⟨h0, rfl⟩)⟩
  · exact ⟨rfl, HH.out.no (by decide) hv.out hb1⟩
theorem do_calm (w : World) (h : DoPre w cb mb b Gw G W j a cap l) : Calls Tryz.prog 49 #[.pointer (some ⟨cb, 0, none⟩), .slice a l.length cap] w (DoPost 3 W l w cb mb G) := by
  have HH : Hid (DoPre w cb mb b Gw G W j a cap l) := h
  have N1 := none_any h.sm w h.gl h.st
  clear h
  go_enter Tryz.func49, Tryz.ntmps49
  go_wp2_with fail
  refine N1.mono ?_
  rintro e w1 ⟨hb1, (⟨hv, rfl⟩ | ⟨hv, rfl⟩)⟩
  · have c1 := (HH.out.ck.later hb1).cell0
    have OP := pw_calm w1 (HH.out.ck.later hb1).pw HH.out.wi.wf
    go_wp2_with fail
    refine OP.mono ?_
    rintro e w2 ⟨rfl, W', hc, hp⟩
    have HF : DoPost 3 W l w cb mb G (.returned (.string (bya (nameOf 3)))) w2 := HH.out.yes (ns := []) (by decide) hv.out hb1 ⟨rfl, hc.out.1, rfl⟩ hp (Below.refl _ _) (.inl ⟨rfl, rfl⟩)
    clear hc hp c1 OP
    go_wp2
    go_ret
    exact HF
  · exact ⟨rfl, HH.out.no (by decide) hv.out hb1⟩
end
/-- a new world is there, or the one that was stays -/
def MadeEnd (cb : Nat) (mv : Value) (n c : Int) (w : World) (e : Ending) (w' : World) : Prop :=
  (((1 ≤ n ∧ n ≤ 4) ∧ (0 ≤ c ∧ c ≤ 6)) ∧ e = .returned (.tuple #[]) ∧ ∃ b' G', w'.heap[cb]? = some (.cells #[.pointer (some ⟨b', 0, none⟩), mv] 57 (0, 0)) ∧ PW w' b' G' (newW n.toNat c.toNat) ∧ (∀ k, G' k → w.heap.size ≤ k) ∧ Touch (fun k => k = cb) w w')
  ∨ (¬ ((1 ≤ n ∧ n ≤ 4) ∧ (0 ≤ c ∧ c ≤ 6)) ∧ e = thrown 2 ∧ Below w.heap.size w w')
theorem makeWorld_any {cb : Nat} {p mv : Value} (n c : Int) (w : World) (hbox : w.heap[cb]? = some (.cells #[p, mv] 57 (0, 0))) (g : Gl w) :
    Calls Tryz.prog 20 #[.pointer (some ⟨cb, 0, none⟩), .int .i64 n, .int .i64 c] w (MadeEnd cb mv n c w) := by
  have hlt : cb < w.heap.size := (Array.getElem?_eq_some_iff.1 hbox).1
  by_cases h : (1 ≤ n ∧ n ≤ 4) ∧ (0 ≤ c ∧ c ≤ 6)
  · obtain ⟨i, rfl⟩ : ∃ i : Nat, n = i := ⟨n.toNat, by omega⟩
    obtain ⟨k, rfl⟩ : ∃ k : Nat, c = k := ⟨c.toNat, by omega⟩
    have NW := pw_new (n := i) (c := k) (by omega) (by omega) (by omega) w
    have HH : Hid (((1 ≤ (i : Int) ∧ (i : Int) ≤ 4) ∧ (0 ≤ (k : Int) ∧ (k : Int) ≤ 6)) ∧ w.heap[cb]? = some (.cells #[p, mv] 57 (0, 0)) ∧ Gl w) := ⟨h, hbox, g⟩
    clear h hbox g
    go_enter Tryz.func20, Tryz.ntmps20
    go_wp2_with fail
    refine NW.mono ?_
    rintro e w1 ⟨rfl, G', hp, hg, hb⟩
    have hb1 := (hb.block cb hlt).trans HH.out.2.1
    have MU := must_any 0 w1 (HH.out.2.2.later hb)
    rw [show errV 0 = Value.nilIface from rfl] at MU
    go_wp2_with fail
    refine MU.mono ?_
    rintro e w2 ⟨hb2, (⟨_, rfl⟩ | ⟨h0, _⟩)⟩
    · have hb3 := (hb2.block cb (Nat.lt_of_lt_of_le hlt hb.size)).trans hb1
      have c0 : w2.cell? ⟨cb, 0, none⟩ = some p := by rw [Lib.cell_of_heap hb3]; rfl
      have f0 : w2.frozen? ⟨cb, 0, none⟩ = false := Lib.frozen_of_heap hb3 0
      have FIN : Hid (MadeEnd cb mv i k w (.returned (.tuple #[])) (w2.setCell ⟨cb, 0, none⟩ (.pointer (some ⟨w.heap.size, 0, none⟩)))) := by
        have bb := behind hb hb2
        refine .inl ⟨HH.out.1, rfl, w.heap.size, G', by simp [World.setCell, Array.getElem?_modify, hb3], ?_, hg, bb.os, bb.tape, bb.output, by simp [World.setCell]; exact bb.size, fun q hq hn => (Below.heap_setCell _ _ _ _ hn).trans (bb.block q hq)⟩
        rw [Int.toNat_natCast, Int.toNat_natCast]
        exact (hp.later hb2).kept (fun q e => Below.heap_setCell _ _ _ _ (fun e2 => by have := hg q e; have : q = cb := e2; omega)) (by simp [World.setCell])
      clear hb3 hb2 hb1 hb hp hg MU NW
      go_wp2
      go_end0
      exact FIN.out
    · exact absurd rfl h0
  · have NW := pw_new_no h w
    have HH : Hid (¬ ((1 ≤ n ∧ n ≤ 4) ∧ (0 ≤ c ∧ c ≤ 6)) ∧ Gl w) := ⟨h, g⟩
    clear h hbox g
    go_enter Tryz.func20, Tryz.ntmps20
    go_wp2_with fail
    refine NW.mono ?_
    rintro e w1 ⟨rfl, hb⟩
    have MU := must_any 2 w1 (HH.out.2.later hb)
    generalize errV 2 = ev at MU
    go_wp2_with fail
    refine MU.mono ?_
    rintro e w2 ⟨hb2, (⟨h0, _⟩ | ⟨_, rfl⟩)⟩
    · exact absurd h0 (by decide)
    · exact ⟨rfl, .inr ⟨HH.out.1, rfl, behind hb hb2⟩⟩
section
variable {cb mb b j cap : Nat} {Gw G : Nat → Prop} {W : WoS} {a : Option Addr} {l : List ByteArray}
theorem do_world (w : World) (h : DoPre w cb mb b Gw G W j a cap l) : Calls Tryz.prog 63 #[.pointer (some ⟨cb, 0, none⟩), .slice a l.length cap] w (DoPost 17 W l w cb mb G) := by
  have HH : Hid (DoPre w cb mb b Gw G W j a cap l) := h
  have N1 := two_any h.sm w h.gl h.st
  clear h
  go_enter Tryz.func63, Tryz.ntmps63
  go_wp2_with fail
  refine N1.mono ?_
  rintro e w1 ⟨hb1, (⟨u, v, hv, rfl⟩ | ⟨hv, rfl⟩)⟩
  · have MK := makeWorld_any u v w1 (HH.out.ck.later hb1).box (HH.out.gl.later hb1)
    go_wp2_with fail
    refine MK.mono ?_
    rintro e w2 (⟨hr, rfl, b', G', hbx, hp, hg, tt⟩ | ⟨hr, rfl, hb2⟩)
    · have HF : DoPost 17 W l w cb mb G (.returned (.string (bya (nameOf 17)))) w2 := by
        have h1 := HH.out.ck.later hb1
        have lc := h1.ltc
        have lm := h1.map.lt
        refine ⟨newW u.toNat v.toNat, 0, nameOf 17, by unfold DoTo; rw [if_neg (by decide), show numsN (arity 17) l = some [u, v] from hv.out]; exact ⟨rfl, by rw [if_pos hr]; exact ⟨rfl, rfl⟩⟩, .inl ⟨rfl, rfl⟩, fun k => k = cb ∨ k = mb ∨ G' k, ⟨b', G', ⟨hbx, h1.map.kept (tt.block mb lm (fun e => h1.n1 e.symm)), hp, h1.n1, fun e => by have := hg cb e; omega, fun e => by have := hg mb e; omega⟩, fun _ => Iff.rfl⟩, fun k hk => ?_, (Touch.ofBelow hb1).trans ⟨tt.os, tt.tape, tt.output, tt.size, fun k hk hn => tt.block k hk (fun e => hn ((HH.out.g k).2 (.inl e)))⟩⟩
        rcases hk with rfl | rfl | e
        · exact .inl ((HH.out.g k).2 (.inl rfl))
        · exact .inl ((HH.out.g k).2 (.inr (.inl rfl)))
        · exact .inr (Nat.le_trans hb1.size (hg k e))
      clear hbx hp hg tt MK
      go_wp2
      go_ret
      exact HF
    · exact ⟨rfl, HH.out.yes (W' := W) (er := 2) (told := nameOf 17) (by decide) hv.out hb1 ⟨rfl, by rw [if_neg hr]; exact ⟨rfl, rfl⟩⟩ (PWPo.same (HH.out.ck.later hb1).pw (Below.refl _ _)) hb2 (.inr ⟨by decide, rfl⟩)⟩
  · exact ⟨rfl, HH.out.no (by decide) hv.out hb1⟩
end
end
section
open Go.RowKit Go.Maps
theorem names_mem (x : List UInt8) : x ∈ cmdN ↔ ∃ i, i < 19 ∧ x = nameOf i := by
  constructor
  · intro h
    obtain ⟨i, hi, e⟩ := List.mem_iff_getElem.1 h
    exact ⟨i, hi, by unfold nameOf; rw [List.getD_eq_getElem?_getD, List.getElem?_eq_getElem hi]; exact e.symm⟩
  · rintro ⟨i, hi, rfl⟩
    unfold nameOf
    rw [List.getD_eq_getElem?_getD, List.getElem?_eq_getElem (show i < cmdN.length from hi)]
    exact List.getElem_mem _
theorem table_names {w : World} {mb cb : Nat} {D : DataW Value} (h : w.ownsMap Tryz.prog 9 heldR mb 19 D) (d : DMapIs D cb 19) {ss : List (List UInt8)} (hs : ss.Perm (Go.strKeys D)) : ss.mergeSort (fun x y => decide (x ≤ y)) = cmdN := by
  have hc : Go.Collected D (fun _ => false) cmdN := ⟨by decide, fun x => by
    rw [names_mem]
    constructor
    · rintro ⟨i, hi, rfl⟩
      exact ⟨(d.has i hi).1, rfl⟩
    · rintro ⟨q, _⟩
      rcases Classical.em (∃ i, i < 19 ∧ x = nameOf i) with e | e
      · exact e
      · have := (d.no x (fun i hi e2 => e ⟨i, hi, e2⟩)).1
        rw [q] at this
        cases this⟩
  exact sort_cmd (hs.trans (hc.perm h strLaw Tryz.underlying9 (fun _ => rfl)).symm)
end
open Go.RowKit
set_option maxRecDepth 100000
set_option maxHeartbeats 8000000
/-- behind newClerk -/
def NewCk (cb : Nat) (w w' : World) : Prop := ∃ mb G, CkIs cb mb (newW 2 2) w' G ∧ (∀ k, G k → w.heap.size ≤ k) ∧ Below w.heap.size w w' ∧ Gl w'
theorem newClerk_any (w : World) (g : Gl w) : Calls Tryz.prog 8 #[] w fun e w' => ∃ cb, e = .returned (.pointer (some ⟨cb, 0, none⟩)) ∧ NewCk cb w w' := by
  have HG : Hid (Gl w) := g
  have hb0 := boxed (Below.refl w.heap.size w) (.cells #[.pointer none, .map none] 57)
  have TB := table_any w.heap.size (w.alloc (.cells #[.pointer none, .map none] 57))
  clear g
  go_enter Tryz.func8, Tryz.ntmps8
  go_wp2_with fail
  refine TB.mono ?_
  rintro e w1 ⟨rfl, hD, hb1⟩
  have lz : (w.alloc (.cells #[.pointer none, .map none] 57)).heap.size = w.heap.size + 1 := by simp
  rw [lz] at hD
  have hx1 : w1.heap[w.heap.size]? = some (.cells #[.pointer none, .map none] 57 (0, 0)) := (hb1.block w.heap.size (by rw [lz]; omega)).trans (by show (w.heap.push _)[w.heap.size]? = _; exact Array.getElem?_push_size)
  have c1 : w1.cell? ⟨w.heap.size, 1, none⟩ = some (.map none) := by rw [Lib.cell_of_heap hx1]; rfl
  have f1 : w1.frozen? ⟨w.heap.size, 1, none⟩ = false := Lib.frozen_of_heap hx1 1
  have hx2 : (w1.setCell ⟨w.heap.size, 1, none⟩ (.map (some (w.heap.size + 1)))).heap[w.heap.size]? = some (.cells #[.pointer none, .map (some (w.heap.size + 1))] 57 (0, 0)) := by simp [World.setCell, Array.getElem?_modify, hx1]
  have hbw1 : Below w.heap.size w w1 := behind hb0 hb1
  have hbw2 : Below w.heap.size w (w1.setCell ⟨w.heap.size, 1, none⟩ (.map (some (w.heap.size + 1)))) := Below.setCell hbw1 (Nat.le_refl _) _
  have l1 := hD.lt
  have MK := makeWorld_any 2 2 _ hx2 (HG.out.later hbw2)
  have HM : Hid (DMap (w1.setCell ⟨w.heap.size, 1, none⟩ (.map (some (w.heap.size + 1)))) (w.heap.size + 1) w.heap.size 19 ∧ Below w.heap.size w (w1.setCell ⟨w.heap.size, 1, none⟩ (.map (some (w.heap.size + 1))))) := ⟨hD.kept (Below.heap_setCell _ _ _ _ (by show w.heap.size + 1 ≠ w.heap.size; omega)), hbw2⟩
  clear hbw1 hbw2 hx1 hx2 hb0 hb1 hD TB
  go_wp2_with fail
  refine MK.mono ?_
  rintro e w3 (⟨hr, rfl, b', G', hbx, hp, hg, tt⟩ | ⟨hr, _⟩)
  rotate_left
  · exact absurd (by omega) hr
  have FIN : Hid (NewCk w.heap.size w w3) := by
    obtain ⟨m, hb2⟩ := HM.out
    have ls := hb2.size
    have lm := m.lt
    have q : ∀ k, G' k → w.heap.size + 1 < k := fun k hk => by have := hg k hk; omega
    refine ⟨w.heap.size + 1, fun k => k = w.heap.size ∨ k = w.heap.size + 1 ∨ G' k, ⟨b', G', ⟨hbx, m.kept (tt.block _ lm (by omega)), hp, by omega, fun e => by have := q _ e; omega, fun e => by have := q _ e; omega⟩, fun _ => Iff.rfl⟩, fun k hk => ?_, ?_, ?_⟩
    · rcases hk with rfl | rfl | e
      · exact Nat.le_refl _
      · omega
      · have := q k e; omega
    · exact ⟨tt.os.trans hb2.os, tt.tape.trans hb2.tape, tt.output.trans hb2.output, Nat.le_trans hb2.size tt.size, fun k hk => (tt.block k (by omega) (by omega)).trans (hb2.block k hk)⟩
    · have sz := HG.out.sz
      exact (HG.out.later hb2).kept (fun k hk => tt.block k (by omega) (by omega)) tt.size
  clear hbx hp hg tt MK HM c1 f1
  go_wp2
  go_ret
  exact ⟨_, rfl, FIN.out⟩
end Go.Proofs.YtoanjdndmlffdaaGreatDoor
