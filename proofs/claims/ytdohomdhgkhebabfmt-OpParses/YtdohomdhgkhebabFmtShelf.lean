/- The library functions that are called, by their contracts off the shelf: laid at this program. -/
import Derived.Shelf.Strconv.Atoi
import Derived.Shelf.Strconv.Itoa0
import Derived.Shelf.Strconv.Itoa1
import Derived.Shelf.LaysM
import Derived.Shelf.Strconv.Itoa2
import Derived.Shelf.Strconv.Itoa3
import Derived.Shelf.Strconv.AtoiErrFast
import Derived.Shelf.Strconv.ParseIntEmpty
import Derived.Shelf.Strconv.AtoiFail
import Derived.Shelf.Strconv.Clone
import Derived.Shelf.Strconv.SyntaxError
import Derived.Shelf.LaysC
import Derived.Shelf.Strconv.ToError
import Derived.Shelf.Strconv.Lower
import Derived.Shelf.Strconv.ParseUint10
import Derived.Shelf.Strconv.ParseUint10Empty
import Derived.Shelf.Strconv.ParseUint10Any
import Derived.Shelf.Strconv.ParseInt10
import Derived.Shelf.Strconv.AtoiLong
import Derived.Shelf.Strconv.AtoiInnerAll
import Derived.Shelf.Strconv.RangeError
import Derived.Shelf.Strconv.ToErrorRange
import Derived.Shelf.Strconv.AtoiAll
import Derived.Shelf.Strconv.ErrVarAll
import Derived.Shelf.Strings.Search1
import Derived.Shelf.Strings.Search2
import Derived.Shelf.Strings.Cut
import Derived.Shelf.Strings.Shaped
import Derived.Shelf.Strings.Prefix
import Derived.Shelf.Strings.Fields
import Derived.Shelf.Strings.SplitShaped
import Derived.Shelf.Unicode.Latin
import Derived.Shelf.Unicode.Is16White
import Derived.Shelf.Unicode.IsSpaceAny
import Derived.Shelf.Unicode.Is16Any
import Derived.Shelf.Unicode.Is32Any
import Derived.Shelf.Unicode.ExclAny
import Derived.Test.YtdohomdhgkhebabFmtProg
namespace Go.Proofs.YtdohomdhgkhebabFmt
open Go.Shelf
def sh_laysM171_ren : Go.Shelf.Ren := ⟨fun | 171 => 33 | 243 => 39 | 246 => 55 | 283 => 64 | 284 => 65 | 285 => 66 | 286 => 67 | 129 => 71 | 317 => 70 | 318 => 72 | 319 => 73 | 320 => 74 | 337 => 75 | 338 => 76 | n => n, fun | 3 => 3 | 9 => 9 | 2 => 2 | 4 => 4 | 171 => 139 | 0 => 0 | 53 => 120 | 37 => 96 | 5 => 5 | 173 => 142 | 212 => 150 | 51 => 74 | 20 => 20 | 213 => 151 | 46 => 94 | 232 => 155 | 233 => 156 | n => n, fun | 17 => 8 | 18 => 9 | 19 => 10 | n => n⟩
theorem sh_laysM171 : Go.Proofs.LaysM.n171 Tryf.prog sh_laysM171_ren := {
  mixed := by kernel_rfl
  f129 := Tryf.func71.trans (congrArg some (by kernel_rfl))
  f171 := Tryf.func33.trans (congrArg some (by kernel_rfl))
  f243 := Tryf.func39.trans (congrArg some (by kernel_rfl))
  f246 := Tryf.func55.trans (congrArg some (by kernel_rfl))
  f283 := Tryf.func64.trans (congrArg some (by kernel_rfl))
  f284 := Tryf.func65.trans (congrArg some (by kernel_rfl))
  f285 := Tryf.func66.trans (congrArg some (by kernel_rfl))
  f286 := Tryf.func67.trans (congrArg some (by kernel_rfl))
  f317 := Tryf.func70.trans (congrArg some (by kernel_rfl))
  f318 := Tryf.func72.trans (congrArg some (by kernel_rfl))
  f319 := Tryf.func73.trans (congrArg some (by kernel_rfl))
  f320 := Tryf.func74.trans (congrArg some (by kernel_rfl))
  f337 := Tryf.func75.trans (congrArg some (by kernel_rfl))
  f338 := Tryf.func76.trans (congrArg some (by kernel_rfl))
  t0 := Tryf.underlying0
  a0 := Tryf.isAgg0
  z0 := Tryf.sizeOf0
  v0 := Tryf.zeroValue0
  t2 := Tryf.underlying2
  a2 := Tryf.isAgg2
  z2 := Tryf.sizeOf2
  v2 := Tryf.zeroValue2
  t3 := Tryf.underlying3
  a3 := Tryf.isAgg3
  z3 := Tryf.sizeOf3
  v3 := Tryf.zeroValue3
  t4 := Tryf.underlying4
  a4 := Tryf.isAgg4
  z4 := Tryf.sizeOf4
  v4 := Tryf.zeroValue4
  t5 := Tryf.underlying5
  a5 := Tryf.isAgg5
  z5 := Tryf.sizeOf5
  v5 := Tryf.zeroValue5
  t9 := Tryf.underlying9
  a9 := Tryf.isAgg9
  z9 := Tryf.sizeOf9
  v9 := Tryf.zeroValue9
  t20 := Tryf.underlying20
  a20 := Tryf.isAgg20
  z20 := Tryf.sizeOf20
  v20 := Tryf.zeroValue20
  t37 := Tryf.underlying96
  a37 := Tryf.isAgg96
  z37 := Tryf.sizeOf96
  v37 := Tryf.zeroValue96
  t46 := Tryf.underlying94
  a46 := Tryf.isAgg94
  z46 := Tryf.sizeOf94
  v46 := Tryf.zeroValue94
  t51 := Tryf.underlying74
  a51 := Tryf.isAgg74
  z51 := Tryf.sizeOf74
  v51 := Tryf.zeroValue74
  t53 := Tryf.underlying120
  a53 := Tryf.isAgg120
  z53 := Tryf.sizeOf120
  v53 := Tryf.zeroValue120
  t171 := Tryf.underlying139
  a171 := Tryf.isAgg139
  z171 := Tryf.sizeOf139
  v171 := Tryf.zeroValue139
  t173 := Tryf.underlying142
  a173 := Tryf.isAgg142
  z173 := Tryf.sizeOf142
  v173 := Tryf.zeroValue142
  t212 := Tryf.underlying150
  a212 := Tryf.isAgg150
  z212 := Tryf.sizeOf150
  v212 := Tryf.zeroValue150
  t213 := Tryf.underlying151
  a213 := Tryf.isAgg151
  z213 := Tryf.sizeOf151
  t232 := Tryf.underlying155
  a232 := Tryf.isAgg155
  z232 := Tryf.sizeOf155
  v232 := Tryf.zeroValue155
  t233 := Tryf.underlying156
  a233 := Tryf.isAgg156
  z233 := Tryf.sizeOf156
  v233 := Tryf.zeroValue156
  g17 := by kernel_rfl
  g18 := by kernel_rfl
  g19 := by kernel_rfl
  i0 := by kernel_rfl
  i2 := by kernel_rfl
  i3 := by kernel_rfl
  i4 := by kernel_rfl
  i5 := by kernel_rfl
  i9 := by kernel_rfl
  i20 := by kernel_rfl
  i37 := by kernel_rfl
  i46 := by kernel_rfl
  i51 := by kernel_rfl
  i53 := by kernel_rfl
  i171 := by kernel_rfl
  i173 := by kernel_rfl
  i212 := by kernel_rfl
  i232 := by kernel_rfl
  i233 := by kernel_rfl
  m17 := by kernel_rfl
  m18 := by kernel_rfl
  m19 := by kernel_rfl }
open Go.RowKit Go.Sort Go.Lib in
theorem sh_strconv_Itoa (n : Int) (h0 : -9223372036854775808 ≤ n) (h1 : n ≤ 9223372036854775807) (w : World) (htab : Lib.TabIs Tryf.prog w "internal/strconv.uint64pow10" .u64 Lib.pow10Tab) :
    Calls Tryf.prog 33 #[.int .i64 n] w fun e w' => e = .returned (.string ⟨(Lib.itoa n).toArray⟩) ∧ ∃ k os, w' = grow (w.drewN k) os := Any.strconv_Itoa sh_laysM171 n h0 h1 w htab
def sh_laysC172_ren : Go.Shelf.Ren := ⟨fun | 172 => 29 | 244 => 36 | 245 => 37 | 247 => 46 | 279 => 47 | 280 => 48 | 281 => 49 | 282 => 50 | 287 => 58 | 316 => 59 | 171 => 33 | 205 => 60 | 321 => 68 | 322 => 69 | 243 => 39 | 246 => 55 | 283 => 64 | 284 => 65 | 285 => 66 | 286 => 67 | 129 => 71 | 317 => 70 | 318 => 72 | 319 => 73 | 320 => 74 | 337 => 75 | 338 => 76 | n => n, fun | 9 => 9 | 3 => 3 | 75 => 28 | 76 => 60 | 4 => 4 | 5 => 5 | 167 => 95 | 37 => 96 | 0 => 0 | 85 => 97 | 2 => 2 | 168 => 99 | 53 => 120 | 175 => 121 | 46 => 94 | 210 => 125 | 127 => 145 | 145 => 148 | 143 => 146 | 21 => 21 | 171 => 139 | 173 => 142 | 212 => 150 | 51 => 74 | 20 => 20 | 213 => 151 | 232 => 155 | 233 => 156 | 80 => 159 | n => n, fun | 15 => 6 | 16 => 7 | 17 => 8 | 18 => 9 | 19 => 10 | n => n⟩
theorem sh_laysC172 : Go.Proofs.LaysC.n172 Tryf.prog sh_laysC172_ren := {
  mixed := by kernel_rfl
  f129 := Tryf.func71.trans (congrArg some (by kernel_rfl))
  f171 := Tryf.func33.trans (congrArg some (by kernel_rfl))
  f172 := Tryf.func29.trans (congrArg some (by kernel_rfl))
  f205 := Tryf.func60.trans (congrArg some (by kernel_rfl))
  f243 := Tryf.func39.trans (congrArg some (by kernel_rfl))
  f244 := Tryf.func36.trans (congrArg some (by kernel_rfl))
  f245 := Tryf.func37.trans (congrArg some (by kernel_rfl))
  f246 := Tryf.func55.trans (congrArg some (by kernel_rfl))
  f247 := Tryf.func46.trans (congrArg some (by kernel_rfl))
  f279 := Tryf.func47.trans (congrArg some (by kernel_rfl))
  f280 := Tryf.func48.trans (congrArg some (by kernel_rfl))
  f281 := Tryf.func49.trans (congrArg some (by kernel_rfl))
  f282 := Tryf.func50.trans (congrArg some (by kernel_rfl))
  f283 := Tryf.func64.trans (congrArg some (by kernel_rfl))
  f284 := Tryf.func65.trans (congrArg some (by kernel_rfl))
  f285 := Tryf.func66.trans (congrArg some (by kernel_rfl))
  f286 := Tryf.func67.trans (congrArg some (by kernel_rfl))
  f287 := Tryf.func58.trans (congrArg some (by kernel_rfl))
  f316 := Tryf.func59.trans (congrArg some (by kernel_rfl))
  f317 := Tryf.func70.trans (congrArg some (by kernel_rfl))
  f318 := Tryf.func72.trans (congrArg some (by kernel_rfl))
  f319 := Tryf.func73.trans (congrArg some (by kernel_rfl))
  f320 := Tryf.func74.trans (congrArg some (by kernel_rfl))
  f321 := Tryf.func68.trans (congrArg some (by kernel_rfl))
  f322 := Tryf.func69.trans (congrArg some (by kernel_rfl))
  f337 := Tryf.func75.trans (congrArg some (by kernel_rfl))
  f338 := Tryf.func76.trans (congrArg some (by kernel_rfl))
  t0 := Tryf.underlying0
  a0 := Tryf.isAgg0
  z0 := Tryf.sizeOf0
  v0 := Tryf.zeroValue0
  t2 := Tryf.underlying2
  a2 := Tryf.isAgg2
  z2 := Tryf.sizeOf2
  v2 := Tryf.zeroValue2
  t3 := Tryf.underlying3
  a3 := Tryf.isAgg3
  z3 := Tryf.sizeOf3
  v3 := Tryf.zeroValue3
  t4 := Tryf.underlying4
  a4 := Tryf.isAgg4
  z4 := Tryf.sizeOf4
  v4 := Tryf.zeroValue4
  t5 := Tryf.underlying5
  a5 := Tryf.isAgg5
  z5 := Tryf.sizeOf5
  v5 := Tryf.zeroValue5
  t9 := Tryf.underlying9
  a9 := Tryf.isAgg9
  z9 := Tryf.sizeOf9
  v9 := Tryf.zeroValue9
  t20 := Tryf.underlying20
  a20 := Tryf.isAgg20
  z20 := Tryf.sizeOf20
  v20 := Tryf.zeroValue20
  t21 := Tryf.underlying21
  a21 := Tryf.isAgg21
  z21 := Tryf.sizeOf21
  v21 := Tryf.zeroValue21
  t37 := Tryf.underlying96
  a37 := Tryf.isAgg96
  z37 := Tryf.sizeOf96
  v37 := Tryf.zeroValue96
  t46 := Tryf.underlying94
  a46 := Tryf.isAgg94
  z46 := Tryf.sizeOf94
  v46 := Tryf.zeroValue94
  t51 := Tryf.underlying74
  a51 := Tryf.isAgg74
  z51 := Tryf.sizeOf74
  v51 := Tryf.zeroValue74
  t53 := Tryf.underlying120
  a53 := Tryf.isAgg120
  z53 := Tryf.sizeOf120
  v53 := Tryf.zeroValue120
  t75 := Tryf.underlying28
  a75 := Tryf.isAgg28
  z75 := Tryf.sizeOf28
  v75 := Tryf.zeroValue28
  t76 := Tryf.underlying60
  a76 := Tryf.isAgg60
  z76 := Tryf.sizeOf60
  v76 := Tryf.zeroValue60
  t85 := Tryf.underlying97
  a85 := Tryf.isAgg97
  z85 := Tryf.sizeOf97
  v85 := Tryf.zeroValue97
  t127 := Tryf.underlying145
  a127 := Tryf.isAgg145
  z127 := Tryf.sizeOf145
  v127 := Tryf.zeroValue145
  t143 := Tryf.underlying146
  a143 := Tryf.isAgg146
  z143 := Tryf.sizeOf146
  v143 := Tryf.zeroValue146
  t145 := Tryf.underlying148
  a145 := Tryf.isAgg148
  z145 := Tryf.sizeOf148
  v145 := Tryf.zeroValue148
  t167 := Tryf.underlying95
  a167 := Tryf.isAgg95
  z167 := Tryf.sizeOf95
  v167 := Tryf.zeroValue95
  t168 := Tryf.underlying99
  a168 := Tryf.isAgg99
  z168 := Tryf.sizeOf99
  v168 := Tryf.zeroValue99
  t171 := Tryf.underlying139
  a171 := Tryf.isAgg139
  z171 := Tryf.sizeOf139
  v171 := Tryf.zeroValue139
  t173 := Tryf.underlying142
  a173 := Tryf.isAgg142
  z173 := Tryf.sizeOf142
  v173 := Tryf.zeroValue142
  t175 := Tryf.underlying121
  a175 := Tryf.isAgg121
  z175 := Tryf.sizeOf121
  v175 := Tryf.zeroValue121
  t210 := Tryf.underlying125
  a210 := Tryf.isAgg125
  z210 := Tryf.sizeOf125
  v210 := Tryf.zeroValue125
  t212 := Tryf.underlying150
  a212 := Tryf.isAgg150
  z212 := Tryf.sizeOf150
  v212 := Tryf.zeroValue150
  t213 := Tryf.underlying151
  a213 := Tryf.isAgg151
  z213 := Tryf.sizeOf151
  t232 := Tryf.underlying155
  a232 := Tryf.isAgg155
  z232 := Tryf.sizeOf155
  v232 := Tryf.zeroValue155
  t233 := Tryf.underlying156
  a233 := Tryf.isAgg156
  z233 := Tryf.sizeOf156
  v233 := Tryf.zeroValue156
  g15 := by kernel_rfl
  g16 := by kernel_rfl
  g17 := by kernel_rfl
  g18 := by kernel_rfl
  g19 := by kernel_rfl
  t80 := Tryf.underlying159
  a80 := Tryf.isAgg159
  z80 := Tryf.sizeOf159
  v80 := Tryf.zeroValue159
  i0 := by kernel_rfl
  i2 := by kernel_rfl
  i3 := by kernel_rfl
  i4 := by kernel_rfl
  i5 := by kernel_rfl
  i9 := by kernel_rfl
  i20 := by kernel_rfl
  i21 := by kernel_rfl
  i37 := by kernel_rfl
  i46 := by kernel_rfl
  i51 := by kernel_rfl
  i53 := by kernel_rfl
  i75 := by kernel_rfl
  i76 := by kernel_rfl
  i80 := by kernel_rfl
  i85 := by kernel_rfl
  i127 := by kernel_rfl
  i143 := by kernel_rfl
  i145 := by kernel_rfl
  i167 := by kernel_rfl
  i168 := by kernel_rfl
  i171 := by kernel_rfl
  i173 := by kernel_rfl
  i175 := by kernel_rfl
  i210 := by kernel_rfl
  i212 := by kernel_rfl
  i232 := by kernel_rfl
  i233 := by kernel_rfl
  m15 := by kernel_rfl
  m16 := by kernel_rfl
  m17 := by kernel_rfl
  m18 := by kernel_rfl
  m19 := by kernel_rfl
  c0 := by kernel_rfl
  c2 := by kernel_rfl
  c3 := by kernel_rfl
  c4 := by kernel_rfl
  c5 := by kernel_rfl
  c9 := by kernel_rfl
  c20 := by kernel_rfl
  c21 := by kernel_rfl
  c37 := by kernel_rfl
  c46 := by kernel_rfl
  c51 := by kernel_rfl
  c53 := by kernel_rfl
  c75 := by kernel_rfl
  c76 := by kernel_rfl
  c80 := by kernel_rfl
  c85 := by kernel_rfl
  c127 := by kernel_rfl
  c143 := by kernel_rfl
  c145 := by kernel_rfl
  c167 := by kernel_rfl
  c168 := by kernel_rfl
  c171 := by kernel_rfl
  c173 := by kernel_rfl
  c175 := by kernel_rfl
  c210 := by kernel_rfl
  c212 := by kernel_rfl
  c213 := by kernel_rfl
  c232 := by kernel_rfl
  c233 := by kernel_rfl }
open Go.RowKit in
theorem sh_strconv_Atoi_ok (s : ByteArray) (hmax : s.size ≤ 9223372036854775806) (v : Int) (h : Lib.atoiAll s.data.toList = .ok v) (w : World) :
    Calls Tryf.prog 29 #[.string s] w fun e w' => e = .returned (.tuple #[.int .i64 v, .nilIface]) ∧ (w' = w ∨ ∃ t, w' = Lib.bytesWorld w 5 t) := Any.strconv_Atoi_ok sh_laysC172 s hmax v h w
open Go.RowKit in
theorem sh_strconv_Atoi_syntax_var (s : ByteArray) (hlim : s.size ≤ 281474976710656) (h : Lib.atoiAll s.data.toList = .«syntax») (tp : TypeId) (p : Value) (w : World) (hvar : w.var? Tryf.prog "strconv.ErrSyntax" = some #[.iface tp p]) :
    Calls Tryf.prog 29 #[.string s] w fun e w' => ∃ N, e = .returned (.tuple #[.int .i64 0, .iface 99 (.pointer (some ⟨N, 0, none⟩))]) ∧ w.heap.size ≤ N ∧ w'.heap[N]? = some (.cells #[.string ⟨#[65, 116, 111, 105]⟩, .string s, .iface tp p] 125 (0, 0)) ∧ Below w.heap.size w w' := Any.strconv_Atoi_syntax_var sh_laysC172 s hlim h tp p w hvar
open Go.RowKit in
theorem sh_strconv_Atoi_range_var (s : ByteArray) (hlim : s.size ≤ 281474976710656) (h : Lib.atoiAll s.data.toList = .range) (tp : TypeId) (p : Value) (w : World) (hvar : w.var? Tryf.prog "strconv.ErrRange" = some #[.iface tp p]) :
    Calls Tryf.prog 29 #[.string s] w fun e w' => ∃ N, e = .returned (.tuple #[.int .i64 (Lib.atoiSat s.data.toList), .iface 99 (.pointer (some ⟨N, 0, none⟩))]) ∧ w.heap.size ≤ N ∧ w'.heap[N]? = some (.cells #[.string ⟨#[65, 116, 111, 105]⟩, .string s, .iface tp p] 125 (0, 0)) ∧ Below w.heap.size w w' := Any.strconv_Atoi_range_var sh_laysC172 s hlim h tp p w hvar
def sh_lays219_ren : Go.Shelf.Ren := ⟨fun | 219 => 35 | 217 => 42 | 225 => 43 | 224 => 44 | 267 => 45 | 266 => 56 | 314 => 57 | n => n, fun | 9 => 9 | 3 => 3 | 4 => 4 | 5 => 5 | 46 => 94 | 146 => 118 | 51 => 74 | n => n, fun | 1 => 4 | n => n⟩
theorem sh_lays219 : Go.Proofs.Lays.n219 Tryf.prog sh_lays219_ren := {
  mixed := by kernel_rfl
  f217 := Tryf.func42.trans (congrArg some (by kernel_rfl))
  f219 := Tryf.func35.trans (congrArg some (by kernel_rfl))
  f224 := Tryf.func44.trans (congrArg some (by kernel_rfl))
  f225 := Tryf.func43.trans (congrArg some (by kernel_rfl))
  f266 := Tryf.func56.trans (congrArg some (by kernel_rfl))
  f267 := Tryf.func45.trans (congrArg some (by kernel_rfl))
  f314 := Tryf.func57.trans (congrArg some (by kernel_rfl))
  t3 := Tryf.underlying3
  a3 := Tryf.isAgg3
  z3 := Tryf.sizeOf3
  v3 := Tryf.zeroValue3
  t4 := Tryf.underlying4
  a4 := Tryf.isAgg4
  z4 := Tryf.sizeOf4
  v4 := Tryf.zeroValue4
  t5 := Tryf.underlying5
  a5 := Tryf.isAgg5
  z5 := Tryf.sizeOf5
  v5 := Tryf.zeroValue5
  t9 := Tryf.underlying9
  a9 := Tryf.isAgg9
  z9 := Tryf.sizeOf9
  v9 := Tryf.zeroValue9
  t46 := Tryf.underlying94
  a46 := Tryf.isAgg94
  z46 := Tryf.sizeOf94
  v46 := Tryf.zeroValue94
  t51 := Tryf.underlying74
  a51 := Tryf.isAgg74
  z51 := Tryf.sizeOf74
  v51 := Tryf.zeroValue74
  t146 := Tryf.underlying118
  a146 := Tryf.isAgg118
  z146 := Tryf.sizeOf118
  v146 := Tryf.zeroValue118
  g1 := by kernel_rfl }
open Go.RowKit Go.Lib in
theorem sh_stringslite_Index_one (s : ByteArray) (c : UInt8) (w : World) :
    Calls Tryf.prog 35 #[.string s, .string ⟨#[c]⟩] w fun e w' => e = .returned (.int .i64 (Lib.indexByte s.data.toList c)) ∧ w' = w := Any.stringslite_Index_one sh_lays219 s c w
def sh_lays99_ren : Go.Shelf.Ren := ⟨fun | 99 => 11 | 206 => 25 | n => n, fun | 9 => 9 | 4 => 4 | 3 => 3 | n => n, fun | n => n⟩
theorem sh_lays99 : Go.Proofs.Lays.n99 Tryf.prog sh_lays99_ren := {
  mixed := by kernel_rfl
  f99 := Tryf.func11.trans (congrArg some (by kernel_rfl))
  f206 := Tryf.func25.trans (congrArg some (by kernel_rfl))
  t3 := Tryf.underlying3
  a3 := Tryf.isAgg3
  z3 := Tryf.sizeOf3
  v3 := Tryf.zeroValue3
  t4 := Tryf.underlying4
  a4 := Tryf.isAgg4
  z4 := Tryf.sizeOf4
  v4 := Tryf.zeroValue4
  t9 := Tryf.underlying9
  a9 := Tryf.isAgg9
  z9 := Tryf.sizeOf9
  v9 := Tryf.zeroValue9 }
open Go.RowKit Go.Lib in
theorem sh_strings_HasPrefix (s p : ByteArray) (w : World) :
    Calls Tryf.prog 11 #[.string s, .string p] w fun e w' => e = .returned (.bool (Lib.hasPrefix s.data.toList p.data.toList)) ∧ w' = w := Any.strings_HasPrefix sh_lays99 s p w
def sh_laysM157_ren : Go.Shelf.Ren := ⟨fun | 157 => 10 | 229 => 23 | 199 => 24 | 261 => 34 | 311 => 40 | 312 => 41 | n => n, fun | 9 => 9 | 31 => 37 | 3 => 3 | 5 => 5 | 4 => 4 | 119 => 54 | 0 => 0 | 40 => 56 | 152 => 71 | 21 => 21 | 154 => 73 | 51 => 74 | 141 => 76 | 196 => 84 | 193 => 81 | 198 => 87 | 49 => 85 | 194 => 82 | 201 => 90 | 226 => 116 | 46 => 94 | 227 => 117 | n => n, fun | 0 => 1 | 6 => 3 | n => n⟩
theorem sh_laysM157 : Go.Proofs.LaysM.n157 Tryf.prog sh_laysM157_ren := {
  mixed := by kernel_rfl
  f157 := Tryf.func10.trans (congrArg some (by kernel_rfl))
  f199 := Tryf.func24.trans (congrArg some (by kernel_rfl))
  f229 := Tryf.func23.trans (congrArg some (by kernel_rfl))
  f261 := Tryf.func34.trans (congrArg some (by kernel_rfl))
  f311 := Tryf.func40.trans (congrArg some (by kernel_rfl))
  f312 := Tryf.func41.trans (congrArg some (by kernel_rfl))
  t0 := Tryf.underlying0
  a0 := Tryf.isAgg0
  z0 := Tryf.sizeOf0
  v0 := Tryf.zeroValue0
  t3 := Tryf.underlying3
  a3 := Tryf.isAgg3
  z3 := Tryf.sizeOf3
  v3 := Tryf.zeroValue3
  t4 := Tryf.underlying4
  a4 := Tryf.isAgg4
  z4 := Tryf.sizeOf4
  v4 := Tryf.zeroValue4
  t5 := Tryf.underlying5
  a5 := Tryf.isAgg5
  z5 := Tryf.sizeOf5
  v5 := Tryf.zeroValue5
  t9 := Tryf.underlying9
  a9 := Tryf.isAgg9
  z9 := Tryf.sizeOf9
  v9 := Tryf.zeroValue9
  t21 := Tryf.underlying21
  a21 := Tryf.isAgg21
  z21 := Tryf.sizeOf21
  v21 := Tryf.zeroValue21
  t31 := Tryf.underlying37
  a31 := Tryf.isAgg37
  z31 := Tryf.sizeOf37
  v31 := Tryf.zeroValue37
  t40 := Tryf.underlying56
  a40 := Tryf.isAgg56
  z40 := Tryf.sizeOf56
  v40 := Tryf.zeroValue56
  t46 := Tryf.underlying94
  a46 := Tryf.isAgg94
  z46 := Tryf.sizeOf94
  v46 := Tryf.zeroValue94
  t49 := Tryf.underlying85
  a49 := Tryf.isAgg85
  z49 := Tryf.sizeOf85
  v49 := Tryf.zeroValue85
  t51 := Tryf.underlying74
  a51 := Tryf.isAgg74
  z51 := Tryf.sizeOf74
  v51 := Tryf.zeroValue74
  t119 := Tryf.underlying54
  a119 := Tryf.isAgg54
  z119 := Tryf.sizeOf54
  t141 := Tryf.underlying76
  a141 := Tryf.isAgg76
  z141 := Tryf.sizeOf76
  v141 := Tryf.zeroValue76
  t152 := Tryf.underlying71
  a152 := Tryf.isAgg71
  z152 := Tryf.sizeOf71
  v152 := Tryf.zeroValue71
  t154 := Tryf.underlying73
  a154 := Tryf.isAgg73
  z154 := Tryf.sizeOf73
  v154 := Tryf.zeroValue73
  t193 := Tryf.underlying81
  a193 := Tryf.isAgg81
  z193 := Tryf.sizeOf81
  v193 := Tryf.zeroValue81
  t194 := Tryf.underlying82
  a194 := Tryf.isAgg82
  z194 := Tryf.sizeOf82
  v194 := Tryf.zeroValue82
  t196 := Tryf.underlying84
  a196 := Tryf.isAgg84
  z196 := Tryf.sizeOf84
  v196 := Tryf.zeroValue84
  t198 := Tryf.underlying87
  a198 := Tryf.isAgg87
  z198 := Tryf.sizeOf87
  v198 := Tryf.zeroValue87
  t201 := Tryf.underlying90
  a201 := Tryf.isAgg90
  z201 := Tryf.sizeOf90
  v201 := Tryf.zeroValue90
  t226 := Tryf.underlying116
  a226 := Tryf.isAgg116
  z226 := Tryf.sizeOf116
  v226 := Tryf.zeroValue116
  t227 := Tryf.underlying117
  a227 := Tryf.isAgg117
  z227 := Tryf.sizeOf117
  v227 := Tryf.zeroValue117
  g0 := by kernel_rfl
  g6 := by kernel_rfl
  i0 := by kernel_rfl
  i3 := by kernel_rfl
  i4 := by kernel_rfl
  i5 := by kernel_rfl
  i9 := by kernel_rfl
  i21 := by kernel_rfl
  i31 := by kernel_rfl
  i40 := by kernel_rfl
  i46 := by kernel_rfl
  i49 := by kernel_rfl
  i51 := by kernel_rfl
  i141 := by kernel_rfl
  i152 := by kernel_rfl
  i154 := by kernel_rfl
  i193 := by kernel_rfl
  i194 := by kernel_rfl
  i196 := by kernel_rfl
  i198 := by kernel_rfl
  i201 := by kernel_rfl
  i226 := by kernel_rfl
  i227 := by kernel_rfl
  m0 := by kernel_rfl
  m6 := by kernel_rfl }
open Go.RowKit Go.Lib in
theorem sh_strings_Fields_laid (s : ByteArray) (w : World) (hs : s.size < 4294967281) (hascii : ∀ (j : Nat) b, s.data.toList[j]? = some b → b.toNat < 128) (htab : Lib.TabIs Tryf.prog w "strings.asciiSpace" .u8 Lib.asciiSpaceTab) :
    Calls Tryf.prog 10 #[.string s] w fun e w' =>
      e = .returned (.slice (some ⟨w.heap.size, 0, none⟩) (Lib.fields s.data.toList).length (Lib.fields s.data.toList).length) ∧ w' = w.alloc (.cells ((Lib.fields s.data.toList).map fun l => Value.string ⟨l.toArray⟩).toArray 9) := Any.strings_Fields_laid sh_laysM157 s w hs hascii htab
end Go.Proofs.YtdohomdhgkhebabFmt
