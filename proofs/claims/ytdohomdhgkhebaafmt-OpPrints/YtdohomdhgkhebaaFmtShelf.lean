/- The library functions that are called, by their contracts off the shelf: laid at this program. -/
import Derived.Shelf.Strconv.Itoa0
import Derived.Shelf.Strconv.Itoa1
import Derived.Shelf.LaysM
import Derived.Shelf.Strconv.Itoa2
import Derived.Shelf.Strconv.Itoa3
import Derived.Shelf.Strings.Fields
import Derived.Shelf.Strings.SplitShaped
import Derived.Shelf.Unicode.Latin
import Derived.Shelf.Unicode.Is16White
import Derived.Shelf.Unicode.IsSpaceAny
import Derived.Shelf.Unicode.Is16Any
import Derived.Shelf.Unicode.Is32Any
import Derived.Shelf.Unicode.ExclAny
import Derived.Test.YtdohomdhgkhebaaFmtProg
namespace Go.Proofs.YtdohomdhgkhebaaFmt
open Go.Shelf
def sh_laysM171_ren : Go.Shelf.Ren := ⟨fun | 171 => 17 | 243 => 20 | 246 => 24 | 283 => 29 | 284 => 30 | 285 => 31 | 286 => 32 | 129 => 37 | 317 => 36 | 318 => 38 | 319 => 39 | 320 => 40 | 337 => 41 | 338 => 42 | n => n, fun | 3 => 3 | 9 => 9 | 2 => 2 | 4 => 4 | 171 => 89 | 0 => 0 | 53 => 90 | 37 => 93 | 5 => 5 | 173 => 94 | 212 => 110 | 51 => 56 | 20 => 20 | 213 => 111 | 46 => 87 | 232 => 115 | 233 => 116 | n => n, fun | 17 => 4 | 18 => 5 | 19 => 6 | n => n⟩
theorem sh_laysM171 : Go.Proofs.LaysM.n171 Tryf.prog sh_laysM171_ren := {
  mixed := by kernel_rfl
  f129 := Tryf.func37.trans (congrArg some (by kernel_rfl))
  f171 := Tryf.func17.trans (congrArg some (by kernel_rfl))
  f243 := Tryf.func20.trans (congrArg some (by kernel_rfl))
  f246 := Tryf.func24.trans (congrArg some (by kernel_rfl))
  f283 := Tryf.func29.trans (congrArg some (by kernel_rfl))
  f284 := Tryf.func30.trans (congrArg some (by kernel_rfl))
  f285 := Tryf.func31.trans (congrArg some (by kernel_rfl))
  f286 := Tryf.func32.trans (congrArg some (by kernel_rfl))
  f317 := Tryf.func36.trans (congrArg some (by kernel_rfl))
  f318 := Tryf.func38.trans (congrArg some (by kernel_rfl))
  f319 := Tryf.func39.trans (congrArg some (by kernel_rfl))
  f320 := Tryf.func40.trans (congrArg some (by kernel_rfl))
  f337 := Tryf.func41.trans (congrArg some (by kernel_rfl))
  f338 := Tryf.func42.trans (congrArg some (by kernel_rfl))
  t0 := Tryf.underlying0
  a0 := Tryf.isAgg0
  z0 := Tryf.sizeOf0
  v0 := Tryf.zeroValue0
  t2 := Tryf.underlying2
  a2 := Tryf.isAgg2
  z2 := Tryf.sizeOf2
  v2 := Tryf.zeroValue2
  t3 := Tryf.underlying3
  a3 := Tryf.isAgg3
  z3 := Tryf.sizeOf3
  v3 := Tryf.zeroValue3
  t4 := Tryf.underlying4
  a4 := Tryf.isAgg4
  z4 := Tryf.sizeOf4
  v4 := Tryf.zeroValue4
  t5 := Tryf.underlying5
  a5 := Tryf.isAgg5
  z5 := Tryf.sizeOf5
  v5 := Tryf.zeroValue5
  t9 := Tryf.underlying9
  a9 := Tryf.isAgg9
  z9 := Tryf.sizeOf9
  v9 := Tryf.zeroValue9
  t20 := Tryf.underlying20
  a20 := Tryf.isAgg20
  z20 := Tryf.sizeOf20
  v20 := Tryf.zeroValue20
  t37 := Tryf.underlying93
  a37 := Tryf.isAgg93
  z37 := Tryf.sizeOf93
  v37 := Tryf.zeroValue93
  t46 := Tryf.underlying87
  a46 := Tryf.isAgg87
  z46 := Tryf.sizeOf87
  v46 := Tryf.zeroValue87
  t51 := Tryf.underlying56
  a51 := Tryf.isAgg56
  z51 := Tryf.sizeOf56
  v51 := Tryf.zeroValue56
  t53 := Tryf.underlying90
  a53 := Tryf.isAgg90
  z53 := Tryf.sizeOf90
  v53 := Tryf.zeroValue90
  t171 := Tryf.underlying89
  a171 := Tryf.isAgg89
  z171 := Tryf.sizeOf89
  v171 := Tryf.zeroValue89
  t173 := Tryf.underlying94
  a173 := Tryf.isAgg94
  z173 := Tryf.sizeOf94
  v173 := Tryf.zeroValue94
  t212 := Tryf.underlying110
  a212 := Tryf.isAgg110
  z212 := Tryf.sizeOf110
  v212 := Tryf.zeroValue110
  t213 := Tryf.underlying111
  a213 := Tryf.isAgg111
  z213 := Tryf.sizeOf111
  t232 := Tryf.underlying115
  a232 := Tryf.isAgg115
  z232 := Tryf.sizeOf115
  v232 := Tryf.zeroValue115
  t233 := Tryf.underlying116
  a233 := Tryf.isAgg116
  z233 := Tryf.sizeOf116
  v233 := Tryf.zeroValue116
  g17 := by kernel_rfl
  g18 := by kernel_rfl
  g19 := by kernel_rfl
  i0 := by kernel_rfl
  i2 := by kernel_rfl
  i3 := by kernel_rfl
  i4 := by kernel_rfl
  i5 := by kernel_rfl
  i9 := by kernel_rfl
  i20 := by kernel_rfl
  i37 := by kernel_rfl
  i46 := by kernel_rfl
  i51 := by kernel_rfl
  i53 := by kernel_rfl
  i171 := by kernel_rfl
  i173 := by kernel_rfl
  i212 := by kernel_rfl
  i232 := by kernel_rfl
  i233 := by kernel_rfl
  m17 := by kernel_rfl
  m18 := by kernel_rfl
  m19 := by kernel_rfl }
open Go.RowKit Go.Sort Go.Lib in
theorem sh_strconv_Itoa (n : Int) (h0 : -9223372036854775808 ≤ n) (h1 : n ≤ 9223372036854775807) (w : World) (htab : Lib.TabIs Tryf.prog w "internal/strconv.uint64pow10" .u64 Lib.pow10Tab) :
    Calls Tryf.prog 17 #[.int .i64 n] w fun e w' => e = .returned (.string ⟨(Lib.itoa n).toArray⟩) ∧ ∃ k os, w' = grow (w.drewN k) os := Any.strconv_Itoa sh_laysM171 n h0 h1 w htab
def sh_laysM157_ren : Go.Shelf.Ren := ⟨fun | 157 => 8 | 229 => 14 | 199 => 15 | 261 => 19 | 311 => 22 | 312 => 23 | n => n, fun | 9 => 9 | 31 => 33 | 3 => 3 | 5 => 5 | 4 => 4 | 119 => 41 | 0 => 0 | 40 => 43 | 152 => 53 | 21 => 21 | 154 => 55 | 51 => 56 | 141 => 58 | 196 => 64 | 193 => 61 | 198 => 67 | 49 => 65 | 194 => 62 | 201 => 70 | 226 => 86 | 46 => 87 | 227 => 88 | n => n, fun | 0 => 1 | 6 => 2 | n => n⟩
theorem sh_laysM157 : Go.Proofs.LaysM.n157 Tryf.prog sh_laysM157_ren := {
  mixed := by kernel_rfl
  f157 := Tryf.func8.trans (congrArg some (by kernel_rfl))
  f199 := Tryf.func15.trans (congrArg some (by kernel_rfl))
  f229 := Tryf.func14.trans (congrArg some (by kernel_rfl))
  f261 := Tryf.func19.trans (congrArg some (by kernel_rfl))
  f311 := Tryf.func22.trans (congrArg some (by kernel_rfl))
  f312 := Tryf.func23.trans (congrArg some (by kernel_rfl))
  t0 := Tryf.underlying0
  a0 := Tryf.isAgg0
  z0 := Tryf.sizeOf0
  v0 := Tryf.zeroValue0
  t3 := Tryf.underlying3
  a3 := Tryf.isAgg3
  z3 := Tryf.sizeOf3
  v3 := Tryf.zeroValue3
  t4 := Tryf.underlying4
  a4 := Tryf.isAgg4
  z4 := Tryf.sizeOf4
  v4 := Tryf.zeroValue4
  t5 := Tryf.underlying5
  a5 := Tryf.isAgg5
  z5 := Tryf.sizeOf5
  v5 := Tryf.zeroValue5
  t9 := Tryf.underlying9
  a9 := Tryf.isAgg9
  z9 := Tryf.sizeOf9
  v9 := Tryf.zeroValue9
  t21 := Tryf.underlying21
  a21 := Tryf.isAgg21
  z21 := Tryf.sizeOf21
  v21 := Tryf.zeroValue21
  t31 := Tryf.underlying33
  a31 := Tryf.isAgg33
  z31 := Tryf.sizeOf33
  v31 := Tryf.zeroValue33
  t40 := Tryf.underlying43
  a40 := Tryf.isAgg43
  z40 := Tryf.sizeOf43
  v40 := Tryf.zeroValue43
  t46 := Tryf.underlying87
  a46 := Tryf.isAgg87
  z46 := Tryf.sizeOf87
  v46 := Tryf.zeroValue87
  t49 := Tryf.underlying65
  a49 := Tryf.isAgg65
  z49 := Tryf.sizeOf65
  v49 := Tryf.zeroValue65
  t51 := Tryf.underlying56
  a51 := Tryf.isAgg56
  z51 := Tryf.sizeOf56
  v51 := Tryf.zeroValue56
  t119 := Tryf.underlying41
  a119 := Tryf.isAgg41
  z119 := Tryf.sizeOf41
  t141 := Tryf.underlying58
  a141 := Tryf.isAgg58
  z141 := Tryf.sizeOf58
  v141 := Tryf.zeroValue58
  t152 := Tryf.underlying53
  a152 := Tryf.isAgg53
  z152 := Tryf.sizeOf53
  v152 := Tryf.zeroValue53
  t154 := Tryf.underlying55
  a154 := Tryf.isAgg55
  z154 := Tryf.sizeOf55
  v154 := Tryf.zeroValue55
  t193 := Tryf.underlying61
  a193 := Tryf.isAgg61
  z193 := Tryf.sizeOf61
  v193 := Tryf.zeroValue61
  t194 := Tryf.underlying62
  a194 := Tryf.isAgg62
  z194 := Tryf.sizeOf62
  v194 := Tryf.zeroValue62
  t196 := Tryf.underlying64
  a196 := Tryf.isAgg64
  z196 := Tryf.sizeOf64
  v196 := Tryf.zeroValue64
  t198 := Tryf.underlying67
  a198 := Tryf.isAgg67
  z198 := Tryf.sizeOf67
  v198 := Tryf.zeroValue67
  t201 := Tryf.underlying70
  a201 := Tryf.isAgg70
  z201 := Tryf.sizeOf70
  v201 := Tryf.zeroValue70
  t226 := Tryf.underlying86
  a226 := Tryf.isAgg86
  z226 := Tryf.sizeOf86
  v226 := Tryf.zeroValue86
  t227 := Tryf.underlying88
  a227 := Tryf.isAgg88
  z227 := Tryf.sizeOf88
  v227 := Tryf.zeroValue88
  g0 := by kernel_rfl
  g6 := by kernel_rfl
  i0 := by kernel_rfl
  i3 := by kernel_rfl
  i4 := by kernel_rfl
  i5 := by kernel_rfl
  i9 := by kernel_rfl
  i21 := by kernel_rfl
  i31 := by kernel_rfl
  i40 := by kernel_rfl
  i46 := by kernel_rfl
  i49 := by kernel_rfl
  i51 := by kernel_rfl
  i141 := by kernel_rfl
  i152 := by kernel_rfl
  i154 := by kernel_rfl
  i193 := by kernel_rfl
  i194 := by kernel_rfl
  i196 := by kernel_rfl
  i198 := by kernel_rfl
  i201 := by kernel_rfl
  i226 := by kernel_rfl
  i227 := by kernel_rfl
  m0 := by kernel_rfl
  m6 := by kernel_rfl }
open Go.RowKit Go.Lib in
theorem sh_strings_Fields_laid (s : ByteArray) (w : World) (hs : s.size < 4294967281) (hascii : ∀ (j : Nat) b, s.data.toList[j]? = some b → b.toNat < 128) (htab : Lib.TabIs Tryf.prog w "strings.asciiSpace" .u8 Lib.asciiSpaceTab) :
    Calls Tryf.prog 8 #[.string s] w fun e w' =>
      e = .returned (.slice (some ⟨w.heap.size, 0, none⟩) (Lib.fields s.data.toList).length (Lib.fields s.data.toList).length) ∧ w' = w.alloc (.cells ((Lib.fields s.data.toList).map fun l => Value.string ⟨l.toArray⟩).toArray 9) := Any.strings_Fields_laid sh_laysM157 s w hs hascii htab
end Go.Proofs.YtdohomdhgkhebaaFmt
