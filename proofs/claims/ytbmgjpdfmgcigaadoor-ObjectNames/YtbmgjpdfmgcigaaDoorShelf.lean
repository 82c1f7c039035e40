/- The library functions that are called, by their contracts off the shelf: laid at this program. -/
import Derived.Shelf.Strings.Fields
import Derived.Shelf.LaysM
import Derived.Shelf.Strings.SplitShaped
import Derived.Shelf.Unicode.Latin
import Derived.Shelf.Unicode.Is16White
import Derived.Shelf.Unicode.IsSpaceAny
import Derived.Shelf.Unicode.Is16Any
import Derived.Shelf.Unicode.Is32Any
import Derived.Shelf.Unicode.ExclAny
import Derived.Test.YtbmgjpdfmgcigaaDoorProg
namespace Go.Proofs.YtbmgjpdfmgcigaaDoor
open Go.Shelf
def sh_laysM157_ren : Go.Shelf.Ren := ⟨fun | 157 => 8 | 229 => 9 | 199 => 10 | 261 => 11 | 311 => 12 | 312 => 13 | n => n, fun | 9 => 9 | 31 => 26 | 3 => 3 | 5 => 5 | 4 => 4 | 119 => 28 | 0 => 0 | 40 => 30 | 152 => 31 | 21 => 21 | 154 => 33 | 51 => 34 | 141 => 36 | 196 => 40 | 193 => 37 | 198 => 43 | 49 => 41 | 194 => 38 | 201 => 46 | 226 => 48 | 46 => 49 | 227 => 50 | n => n, fun | 0 => 1 | 6 => 2 | n => n⟩
theorem sh_laysM157 : Go.Proofs.LaysM.n157 Tryd.prog sh_laysM157_ren := {
  mixed := by kernel_rfl
  f157 := Tryd.func8.trans (congrArg some (by kernel_rfl))
  f199 := Tryd.func10.trans (congrArg some (by kernel_rfl))
  f229 := Tryd.func9.trans (congrArg some (by kernel_rfl))
  f261 := Tryd.func11.trans (congrArg some (by kernel_rfl))
  f311 := Tryd.func12.trans (congrArg some (by kernel_rfl))
  f312 := Tryd.func13.trans (congrArg some (by kernel_rfl))
  t0 := Tryd.underlying0
  a0 := Tryd.isAgg0
  z0 := Tryd.sizeOf0
  v0 := Tryd.zeroValue0
  t3 := Tryd.underlying3
  a3 := Tryd.isAgg3
  z3 := Tryd.sizeOf3
  v3 := Tryd.zeroValue3
  t4 := Tryd.underlying4
  a4 := Tryd.isAgg4
  z4 := Tryd.sizeOf4
  v4 := Tryd.zeroValue4
  t5 := Tryd.underlying5
  a5 := Tryd.isAgg5
  z5 := Tryd.sizeOf5
  v5 := Tryd.zeroValue5
  t9 := Tryd.underlying9
  a9 := Tryd.isAgg9
  z9 := Tryd.sizeOf9
  v9 := Tryd.zeroValue9
  t21 := Tryd.underlying21
  a21 := Tryd.isAgg21
  z21 := Tryd.sizeOf21
  v21 := Tryd.zeroValue21
  t31 := Tryd.underlying26
  a31 := Tryd.isAgg26
  z31 := Tryd.sizeOf26
  v31 := Tryd.zeroValue26
  t40 := Tryd.underlying30
  a40 := Tryd.isAgg30
  z40 := Tryd.sizeOf30
  v40 := Tryd.zeroValue30
  t46 := Tryd.underlying49
  a46 := Tryd.isAgg49
  z46 := Tryd.sizeOf49
  v46 := Tryd.zeroValue49
  t49 := Tryd.underlying41
  a49 := Tryd.isAgg41
  z49 := Tryd.sizeOf41
  v49 := Tryd.zeroValue41
  t51 := Tryd.underlying34
  a51 := Tryd.isAgg34
  z51 := Tryd.sizeOf34
  v51 := Tryd.zeroValue34
  t119 := Tryd.underlying28
  a119 := Tryd.isAgg28
  z119 := Tryd.sizeOf28
  t141 := Tryd.underlying36
  a141 := Tryd.isAgg36
  z141 := Tryd.sizeOf36
  v141 := Tryd.zeroValue36
  t152 := Tryd.underlying31
  a152 := Tryd.isAgg31
  z152 := Tryd.sizeOf31
  v152 := Tryd.zeroValue31
  t154 := Tryd.underlying33
  a154 := Tryd.isAgg33
  z154 := Tryd.sizeOf33
  v154 := Tryd.zeroValue33
  t193 := Tryd.underlying37
  a193 := Tryd.isAgg37
  z193 := Tryd.sizeOf37
  v193 := Tryd.zeroValue37
  t194 := Tryd.underlying38
  a194 := Tryd.isAgg38
  z194 := Tryd.sizeOf38
  v194 := Tryd.zeroValue38
  t196 := Tryd.underlying40
  a196 := Tryd.isAgg40
  z196 := Tryd.sizeOf40
  v196 := Tryd.zeroValue40
  t198 := Tryd.underlying43
  a198 := Tryd.isAgg43
  z198 := Tryd.sizeOf43
  v198 := Tryd.zeroValue43
  t201 := Tryd.underlying46
  a201 := Tryd.isAgg46
  z201 := Tryd.sizeOf46
  v201 := Tryd.zeroValue46
  t226 := Tryd.underlying48
  a226 := Tryd.isAgg48
  z226 := Tryd.sizeOf48
  v226 := Tryd.zeroValue48
  t227 := Tryd.underlying50
  a227 := Tryd.isAgg50
  z227 := Tryd.sizeOf50
  v227 := Tryd.zeroValue50
  g0 := by kernel_rfl
  g6 := by kernel_rfl
  i0 := by kernel_rfl
  i3 := by kernel_rfl
  i4 := by kernel_rfl
  i5 := by kernel_rfl
  i9 := by kernel_rfl
  i21 := by kernel_rfl
  i31 := by kernel_rfl
  i40 := by kernel_rfl
  i46 := by kernel_rfl
  i49 := by kernel_rfl
  i51 := by kernel_rfl
  i141 := by kernel_rfl
  i152 := by kernel_rfl
  i154 := by kernel_rfl
  i193 := by kernel_rfl
  i194 := by kernel_rfl
  i196 := by kernel_rfl
  i198 := by kernel_rfl
  i201 := by kernel_rfl
  i226 := by kernel_rfl
  i227 := by kernel_rfl
  m0 := by kernel_rfl
  m6 := by kernel_rfl }
open Go.RowKit Go.Lib in
theorem sh_strings_Fields_laid (s : ByteArray) (w : World) (hs : s.size < 4294967281) (hascii : ∀ (j : Nat) b, s.data.toList[j]? = some b → b.toNat < 128) (htab : Lib.TabIs Tryd.prog w "strings.asciiSpace" .u8 Lib.asciiSpaceTab) :
    Calls Tryd.prog 8 #[.string s] w fun e w' =>
      e = .returned (.slice (some ⟨w.heap.size, 0, none⟩) (Lib.fields s.data.toList).length (Lib.fields s.data.toList).length) ∧ w' = w.alloc (.cells ((Lib.fields s.data.toList).map fun l => Value.string ⟨l.toArray⟩).toArray 9) := Any.strings_Fields_laid sh_laysM157 s w hs hascii htab
end Go.Proofs.YtbmgjpdfmgcigaaDoor
