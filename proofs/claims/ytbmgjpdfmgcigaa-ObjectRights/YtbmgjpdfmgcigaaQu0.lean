/- What a number takes in memory. -/
import Derived.Test.YtbmgjpdfmgcigaaRows
import Derived.Test.YtbmgjpdfmgcigaaLs
import Derived.Maps.AppendAt
namespace Go.Proofs.Ytbmgjpdfmgcigaa
open Go.RowKit
theorem info_int : (Try.prog.info? 3).map (fun i => (i.zero, i.size, i.bytes)) = some (some (.int .i64 0), 1, 8) := by kernel_rfl
theorem take_more (l : List Int) (i : Nat) (h : i < l.length) : l.take i ++ [l.getD i 0] = l.take (i + 1) := by
  rw [List.take_add_one]
  simp [List.getD, h]
end Go.Proofs.Ytbmgjpdfmgcigaa
