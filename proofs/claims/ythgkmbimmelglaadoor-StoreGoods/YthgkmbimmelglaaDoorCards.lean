/-
  DERIVED. GIVEN WITH THE SEED: THE CARDS: each row of YthgkmbimmelglaaDoorRows.lean that lists a variable, with what it lists TIED to the program's text (the seventh form; the later family's looks); each row that meets fmt, with fmt's text TOLD by the authors' own Lean function (tested against real Go, not proved from fmt's source: count such statements apart). THE CARD IS WHAT COUNTS. Prove the row's statement (the work); the ties are given (YthgkmbimmelglaaDoorTie.lean); close each card by the builder's one call (the guide's Derived/Test/ToyasCard.lean, 'card_holds'). Laid BY PROGRAM, IN A SANDBOX (cutbox-door.mjs). By AI agents, Wed Nov 11 2026. No macro, syntax, notation, axiom, sorry.
-/
import Derived.Test.YthgkmbimmelglaaDoorRows
import GoSem.ClaimSeven
namespace Go.Proofs.YthgkmbimmelglaaDoor
namespace Rows

/-- THE TIED CARD OF 'gristmilllaw.StoreLoads'. -/
def storeLoadsCard : Claim7 := { stood := { row := storeLoadsRow, standIns := [], harness := (true, "9477996531db8507ef4fe744b9a226a1d77fca16e689333c614f9f2e0b20752d"), looks := true }, kinds := [], alts := [], laidByText := true, laidKinds := [.handle], laidTests := true, laidLooks := .later }
def StoreLoadsCardSaid : Prop := Claim7.holds Tryd.pinned (.plain (OpenSpec.ofChange storeLoadsSpec)) storeLoadsCard

/-- THE TIED CARD OF 'gristmilllaw.StoreGoods'. -/
def storeGoodsCard : Claim7 := { stood := { row := storeGoodsRow, standIns := [], harness := (true, "9477996531db8507ef4fe744b9a226a1d77fca16e689333c614f9f2e0b20752d"), looks := true }, kinds := [], alts := [], laidByText := true, laidKinds := [.handle], laidTests := true, laidLooks := .later }
def StoreGoodsCardSaid : Prop := Claim7.holds Tryd.pinned (.plain (OpenSpec.ofChange storeGoodsSpec)) storeGoodsCard

/-- THE TIED CARD OF 'gristmilllaw.StoreCosts'. -/
def storeCostsCard : Claim7 := { stood := { row := storeCostsRow, standIns := [], harness := (true, "9477996531db8507ef4fe744b9a226a1d77fca16e689333c614f9f2e0b20752d"), looks := true }, kinds := [], alts := [], laidByText := true, laidKinds := [.handle], laidTests := true, laidLooks := .later }
def StoreCostsCardSaid : Prop := Claim7.holds Tryd.pinned (.plain (OpenSpec.ofChange storeCostsSpec)) storeCostsCard

/-- THE TIED CARD OF 'gristmilllaw.StoreCopies'. -/
def storeCopiesCard : Claim7 := { stood := { row := storeCopiesRow, standIns := [], harness := (true, "9477996531db8507ef4fe744b9a226a1d77fca16e689333c614f9f2e0b20752d"), looks := true }, kinds := [], alts := [], laidByText := true, laidKinds := [.handle], laidTests := true, laidLooks := .later }
def StoreCopiesCardSaid : Prop := Claim7.holds Tryd.pinned (.plain (OpenSpec.ofChange storeCopiesSpec)) storeCopiesCard

/-- THE SECOND FORM's CARD OF 'gristmilllaw.StoreLoads'. -/
def storeLoadsUptoCard : Claim7 := { stood := { row := storeLoadsUptoRow, standIns := [], harness := (true, "9477996531db8507ef4fe744b9a226a1d77fca16e689333c614f9f2e0b20752d"), looks := true }, kinds := [], alts := [], laidByText := true, laidKinds := [.handle], laidTests := true, laidLooks := .later }
def StoreLoadsUptoCardSaid : Prop := Claim7.holds Tryd.pinned (.plain (OpenSpec.upto storeLoadsSpec)) storeLoadsUptoCard

/-- THE SECOND FORM's CARD OF 'gristmilllaw.StoreGoods'. -/
def storeGoodsUptoCard : Claim7 := { stood := { row := storeGoodsUptoRow, standIns := [], harness := (true, "9477996531db8507ef4fe744b9a226a1d77fca16e689333c614f9f2e0b20752d"), looks := true }, kinds := [], alts := [], laidByText := true, laidKinds := [.handle], laidTests := true, laidLooks := .later }
def StoreGoodsUptoCardSaid : Prop := Claim7.holds Tryd.pinned (.plain (OpenSpec.upto storeGoodsSpec)) storeGoodsUptoCard

/-- THE SECOND FORM's CARD OF 'gristmilllaw.StoreCosts'. -/
def storeCostsUptoCard : Claim7 := { stood := { row := storeCostsUptoRow, standIns := [], harness := (true, "9477996531db8507ef4fe744b9a226a1d77fca16e689333c614f9f2e0b20752d"), looks := true }, kinds := [], alts := [], laidByText := true, laidKinds := [.handle], laidTests := true, laidLooks := .later }
def StoreCostsUptoCardSaid : Prop := Claim7.holds Tryd.pinned (.plain (OpenSpec.upto storeCostsSpec)) storeCostsUptoCard

/-- THE SECOND FORM's CARD OF 'gristmilllaw.StoreCopies'. -/
def storeCopiesUptoCard : Claim7 := { stood := { row := storeCopiesUptoRow, standIns := [], harness := (true, "9477996531db8507ef4fe744b9a226a1d77fca16e689333c614f9f2e0b20752d"), looks := true }, kinds := [], alts := [], laidByText := true, laidKinds := [.handle], laidTests := true, laidLooks := .later }
def StoreCopiesUptoCardSaid : Prop := Claim7.holds Tryd.pinned (.plain (OpenSpec.upto storeCopiesSpec)) storeCopiesUptoCard
end Rows
end Go.Proofs.YthgkmbimmelglaaDoor
