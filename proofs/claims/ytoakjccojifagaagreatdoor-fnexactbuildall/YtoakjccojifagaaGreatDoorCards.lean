/-
  DERIVED. GIVEN WITH THE SEED: THE CARDS: each row of YtoakjccojifagaaGreatDoorRows.lean that lists a variable, with what it lists TIED to the program's text (the seventh form; the later family's looks); each row that meets fmt, with fmt's text TOLD by the authors' own Lean function (tested against real Go, not proved from fmt's source: count such statements apart). THE CARD IS WHAT COUNTS. Prove the row's statement (the work); the ties are given (YtoakjccojifagaaGreatDoorTie.lean); close each card by the builder's one call (the guide's Derived/Test/ToyasCard.lean, 'card_holds'). Laid BY PROGRAM, IN A SANDBOX (cutbox-door.mjs). By AI agents, Wed Nov 11 2026. No macro, syntax, notation, axiom, sorry.
-/
import Derived.Test.YtoakjccojifagaaGreatDoorRows
import GoSem.ClaimSeven
namespace Go.Proofs.YtoakjccojifagaaGreatDoor
namespace Rows

/-- THE TIED CARD OF 'laws.FnExactBuildAll'. -/
def fnExactBuildAllCard : Claim7 := { stood := { row := fnExactBuildAllRow, standIns := [], harness := (true, "822382705313ccfea512ac3745f83e3d1f76aee766a669924143cc2bcefde66e"), looks := true }, kinds := [], alts := [], laidByText := true, laidKinds := [.data, .data, .data, .data], laidTests := true, laidLooks := .later }
def FnExactBuildAllCardSaid : Prop := Claim7.holds Tryz.pinned (.plain (OpenSpec.ofChange fnExactBuildAllSpec)) fnExactBuildAllCard

/-- THE SECOND FORM's CARD OF 'laws.FnExactBuildAll'. -/
def fnExactBuildAllUptoCard : Claim7 := { stood := { row := fnExactBuildAllUptoRow, standIns := [], harness := (true, "822382705313ccfea512ac3745f83e3d1f76aee766a669924143cc2bcefde66e"), looks := true }, kinds := [], alts := [], laidByText := true, laidKinds := [.data, .data, .data, .data], laidTests := true, laidLooks := .later }
def FnExactBuildAllUptoCardSaid : Prop := Claim7.holds Tryz.pinned (.plain (OpenSpec.upto fnExactBuildAllSpec)) fnExactBuildAllUptoCard
end Rows
end Go.Proofs.YtoakjccojifagaaGreatDoor
