/-
  DERIVED. GIVEN WITH THE SEED: THE CARDS: each row of YtbbfboikigmghaaGreatDoorRows.lean that lists a variable, with what it lists TIED to the program's text (the seventh form; the later family's looks); each row that meets fmt, with fmt's text TOLD by the authors' own Lean function (tested against real Go, not proved from fmt's source: count such statements apart). THE CARD IS WHAT COUNTS. Prove the row's statement (the work); the ties are given (YtbbfboikigmghaaGreatDoorTie.lean); close each card by the builder's one call (the guide's Derived/Test/ToyasCard.lean, 'card_holds'). Laid BY PROGRAM, IN A SANDBOX (cutbox-door.mjs). By AI agents, Wed Nov 11 2026. No macro, syntax, notation, axiom, sorry.
-/
import Derived.Test.YtbbfboikigmghaaGreatDoorRows
import GoSem.ClaimSeven
namespace Go.Proofs.YtbbfboikigmghaaGreatDoor
namespace Rows

/-- THE TIED CARD OF 'laws.FnExactDoubt'. -/
def fnExactDoubtCard : Claim7 := { stood := { row := fnExactDoubtRow, standIns := [], harness := (true, "421f81d66feca7bc75f4acd317c14fc78ca6bc7f3aa59cf041059e17d3f249f2"), looks := true }, kinds := [], alts := [], laidByText := true, laidKinds := [.data, .data, .data, .data], laidTests := true, laidLooks := .later }
def FnExactDoubtCardSaid : Prop := Claim7.holds Tryz.pinned (.plain (OpenSpec.ofChange fnExactDoubtSpec)) fnExactDoubtCard

/-- THE SECOND FORM's CARD OF 'laws.FnExactDoubt'. -/
def fnExactDoubtUptoCard : Claim7 := { stood := { row := fnExactDoubtUptoRow, standIns := [], harness := (true, "421f81d66feca7bc75f4acd317c14fc78ca6bc7f3aa59cf041059e17d3f249f2"), looks := true }, kinds := [], alts := [], laidByText := true, laidKinds := [.data, .data, .data, .data], laidTests := true, laidLooks := .later }
def FnExactDoubtUptoCardSaid : Prop := Claim7.holds Tryz.pinned (.plain (OpenSpec.upto fnExactDoubtSpec)) fnExactDoubtUptoCard
end Rows
end Go.Proofs.YtbbfboikigmghaaGreatDoor
