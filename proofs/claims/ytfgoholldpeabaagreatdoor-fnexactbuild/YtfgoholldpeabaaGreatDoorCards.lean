/-
  DERIVED. GIVEN WITH THE SEED: THE CARDS: each row of YtfgoholldpeabaaGreatDoorRows.lean that lists a variable, with what it lists TIED to the program's text (the seventh form; the later family's looks); each row that meets fmt, with fmt's text TOLD by the authors' own Lean function (tested against real Go, not proved from fmt's source: count such statements apart). THE CARD IS WHAT COUNTS. Prove the row's statement (the work); the ties are given (YtfgoholldpeabaaGreatDoorTie.lean); close each card by the builder's one call (the guide's Derived/Test/ToyasCard.lean, 'card_holds'). Laid BY PROGRAM, IN A SANDBOX (cutbox-door.mjs). By AI agents, Wed Nov 11 2026. No macro, syntax, notation, axiom, sorry.
-/
import Derived.Test.YtfgoholldpeabaaGreatDoorRows
import GoSem.ClaimSeven
namespace Go.Proofs.YtfgoholldpeabaaGreatDoor
namespace Rows

/-- THE TIED CARD OF 'laws.FnExactBuild'. -/
def fnExactBuildCard : Claim7 := { stood := { row := fnExactBuildRow, standIns := [], harness := (true, "07f2f454c565f8bf15c5e18b0c3a3a9412c5008e805dc8bee76b70f3de108292"), looks := true }, kinds := [], alts := [], laidByText := true, laidKinds := [.data, .data, .data, .data], laidTests := true, laidLooks := .later }
def FnExactBuildCardSaid : Prop := Claim7.holds Tryz.pinned (.plain (OpenSpec.ofChange fnExactBuildSpec)) fnExactBuildCard

/-- THE SECOND FORM's CARD OF 'laws.FnExactBuild'. -/
def fnExactBuildUptoCard : Claim7 := { stood := { row := fnExactBuildUptoRow, standIns := [], harness := (true, "07f2f454c565f8bf15c5e18b0c3a3a9412c5008e805dc8bee76b70f3de108292"), looks := true }, kinds := [], alts := [], laidByText := true, laidKinds := [.data, .data, .data, .data], laidTests := true, laidLooks := .later }
def FnExactBuildUptoCardSaid : Prop := Claim7.holds Tryz.pinned (.plain (OpenSpec.upto fnExactBuildSpec)) fnExactBuildUptoCard
end Rows
end Go.Proofs.YtfgoholldpeabaaGreatDoor
