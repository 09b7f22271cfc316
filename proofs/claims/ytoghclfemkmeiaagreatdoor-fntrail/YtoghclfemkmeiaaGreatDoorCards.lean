/-
  DERIVED. GIVEN WITH THE SEED: THE CARDS: each row of YtoghclfemkmeiaaGreatDoorRows.lean that lists a variable, with what it lists TIED to the program's text (the seventh form; the later family's looks); each row that meets fmt, with fmt's text TOLD by the authors' own Lean function (tested against real Go, not proved from fmt's source: count such statements apart). THE CARD IS WHAT COUNTS. Prove the row's statement (the work); the ties are given (YtoghclfemkmeiaaGreatDoorTie.lean); close each card by the builder's one call (the guide's Derived/Test/ToyasCard.lean, 'card_holds'). Laid BY PROGRAM, IN A SANDBOX (cutbox-door.mjs). By AI agents, Wed Nov 11 2026. No macro, syntax, notation, axiom, sorry.
-/
import Derived.Test.YtoghclfemkmeiaaGreatDoorRows
import GoSem.ClaimSeven
namespace Go.Proofs.YtoghclfemkmeiaaGreatDoor
namespace Rows

/-- THE TIED CARD OF 'laws.FnTrail'. -/
def fnTrailCard : Claim7 := { stood := { row := fnTrailRow, standIns := [], harness := (true, "9545f5ceebc7d2401428647f5d9dd04050a691d7873f0488132f2900325e8584"), looks := true }, kinds := [], alts := [], laidByText := true, laidKinds := [.data, .data, .data, .data], laidTests := true, laidLooks := .later }
def FnTrailCardSaid : Prop := Claim7.holds Tryz.pinned (.plain (OpenSpec.ofChange fnTrailSpec)) fnTrailCard

/-- THE SECOND FORM's CARD OF 'laws.FnTrail'. -/
def fnTrailUptoCard : Claim7 := { stood := { row := fnTrailUptoRow, standIns := [], harness := (true, "9545f5ceebc7d2401428647f5d9dd04050a691d7873f0488132f2900325e8584"), looks := true }, kinds := [], alts := [], laidByText := true, laidKinds := [.data, .data, .data, .data], laidTests := true, laidLooks := .later }
def FnTrailUptoCardSaid : Prop := Claim7.holds Tryz.pinned (.plain (OpenSpec.upto fnTrailSpec)) fnTrailUptoCard
end Rows
end Go.Proofs.YtoghclfemkmeiaaGreatDoor
