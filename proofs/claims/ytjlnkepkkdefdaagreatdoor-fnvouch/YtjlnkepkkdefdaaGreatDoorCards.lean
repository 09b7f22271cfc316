/-
  DERIVED. GIVEN WITH THE SEED: THE CARDS: each row of YtjlnkepkkdefdaaGreatDoorRows.lean that lists a variable, with what it lists TIED to the program's text (the seventh form; the later family's looks); each row that meets fmt, with fmt's text TOLD by the authors' own Lean function (tested against real Go, not proved from fmt's source: count such statements apart). THE CARD IS WHAT COUNTS. Prove the row's statement (the work); the ties are given (YtjlnkepkkdefdaaGreatDoorTie.lean); close each card by the builder's one call (the guide's Derived/Test/ToyasCard.lean, 'card_holds'). Laid BY PROGRAM, IN A SANDBOX (cutbox-door.mjs). By AI agents, Wed Nov 11 2026. No macro, syntax, notation, axiom, sorry.
-/
import Derived.Test.YtjlnkepkkdefdaaGreatDoorRows
import GoSem.ClaimSeven
namespace Go.Proofs.YtjlnkepkkdefdaaGreatDoor
namespace Rows

/-- THE TIED CARD OF 'laws.FnVouch'. -/
def fnVouchCard : Claim7 := { stood := { row := fnVouchRow, standIns := [], harness := (true, "913b231bf2a06d494009892b8b5bc1b6f8164fde5552dd08897d22cd197e79b5"), looks := true }, kinds := [], alts := [], laidByText := true, laidKinds := [.data, .data, .data, .data], laidTests := true, laidLooks := .later }
def FnVouchCardSaid : Prop := Claim7.holds Tryz.pinned (.plain (OpenSpec.ofChange fnVouchSpec)) fnVouchCard

/-- THE SECOND FORM's CARD OF 'laws.FnVouch'. -/
def fnVouchUptoCard : Claim7 := { stood := { row := fnVouchUptoRow, standIns := [], harness := (true, "913b231bf2a06d494009892b8b5bc1b6f8164fde5552dd08897d22cd197e79b5"), looks := true }, kinds := [], alts := [], laidByText := true, laidKinds := [.data, .data, .data, .data], laidTests := true, laidLooks := .later }
def FnVouchUptoCardSaid : Prop := Claim7.holds Tryz.pinned (.plain (OpenSpec.upto fnVouchSpec)) fnVouchUptoCard
end Rows
end Go.Proofs.YtjlnkepkkdefdaaGreatDoor
