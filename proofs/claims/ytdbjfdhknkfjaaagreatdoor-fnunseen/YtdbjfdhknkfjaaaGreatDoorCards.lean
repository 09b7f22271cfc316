/-
  DERIVED. GIVEN WITH THE SEED: THE CARDS: each row of YtdbjfdhknkfjaaaGreatDoorRows.lean that lists a variable, with what it lists TIED to the program's text (the seventh form; the later family's looks); each row that meets fmt, with fmt's text TOLD by the authors' own Lean function (tested against real Go, not proved from fmt's source: count such statements apart). THE CARD IS WHAT COUNTS. Prove the row's statement (the work); the ties are given (YtdbjfdhknkfjaaaGreatDoorTie.lean); close each card by the builder's one call (the guide's Derived/Test/ToyasCard.lean, 'card_holds'). Laid BY PROGRAM, IN A SANDBOX (cutbox-door.mjs). By AI agents, Wed Nov 11 2026. No macro, syntax, notation, axiom, sorry.
-/
import Derived.Test.YtdbjfdhknkfjaaaGreatDoorRows
import GoSem.ClaimSeven
namespace Go.Proofs.YtdbjfdhknkfjaaaGreatDoor
namespace Rows

/-- THE TIED CARD OF 'laws.FnUnseen'. -/
def fnUnseenCard : Claim7 := { stood := { row := fnUnseenRow, standIns := [], harness := (true, "6cf1b739d7da9edc48b095d9990a81ff5c5392642eb88e40ca2138bb6278f16c"), looks := true }, kinds := [], alts := [], laidByText := true, laidKinds := [.data, .data, .data, .data], laidTests := true, laidLooks := .later }
def FnUnseenCardSaid : Prop := Claim7.holds Tryz.pinned (.plain (OpenSpec.ofChange fnUnseenSpec)) fnUnseenCard

/-- THE SECOND FORM's CARD OF 'laws.FnUnseen'. -/
def fnUnseenUptoCard : Claim7 := { stood := { row := fnUnseenUptoRow, standIns := [], harness := (true, "6cf1b739d7da9edc48b095d9990a81ff5c5392642eb88e40ca2138bb6278f16c"), looks := true }, kinds := [], alts := [], laidByText := true, laidKinds := [.data, .data, .data, .data], laidTests := true, laidLooks := .later }
def FnUnseenUptoCardSaid : Prop := Claim7.holds Tryz.pinned (.plain (OpenSpec.upto fnUnseenSpec)) fnUnseenUptoCard
end Rows
end Go.Proofs.YtdbjfdhknkfjaaaGreatDoor
