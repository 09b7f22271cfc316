/-
  DERIVED. GIVEN WITH THE SEED: THE CARDS: each row of YtmeojnaoljgieadDoorRows.lean that lists a variable, with what it lists TIED to the program's text (the seventh form; the later family's looks); each row that meets fmt, with fmt's text TOLD by the authors' own Lean function (tested against real Go, not proved from fmt's source: count such statements apart). THE CARD IS WHAT COUNTS. Prove the row's statement (the work); the ties are given (YtmeojnaoljgieadDoorTie.lean); close each card by the builder's one call (the guide's Derived/Test/ToyasCard.lean, 'card_holds'). Laid BY PROGRAM, IN A SANDBOX (cutbox-door.mjs). By AI agents, Wed Nov 11 2026. No macro, syntax, notation, axiom, sorry.
-/
import Derived.Test.YtmeojnaoljgieadDoorRows
import GoSem.ClaimSeven
namespace Go.Proofs.YtmeojnaoljgieadDoor
namespace Rows

/-- THE TIED CARD OF 'laws.FnExactPutText'. -/
def fnExactPutTextCard : Claim7 := { stood := { row := fnExactPutTextRow, standIns := [], harness := (true, "73ac06bfd94410978218a63da8af19de703f5b2f740a61f17ab0a4a106b3e67a"), looks := false }, kinds := [], alts := [], laidByText := true, laidKinds := [.data], laidTests := true, laidLooks := .later }
def FnExactPutTextCardSaid : Prop := Claim7.holds Tryd.pinned (.plain (OpenSpec.ofChange fnExactPutTextSpec)) fnExactPutTextCard

/-- THE SECOND FORM's CARD OF 'laws.FnExactPutText'. -/
def fnExactPutTextUptoCard : Claim7 := { stood := { row := fnExactPutTextUptoRow, standIns := [], harness := (true, "73ac06bfd94410978218a63da8af19de703f5b2f740a61f17ab0a4a106b3e67a"), looks := false }, kinds := [], alts := [], laidByText := true, laidKinds := [.data], laidTests := true, laidLooks := .later }
def FnExactPutTextUptoCardSaid : Prop := Claim7.holds Tryd.pinned (.plain (OpenSpec.upto fnExactPutTextSpec)) fnExactPutTextUptoCard
end Rows
end Go.Proofs.YtmeojnaoljgieadDoor
