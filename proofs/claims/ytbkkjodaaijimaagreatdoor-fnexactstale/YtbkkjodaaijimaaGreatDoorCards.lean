/-
  DERIVED. GIVEN WITH THE SEED: THE CARDS: each row of YtbkkjodaaijimaaGreatDoorRows.lean that lists a variable, with what it lists TIED to the program's text (the seventh form; the later family's looks); each row that meets fmt, with fmt's text TOLD by the authors' own Lean function (tested against real Go, not proved from fmt's source: count such statements apart). THE CARD IS WHAT COUNTS. Prove the row's statement (the work); the ties are given (YtbkkjodaaijimaaGreatDoorTie.lean); close each card by the builder's one call (the guide's Derived/Test/ToyasCard.lean, 'card_holds'). Laid BY PROGRAM, IN A SANDBOX (cutbox-door.mjs). By AI agents, Wed Nov 11 2026. No macro, syntax, notation, axiom, sorry.
-/
import Derived.Test.YtbkkjodaaijimaaGreatDoorRows
import GoSem.ClaimSeven
namespace Go.Proofs.YtbkkjodaaijimaaGreatDoor
namespace Rows

/-- THE TIED CARD OF 'laws.FnExactStale'. -/
def fnExactStaleCard : Claim7 := { stood := { row := fnExactStaleRow, standIns := [], harness := (true, "8e4a6b560498ddd6818926cdae8cdcc6234a32c62403f14689ee6c662da3fb77"), looks := true }, kinds := [], alts := [], laidByText := true, laidKinds := [.data, .data, .data, .data], laidTests := true, laidLooks := .later }
def FnExactStaleCardSaid : Prop := Claim7.holds Tryz.pinned (.plain (OpenSpec.ofChange fnExactStaleSpec)) fnExactStaleCard

/-- THE SECOND FORM's CARD OF 'laws.FnExactStale'. -/
def fnExactStaleUptoCard : Claim7 := { stood := { row := fnExactStaleUptoRow, standIns := [], harness := (true, "8e4a6b560498ddd6818926cdae8cdcc6234a32c62403f14689ee6c662da3fb77"), looks := true }, kinds := [], alts := [], laidByText := true, laidKinds := [.data, .data, .data, .data], laidTests := true, laidLooks := .later }
def FnExactStaleUptoCardSaid : Prop := Claim7.holds Tryz.pinned (.plain (OpenSpec.upto fnExactStaleSpec)) fnExactStaleUptoCard
end Rows
end Go.Proofs.YtbkkjodaaijimaaGreatDoor
