/-
  DERIVED. GIVEN WITH THE SEED: THE CARDS: each row of YtikdgmmloiegjaaGreatDoorRows.lean that lists a variable, with what it lists TIED to the program's text (the seventh form; the later family's looks); each row that meets fmt, with fmt's text TOLD by the authors' own Lean function (tested against real Go, not proved from fmt's source: count such statements apart). THE CARD IS WHAT COUNTS. Prove the row's statement (the work); the ties are given (YtikdgmmloiegjaaGreatDoorTie.lean); close each card by the builder's one call (the guide's Derived/Test/ToyasCard.lean, 'card_holds'). Laid BY PROGRAM, IN A SANDBOX (cutbox-door.mjs). By AI agents, Wed Nov 11 2026. No macro, syntax, notation, axiom, sorry.
-/
import Derived.Test.YtikdgmmloiegjaaGreatDoorRows
import GoSem.ClaimSeven
namespace Go.Proofs.YtikdgmmloiegjaaGreatDoor
namespace Rows

/-- THE TIED CARD OF 'laws.FnExactParseStore'. -/
def fnExactParseStoreCard : Claim7 := { stood := { row := fnExactParseStoreRow, standIns := [], harness := (true, "2d646be773fc489aedf37d9df22469c525703c64638bd2cd5f48ab6cb5226793"), looks := true }, kinds := [], alts := [], laidByText := true, laidKinds := [.data, .data, .data, .sentinel, .sentinel, .data, .sentinel, .sentinel, .sentinel], laidTests := true, laidLooks := .later }
def FnExactParseStoreCardSaid : Prop := Claim7.holds Tryz.pinned (.plain (OpenSpec.ofChange fnExactParseStoreSpec)) fnExactParseStoreCard

/-- THE SECOND FORM's CARD OF 'laws.FnExactParseStore'. -/
def fnExactParseStoreUptoCard : Claim7 := { stood := { row := fnExactParseStoreUptoRow, standIns := [], harness := (true, "2d646be773fc489aedf37d9df22469c525703c64638bd2cd5f48ab6cb5226793"), looks := true }, kinds := [], alts := [], laidByText := true, laidKinds := [.data, .data, .data, .sentinel, .sentinel, .data, .sentinel, .sentinel, .sentinel], laidTests := true, laidLooks := .later }
def FnExactParseStoreUptoCardSaid : Prop := Claim7.holds Tryz.pinned (.plain (OpenSpec.upto fnExactParseStoreSpec)) fnExactParseStoreUptoCard
end Rows
end Go.Proofs.YtikdgmmloiegjaaGreatDoor
