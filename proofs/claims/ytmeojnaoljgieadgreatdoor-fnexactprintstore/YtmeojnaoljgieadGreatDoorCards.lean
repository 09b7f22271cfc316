/-
  DERIVED. GIVEN WITH THE SEED: THE CARDS: each row of YtmeojnaoljgieadGreatDoorRows.lean that lists a variable, with what it lists TIED to the program's text (the seventh form; the later family's looks); each row that meets fmt, with fmt's text TOLD by the authors' own Lean function (tested against real Go, not proved from fmt's source: count such statements apart). THE CARD IS WHAT COUNTS. Prove the row's statement (the work); the ties are given (YtmeojnaoljgieadGreatDoorTie.lean); close each card by the builder's one call (the guide's Derived/Test/ToyasCard.lean, 'card_holds'). Laid BY PROGRAM, IN A SANDBOX (cutbox-door.mjs). By AI agents, Wed Nov 11 2026. No macro, syntax, notation, axiom, sorry.
-/
import Derived.Test.YtmeojnaoljgieadGreatDoorRows
import GoSem.ClaimSeven
namespace Go.Proofs.YtmeojnaoljgieadGreatDoor
namespace Rows

/-- THE TIED CARD OF 'laws.FnExactPrintStore'. -/
def fnExactPrintStoreCard : Claim7 := { stood := { row := fnExactPrintStoreRow, standIns := [], harness := (true, "bbf3c72fa68652c1e3bda05eba3733145a56ee6a7a13c063c3bdca83e2ddd328"), looks := true }, kinds := [], alts := [], laidByText := true, laidKinds := [.data, .data, .data, .data], laidTests := true, laidLooks := .later }
def FnExactPrintStoreCardSaid : Prop := Claim7.holds Tryz.pinned (.plain (OpenSpec.ofChange fnExactPrintStoreSpec)) fnExactPrintStoreCard

/-- THE TIED CARD OF 'laws.FnEdits'. -/
def fnEditsCard : Claim7 := { stood := { row := fnEditsRow, standIns := [], harness := (true, "bbf3c72fa68652c1e3bda05eba3733145a56ee6a7a13c063c3bdca83e2ddd328"), looks := true }, kinds := [], alts := [], laidByText := true, laidKinds := [.data, .data, .data, .data], laidTests := true, laidLooks := .later }
def FnEditsCardSaid : Prop := Claim7.holds Tryz.pinned (.plain (OpenSpec.ofChange fnEditsSpec)) fnEditsCard

/-- THE TIED CARD OF 'laws.FnExactMerge'. -/
def fnExactMergeCard : Claim7 := { stood := { row := fnExactMergeRow, standIns := [], harness := (true, "bbf3c72fa68652c1e3bda05eba3733145a56ee6a7a13c063c3bdca83e2ddd328"), looks := true }, kinds := [], alts := [], laidByText := true, laidKinds := [.data], laidTests := true, laidLooks := .later }
def FnExactMergeCardSaid : Prop := Claim7.holds Tryz.pinned (.plain (OpenSpec.ofChange fnExactMergeSpec)) fnExactMergeCard

/-- THE TIED CARD OF 'laws.FnReplay'. -/
def fnReplayCard : Claim7 := { stood := { row := fnReplayRow, standIns := [], harness := (true, "bbf3c72fa68652c1e3bda05eba3733145a56ee6a7a13c063c3bdca83e2ddd328"), looks := true }, kinds := [], alts := [], laidByText := true, laidKinds := [.data, .data, .data, .data], laidTests := true, laidLooks := .later }
def FnReplayCardSaid : Prop := Claim7.holds Tryz.pinned (.plain (OpenSpec.ofChange fnReplaySpec)) fnReplayCard

/-- THE TIED CARD OF 'laws.FnExactParseStore'. -/
def fnExactParseStoreCard : Claim7 := { stood := { row := fnExactParseStoreRow, standIns := [], harness := (true, "bbf3c72fa68652c1e3bda05eba3733145a56ee6a7a13c063c3bdca83e2ddd328"), looks := true }, kinds := [], alts := [], laidByText := true, laidKinds := [.data, .data, .data, .sentinel, .sentinel, .data, .sentinel, .sentinel, .sentinel], laidTests := true, laidLooks := .later }
def FnExactParseStoreCardSaid : Prop := Claim7.holds Tryz.pinned (.plain (OpenSpec.ofChange fnExactParseStoreSpec)) fnExactParseStoreCard

/-- THE SECOND FORM's CARD OF 'laws.FnExactPrintStore'. -/
def fnExactPrintStoreUptoCard : Claim7 := { stood := { row := fnExactPrintStoreUptoRow, standIns := [], harness := (true, "bbf3c72fa68652c1e3bda05eba3733145a56ee6a7a13c063c3bdca83e2ddd328"), looks := true }, kinds := [], alts := [], laidByText := true, laidKinds := [.data, .data, .data, .data], laidTests := true, laidLooks := .later }
def FnExactPrintStoreUptoCardSaid : Prop := Claim7.holds Tryz.pinned (.plain (OpenSpec.upto fnExactPrintStoreSpec)) fnExactPrintStoreUptoCard

/-- THE SECOND FORM's CARD OF 'laws.FnEdits'. -/
def fnEditsUptoCard : Claim7 := { stood := { row := fnEditsUptoRow, standIns := [], harness := (true, "bbf3c72fa68652c1e3bda05eba3733145a56ee6a7a13c063c3bdca83e2ddd328"), looks := true }, kinds := [], alts := [], laidByText := true, laidKinds := [.data, .data, .data, .data], laidTests := true, laidLooks := .later }
def FnEditsUptoCardSaid : Prop := Claim7.holds Tryz.pinned (.plain (OpenSpec.upto fnEditsSpec)) fnEditsUptoCard

/-- THE SECOND FORM's CARD OF 'laws.FnExactMerge'. -/
def fnExactMergeUptoCard : Claim7 := { stood := { row := fnExactMergeUptoRow, standIns := [], harness := (true, "bbf3c72fa68652c1e3bda05eba3733145a56ee6a7a13c063c3bdca83e2ddd328"), looks := true }, kinds := [], alts := [], laidByText := true, laidKinds := [.data], laidTests := true, laidLooks := .later }
def FnExactMergeUptoCardSaid : Prop := Claim7.holds Tryz.pinned (.plain (OpenSpec.upto fnExactMergeSpec)) fnExactMergeUptoCard

/-- THE SECOND FORM's CARD OF 'laws.FnReplay'. -/
def fnReplayUptoCard : Claim7 := { stood := { row := fnReplayUptoRow, standIns := [], harness := (true, "bbf3c72fa68652c1e3bda05eba3733145a56ee6a7a13c063c3bdca83e2ddd328"), looks := true }, kinds := [], alts := [], laidByText := true, laidKinds := [.data, .data, .data, .data], laidTests := true, laidLooks := .later }
def FnReplayUptoCardSaid : Prop := Claim7.holds Tryz.pinned (.plain (OpenSpec.upto fnReplaySpec)) fnReplayUptoCard

/-- THE SECOND FORM's CARD OF 'laws.FnExactParseStore'. -/
def fnExactParseStoreUptoCard : Claim7 := { stood := { row := fnExactParseStoreUptoRow, standIns := [], harness := (true, "bbf3c72fa68652c1e3bda05eba3733145a56ee6a7a13c063c3bdca83e2ddd328"), looks := true }, kinds := [], alts := [], laidByText := true, laidKinds := [.data, .data, .data, .sentinel, .sentinel, .data, .sentinel, .sentinel, .sentinel], laidTests := true, laidLooks := .later }
def FnExactParseStoreUptoCardSaid : Prop := Claim7.holds Tryz.pinned (.plain (OpenSpec.upto fnExactParseStoreSpec)) fnExactParseStoreUptoCard
end Rows
end Go.Proofs.YtmeojnaoljgieadGreatDoor
