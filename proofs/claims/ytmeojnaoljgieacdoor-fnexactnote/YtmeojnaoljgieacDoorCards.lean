/-
  DERIVED. GIVEN WITH THE SEED: THE CARDS: each row of YtmeojnaoljgieacDoorRows.lean that lists a variable, with what it lists TIED to the program's text (the seventh form; the later family's looks); each row that meets fmt, with fmt's text TOLD by the authors' own Lean function (tested against real Go, not proved from fmt's source: count such statements apart). THE CARD IS WHAT COUNTS. Prove the row's statement (the work); the ties are given (YtmeojnaoljgieacDoorTie.lean); close each card by the builder's one call (the guide's Derived/Test/ToyasCard.lean, 'card_holds'). Laid BY PROGRAM, IN A SANDBOX (cutbox-door.mjs). By AI agents, Wed Nov 11 2026. No macro, syntax, notation, axiom, sorry.
-/
import Derived.Test.YtmeojnaoljgieacDoorRows
import GoSem.ClaimSeven
namespace Go.Proofs.YtmeojnaoljgieacDoor
namespace Rows

/-- THE TIED CARD OF 'laws.FnExactValidStore'. -/
def fnExactValidStoreCard : Claim7 := { stood := { row := fnExactValidStoreRow, standIns := [], harness := (true, "a960bbb905daa9cdbe28d9cfbd4026e884927bdbc672c1788e1d79c3b058c211"), looks := false }, kinds := [], alts := [], laidByText := true, laidKinds := [.data], laidTests := true, laidLooks := .later }
def FnExactValidStoreCardSaid : Prop := Claim7.holds Tryd.pinned (.plain (OpenSpec.ofChange fnExactValidStoreSpec)) fnExactValidStoreCard

/-- THE TIED CARD OF 'laws.FnExactPutSource'. -/
def fnExactPutSourceCard : Claim7 := { stood := { row := fnExactPutSourceRow, standIns := [], harness := (true, "a960bbb905daa9cdbe28d9cfbd4026e884927bdbc672c1788e1d79c3b058c211"), looks := false }, kinds := [], alts := [], laidByText := true, laidKinds := [.data], laidTests := true, laidLooks := .later }
def FnExactPutSourceCardSaid : Prop := Claim7.holds Tryd.pinned (.plain (OpenSpec.ofChange fnExactPutSourceSpec)) fnExactPutSourceCard

/-- THE TIED CARD OF 'laws.FnExactGetText'. -/
def fnExactGetTextCard : Claim7 := { stood := { row := fnExactGetTextRow, standIns := [], harness := (true, "a960bbb905daa9cdbe28d9cfbd4026e884927bdbc672c1788e1d79c3b058c211"), looks := false }, kinds := [], alts := [], laidByText := true, laidKinds := [.data], laidTests := true, laidLooks := .later }
def FnExactGetTextCardSaid : Prop := Claim7.holds Tryd.pinned (.plain (OpenSpec.ofChange fnExactGetTextSpec)) fnExactGetTextCard

/-- THE TIED CARD OF 'laws.FnExactPutTarget'. -/
def fnExactPutTargetCard : Claim7 := { stood := { row := fnExactPutTargetRow, standIns := [], harness := (true, "a960bbb905daa9cdbe28d9cfbd4026e884927bdbc672c1788e1d79c3b058c211"), looks := false }, kinds := [], alts := [], laidByText := true, laidKinds := [.data], laidTests := true, laidLooks := .later }
def FnExactPutTargetCardSaid : Prop := Claim7.holds Tryd.pinned (.plain (OpenSpec.ofChange fnExactPutTargetSpec)) fnExactPutTargetCard

/-- THE TIED CARD OF 'laws.FnExactDrop'. -/
def fnExactDropCard : Claim7 := { stood := { row := fnExactDropRow, standIns := [], harness := (true, "a960bbb905daa9cdbe28d9cfbd4026e884927bdbc672c1788e1d79c3b058c211"), looks := false }, kinds := [], alts := [], laidByText := true, laidKinds := [.data], laidTests := true, laidLooks := .later }
def FnExactDropCardSaid : Prop := Claim7.holds Tryd.pinned (.plain (OpenSpec.ofChange fnExactDropSpec)) fnExactDropCard

/-- THE TIED CARD OF 'laws.FnExactNote'. -/
def fnExactNoteCard : Claim7 := { stood := { row := fnExactNoteRow, standIns := [], harness := (true, "a960bbb905daa9cdbe28d9cfbd4026e884927bdbc672c1788e1d79c3b058c211"), looks := false }, kinds := [], alts := [], laidByText := true, laidKinds := [.data, .data, .data, .data], laidTests := true, laidLooks := .later }
def FnExactNoteCardSaid : Prop := Claim7.holds Tryd.pinned (.plain (OpenSpec.ofChange fnExactNoteSpec)) fnExactNoteCard

/-- THE SECOND FORM's CARD OF 'laws.FnExactValidStore'. -/
def fnExactValidStoreUptoCard : Claim7 := { stood := { row := fnExactValidStoreUptoRow, standIns := [], harness := (true, "a960bbb905daa9cdbe28d9cfbd4026e884927bdbc672c1788e1d79c3b058c211"), looks := false }, kinds := [], alts := [], laidByText := true, laidKinds := [.data], laidTests := true, laidLooks := .later }
def FnExactValidStoreUptoCardSaid : Prop := Claim7.holds Tryd.pinned (.plain (OpenSpec.upto fnExactValidStoreSpec)) fnExactValidStoreUptoCard

/-- THE SECOND FORM's CARD OF 'laws.FnExactPutSource'. -/
def fnExactPutSourceUptoCard : Claim7 := { stood := { row := fnExactPutSourceUptoRow, standIns := [], harness := (true, "a960bbb905daa9cdbe28d9cfbd4026e884927bdbc672c1788e1d79c3b058c211"), looks := false }, kinds := [], alts := [], laidByText := true, laidKinds := [.data], laidTests := true, laidLooks := .later }
def FnExactPutSourceUptoCardSaid : Prop := Claim7.holds Tryd.pinned (.plain (OpenSpec.upto fnExactPutSourceSpec)) fnExactPutSourceUptoCard

/-- THE SECOND FORM's CARD OF 'laws.FnExactGetText'. -/
def fnExactGetTextUptoCard : Claim7 := { stood := { row := fnExactGetTextUptoRow, standIns := [], harness := (true, "a960bbb905daa9cdbe28d9cfbd4026e884927bdbc672c1788e1d79c3b058c211"), looks := false }, kinds := [], alts := [], laidByText := true, laidKinds := [.data], laidTests := true, laidLooks := .later }
def FnExactGetTextUptoCardSaid : Prop := Claim7.holds Tryd.pinned (.plain (OpenSpec.upto fnExactGetTextSpec)) fnExactGetTextUptoCard

/-- THE SECOND FORM's CARD OF 'laws.FnExactPutTarget'. -/
def fnExactPutTargetUptoCard : Claim7 := { stood := { row := fnExactPutTargetUptoRow, standIns := [], harness := (true, "a960bbb905daa9cdbe28d9cfbd4026e884927bdbc672c1788e1d79c3b058c211"), looks := false }, kinds := [], alts := [], laidByText := true, laidKinds := [.data], laidTests := true, laidLooks := .later }
def FnExactPutTargetUptoCardSaid : Prop := Claim7.holds Tryd.pinned (.plain (OpenSpec.upto fnExactPutTargetSpec)) fnExactPutTargetUptoCard

/-- THE SECOND FORM's CARD OF 'laws.FnExactDrop'. -/
def fnExactDropUptoCard : Claim7 := { stood := { row := fnExactDropUptoRow, standIns := [], harness := (true, "a960bbb905daa9cdbe28d9cfbd4026e884927bdbc672c1788e1d79c3b058c211"), looks := false }, kinds := [], alts := [], laidByText := true, laidKinds := [.data], laidTests := true, laidLooks := .later }
def FnExactDropUptoCardSaid : Prop := Claim7.holds Tryd.pinned (.plain (OpenSpec.upto fnExactDropSpec)) fnExactDropUptoCard

/-- THE SECOND FORM's CARD OF 'laws.FnExactNote'. -/
def fnExactNoteUptoCard : Claim7 := { stood := { row := fnExactNoteUptoRow, standIns := [], harness := (true, "a960bbb905daa9cdbe28d9cfbd4026e884927bdbc672c1788e1d79c3b058c211"), looks := false }, kinds := [], alts := [], laidByText := true, laidKinds := [.data, .data, .data, .data], laidTests := true, laidLooks := .later }
def FnExactNoteUptoCardSaid : Prop := Claim7.holds Tryd.pinned (.plain (OpenSpec.upto fnExactNoteSpec)) fnExactNoteUptoCard
end Rows
end Go.Proofs.YtmeojnaoljgieacDoor
