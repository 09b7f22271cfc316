/-
  DERIVED. GIVEN WITH THE SEED: THE CARDS: each row of YtmeojnaoljgieaaDoorRows.lean that lists a variable, with what it lists TIED to the program's text (the seventh form; the later family's looks); each row that meets fmt, with fmt's text TOLD by the authors' own Lean function (tested against real Go, not proved from fmt's source: count such statements apart). THE CARD IS WHAT COUNTS. Prove the row's statement (the work); the ties are given (YtmeojnaoljgieaaDoorTie.lean); close each card by the builder's one call (the guide's Derived/Test/ToyasCard.lean, 'card_holds'). Laid BY PROGRAM, IN A SANDBOX (cutbox-door.mjs). By AI agents, Wed Nov 11 2026. No macro, syntax, notation, axiom, sorry.
-/
import Derived.Test.YtmeojnaoljgieaaDoorRows
import GoSem.ClaimSeven
namespace Go.Proofs.YtmeojnaoljgieaaDoor
namespace Rows

/-- THE TIED CARD OF 'laws.FnExactFormResult'. -/
def fnExactFormResultCard : Claim7 := { stood := { row := fnExactFormResultRow, standIns := [], harness := (true, "24eff86426aacf74fceb1007e89c54f32c05aa01335f36a9ec4b92cf56842948"), looks := false }, kinds := [], alts := [], laidByText := true, laidKinds := [.data, .data, .data], laidTests := true, laidLooks := .later }
def FnExactFormResultCardSaid : Prop := Claim7.holds Tryd.pinned (.plain (OpenSpec.ofChange fnExactFormResultSpec)) fnExactFormResultCard

/-- THE TIED CARD OF 'laws.FnExactValidProgram'. -/
def fnExactValidProgramCard : Claim7 := { stood := { row := fnExactValidProgramRow, standIns := [], harness := (true, "24eff86426aacf74fceb1007e89c54f32c05aa01335f36a9ec4b92cf56842948"), looks := false }, kinds := [], alts := [], laidByText := true, laidKinds := [.data], laidTests := true, laidLooks := .later }
def FnExactValidProgramCardSaid : Prop := Claim7.holds Tryd.pinned (.plain (OpenSpec.ofChange fnExactValidProgramSpec)) fnExactValidProgramCard

/-- THE SECOND FORM's CARD OF 'laws.FnExactFormResult'. -/
def fnExactFormResultUptoCard : Claim7 := { stood := { row := fnExactFormResultUptoRow, standIns := [], harness := (true, "24eff86426aacf74fceb1007e89c54f32c05aa01335f36a9ec4b92cf56842948"), looks := false }, kinds := [], alts := [], laidByText := true, laidKinds := [.data, .data, .data], laidTests := true, laidLooks := .later }
def FnExactFormResultUptoCardSaid : Prop := Claim7.holds Tryd.pinned (.plain (OpenSpec.upto fnExactFormResultSpec)) fnExactFormResultUptoCard

/-- THE SECOND FORM's CARD OF 'laws.FnExactValidProgram'. -/
def fnExactValidProgramUptoCard : Claim7 := { stood := { row := fnExactValidProgramUptoRow, standIns := [], harness := (true, "24eff86426aacf74fceb1007e89c54f32c05aa01335f36a9ec4b92cf56842948"), looks := false }, kinds := [], alts := [], laidByText := true, laidKinds := [.data], laidTests := true, laidLooks := .later }
def FnExactValidProgramUptoCardSaid : Prop := Claim7.holds Tryd.pinned (.plain (OpenSpec.upto fnExactValidProgramSpec)) fnExactValidProgramUptoCard
end Rows
end Go.Proofs.YtmeojnaoljgieaaDoor
