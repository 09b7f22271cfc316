/-
  DERIVED. GIVEN WITH THE SEED: THE CARDS: each row of YtmeojnaoljgieaeGreatDoorRows.lean that lists a variable, with what it lists TIED to the program's text (the seventh form; the later family's looks); each row that meets fmt, with fmt's text TOLD by the authors' own Lean function (tested against real Go, not proved from fmt's source: count such statements apart). THE CARD IS WHAT COUNTS. Prove the row's statement (the work); the ties are given (YtmeojnaoljgieaeGreatDoorTie.lean); close each card by the builder's one call (the guide's Derived/Test/ToyasCard.lean, 'card_holds'). Laid BY PROGRAM, IN A SANDBOX (cutbox-door.mjs). By AI agents, Wed Nov 11 2026. No macro, syntax, notation, axiom, sorry.
-/
import Derived.Test.YtmeojnaoljgieaeGreatDoorRows
import GoSem.ClaimSeven
namespace Go.Proofs.YtmeojnaoljgieaeGreatDoor
namespace Rows

/-- THE TIED CARD OF 'laws.FnTrail'. -/
def fnTrailCard : Claim7 := { stood := { row := fnTrailRow, standIns := [], harness := (true, "3282906918ee9618436b93017b3c9a90d3e9ef9dd7f9da661e2c890d88a4b14e"), looks := true }, kinds := [], alts := [], laidByText := true, laidKinds := [.data, .data, .data, .data], laidTests := true, laidLooks := .later }
def FnTrailCardSaid : Prop := Claim7.holds Tryz.pinned (.plain (OpenSpec.ofChange fnTrailSpec)) fnTrailCard

/-- THE TIED CARD OF 'laws.FnExactVouch'. -/
def fnExactVouchCard : Claim7 := { stood := { row := fnExactVouchRow, standIns := [], harness := (true, "3282906918ee9618436b93017b3c9a90d3e9ef9dd7f9da661e2c890d88a4b14e"), looks := true }, kinds := [], alts := [], laidByText := true, laidKinds := [.data, .data, .data, .data], laidTests := true, laidLooks := .later }
def FnExactVouchCardSaid : Prop := Claim7.holds Tryz.pinned (.plain (OpenSpec.ofChange fnExactVouchSpec)) fnExactVouchCard

/-- THE TIED CARD OF 'laws.FnExactClean'. -/
def fnExactCleanCard : Claim7 := { stood := { row := fnExactCleanRow, standIns := [], harness := (true, "3282906918ee9618436b93017b3c9a90d3e9ef9dd7f9da661e2c890d88a4b14e"), looks := true }, kinds := [], alts := [], laidByText := true, laidKinds := [.data, .data, .data, .data], laidTests := true, laidLooks := .later }
def FnExactCleanCardSaid : Prop := Claim7.holds Tryz.pinned (.plain (OpenSpec.ofChange fnExactCleanSpec)) fnExactCleanCard

/-- THE TIED CARD OF 'laws.FnUnseen'. -/
def fnUnseenCard : Claim7 := { stood := { row := fnUnseenRow, standIns := [], harness := (true, "3282906918ee9618436b93017b3c9a90d3e9ef9dd7f9da661e2c890d88a4b14e"), looks := true }, kinds := [], alts := [], laidByText := true, laidKinds := [.data, .data, .data, .data], laidTests := true, laidLooks := .later }
def FnUnseenCardSaid : Prop := Claim7.holds Tryz.pinned (.plain (OpenSpec.ofChange fnUnseenSpec)) fnUnseenCard

/-- THE TIED CARD OF 'laws.FnExactTrail'. -/
def fnExactTrailCard : Claim7 := { stood := { row := fnExactTrailRow, standIns := [], harness := (true, "3282906918ee9618436b93017b3c9a90d3e9ef9dd7f9da661e2c890d88a4b14e"), looks := true }, kinds := [], alts := [], laidByText := true, laidKinds := [.data, .data, .data, .data], laidTests := true, laidLooks := .later }
def FnExactTrailCardSaid : Prop := Claim7.holds Tryz.pinned (.plain (OpenSpec.ofChange fnExactTrailSpec)) fnExactTrailCard

/-- THE TIED CARD OF 'laws.FnExactVouched'. -/
def fnExactVouchedCard : Claim7 := { stood := { row := fnExactVouchedRow, standIns := [], harness := (true, "3282906918ee9618436b93017b3c9a90d3e9ef9dd7f9da661e2c890d88a4b14e"), looks := true }, kinds := [], alts := [], laidByText := true, laidKinds := [.data, .data, .data, .data], laidTests := true, laidLooks := .later }
def FnExactVouchedCardSaid : Prop := Claim7.holds Tryz.pinned (.plain (OpenSpec.ofChange fnExactVouchedSpec)) fnExactVouchedCard

/-- THE SECOND FORM's CARD OF 'laws.FnTrail'. -/
def fnTrailUptoCard : Claim7 := { stood := { row := fnTrailUptoRow, standIns := [], harness := (true, "3282906918ee9618436b93017b3c9a90d3e9ef9dd7f9da661e2c890d88a4b14e"), looks := true }, kinds := [], alts := [], laidByText := true, laidKinds := [.data, .data, .data, .data], laidTests := true, laidLooks := .later }
def FnTrailUptoCardSaid : Prop := Claim7.holds Tryz.pinned (.plain (OpenSpec.upto fnTrailSpec)) fnTrailUptoCard

/-- THE SECOND FORM's CARD OF 'laws.FnExactVouch'. -/
def fnExactVouchUptoCard : Claim7 := { stood := { row := fnExactVouchUptoRow, standIns := [], harness := (true, "3282906918ee9618436b93017b3c9a90d3e9ef9dd7f9da661e2c890d88a4b14e"), looks := true }, kinds := [], alts := [], laidByText := true, laidKinds := [.data, .data, .data, .data], laidTests := true, laidLooks := .later }
def FnExactVouchUptoCardSaid : Prop := Claim7.holds Tryz.pinned (.plain (OpenSpec.upto fnExactVouchSpec)) fnExactVouchUptoCard

/-- THE SECOND FORM's CARD OF 'laws.FnExactClean'. -/
def fnExactCleanUptoCard : Claim7 := { stood := { row := fnExactCleanUptoRow, standIns := [], harness := (true, "3282906918ee9618436b93017b3c9a90d3e9ef9dd7f9da661e2c890d88a4b14e"), looks := true }, kinds := [], alts := [], laidByText := true, laidKinds := [.data, .data, .data, .data], laidTests := true, laidLooks := .later }
def FnExactCleanUptoCardSaid : Prop := Claim7.holds Tryz.pinned (.plain (OpenSpec.upto fnExactCleanSpec)) fnExactCleanUptoCard

/-- THE SECOND FORM's CARD OF 'laws.FnUnseen'. -/
def fnUnseenUptoCard : Claim7 := { stood := { row := fnUnseenUptoRow, standIns := [], harness := (true, "3282906918ee9618436b93017b3c9a90d3e9ef9dd7f9da661e2c890d88a4b14e"), looks := true }, kinds := [], alts := [], laidByText := true, laidKinds := [.data, .data, .data, .data], laidTests := true, laidLooks := .later }
def FnUnseenUptoCardSaid : Prop := Claim7.holds Tryz.pinned (.plain (OpenSpec.upto fnUnseenSpec)) fnUnseenUptoCard

/-- THE SECOND FORM's CARD OF 'laws.FnExactTrail'. -/
def fnExactTrailUptoCard : Claim7 := { stood := { row := fnExactTrailUptoRow, standIns := [], harness := (true, "3282906918ee9618436b93017b3c9a90d3e9ef9dd7f9da661e2c890d88a4b14e"), looks := true }, kinds := [], alts := [], laidByText := true, laidKinds := [.data, .data, .data, .data], laidTests := true, laidLooks := .later }
def FnExactTrailUptoCardSaid : Prop := Claim7.holds Tryz.pinned (.plain (OpenSpec.upto fnExactTrailSpec)) fnExactTrailUptoCard

/-- THE SECOND FORM's CARD OF 'laws.FnExactVouched'. -/
def fnExactVouchedUptoCard : Claim7 := { stood := { row := fnExactVouchedUptoRow, standIns := [], harness := (true, "3282906918ee9618436b93017b3c9a90d3e9ef9dd7f9da661e2c890d88a4b14e"), looks := true }, kinds := [], alts := [], laidByText := true, laidKinds := [.data, .data, .data, .data], laidTests := true, laidLooks := .later }
def FnExactVouchedUptoCardSaid : Prop := Claim7.holds Tryz.pinned (.plain (OpenSpec.upto fnExactVouchedSpec)) fnExactVouchedUptoCard
end Rows
end Go.Proofs.YtmeojnaoljgieaeGreatDoor
