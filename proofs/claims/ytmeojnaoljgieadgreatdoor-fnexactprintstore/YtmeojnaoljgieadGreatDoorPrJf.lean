/-
  The closed facts of FnExactPrintStore's row, one by one.
-/
import Derived.Test.YtmeojnaoljgieadGreatDoorCards
import Derived.Test.YtmeojnaoljgieadGreatDoorTie
import Derived.JoinedCond
import Derived.ProofKit
namespace Go.Proofs.YtmeojnaoljgieadGreatDoor.printStoreCard
open Go.ChangeShapes Go.WideShapes Go.ChangeAt Go.RowKit
set_option linter.unusedVariables false

theorem andT {a b : Bool} (h : a = true) (k : b = true) : (a && b) = true := by rw [h, k]; rfl
set_option maxRecDepth 100000 in
set_option maxHeartbeats 8000000 in
theorem facts : joinedFacts Tryz.pinned.checked.prog 3 Tryz.f3 (OpenSpec.ofChange Rows.fnExactPrintStoreSpec).bare Rows.fnExactPrintStoreRow = true := by
  unfold joinedFacts
  repeat' (with_reducible refine andT ?_ ?_)
  all_goals (as_aux_lemma => kernel_rfl)
end Go.Proofs.YtmeojnaoljgieadGreatDoor.printStoreCard
