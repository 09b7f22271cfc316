/-
  spec.l2Step: any step.
-/
import Derived.Test.YtmeojnaoljgieabDoorNStepK
import Derived.Test.YtmeojnaoljgieabDoorNStepL
import Derived.Test.YtmeojnaoljgieabDoorNStepM
import Derived.Test.YtmeojnaoljgieabDoorNStepN
import Derived.Test.YtmeojnaoljgieabDoorNStepP
namespace Go.Proofs.YtmeojnaoljgieabDoor
open Go.RowKit
set_option linter.unusedVariables false

theorem own_strA {B : Nat} {w : World} {g cp : Nat} {ss : List ByteArray} (h : Own B w (some ⟨g, 0, none⟩) cp ss) : StrA w (some ⟨g, 0, none⟩) ss := by
  intro i hi
  refine ⟨g, 0, rfl, ?_⟩
  rw [Nat.zero_add, World.ownsRow.cellAt h i (by omega)]
  unfold strV
  rw [List.getElem?_map, List.getElem?_eq_getElem hi, List.getD_eq_getElem?_getD, List.getElem?_eq_getElem hi]
  rfl
theorem own_cases {B : Nat} {w : World} {a : Option Addr} {cp : Nat} {ss : List ByteArray} (h : Own B w a cp ss) : (a = none ∧ cp = 0 ∧ ss = []) ∨ ∃ g, a = some ⟨g, 0, none⟩ ∧ ss.length ≤ cp := by
  rcases h.2 with ⟨hv, h0⟩ | ⟨g, cap, cur, hv, _, _, hc, _⟩
  · simp only [Value.slice.injEq] at hv
    exact Or.inl ⟨hv.1, hv.2.2, List.length_eq_zero_iff.mp h0⟩
  · simp only [Value.slice.injEq] at hv
    exact Or.inr ⟨g, hv.1, by omega⟩

theorem l2Step_any (a : Option Addr) (cap : Nat) (is : List I3) (s : St) (sa : Option Addr) (cp : Nat) (ra : Option Addr) (rcap : Nat) (ys : List R3) (w : World) (B0 : Nat) (hv : progOk is = true) (hs : StOk is s) (hcode : Row3 w a is) (hsk : Own B0 w sa cp s.stack) (hyl : ys.length ≤ 200) (hr : RowR w ra ys) :
    Calls Tryd.prog 48 #[.agg #[.slice a is.length cap], runV s.pl (.slice sa s.stack.length cp) s.steps s.looks, .slice ra ys.length rcap] w fun e w' => Below w.heap.size w w' ∧ StepPost w.heap.size is ys s w' e := by
  by_cases hpl : s.pl < is.length
  · by_cases hst2 : s.steps = 2000
    · exact step_spent a cap is s sa cp ra rcap ys w hv hs hpl hst2
    · by_cases hfew : s.stack.length < takesN (ix is s.pl).op.toNat
      · exact step_few a cap is s sa cp ra rcap ys w hv hs hcode hpl hst2 hfew
      · by_cases hmany : 50 < s.stack.length - takesN (ix is s.pl).op.toNat + putsN (ix is s.pl).op.toNat
        · exact step_many a cap is s sa cp ra rcap ys w hv hs hcode hpl hst2 hfew hmany
        · obtain ⟨o, tt, n, ei, ho1, ho2, ht, hn, hn2⟩ := ok_parts hv hpl
          have eo : (ix is s.pl).op.toNat = o := by rw [ei]; simp
          rw [eo] at hfew hmany
          rcases own_cases hsk with ⟨rfl, rfl, hnil⟩ | ⟨d, rfl, hcp⟩
          · have hl0 : s.stack.length = 0 := by rw [hnil]; rfl
            rw [hl0]
            rcases (show o = 1 ∨ o = 2 ∨ o = 3 ∨ o = 4 ∨ o = 5 ∨ o = 6 ∨ o = 7 ∨ o = 8 ∨ o = 9 ∨ o = 10 ∨ o = 11 ∨ o = 12 ∨ o = 13 ∨ o = 14 ∨ o = 15 by omega) with rfl | rfl | rfl | rfl | rfl | rfl | rfl | rfl | rfl | rfl | rfl | rfl | rfl | rfl | rfl
            · exact step_op1n a cap is s ra rcap ys w hv hs hcode hpl hst2 hnil tt n ei (by omega) hyl hr
            all_goals first
              | exact step_op10n a cap is s ra rcap ys w hv hs hcode hpl hst2 hnil tt n ei (by omega) hyl hr
              | (exfalso; rw [hl0] at hfew; exact hfew (by decide))
          · have hA := own_strA hsk
            rcases (show o = 1 ∨ o = 2 ∨ o = 3 ∨ o = 4 ∨ o = 5 ∨ o = 6 ∨ o = 7 ∨ o = 8 ∨ o = 9 ∨ o = 10 ∨ o = 11 ∨ o = 12 ∨ o = 13 ∨ o = 14 ∨ o = 15 by omega) with rfl | rfl | rfl | rfl | rfl | rfl | rfl | rfl | rfl | rfl | rfl | rfl | rfl | rfl | rfl
            · have e1 : takesN 1 = 0 := rfl
              have e2 : putsN 1 = 1 := rfl
              exact step_op1 a cap is s d cp ra rcap ys w hv hs hcode hpl hst2 hA hcp tt n ei (by omega) (by omega) hyl hr
            · have e1 : takesN 2 = 2 := rfl
              have e2 : putsN 2 = 1 := rfl
              exact step_op2 a cap is s d cp ra rcap ys w hv hs hcode hpl hst2 hA hcp tt n ei (by omega) (by omega) hyl hr
            · have e1 : takesN 3 = 1 := rfl
              have e2 : putsN 3 = 1 := rfl
              exact step_op3 a cap is s d cp ra rcap ys w hv hs hcode hpl hst2 hA hcp tt n ei (by omega) (by omega) hyl hr
            · have e1 : takesN 4 = 1 := rfl
              have e2 : putsN 4 = 1 := rfl
              exact step_op4 a cap is s d cp ra rcap ys w hv hs hcode hpl hst2 hA hcp tt n ei (by omega) (by omega) hyl hr
            · have e1 : takesN 5 = 1 := rfl
              have e2 : putsN 5 = 1 := rfl
              exact step_op5 a cap is s d cp ra rcap ys w hv hs hcode hpl hst2 hA hcp tt n ei (by omega) (by omega) hyl hr
            · have e1 : takesN 6 = 2 := rfl
              have e2 : putsN 6 = 1 := rfl
              exact step_op6 a cap is s d cp ra rcap ys w hv hs hcode hpl hst2 hA hcp tt n ei (by omega) (by omega) hyl hr
            · have e1 : takesN 7 = 1 := rfl
              have e2 : putsN 7 = 2 := rfl
              exact step_op7 a cap is s d cp ra rcap ys w hv hs hcode hpl hst2 hA hcp tt n ei (by omega) (by omega) hyl hr
            · have e1 : takesN 8 = 2 := rfl
              have e2 : putsN 8 = 2 := rfl
              exact step_op8 a cap is s d cp ra rcap ys w hv hs hcode hpl hst2 hA hcp tt n ei (by omega) (by omega) hyl hr
            · have e1 : takesN 9 = 1 := rfl
              have e2 : putsN 9 = 0 := rfl
              exact step_op9 a cap is s d cp ra rcap ys w hv hs hcode hpl hst2 hA hcp tt n ei (by omega) (by omega) hyl hr
            · have e1 : takesN 10 = 0 := rfl
              have e2 : putsN 10 = 0 := rfl
              exact step_op10 a cap is s d cp ra rcap ys w hv hs hcode hpl hst2 hA hcp tt n ei (by omega) (by omega) hyl hr
            · have e1 : takesN 11 = 1 := rfl
              have e2 : putsN 11 = 0 := rfl
              cases h1 : (topB s.stack).toList.isEmpty with
              | true => exact step_op11a a cap is s d cp ra rcap ys w hv hs hcode hpl hst2 hA hcp tt n ei (by omega) (by omega) h1 hyl hr
              | false =>
                cases h2 : ((topB s.stack).toList == [48]) with
                | true => exact step_op11b a cap is s d cp ra rcap ys w hv hs hcode hpl hst2 hA hcp tt n ei (by omega) (by omega) h1 h2 hyl hr
                | false => exact step_op11c a cap is s d cp ra rcap ys w hv hs hcode hpl hst2 hA hcp tt n ei (by omega) (by omega) h1 h2 hyl hr
            · have e1 : takesN 12 = 1 := rfl
              have e2 : putsN 12 = 1 := rfl
              exact step_look12 a cap is s d cp ra rcap ys w hv hs hcode hpl hst2 hA hcp tt n ei (by omega) (by omega) hyl hr
            · have e1 : takesN 13 = 1 := rfl
              have e2 : putsN 13 = 1 := rfl
              exact step_look13 a cap is s d cp ra rcap ys w hv hs hcode hpl hst2 hA hcp tt n ei (by omega) (by omega) hyl hr
            · have e1 : takesN 14 = 1 := rfl
              exact step_fail a cap is s d cp ra rcap ys w hv hs hcode hpl hst2 hA hcp tt n ei (by omega)
            · have e1 : takesN 15 = 1 := rfl
              exact step_end a cap is s d cp ra rcap ys w hv hs hcode hpl hst2 hA hcp tt n ei (by omega)
  · exact step_beyond a cap is s sa cp ra rcap ys w hv hs hpl

end Go.Proofs.YtmeojnaoljgieabDoor
