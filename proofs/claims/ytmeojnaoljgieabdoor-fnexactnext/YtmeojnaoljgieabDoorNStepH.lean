/-
  spec.l2Step: what it makes of l2Look's answers.
-/
import Derived.Test.YtmeojnaoljgieabDoorNStepG
namespace Go.Proofs.YtmeojnaoljgieabDoor
open Go.RowKit
set_option linter.unusedVariables false

def r10 (x0 : Int) (a : Option Addr) (n c : Nat) (x2 x3 : Int) (x4 : Bool) (x5 : Int) (x6 : ByteArray) (x7 : Bool) (x8 : ByteArray) (x9 : Bool) : Value := .agg #[.int .i64 x0, .slice a n c, .int .i64 x2, .int .i64 x3, .bool x4, .int .i64 x5, .string x6, .bool x7, .string x8, .bool x9]

theorem top_le {is : List I3} {s : St} (hs : StOk is s) (h : 1 ≤ s.stack.length) : (topB s.stack).size ≤ 2000 := by
  apply hs.size
  unfold topB
  rw [List.getD_eq_getElem?_getD, List.getElem?_eq_getElem (show s.stack.length - 1 < s.stack.length by omega)]
  exact List.getElem_mem _
theorem sub_le {is : List I3} {s : St} (hs : StOk is s) (h : 2 ≤ s.stack.length) : (subB s.stack).size ≤ 2000 := by
  apply hs.size
  unfold subB
  rw [List.getD_eq_getElem?_getD, List.getElem?_eq_getElem (show s.stack.length - 2 < s.stack.length by omega)]
  exact List.getElem_mem _

theorem StepPost.set {B : Nat} {is : List I3} {ys : List R3} {s : St} {w : World} {e : Ending} {b : Nat} (h : StepPost B is ys s w e ∧ ∃ cs, w.heap[b]? = some (.cells cs 96 (0, 0))) (j : Nat) (x : Value) :
    StepPost B is ys s (w.setCell ⟨b, j, none⟩ x) e ∧ ∃ cs, (w.setCell ⟨b, j, none⟩ x).heap[b]? = some (.cells cs 96 (0, 0)) := by
  obtain ⟨h, hc⟩ := h
  refine ⟨?_, by obtain ⟨cs, hb⟩ := hc; exact ⟨_, Joins.block_setCell hb x⟩⟩
  rcases h with h | ⟨s', h1, a', cp', h2, h3⟩ | h | ⟨ask, nm, s', s'', h1, h2, h3, a', cp', h4, h5⟩ | h
  · exact Or.inl h
  · exact Or.inr (Or.inl ⟨s', h1, a', cp', h2, (own96 ⟨h3, hc⟩ j x).1⟩)
  · exact Or.inr (Or.inr (Or.inl h))
  · exact Or.inr (Or.inr (Or.inr (Or.inl ⟨ask, nm, s', s'', h1, h2, h3, a', cp', h4, (own96 ⟨h5, hc⟩ j x).1⟩)))
  · exact Or.inr (Or.inr (Or.inr (Or.inr h)))

variable (B : Nat) (t : ByteArray) (n : Nat) (is : List I3) (s : St) (sa : Option Addr) (cp : Nat) (rest : List ByteArray) (nm q : ByteArray) (ra : Option Addr) (rcap : Nat) (ys : List R3) (w : World)

/-- What l2Look's answer is, for l2Step. -/
def LookPost (B : Nat) (is : List I3) (ys : List R3) (s : St) (w w' : World) (e : Ending) : Prop :=
  Below B w w' ∧ ∃ x0 a n c x2 x3 x4 x5 x6 x7 x8 x9, e = .returned (r10 x0 a n c x2 x3 x4 x5 x6 x7 x8 x9) ∧ StepPost B is ys s w' e

theorem look_step12 (hB : B ≤ w.heap.size) (hs : StOk is s) (hpl : s.pl < is.length) (hl200 : is.length ≤ 200) (hst2 : s.steps ≠ 2000) (ei : ix is s.pl = ⟨12, t, n⟩) (hfew : 1 ≤ s.stack.length) (erest : rest = restL s.stack 1) (enm : nm = topB s.stack) (eq : q = decB s.pl) (hyl : ys.length ≤ 200) (hr : RowR w ra ys) (hown : Own B w sa cp rest) (hln : rest.length < 50) :
    Calls Tryd.prog 75 #[.agg #[.int .i64 12, .string t, .int .i64 n], runV ((s.pl : Int) + 1) (.slice sa rest.length cp) ((s.steps : Int) + 1) s.looks, .string nm, .string q, .slice ra ys.length rcap] w fun e w' => LookPost B is ys s w w' e := by
  subst erest; subst enm; subst eq
  have e1 : ((s.pl + 1 : Nat) : Int) = (s.pl : Int) + 1 := rfl
  have e2 : ((s.steps + 1 : Nat) : Int) = (s.steps : Int) + 1 := rfl
  have hst := hs.steps
  have hlk := hs.looks
  have hp := hs.pl
  have htk : ¬ s.stack.length < takesN 12 := by rw [show takesN 12 = 1 from rfl]; omega
  have htop := top_le hs hfew
  have hst0 := st_ins hpl hst2 (o := 12) ei
  rw [← e1, ← e2]
  by_cases hn : NameOk (topB s.stack)
  · by_cases hl : s.looks = 200
    · refine (look_sp B 12 t n (s.pl + 1) sa cp (restL s.stack 1) (s.steps + 1) s.looks (topB s.stack) (decB s.pl) ra rcap ys w hB htop (by omega) (by omega) hlk hn hl).mono ?_
      rintro e w' ⟨hb, rfl⟩
      exact ⟨hb, _, _, _, _, _, _, _, _, _, _, _, _, rfl, Or.inl ⟨3, _, s.steps + 1, hst0.trans (ins_spent htk (Or.inl rfl) hn hl), _, _, _, _, _, rfl⟩⟩
    · have hst1 := hst0.trans (ins_look htk (Or.inl rfl) hn hl)
      by_cases hy : ys.length ≤ s.looks
      · refine (look_wt B 12 t n (s.pl + 1) sa cp (restL s.stack 1) (s.steps + 1) s.looks (topB s.stack) (decB s.pl) ra rcap ys w hB htop (by omega) (by omega) hlk hn hl hy).mono ?_
        rintro e w' ⟨hb, rfl⟩
        exact ⟨hb, _, _, _, _, _, _, _, _, _, _, _, _, rfl, Or.inr (Or.inr (Or.inl ⟨true, _, _, hst1, hy, _, _, _, _, _, rfl⟩))⟩
      · have hy2 : s.looks < ys.length := by omega
        cases hh : (rx ys s.looks).has with
        | false =>
          refine (look_miss B t n (s.pl + 1) sa cp (restL s.stack 1) (s.steps + 1) s.looks (topB s.stack) (decB s.pl) ra rcap ys w hB htop (by omega) (by omega) hlk hn hl hy2 hyl hr hh).mono ?_
          rintro e w' ⟨hb, rfl⟩
          exact ⟨hb, _, _, _, _, _, _, _, _, _, _, _, _, rfl, Or.inr (Or.inr (Or.inr (Or.inr ⟨true, _, _, 4, _, s.steps + 1, hst1, hy2, by simp [ansP, hh], _, _, _, _, _, rfl⟩)))⟩
        | true =>
          by_cases hcd : (rx ys s.looks).code = 0
          · refine (look_text B t n (s.pl + 1) sa cp (restL s.stack 1) (s.steps + 1) s.looks (topB s.stack) (decB s.pl) ra rcap ys w hB htop (by omega) (by omega) hlk hn hl hy2 hyl hr hh hcd hown hln).mono ?_
            rintro e w' ⟨hb, a', cp', rfl, ho⟩
            exact ⟨hb, _, _, _, _, _, _, _, _, _, _, _, _, rfl, Or.inr (Or.inr (Or.inr (Or.inl ⟨true, _, _, ⟨s.pl + 1, restL s.stack 1 ++ [(rx ys s.looks).text], s.steps + 1, s.looks + 1⟩, hst1, hy2, by simp [ansP, hh, hcd], a', cp', by simp [List.length_append], ho⟩)))⟩
          · refine (look_below B t n (s.pl + 1) sa cp (restL s.stack 1) (s.steps + 1) s.looks (topB s.stack) (decB s.pl) ra rcap ys w hB htop (by omega) (by omega) hlk hn hl hy2 hyl hr hh hcd).mono ?_
            rintro e w' ⟨hb, rfl⟩
            exact ⟨hb, _, _, _, _, _, _, _, _, _, _, _, _, rfl, Or.inr (Or.inr (Or.inr (Or.inr ⟨true, _, _, 5, _, s.steps + 1, hst1, hy2, by simp [ansP, hh, hcd], _, _, _, _, _, rfl⟩)))⟩
  · refine (look_no B 12 t n (s.pl + 1) sa cp (restL s.stack 1) (s.steps + 1) s.looks (topB s.stack) (decB s.pl) ra rcap ys w hB htop (by omega) (by omega) hlk hn).mono ?_
    rintro e w' ⟨hb, rfl⟩
    exact ⟨hb, _, _, _, _, _, _, _, _, _, _, _, _, rfl, Or.inl ⟨2, _, s.steps + 1, hst0.trans (ins_bad htk (Or.inl rfl) hn), _, _, _, _, _, rfl⟩⟩

theorem look_step13 (hB : B ≤ w.heap.size) (hs : StOk is s) (hpl : s.pl < is.length) (hl200 : is.length ≤ 200) (hst2 : s.steps ≠ 2000) (ei : ix is s.pl = ⟨13, t, n⟩) (hfew : 1 ≤ s.stack.length) (erest : rest = restL s.stack 1) (enm : nm = topB s.stack) (eq : q = decB s.pl) (hyl : ys.length ≤ 200) (hr : RowR w ra ys) (hown : Own B w sa cp rest) (hln : rest.length < 50) :
    Calls Tryd.prog 75 #[.agg #[.int .i64 13, .string t, .int .i64 n], runV ((s.pl : Int) + 1) (.slice sa rest.length cp) ((s.steps : Int) + 1) s.looks, .string nm, .string q, .slice ra ys.length rcap] w fun e w' => LookPost B is ys s w w' e := by
  subst erest; subst enm; subst eq
  have e1 : ((s.pl + 1 : Nat) : Int) = (s.pl : Int) + 1 := rfl
  have e2 : ((s.steps + 1 : Nat) : Int) = (s.steps : Int) + 1 := rfl
  have hst := hs.steps
  have hlk := hs.looks
  have hp := hs.pl
  have htk : ¬ s.stack.length < takesN 13 := by rw [show takesN 13 = 1 from rfl]; omega
  have htop := top_le hs hfew
  have hst0 := st_ins hpl hst2 (o := 13) ei
  rw [← e1, ← e2]
  by_cases hn : NameOk (topB s.stack)
  · by_cases hl : s.looks = 200
    · refine (look_sp B 13 t n (s.pl + 1) sa cp (restL s.stack 1) (s.steps + 1) s.looks (topB s.stack) (decB s.pl) ra rcap ys w hB htop (by omega) (by omega) hlk hn hl).mono ?_
      rintro e w' ⟨hb, rfl⟩
      exact ⟨hb, _, _, _, _, _, _, _, _, _, _, _, _, rfl, Or.inl ⟨3, _, s.steps + 1, hst0.trans (ins_spent htk (Or.inr rfl) hn hl), _, _, _, _, _, rfl⟩⟩
    · have hst1 := hst0.trans (ins_look htk (Or.inr rfl) hn hl)
      by_cases hy : ys.length ≤ s.looks
      · refine (look_wt B 13 t n (s.pl + 1) sa cp (restL s.stack 1) (s.steps + 1) s.looks (topB s.stack) (decB s.pl) ra rcap ys w hB htop (by omega) (by omega) hlk hn hl hy).mono ?_
        rintro e w' ⟨hb, rfl⟩
        exact ⟨hb, _, _, _, _, _, _, _, _, _, _, _, _, rfl, Or.inr (Or.inr (Or.inl ⟨false, _, _, hst1, hy, _, _, _, _, _, rfl⟩))⟩
      · have hy2 : s.looks < ys.length := by omega
        refine (look_flag B t n (s.pl + 1) sa cp (restL s.stack 1) (s.steps + 1) s.looks (topB s.stack) (decB s.pl) ra rcap ys w hB htop (by omega) (by omega) hlk hn hl hy2 hyl hr hown hln).mono ?_
        rintro e w' ⟨hb, a', cp', rfl, ho⟩
        exact ⟨hb, _, _, _, _, _, _, _, _, _, _, _, _, rfl, Or.inr (Or.inr (Or.inr (Or.inl ⟨false, _, _, ⟨s.pl + 1, restL s.stack 1 ++ [flagB (rx ys s.looks).has], s.steps + 1, s.looks + 1⟩, hst1, hy2, by simp [ansP], a', cp', by simp [List.length_append], ho⟩)))⟩
  · refine (look_no B 13 t n (s.pl + 1) sa cp (restL s.stack 1) (s.steps + 1) s.looks (topB s.stack) (decB s.pl) ra rcap ys w hB htop (by omega) (by omega) hlk hn).mono ?_
    rintro e w' ⟨hb, rfl⟩
    exact ⟨hb, _, _, _, _, _, _, _, _, _, _, _, _, rfl, Or.inl ⟨2, _, s.steps + 1, hst0.trans (ins_bad htk (Or.inr rfl) hn), _, _, _, _, _, rfl⟩⟩

end Go.Proofs.YtmeojnaoljgieabDoor
