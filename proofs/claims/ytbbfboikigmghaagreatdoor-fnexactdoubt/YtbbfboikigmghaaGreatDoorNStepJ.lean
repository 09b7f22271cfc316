import Derived.Test.YtbbfboikigmghaaGreatDoorNStepG
import Derived.Laws.AppendOwnNone
namespace Go.Proofs.YtbbfboikigmghaaGreatDoor
open Go.RowKit
set_option linter.unusedVariables false
set_option maxHeartbeats 32000000
set_option maxRecDepth 100000
section
def r10 (x0 : Int) (a : Option Addr) (n c : Nat) (x2 x3 : Int) (x4 : Bool) (x5 : Int) (x6 : ByteArray) (x7 : Bool) (x8 : ByteArray) (x9 : Bool) : Value := .agg #[.int .i64 x0, .slice a n c, .int .i64 x2, .int .i64 x3, .bool x4, .int .i64 x5, .string x6, .bool x7, .string x8, .bool x9]
theorem top_le {is : List I3} {s : St} (hs : StOk is s) (h : 1 <= s.stack.length) : (topB s.stack).size <= 2000 := by
  apply hs.size
  unfold topB
  rw [List.getD_eq_getElem?_getD, List.getElem?_eq_getElem (show s.stack.length - 1 < s.stack.length by omega)]
  exact List.getElem_mem _
theorem sub_le {is : List I3} {s : St} (hs : StOk is s) (h : 2 <= s.stack.length) : (subB s.stack).size <= 2000 := by
  apply hs.size
  unfold subB
  rw [List.getD_eq_getElem?_getD, List.getElem?_eq_getElem (show s.stack.length - 2 < s.stack.length by omega)]
  exact List.getElem_mem _
theorem StepPost.set {B : Nat} {is : List I3} {ys : List R3} {s : St} {w : World} {e : Ending} {b : Nat} (h : StepPost B is ys s w e /\ ∃ cs, w.heap[b]? = some (.cells cs 199 (0, 0))) (j : Nat) (x : Value) :
    StepPost B is ys s (w.setCell ⟨b, j, none⟩ x) e /\ ∃ cs, (w.setCell ⟨b, j, none⟩ x).heap[b]? = some (.cells cs 199 (0, 0)) := by
  obtain ⟨h, hc⟩ := h
  refine ⟨?_, by obtain ⟨cs, hb⟩ := hc; exact ⟨_, Joins.block_setCell hb x⟩⟩
  rcases h with h | ⟨s', h1, a', cp', h2, h3⟩ | h | ⟨ask, nm, s', s'', h1, h2, h3, a', cp', h4, h5⟩ | h
  · exact Or.inl h
  · exact Or.inr (Or.inl ⟨s', h1, a', cp', h2, (own96 ⟨h3, hc⟩ j x).1⟩)
  · exact Or.inr (Or.inr (Or.inl h))
  · exact Or.inr (Or.inr (Or.inr (Or.inl ⟨ask, nm, s', s'', h1, h2, h3, a', cp', h4, (own96 ⟨h5, hc⟩ j x).1⟩)))
  · exact Or.inr (Or.inr (Or.inr (Or.inr h)))
variable (B : Nat) (t : ByteArray) (n : Nat) (is : List I3) (s : St) (sa : Option Addr) (cp : Nat) (rest : List ByteArray) (nm q : ByteArray) (ra : Option Addr) (rcap : Nat) (ys : List R3) (w : World)
def LookPost (B : Nat) (is : List I3) (ys : List R3) (s : St) (w w' : World) (e : Ending) : Prop :=
  Below B w w' /\ ∃ x0 a n c x2 x3 x4 x5 x6 x7 x8 x9, e = .returned (r10 x0 a n c x2 x3 x4 x5 x6 x7 x8 x9) /\ StepPost B is ys s w' e
theorem look_step12 (hB : B <= w.heap.size) (hs : StOk is s) (hpl : s.pl < is.length) (hl200 : is.length <= 200) (hst2 : s.steps ≠ 2000) (ei : ix is s.pl = ⟨12, t, n⟩) (hfew : 1 <= s.stack.length) (erest : rest = restL s.stack 1) (enm : nm = topB s.stack) (eq : q = decB s.pl) (hyl : ys.length <= 200) (hr : RowR w ra ys) (hown : Own B w sa cp rest) (hln : rest.length < 50) :
    Calls Tryz.prog 134 #[.agg #[.int .i64 12, .string t, .int .i64 n], runV ((s.pl : Int) + 1) (.slice sa rest.length cp) ((s.steps : Int) + 1) s.looks, .string nm, .string q, .slice ra ys.length rcap] w fun e w' => LookPost B is ys s w w' e := by
  subst erest; subst enm; subst eq
  have e1 : ((s.pl + 1 : Nat) : Int) = (s.pl : Int) + 1 := rfl
  have e2 : ((s.steps + 1 : Nat) : Int) = (s.steps : Int) + 1 := rfl
  have hst := hs.steps
  have hlk := hs.looks
  have hp := hs.pl
  have htk : ¬ s.stack.length < takesN 12 := by rw [show takesN 12 = 1 from rfl]; omega
  have htop := top_le hs hfew
  have hst0 := st_ins hpl hst2 (o := 12) ei
  rw [<- e1, <- e2]
  by_cases hn : NameOk (topB s.stack)
  · by_cases hl : s.looks = 200
    · refine (look_sp B 12 t n (s.pl + 1) sa cp (restL s.stack 1) (s.steps + 1) s.looks (topB s.stack) (decB s.pl) ra rcap ys w hB htop (by omega) (by omega) hlk hn hl).mono ?_
      rintro e w' ⟨hb, rfl⟩
      exact ⟨hb, _, _, _, _, _, _, _, _, _, _, _, _, rfl, Or.inl ⟨3, _, s.steps + 1, hst0.trans (ins_spent htk (Or.inl rfl) hn hl), _, _, _, _, _, rfl⟩⟩
    · have hst1 := hst0.trans (ins_look htk (Or.inl rfl) hn hl)
      by_cases hy : ys.length <= s.looks
      · refine (look_wt B 12 t n (s.pl + 1) sa cp (restL s.stack 1) (s.steps + 1) s.looks (topB s.stack) (decB s.pl) ra rcap ys w hB htop (by omega) (by omega) hlk hn hl hy).mono ?_
        rintro e w' ⟨hb, rfl⟩
        exact ⟨hb, _, _, _, _, _, _, _, _, _, _, _, _, rfl, Or.inr (Or.inr (Or.inl ⟨true, _, _, hst1, hy, _, _, _, _, _, rfl⟩))⟩
      · have hy2 : s.looks < ys.length := by omega
        cases hh : (rx ys s.looks).has with
        | false =>
          refine (look_miss B t n (s.pl + 1) sa cp (restL s.stack 1) (s.steps + 1) s.looks (topB s.stack) (decB s.pl) ra rcap ys w hB htop (by omega) (by omega) hlk hn hl hy2 hyl hr hh).mono ?_
          rintro e w' ⟨hb, rfl⟩
          exact ⟨hb, _, _, _, _, _, _, _, _, _, _, _, _, rfl, Or.inr (Or.inr (Or.inr (Or.inr ⟨true, _, _, 4, _, s.steps + 1, hst1, hy2, by simp [ansP, hh], _, _, _, _, _, rfl⟩)))⟩
        | true =>
          by_cases hcd : (rx ys s.looks).code = 0
          · refine (look_text B t n (s.pl + 1) sa cp (restL s.stack 1) (s.steps + 1) s.looks (topB s.stack) (decB s.pl) ra rcap ys w hB htop (by omega) (by omega) hlk hn hl hy2 hyl hr hh hcd hown hln).mono ?_
            rintro e w' ⟨hb, a', cp', rfl, ho⟩
            exact ⟨hb, _, _, _, _, _, _, _, _, _, _, _, _, rfl, Or.inr (Or.inr (Or.inr (Or.inl ⟨true, _, _, ⟨s.pl + 1, restL s.stack 1 ++ [(rx ys s.looks).text], s.steps + 1, s.looks + 1⟩, hst1, hy2, by simp [ansP, hh, hcd], a', cp', by simp [List.length_append], ho⟩)))⟩
          · refine (look_below B t n (s.pl + 1) sa cp (restL s.stack 1) (s.steps + 1) s.looks (topB s.stack) (decB s.pl) ra rcap ys w hB htop (by omega) (by omega) hlk hn hl hy2 hyl hr hh hcd).mono ?_
            rintro e w' ⟨hb, rfl⟩
            exact ⟨hb, _, _, _, _, _, _, _, _, _, _, _, _, rfl, Or.inr (Or.inr (Or.inr (Or.inr ⟨true, _, _, 5, _, s.steps + 1, hst1, hy2, by simp [ansP, hh, hcd], _, _, _, _, _, rfl⟩)))⟩
  · refine (look_no B 12 t n (s.pl + 1) sa cp (restL s.stack 1) (s.steps + 1) s.looks (topB s.stack) (decB s.pl) ra rcap ys w hB htop (by omega) (by omega) hlk hn).mono ?_
    rintro e w' ⟨hb, rfl⟩
    exact ⟨hb, _, _, _, _, _, _, _, _, _, _, _, _, rfl, Or.inl ⟨2, _, s.steps + 1, hst0.trans (ins_bad htk (Or.inl rfl) hn), _, _, _, _, _, rfl⟩⟩
theorem look_step13 (hB : B <= w.heap.size) (hs : StOk is s) (hpl : s.pl < is.length) (hl200 : is.length <= 200) (hst2 : s.steps ≠ 2000) (ei : ix is s.pl = ⟨13, t, n⟩) (hfew : 1 <= s.stack.length) (erest : rest = restL s.stack 1) (enm : nm = topB s.stack) (eq : q = decB s.pl) (hyl : ys.length <= 200) (hr : RowR w ra ys) (hown : Own B w sa cp rest) (hln : rest.length < 50) :
    Calls Tryz.prog 134 #[.agg #[.int .i64 13, .string t, .int .i64 n], runV ((s.pl : Int) + 1) (.slice sa rest.length cp) ((s.steps : Int) + 1) s.looks, .string nm, .string q, .slice ra ys.length rcap] w fun e w' => LookPost B is ys s w w' e := by
  subst erest; subst enm; subst eq
  have e1 : ((s.pl + 1 : Nat) : Int) = (s.pl : Int) + 1 := rfl
  have e2 : ((s.steps + 1 : Nat) : Int) = (s.steps : Int) + 1 := rfl
  have hst := hs.steps
  have hlk := hs.looks
  have hp := hs.pl
  have htk : ¬ s.stack.length < takesN 13 := by rw [show takesN 13 = 1 from rfl]; omega
  have htop := top_le hs hfew
  have hst0 := st_ins hpl hst2 (o := 13) ei
  rw [<- e1, <- e2]
  by_cases hn : NameOk (topB s.stack)
  · by_cases hl : s.looks = 200
    · refine (look_sp B 13 t n (s.pl + 1) sa cp (restL s.stack 1) (s.steps + 1) s.looks (topB s.stack) (decB s.pl) ra rcap ys w hB htop (by omega) (by omega) hlk hn hl).mono ?_
      rintro e w' ⟨hb, rfl⟩
      exact ⟨hb, _, _, _, _, _, _, _, _, _, _, _, _, rfl, Or.inl ⟨3, _, s.steps + 1, hst0.trans (ins_spent htk (Or.inr rfl) hn hl), _, _, _, _, _, rfl⟩⟩
    · have hst1 := hst0.trans (ins_look htk (Or.inr rfl) hn hl)
      by_cases hy : ys.length <= s.looks
      · refine (look_wt B 13 t n (s.pl + 1) sa cp (restL s.stack 1) (s.steps + 1) s.looks (topB s.stack) (decB s.pl) ra rcap ys w hB htop (by omega) (by omega) hlk hn hl hy).mono ?_
        rintro e w' ⟨hb, rfl⟩
        exact ⟨hb, _, _, _, _, _, _, _, _, _, _, _, _, rfl, Or.inr (Or.inr (Or.inl ⟨false, _, _, hst1, hy, _, _, _, _, _, rfl⟩))⟩
      · have hy2 : s.looks < ys.length := by omega
        refine (look_flag B t n (s.pl + 1) sa cp (restL s.stack 1) (s.steps + 1) s.looks (topB s.stack) (decB s.pl) ra rcap ys w hB htop (by omega) (by omega) hlk hn hl hy2 hyl hr hown hln).mono ?_
        rintro e w' ⟨hb, a', cp', rfl, ho⟩
        exact ⟨hb, _, _, _, _, _, _, _, _, _, _, _, _, rfl, Or.inr (Or.inr (Or.inr (Or.inl ⟨false, _, _, ⟨s.pl + 1, restL s.stack 1 ++ [flagB (rx ys s.looks).has], s.steps + 1, s.looks + 1⟩, hst1, hy2, by simp [ansP], a', cp', by simp [List.length_append], ho⟩)))⟩
  · refine (look_no B 13 t n (s.pl + 1) sa cp (restL s.stack 1) (s.steps + 1) s.looks (topB s.stack) (decB s.pl) ra rcap ys w hB htop (by omega) (by omega) hlk hn).mono ?_
    rintro e w' ⟨hb, rfl⟩
    exact ⟨hb, _, _, _, _, _, _, _, _, _, _, _, _, rfl, Or.inl ⟨2, _, s.steps + 1, hst0.trans (ins_bad htk (Or.inr rfl) hn), _, _, _, _, _, rfl⟩⟩
end
theorem own_out {w : World} {B : Nat} {v' : Value} {n m : Nat} {ss : List ByteArray} {xs : List Value} {g0 : Addr} {n0 c0 : Nat} (h : w.ownsRow B 9 1 v' (n + m) (xs ++ ss.map .string)) (hn : v' = .slice none 0 0 ↔ (Value.slice (some g0) n0 c0) = .slice none 0 0 /\ m = 0) (e0 : n = 0 := by rfl) (e1 : xs = [] := by rfl) : ∃ g cp, v' = .slice (some ⟨g, 0, none⟩) m cp /\ w.ownsRow B 9 1 (.slice (some ⟨g, 0, none⟩) m cp) m (strV ss) := by
  subst e0; subst e1
  rw [Nat.zero_add, List.nil_append] at h
  rcases h.2 with ⟨hv, _⟩ | ⟨g, cap, cur, hv, r⟩
  · have := (hn.mp hv).1
    cases this
  · subst hv
    exact ⟨g, cap, rfl, h⟩
theorem own_add {w : World} {B : Nat} {v' : Value} {m : Nat} {ss : List ByteArray} {x : ByteArray} (h : w.ownsRow B 9 1 v' (m + 1) (strV ss ++ [.string x])) : ∃ g cp, v' = .slice (some ⟨g, 0, none⟩) (m + 1) cp /\ w.ownsRow B 9 1 (.slice (some ⟨g, 0, none⟩) (m + 1) cp) (m + 1) (strV (ss ++ [x])) := by
  rcases h.2 with ⟨hv, h0⟩ | ⟨g, cap, cur, hv, r⟩
  · omega
  · subst hv
    refine ⟨g, cap, rfl, ?_⟩
    rw [show strV (ss ++ [x]) = strV ss ++ [.string x] from by simp [strV]]
    exact h
theorem Own.mono {B B' : Nat} {w : World} {a : Option Addr} {cp : Nat} {ss : List ByteArray} (h : Own B w a cp ss) (hB : B' <= B) : Own B' w a cp ss := by
  refine ⟨h.1, ?_⟩
  rcases h.2 with h | ⟨g, cap, cur, hv, hg, r⟩
  · exact Or.inl h
  · exact Or.inr ⟨g, cap, cur, hv, Nat.le_trans hB hg, r⟩
theorem StepPost.mono {B B' : Nat} {is : List I3} {ys : List R3} {s : St} {w : World} {e : Ending} (h : StepPost B is ys s w e) (hB : B' <= B) : StepPost B' is ys s w e := by
  rcases h with h | ⟨s', h1, a', cp', h2, h3⟩ | h | ⟨ask, nm, s', s'', h1, h2, h3, a', cp', h4, h5⟩ | h
  · exact Or.inl h
  · exact Or.inr (Or.inl ⟨s', h1, a', cp', h2, h3.mono hB⟩)
  · exact Or.inr (Or.inr (Or.inl h))
  · exact Or.inr (Or.inr (Or.inr (Or.inl ⟨ask, nm, s', s'', h1, h2, h3, a', cp', h4, h5.mono hB⟩)))
  · exact Or.inr (Or.inr (Or.inr (Or.inr h)))
theorem post_set10 {B : Nat} {is : List I3} {ys : List R3} {s : St} {w : World} {e : Ending} {b : Nat} (h : StepPost B is ys s w e) (hc : ∃ cs, w.heap[b]? = some (.cells cs 199 (0, 0))) (v0 v1 v2 v3 v4 v5 v6 v7 v8 v9 : Value) :
    StepPost B is ys s ((((((((((w.setCell ⟨b, 0, none⟩ v0).setCell ⟨b, 1, none⟩ v1).setCell ⟨b, 2, none⟩ v2).setCell ⟨b, 3, none⟩ v3).setCell ⟨b, 4, none⟩ v4).setCell ⟨b, 5, none⟩ v5).setCell ⟨b, 6, none⟩ v6).setCell ⟨b, 7, none⟩ v7).setCell ⟨b, 8, none⟩ v8).setCell ⟨b, 9, none⟩ v9) e :=
  (StepPost.set (StepPost.set (StepPost.set (StepPost.set (StepPost.set (StepPost.set (StepPost.set (StepPost.set (StepPost.set (StepPost.set ⟨h, hc⟩ 0 v0) 1 v1) 2 v2) 3 v3) 4 v4) 5 v5) 6 v6) 7 v7) 8 v8) 9 v9).1
theorem plain1 (o : Nat) (t : ByteArray) (n : Nat) (a b x : ByteArray) (w : World) (ex : outP o t n a b = [x]) (ha : a.size <= 2000) (hb : b.size <= 2000) (hn : n <= 2000) (h1 : 1 <= o) (h2 : o <= 8) :
    Calls Tryz.prog 135 #[.agg #[.int .i64 (o : Int), .string t, .int .i64 n], .string a, .string b] w fun e w' => Below w.heap.size w w' /\ ∃ g c, e = .returned (.slice (some ⟨g, 0, none⟩) 1 c) /\ w'.cell? ⟨g, 0, none⟩ = some (.string x) := by
  refine (plain_any t n a b w o ha hb hn h1 h2).mono ?_
  rintro e w' ⟨hb', g, c, he, hc⟩
  rw [ex] at he hc
  exact ⟨hb', g, c, he, hc 0 (by simp)⟩
theorem plain2 (o : Nat) (t : ByteArray) (n : Nat) (a b x y : ByteArray) (w : World) (ex : outP o t n a b = [x, y]) (ha : a.size <= 2000) (hb : b.size <= 2000) (hn : n <= 2000) (h1 : 1 <= o) (h2 : o <= 8) :
    Calls Tryz.prog 135 #[.agg #[.int .i64 (o : Int), .string t, .int .i64 n], .string a, .string b] w fun e w' => Below w.heap.size w w' /\ ∃ g c, e = .returned (.slice (some ⟨g, 0, none⟩) 2 c) /\ w'.cell? ⟨g, 0, none⟩ = some (.string x) /\ w'.cell? ⟨g, 1, none⟩ = some (.string y) := by
  refine (plain_any t n a b w o ha hb hn h1 h2).mono ?_
  rintro e w' ⟨hb', g, c, he, hc⟩
  rw [ex] at he hc
  exact ⟨hb', g, c, he, hc 0 (by simp), hc 1 (by simp)⟩
theorem step_go {is : List I3} {s : St} {o : Nat} {t : ByteArray} {n : Nat} (hpl : s.pl < is.length) (hst2 : s.steps ≠ 2000) (e : ix is s.pl = ⟨o, t, n⟩) (ho : o <= 11) {m : Nat} (em : s.stack.length = m + takesN o) {outs : List ByteArray} (eo : outP o t n (topB s.stack) (subB s.stack) = outs) (hm : m + outs.length <= 50) (hx : ∀ x ∈ outs, x.size <= 2000) {npl : Nat} (en : nextP o n s.pl (topB s.stack) = npl) :
    step0 is s = .go ⟨npl, s.stack.take m ++ outs, s.steps + 1, s.looks⟩ := by
  have er : restL s.stack (takesN o) = s.stack.take m := by unfold restL; rw [em, Nat.add_sub_cancel]
  have h := (st_ins hpl hst2 e).trans (ins_go (by omega) ho (by
    unfold Bad
    rw [eo, er, List.length_take]
    rintro (h | ⟨x, h1, h2⟩)
    · omega
    · have := hx x h1
      omega))
  rw [h, eo, er, en]
theorem step_stuck {is : List I3} {s : St} {o : Nat} {t : ByteArray} {n : Nat} (hpl : s.pl < is.length) (hst2 : s.steps ≠ 2000) (e : ix is s.pl = ⟨o, t, n⟩) (ho : o <= 11) {m : Nat} (em : s.stack.length = m + takesN o) {x : ByteArray} (eo : outP o t n (topB s.stack) (subB s.stack) = [x]) (hx : 2000 < x.size) :
    step0 is s = .over 2 (decB s.pl) (s.steps + 1) :=
  (st_ins hpl hst2 e).trans (ins_stuck (by omega) ho (Or.inr ⟨x, by rw [eo]; simp, hx⟩))
theorem go_post {B : Nat} {is : List I3} {ys : List R3} {s : St} {w' : World} {npl : Nat} {stk : List ByteArray} {a' : Option Addr} {cp' k : Nat} {pI : Int} (h : step0 is s = .go ⟨npl, stk, s.steps + 1, s.looks⟩) (hk : stk.length = k) (hp : pI = (npl : Int)) (ho : w'.ownsRow B 9 1 (.slice a' k cp') k (strV stk)) :
    StepPost B is ys s w' (.returned (runV pI (.slice a' k cp') ((s.steps : Int) + 1) s.looks)) := by
  subst hk
  subst hp
  exact Or.inr (Or.inl ⟨_, h, a', cp', rfl, ho⟩)
end Go.Proofs.YtbbfboikigmghaaGreatDoor
