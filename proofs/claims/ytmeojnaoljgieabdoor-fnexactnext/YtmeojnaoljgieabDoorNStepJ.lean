/-
  spec.l2Step: what the ways past the copy of the stack share.
-/
import Derived.Test.YtmeojnaoljgieabDoorNStepH
import Derived.Laws.AppendOwnNone
namespace Go.Proofs.YtmeojnaoljgieabDoor
open Go.RowKit
set_option linter.unusedVariables false

theorem own_out {w : World} {B : Nat} {v' : Value} {n m : Nat} {ss : List ByteArray} {xs : List Value} {g0 : Addr} {n0 c0 : Nat} (h : w.ownsRow B 9 1 v' (n + m) (xs ++ ss.map .string)) (hn : v' = .slice none 0 0 ↔ (Value.slice (some g0) n0 c0) = .slice none 0 0 ∧ m = 0) (e0 : n = 0 := by rfl) (e1 : xs = [] := by rfl) : ∃ g cp, v' = .slice (some ⟨g, 0, none⟩) m cp ∧ w.ownsRow B 9 1 (.slice (some ⟨g, 0, none⟩) m cp) m (strV ss) := by
  subst e0; subst e1
  rw [Nat.zero_add, List.nil_append] at h
  rcases h.2 with ⟨hv, _⟩ | ⟨g, cap, cur, hv, r⟩
  · have := (hn.mp hv).1
    cases this
  · subst hv
    exact ⟨g, cap, rfl, h⟩
theorem own_add {w : World} {B : Nat} {v' : Value} {m : Nat} {ss : List ByteArray} {x : ByteArray} (h : w.ownsRow B 9 1 v' (m + 1) (strV ss ++ [.string x])) : ∃ g cp, v' = .slice (some ⟨g, 0, none⟩) (m + 1) cp ∧ w.ownsRow B 9 1 (.slice (some ⟨g, 0, none⟩) (m + 1) cp) (m + 1) (strV (ss ++ [x])) := by
  rcases h.2 with ⟨hv, h0⟩ | ⟨g, cap, cur, hv, r⟩
  · omega
  · subst hv
    refine ⟨g, cap, rfl, ?_⟩
    rw [show strV (ss ++ [x]) = strV ss ++ [.string x] from by simp [strV]]
    exact h
theorem Own.mono {B B' : Nat} {w : World} {a : Option Addr} {cp : Nat} {ss : List ByteArray} (h : Own B w a cp ss) (hB : B' ≤ B) : Own B' w a cp ss := by
  refine ⟨h.1, ?_⟩
  rcases h.2 with h | ⟨g, cap, cur, hv, hg, r⟩
  · exact Or.inl h
  · exact Or.inr ⟨g, cap, cur, hv, Nat.le_trans hB hg, r⟩
theorem StepPost.mono {B B' : Nat} {is : List I3} {ys : List R3} {s : St} {w : World} {e : Ending} (h : StepPost B is ys s w e) (hB : B' ≤ B) : StepPost B' is ys s w e := by
  rcases h with h | ⟨s', h1, a', cp', h2, h3⟩ | h | ⟨ask, nm, s', s'', h1, h2, h3, a', cp', h4, h5⟩ | h
  · exact Or.inl h
  · exact Or.inr (Or.inl ⟨s', h1, a', cp', h2, h3.mono hB⟩)
  · exact Or.inr (Or.inr (Or.inl h))
  · exact Or.inr (Or.inr (Or.inr (Or.inl ⟨ask, nm, s', s'', h1, h2, h3, a', cp', h4, h5.mono hB⟩)))
  · exact Or.inr (Or.inr (Or.inr (Or.inr h)))
theorem post_set10 {B : Nat} {is : List I3} {ys : List R3} {s : St} {w : World} {e : Ending} {b : Nat} (h : StepPost B is ys s w e) (hc : ∃ cs, w.heap[b]? = some (.cells cs 96 (0, 0))) (v0 v1 v2 v3 v4 v5 v6 v7 v8 v9 : Value) :
    StepPost B is ys s ((((((((((w.setCell ⟨b, 0, none⟩ v0).setCell ⟨b, 1, none⟩ v1).setCell ⟨b, 2, none⟩ v2).setCell ⟨b, 3, none⟩ v3).setCell ⟨b, 4, none⟩ v4).setCell ⟨b, 5, none⟩ v5).setCell ⟨b, 6, none⟩ v6).setCell ⟨b, 7, none⟩ v7).setCell ⟨b, 8, none⟩ v8).setCell ⟨b, 9, none⟩ v9) e :=
  (StepPost.set (StepPost.set (StepPost.set (StepPost.set (StepPost.set (StepPost.set (StepPost.set (StepPost.set (StepPost.set (StepPost.set ⟨h, hc⟩ 0 v0) 1 v1) 2 v2) 3 v3) 4 v4) 5 v5) 6 v6) 7 v7) 8 v8) 9 v9).1

theorem plain1 (o : Nat) (t : ByteArray) (n : Nat) (a b x : ByteArray) (w : World) (ex : outP o t n a b = [x]) (ha : a.size ≤ 2000) (hb : b.size ≤ 2000) (hn : n ≤ 2000) (h1 : 1 ≤ o) (h2 : o ≤ 8) :
    Calls Tryd.prog 76 #[.agg #[.int .i64 (o : Int), .string t, .int .i64 n], .string a, .string b] w fun e w' => Below w.heap.size w w' ∧ ∃ g c, e = .returned (.slice (some ⟨g, 0, none⟩) 1 c) ∧ w'.cell? ⟨g, 0, none⟩ = some (.string x) := by
  refine (plain_any t n a b w o ha hb hn h1 h2).mono ?_
  rintro e w' ⟨hb', g, c, he, hc⟩
  rw [ex] at he hc
  exact ⟨hb', g, c, he, hc 0 (by simp)⟩
theorem plain2 (o : Nat) (t : ByteArray) (n : Nat) (a b x y : ByteArray) (w : World) (ex : outP o t n a b = [x, y]) (ha : a.size ≤ 2000) (hb : b.size ≤ 2000) (hn : n ≤ 2000) (h1 : 1 ≤ o) (h2 : o ≤ 8) :
    Calls Tryd.prog 76 #[.agg #[.int .i64 (o : Int), .string t, .int .i64 n], .string a, .string b] w fun e w' => Below w.heap.size w w' ∧ ∃ g c, e = .returned (.slice (some ⟨g, 0, none⟩) 2 c) ∧ w'.cell? ⟨g, 0, none⟩ = some (.string x) ∧ w'.cell? ⟨g, 1, none⟩ = some (.string y) := by
  refine (plain_any t n a b w o ha hb hn h1 h2).mono ?_
  rintro e w' ⟨hb', g, c, he, hc⟩
  rw [ex] at he hc
  exact ⟨hb', g, c, he, hc 0 (by simp), hc 1 (by simp)⟩
theorem step_go {is : List I3} {s : St} {o : Nat} {t : ByteArray} {n : Nat} (hpl : s.pl < is.length) (hst2 : s.steps ≠ 2000) (e : ix is s.pl = ⟨o, t, n⟩) (ho : o ≤ 11) {m : Nat} (em : s.stack.length = m + takesN o) {outs : List ByteArray} (eo : outP o t n (topB s.stack) (subB s.stack) = outs) (hm : m + outs.length ≤ 50) (hx : ∀ x ∈ outs, x.size ≤ 2000) {npl : Nat} (en : nextP o n s.pl (topB s.stack) = npl) :
    step0 is s = .go ⟨npl, s.stack.take m ++ outs, s.steps + 1, s.looks⟩ := by
  have er : restL s.stack (takesN o) = s.stack.take m := by unfold restL; rw [em, Nat.add_sub_cancel]
  have h := (st_ins hpl hst2 e).trans (ins_go (by omega) ho (by
    unfold Bad
    rw [eo, er, List.length_take]
    rintro (h | ⟨x, h1, h2⟩)
    · omega
    · have := hx x h1
      omega))
  rw [h, eo, er, en]
theorem step_stuck {is : List I3} {s : St} {o : Nat} {t : ByteArray} {n : Nat} (hpl : s.pl < is.length) (hst2 : s.steps ≠ 2000) (e : ix is s.pl = ⟨o, t, n⟩) (ho : o ≤ 11) {m : Nat} (em : s.stack.length = m + takesN o) {x : ByteArray} (eo : outP o t n (topB s.stack) (subB s.stack) = [x]) (hx : 2000 < x.size) :
    step0 is s = .over 2 (decB s.pl) (s.steps + 1) :=
  (st_ins hpl hst2 e).trans (ins_stuck (by omega) ho (Or.inr ⟨x, by rw [eo]; simp, hx⟩))
theorem go_post {B : Nat} {is : List I3} {ys : List R3} {s : St} {w' : World} {npl : Nat} {stk : List ByteArray} {a' : Option Addr} {cp' k : Nat} {pI : Int} (h : step0 is s = .go ⟨npl, stk, s.steps + 1, s.looks⟩) (hk : stk.length = k) (hp : pI = (npl : Int)) (ho : w'.ownsRow B 9 1 (.slice a' k cp') k (strV stk)) :
    StepPost B is ys s w' (.returned (runV pI (.slice a' k cp') ((s.steps : Int) + 1) s.looks)) := by
  subst hk
  subst hp
  exact Or.inr (Or.inl ⟨_, h, a', cp', rfl, ho⟩)

end Go.Proofs.YtmeojnaoljgieabDoor
