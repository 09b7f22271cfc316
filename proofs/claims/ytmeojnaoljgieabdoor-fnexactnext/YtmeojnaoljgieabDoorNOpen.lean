/-
  Replies opened.
-/
import Derived.Test.YtmeojnaoljgieabDoorOpen
import Derived.Test.YtmeojnaoljgieabDoorReplies
namespace Go.Proofs.YtmeojnaoljgieabDoor
open Go.ChangeShapes Go.WideShapes Go.ChangeAt Go.RowKit Go.Deep
set_option linter.unusedVariables false

theorem Tryd.cells93 : Tryd.prog.cellsOf 93 = 3 := by kernel_rfl
theorem Tryd.cells4 : Tryd.prog.cellsOf 4 = 1 := by kernel_rfl
theorem Tryd.cells46 : Tryd.prog.cellsOf 46 = 1 := by kernel_rfl

section
variable {H : Type} {enc : TypeId × Value → H} {W : World} {base : Nat} {spare : Nat → Bool} {held : Bool}

theorem open_reply {fuel : Nat} {cs : List Value} {x : DataW H × List MemPlace} (h : DataW.trod enc Tryd.prog W base spare held fuel 93 cs = some x) :
    ∃ i : R3, cs = [.bool i.has, .int .i64 i.code, .string i.text] ∧ i.text.size ≤ maxLen := by
  obtain ⟨y0, y1, y2, n, _, hl, h0, h1, h2⟩ := trod_struct3 Tryd.underlying93 h
  rw [Tryd.cells93] at hl
  simp only [Tryd.cells3, Tryd.cells9, Tryd.cells4] at h0 h1 h2
  match cs, hl with
  | [c0, c1, c2], _ =>
    obtain ⟨op, e0, _⟩ := DataW.trod_bool Tryd.underlying4 h0
    obtain ⟨m, e1, _, _⟩ := DataW.trod_int Tryd.underlying3 h1
    obtain ⟨t, e2, _, ht⟩ := DataW.trod_string Tryd.underlying9 h2
    simp at e0 e1 e2
    subst e0; subst e1; subst e2
    exact ⟨⟨op, m, t⟩, rfl, ht⟩

theorem open_replies {fuel : Nat} {c : Value} {x : DataW H × List MemPlace} (h : DataW.trod enc Tryd.prog W base spare held fuel 46 [c] = some x) :
    ∃ (a : Option Addr) (cap : Nat) (is : List R3), c = .slice a is.length cap ∧ RowR W a is ∧ is.length ≤ maxLen ∧ ∀ i, (rx is i).text.size ≤ maxLen := by
  rcases open_slice Tryd.underlying46 h with ⟨hcs, _⟩ | ⟨a, len, cap, m, n, D, Pl, hcs, _, hl, hm, hmm, _, hx⟩
  · simp at hcs
    subst hcs
    exact ⟨none, 0, [], rfl, fun i hi => by simp at hi, by simp, fun i => by simp [rx, rr0]⟩
  · simp at hcs
    subst hcs
    rw [Tryd.cells93] at hx
    have hlm : len ≤ m := by rw [hmm]; split <;> omega
    have hex : ∀ i, i < len → ∃ t : R3, W.cell? ((a.add (i * 3)).add 0) = some (.bool t.has) ∧ W.cell? ((a.add (i * 3)).add 1) = some (.int .i64 t.code) ∧ W.cell? ((a.add (i * 3)).add 2) = some (.string t.text) ∧ t.text.size ≤ maxLen := by
      intro i hi
      obtain ⟨cs', hc, ht⟩ := hx i (by omega)
      obtain ⟨t, rfl, hts⟩ := open_reply ht
      have hs := World.cells?_some hc
      exact ⟨t, by simpa using hs.2.2 0 (by omega), by simpa using hs.2.2 1 (by omega), by simpa using hs.2.2 2 (by omega), hts⟩
    let f : Nat → R3 := fun i => if h : i < len then Classical.choose (hex i h) else rr0
    have hf : ∀ i, (h : i < len) → W.cell? ((a.add (i * 3)).add 0) = some (.bool (f i).has) ∧ W.cell? ((a.add (i * 3)).add 1) = some (.int .i64 (f i).code) ∧ W.cell? ((a.add (i * 3)).add 2) = some (.string (f i).text) ∧ (f i).text.size ≤ maxLen := by
      intro i h
      have : f i = Classical.choose (hex i h) := by simp only [f, dif_pos h]
      rw [this]; exact Classical.choose_spec (hex i h)
    have hix : ∀ i, i < len → rx ((List.range len).map f) i = f i := by
      intro i h
      simp [rx, List.getD_eq_getElem?_getD, h]
    refine ⟨some a, cap, (List.range len).map f, by simp, ?_, by simp; omega, ?_⟩
    · intro i hi
      have hi' : i < len := by simpa using hi
      obtain ⟨h1, h2, h3, _⟩ := hf i hi'
      rw [hix i hi']
      obtain ⟨b, off, spot⟩ := a
      have hspot : spot = none := by
        have := World.cell?_spot (hf 0 (by omega)).1
        simpa [Addr.add] using this
      subst hspot
      simp only [Addr.add_lit] at h1 h2 h3
      exact ⟨b, off, rfl, h1, h2, h3⟩
    · intro i
      by_cases h : i < len
      · rw [hix i h]; exact (hf i h).2.2.2
      · simp [rx, List.getD_eq_getElem?_getD, h, rr0]

set_option maxRecDepth 100000 in
theorem open_replyS {r : Reach} {b0 : Nat} {v : Value} {d : DataW H} {p : List MemPlace} (hv : Value.okWide Tryd.prog W r b0 46 v) (h : DataW.Trod enc Tryd.prog W base spare held 46 v d p) :
    ∃ (a : Option Addr) (cap : Nat) (is : List R3), v = .slice a is.length cap ∧ RowR W a is ∧ is.length ≤ maxLen ∧ ∀ i, (rx is i).text.size ≤ maxLen := by
  obtain ⟨a, len, cap, rfl⟩ := okWide_slice Tryd.underlying46 hv
  obtain ⟨fuel, hf⟩ := h
  exact open_replies (c := .slice a len cap) (by simpa [Value.cells] using hf)
end
theorem laid_tabN : Rows.fnExactNextRow.laid.filter (fun x => x.1 == "loop.example/kilntrace/impl.opKinds") = [("loop.example/kilntrace/impl.opKinds", Rows.laid_loop_example_kilntrace_impl_opKinds)] := rfl
theorem laid_p10N : Rows.fnExactNextRow.laid.filter (fun x => x.1 == "internal/strconv.uint64pow10") = [("internal/strconv.uint64pow10", Rows.laid_internal_strconv_uint64pow10)] := rfl
theorem tabs_of_laidN {W : World} (h : laidMetH Tryd.prog Rows.fnExactNextRow.laid W) : Tab W ∧ P10 W :=
  ⟨tab_of_laid (laid_tabN ▸ h.filter _), p10_of_laid (laid_p10N ▸ h.filter _)⟩

end Go.Proofs.YtmeojnaoljgieabDoor
