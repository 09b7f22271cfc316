/-
  The arguments opened: a record, rows of looks.
-/
import Derived.Test.YtmeojnaoljgieabRows
import Derived.Test.YtmeojnaoljgieabFRec
import Derived.ProofKit
import Derived.OpenShut
import Derived.Deep.Slices
import Derived.Deep.Strs
namespace Go.Proofs.Ytmeojnaoljgieab
open Go.ChangeShapes Go.WideShapes Go.ChangeAt Go.RowKit Go.Deep
set_option linter.unusedVariables false

theorem Try.cells27 : Try.prog.cellsOf 27 = 3 := by kernel_rfl
theorem Try.cells24 : Try.prog.cellsOf 24 = 1 := by kernel_rfl
theorem Try.cells22 : Try.prog.cellsOf 22 = 1 := by kernel_rfl
theorem Try.cells81 : Try.prog.cellsOf 81 = 3 := by kernel_rfl
theorem Try.cells67 : Try.prog.cellsOf 67 = 3 := by kernel_rfl
theorem Try.cells48 : Try.prog.cellsOf 48 = 3 := by kernel_rfl
theorem Try.cells25 : Try.prog.cellsOf 25 = 1 := by kernel_rfl
theorem Try.cells28 : Try.prog.cellsOf 28 = 1 := by kernel_rfl
theorem Try.cells9 : Try.prog.cellsOf 9 = 1 := by kernel_rfl
theorem Try.cells3 : Try.prog.cellsOf 3 = 1 := by kernel_rfl
theorem Try.cells4 : Try.prog.cellsOf 4 = 1 := by kernel_rfl

section
variable {H : Type} {enc : TypeId × Value → H} {W : World} {base : Nat} {spare : Nat → Bool} {held : Bool}

/-- An instruction's three cells. -/
theorem open_ins {fuel : Nat} {cs : List Value} {x : DataW H × List MemPlace} (h : DataW.trod enc Try.prog W base spare held fuel 81 cs = some x) :
    ∃ i : I3, cs = [.int .i64 i.op, .string i.text, .int .i64 i.n] ∧ i.text.size ≤ maxLen := by
  obtain ⟨y0, y1, y2, n, _, hl, h0, h1, h2⟩ := trod_struct3 Try.underlying81 h
  rw [Try.cells81] at hl
  simp only [Try.cells3, Try.cells9] at h0 h1 h2
  match cs, hl with
  | [c0, c1, c2], _ =>
    obtain ⟨op, e0, _, _⟩ := DataW.trod_int Try.underlying3 h0
    obtain ⟨t, e1, _, ht⟩ := DataW.trod_string Try.underlying9 h1
    obtain ⟨m, e2, _, _⟩ := DataW.trod_int Try.underlying3 h2
    simp at e0 e1 e2
    subst e0; subst e1; subst e2
    exact ⟨⟨op, t, m⟩, rfl, ht⟩

theorem open_code {fuel : Nat} {c : Value} {x : DataW H × List MemPlace} (h : DataW.trod enc Try.prog W base spare held fuel 22 [c] = some x) :
    ∃ (a : Option Addr) (cap : Nat) (is : List I3), c = .slice a is.length cap ∧ Row3 W a is ∧ is.length ≤ maxLen ∧ ∀ i, (ix is i).text.size ≤ maxLen := by
  rcases open_slice Try.underlying22 h with ⟨hcs, _⟩ | ⟨a, len, cap, m, n, D, Pl, hcs, _, hl, hm, hmm, _, hx⟩
  · simp at hcs
    subst hcs
    exact ⟨none, 0, [], rfl, fun i hi => by simp at hi, by simp, fun i => by simp [ix, i0]⟩
  · simp at hcs
    subst hcs
    rw [Try.cells81] at hx
    have hlm : len ≤ m := by rw [hmm]; split <;> omega
    have hex : ∀ i, i < len → ∃ t : I3, W.cell? ((a.add (i * 3)).add 0) = some (.int .i64 t.op) ∧ W.cell? ((a.add (i * 3)).add 1) = some (.string t.text) ∧ W.cell? ((a.add (i * 3)).add 2) = some (.int .i64 t.n) ∧ t.text.size ≤ maxLen := by
      intro i hi
      obtain ⟨cs', hc, ht⟩ := hx i (by omega)
      obtain ⟨t, rfl, hts⟩ := open_ins ht
      have hs := World.cells?_some hc
      exact ⟨t, by simpa using hs.2.2 0 (by omega), by simpa using hs.2.2 1 (by omega), by simpa using hs.2.2 2 (by omega), hts⟩
    let f : Nat → I3 := fun i => if h : i < len then Classical.choose (hex i h) else i0
    have hf : ∀ i, (h : i < len) → W.cell? ((a.add (i * 3)).add 0) = some (.int .i64 (f i).op) ∧ W.cell? ((a.add (i * 3)).add 1) = some (.string (f i).text) ∧ W.cell? ((a.add (i * 3)).add 2) = some (.int .i64 (f i).n) ∧ (f i).text.size ≤ maxLen := by
      intro i h
      have : f i = Classical.choose (hex i h) := by simp only [f, dif_pos h]
      rw [this]; exact Classical.choose_spec (hex i h)
    have hix : ∀ i, i < len → ix ((List.range len).map f) i = f i := by
      intro i h
      simp [ix, List.getD_eq_getElem?_getD, h]
    refine ⟨some a, cap, (List.range len).map f, by simp, ?_, by simp; omega, ?_⟩
    · intro i hi
      have hi' : i < len := by simpa using hi
      obtain ⟨h1, h2, h3, _⟩ := hf i hi'
      rw [hix i hi']
      obtain ⟨b, off, spot⟩ := a
      have hspot : spot = none := by
        have := World.cell?_spot (hf 0 (by omega)).1
        simpa [Addr.add] using this
      subst hspot
      simp only [Addr.add_lit] at h1 h2 h3
      exact ⟨b, off, rfl, h1, h2, h3⟩
    · intro i
      by_cases h : i < len
      · rw [hix i h]; exact (hf i h).2.2.2
      · simp [ix, List.getD_eq_getElem?_getD, h, i0]

theorem open_glance {fuel : Nat} {cs : List Value} {x : DataW H × List MemPlace} (h : DataW.trod enc Try.prog W base spare held fuel 67 cs = some x) :
    ∃ i : G3, cs = [.string i.name, .bool i.ask, .string i.sum] ∧ i.name.size ≤ maxLen ∧ i.sum.size ≤ maxLen := by
  obtain ⟨y0, y1, y2, n, _, hl, h0, h1, h2⟩ := trod_struct3 Try.underlying67 h
  rw [Try.cells67] at hl
  simp only [Try.cells9, Try.cells4] at h0 h1 h2
  match cs, hl with
  | [c0, c1, c2], _ =>
    obtain ⟨s, e0, _, hs⟩ := DataW.trod_string Try.underlying9 h0
    obtain ⟨b, e1, _⟩ := DataW.trod_bool Try.underlying4 h1
    obtain ⟨t, e2, _, ht⟩ := DataW.trod_string Try.underlying9 h2
    simp at e0 e1 e2
    subst e0; subst e1; subst e2
    exact ⟨⟨s, b, t⟩, rfl, hs, ht⟩

theorem open_glances {fuel : Nat} {c : Value} {x : DataW H × List MemPlace} (h : DataW.trod enc Try.prog W base spare held fuel 25 [c] = some x) :
    ∃ (a : Option Addr) (cap : Nat) (is : List G3), c = .slice a is.length cap ∧ RowG W a is ∧ is.length ≤ maxLen ∧ (∀ i, (gx is i).name.size ≤ maxLen) ∧ ∀ i, (gx is i).sum.size ≤ maxLen := by
  rcases open_slice Try.underlying25 h with ⟨hcs, _⟩ | ⟨a, len, cap, m, n, D, Pl, hcs, _, hl, hm, hmm, _, hx⟩
  · simp at hcs
    subst hcs
    exact ⟨none, 0, [], rfl, fun i hi => by simp at hi, by simp, fun i => by simp [gx, g00], fun i => by simp [gx, g00]⟩
  · simp at hcs
    subst hcs
    rw [Try.cells67] at hx
    have hlm : len ≤ m := by rw [hmm]; split <;> omega
    have hex : ∀ i, i < len → ∃ t : G3, W.cell? ((a.add (i * 3)).add 0) = some (.string t.name) ∧ W.cell? ((a.add (i * 3)).add 1) = some (.bool t.ask) ∧ W.cell? ((a.add (i * 3)).add 2) = some (.string t.sum) ∧ t.name.size ≤ maxLen ∧ t.sum.size ≤ maxLen := by
      intro i hi
      obtain ⟨cs', hc, ht⟩ := hx i (by omega)
      obtain ⟨t, rfl, hts⟩ := open_glance ht
      have hs := World.cells?_some hc
      exact ⟨t, by simpa using hs.2.2 0 (by omega), by simpa using hs.2.2 1 (by omega), by simpa using hs.2.2 2 (by omega), hts⟩
    let f : Nat → G3 := fun i => if h : i < len then Classical.choose (hex i h) else g00
    have hf : ∀ i, (h : i < len) → W.cell? ((a.add (i * 3)).add 0) = some (.string (f i).name) ∧ W.cell? ((a.add (i * 3)).add 1) = some (.bool (f i).ask) ∧ W.cell? ((a.add (i * 3)).add 2) = some (.string (f i).sum) ∧ (f i).name.size ≤ maxLen ∧ (f i).sum.size ≤ maxLen := by
      intro i h
      have : f i = Classical.choose (hex i h) := by simp only [f, dif_pos h]
      rw [this]; exact Classical.choose_spec (hex i h)
    have hix : ∀ i, i < len → gx ((List.range len).map f) i = f i := by
      intro i h
      simp [gx, List.getD_eq_getElem?_getD, h]
    refine ⟨some a, cap, (List.range len).map f, by simp, ?_, by simp; omega, ?_, ?_⟩
    · intro i hi
      have hi' : i < len := by simpa using hi
      obtain ⟨h1, h2, h3, _⟩ := hf i hi'
      rw [hix i hi']
      obtain ⟨b, off, spot⟩ := a
      have hspot : spot = none := by
        have := World.cell?_spot (hf 0 (by omega)).1
        simpa [Addr.add] using this
      subst hspot
      simp only [Addr.add_lit] at h1 h2 h3
      exact ⟨b, off, rfl, h1, h2, h3⟩
    · intro i
      by_cases h : i < len
      · rw [hix i h]; exact (hf i h).2.2.2.1
      · simp [gx, List.getD_eq_getElem?_getD, h, g00]
    · intro i
      by_cases h : i < len
      · rw [hix i h]; exact (hf i h).2.2.2.2
      · simp [gx, List.getD_eq_getElem?_getD, h, g00]

theorem open_seen {fuel : Nat} {cs : List Value} {x : DataW H × List MemPlace} (h : DataW.trod enc Try.prog W base spare held fuel 48 cs = some x) :
    ∃ i : G3, cs = [.string i.name, .bool i.ask, .string i.sum] ∧ i.name.size ≤ maxLen ∧ i.sum.size ≤ maxLen := by
  obtain ⟨y0, y1, y2, n, _, hl, h0, h1, h2⟩ := trod_struct3 Try.underlying48 h
  rw [Try.cells48] at hl
  simp only [Try.cells9, Try.cells4] at h0 h1 h2
  match cs, hl with
  | [c0, c1, c2], _ =>
    obtain ⟨s, e0, _, hs⟩ := DataW.trod_string Try.underlying9 h0
    obtain ⟨b, e1, _⟩ := DataW.trod_bool Try.underlying4 h1
    obtain ⟨t, e2, _, ht⟩ := DataW.trod_string Try.underlying9 h2
    simp at e0 e1 e2
    subst e0; subst e1; subst e2
    exact ⟨⟨s, b, t⟩, rfl, hs, ht⟩

theorem open_seens {fuel : Nat} {c : Value} {x : DataW H × List MemPlace} (h : DataW.trod enc Try.prog W base spare held fuel 28 [c] = some x) :
    ∃ (a : Option Addr) (cap : Nat) (is : List G3), c = .slice a is.length cap ∧ RowG W a is ∧ is.length ≤ maxLen ∧ (∀ i, (gx is i).name.size ≤ maxLen) ∧ ∀ i, (gx is i).sum.size ≤ maxLen := by
  rcases open_slice Try.underlying28 h with ⟨hcs, _⟩ | ⟨a, len, cap, m, n, D, Pl, hcs, _, hl, hm, hmm, _, hx⟩
  · simp at hcs
    subst hcs
    exact ⟨none, 0, [], rfl, fun i hi => by simp at hi, by simp, fun i => by simp [gx, g00], fun i => by simp [gx, g00]⟩
  · simp at hcs
    subst hcs
    rw [Try.cells48] at hx
    have hlm : len ≤ m := by rw [hmm]; split <;> omega
    have hex : ∀ i, i < len → ∃ t : G3, W.cell? ((a.add (i * 3)).add 0) = some (.string t.name) ∧ W.cell? ((a.add (i * 3)).add 1) = some (.bool t.ask) ∧ W.cell? ((a.add (i * 3)).add 2) = some (.string t.sum) ∧ t.name.size ≤ maxLen ∧ t.sum.size ≤ maxLen := by
      intro i hi
      obtain ⟨cs', hc, ht⟩ := hx i (by omega)
      obtain ⟨t, rfl, hts⟩ := open_seen ht
      have hs := World.cells?_some hc
      exact ⟨t, by simpa using hs.2.2 0 (by omega), by simpa using hs.2.2 1 (by omega), by simpa using hs.2.2 2 (by omega), hts⟩
    let f : Nat → G3 := fun i => if h : i < len then Classical.choose (hex i h) else g00
    have hf : ∀ i, (h : i < len) → W.cell? ((a.add (i * 3)).add 0) = some (.string (f i).name) ∧ W.cell? ((a.add (i * 3)).add 1) = some (.bool (f i).ask) ∧ W.cell? ((a.add (i * 3)).add 2) = some (.string (f i).sum) ∧ (f i).name.size ≤ maxLen ∧ (f i).sum.size ≤ maxLen := by
      intro i h
      have : f i = Classical.choose (hex i h) := by simp only [f, dif_pos h]
      rw [this]; exact Classical.choose_spec (hex i h)
    have hix : ∀ i, i < len → gx ((List.range len).map f) i = f i := by
      intro i h
      simp [gx, List.getD_eq_getElem?_getD, h]
    refine ⟨some a, cap, (List.range len).map f, by simp, ?_, by simp; omega, ?_, ?_⟩
    · intro i hi
      have hi' : i < len := by simpa using hi
      obtain ⟨h1, h2, h3, _⟩ := hf i hi'
      rw [hix i hi']
      obtain ⟨b, off, spot⟩ := a
      have hspot : spot = none := by
        have := World.cell?_spot (hf 0 (by omega)).1
        simpa [Addr.add] using this
      subst hspot
      simp only [Addr.add_lit] at h1 h2 h3
      exact ⟨b, off, rfl, h1, h2, h3⟩
    · intro i
      by_cases h : i < len
      · rw [hix i h]; exact (hf i h).2.2.2.1
      · simp [gx, List.getD_eq_getElem?_getD, h, g00]
    · intro i
      by_cases h : i < len
      · rw [hix i h]; exact (hf i h).2.2.2.2
      · simp [gx, List.getD_eq_getElem?_getD, h, g00]

set_option maxRecDepth 100000 in
theorem open_record {r : Reach} {b0 : Nat} {v : Value} {d : DataW H} {p : List MemPlace} (hv : Value.okWide Try.prog W r b0 27 v) (h : DataW.Trod enc Try.prog W base spare held 27 v d p) :
    ∃ (a la : Option Addr) (cap lc : Nat) (is : List I3) (gs : List G3) (out : ByteArray), v = .agg #[.slice a is.length cap, .slice la gs.length lc, .string out] ∧ RecOk W a is la gs out := by
  obtain ⟨cs, rfl, hsz⟩ := okWide_struct Try.underlying27 hv
  rw [Try.cells27] at hsz
  obtain ⟨fuel, hf⟩ := h
  obtain ⟨y0, y1, y2, n, _, _, h0, h1, h2⟩ := trod_struct3 Try.underlying27 hf
  obtain ⟨l⟩ := cs
  match l, hsz with
  | [c0, c1, c2], _ =>
    simp only [Try.cells24, Try.cells25, Try.cells9] at h0 h1 h2
    have h0' : DataW.trod enc Try.prog W base spare held n 24 [c0] = some y0 := by simpa [Value.cells] using h0
    have h1' : DataW.trod enc Try.prog W base spare held n 25 [c1] = some y1 := by simpa [Value.cells] using h1
    have h2' : DataW.trod enc Try.prog W base spare held n 9 [c2] = some y2 := by simpa [Value.cells] using h2
    obtain ⟨z0, m, _, _, h3⟩ := trod_struct1 Try.underlying24 h0'
    simp only [Try.cells22] at h3
    obtain ⟨a, cap, is, rfl, r1, r2, r3⟩ := open_code (c := c0) (by simpa using h3)
    obtain ⟨la, lc, gs, rfl, g1, g2, g3, g4⟩ := open_glances h1'
    obtain ⟨t, e2, _, ht⟩ := DataW.trod_string Try.underlying9 h2'
    simp at e2
    subst e2
    exact ⟨a, la, cap, lc, is, gs, t, rfl, r1, g1, r2, g2, r3, g3, g4, ht⟩
set_option maxRecDepth 100000 in
theorem open_seenS {r : Reach} {b0 : Nat} {v : Value} {d : DataW H} {p : List MemPlace} (hv : Value.okWide Try.prog W r b0 28 v) (h : DataW.Trod enc Try.prog W base spare held 28 v d p) :
    ∃ (a : Option Addr) (cap : Nat) (is : List G3), v = .slice a is.length cap ∧ RowG W a is ∧ is.length ≤ maxLen ∧ (∀ i, (gx is i).name.size ≤ maxLen) ∧ ∀ i, (gx is i).sum.size ≤ maxLen := by
  obtain ⟨a, len, cap, rfl⟩ := okWide_slice Try.underlying28 hv
  obtain ⟨fuel, hf⟩ := h
  exact open_seens (c := .slice a len cap) (by simpa [Value.cells] using hf)
end

end Go.Proofs.Ytmeojnaoljgieab
