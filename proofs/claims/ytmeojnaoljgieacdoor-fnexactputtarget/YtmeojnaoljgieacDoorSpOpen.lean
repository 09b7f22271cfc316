/-
  A space opened: rows of sources and of targets.
-/
import Derived.Test.YtmeojnaoljgieacDoorStOpen
import Derived.Test.YtmeojnaoljgieacDoorSpSize
namespace Go.Proofs.YtmeojnaoljgieacDoor
open Go.ChangeShapes Go.WideShapes Go.ChangeAt Go.RowKit Go.Deep
set_option linter.unusedVariables false

theorem Tryd.cells37 : Tryd.prog.cellsOf 37 = 2 := by kernel_rfl
theorem Tryd.cells34 : Tryd.prog.cellsOf 34 = 1 := by kernel_rfl
theorem Tryd.cells35 : Tryd.prog.cellsOf 35 = 1 := by kernel_rfl
theorem Tryd.cells153 : Tryd.prog.cellsOf 153 = 2 := by kernel_rfl
theorem Tryd.cells156 : Tryd.prog.cellsOf 156 = 2 := by kernel_rfl

section
variable {H : Type} {enc : TypeId × Value → H} {W : World} {base : Nat} {spare : Nat → Bool} {held : Bool}

theorem open_source {fuel : Nat} {cs : List Value} {x : DataW H × List MemPlace} (h : DataW.trod enc Tryd.prog W base spare held fuel 153 cs = some x) :
    ∃ i : S2, cs = [.string i.name, .string i.text] ∧ i.name.size ≤ maxLen ∧ i.text.size ≤ maxLen := by
  obtain ⟨y0, y1, n, _, hl, h0, h1⟩ := trod_struct2 Tryd.underlying153 h
  rw [Tryd.cells153] at hl
  simp only [Tryd.cells9] at h0 h1
  match cs, hl with
  | [c0, c1], _ =>
    obtain ⟨s, e0, _, hs⟩ := DataW.trod_string Tryd.underlying9 h0
    obtain ⟨t, e1, _, ht⟩ := DataW.trod_string Tryd.underlying9 h1
    simp at e0 e1
    subst e0; subst e1
    exact ⟨⟨s, t⟩, rfl, hs, ht⟩

theorem open_target {fuel : Nat} {cs : List Value} {x : DataW H × List MemPlace} (h : DataW.trod enc Tryd.prog W base spare held fuel 156 cs = some x) :
    ∃ (i : T2) (a : Option Addr) (cap : Nat), cs = [.string i.name, .slice a i.code.length cap] ∧ Row3 W a i.code ∧ i.name.size ≤ maxLen ∧ i.code.length ≤ maxLen ∧ ∀ j, (ix i.code j).text.size ≤ maxLen := by
  obtain ⟨y0, y1, n, _, hl, h0, h1⟩ := trod_struct2 Tryd.underlying156 h
  rw [Tryd.cells156] at hl
  simp only [Tryd.cells9, Tryd.cells54] at h0 h1
  match cs, hl with
  | [c0, c1], _ =>
    obtain ⟨s, e0, _, hs⟩ := DataW.trod_string Tryd.underlying9 h0
    simp at e0
    subst e0
    obtain ⟨z0, m, _, _, h2⟩ := trod_struct1 Tryd.underlying54 h1
    simp only [Tryd.cells52] at h2
    obtain ⟨a, cap, is, e1, r1, r2, r3⟩ := open_code (c := c1) (by simpa using h2)
    subst e1
    exact ⟨⟨s, is⟩, a, cap, rfl, r1, hs, r2, r3⟩

theorem open_sources {fuel : Nat} {c : Value} {x : DataW H × List MemPlace} (h : DataW.trod enc Tryd.prog W base spare held fuel 34 [c] = some x) :
    ∃ (a : Option Addr) (cap : Nat) (is : List S2), c = .slice a is.length cap ∧ RowS W a is ∧ is.length ≤ maxLen ∧ (∀ i, (sx is i).name.size ≤ maxLen) ∧ ∀ i, (sx is i).text.size ≤ maxLen := by
  rcases open_slice Tryd.underlying34 h with ⟨hcs, _⟩ | ⟨a, len, cap, m, n, D, Pl, hcs, _, hl, hm, hmm, _, hx⟩
  · simp at hcs
    subst hcs
    exact ⟨none, 0, [], rfl, fun i hi => by simp at hi, by simp, fun i => by simp [sx], fun i => by simp [sx]⟩
  · simp at hcs
    subst hcs
    rw [Tryd.cells153] at hx
    have hlm : len ≤ m := by rw [hmm]; split <;> omega
    have hex : ∀ i, i < len → ∃ t : S2, W.cell? ((a.add (i * 2)).add 0) = some (.string t.name) ∧ W.cell? ((a.add (i * 2)).add 1) = some (.string t.text) ∧ t.name.size ≤ maxLen ∧ t.text.size ≤ maxLen := by
      intro i hi
      obtain ⟨cs', hc, ht⟩ := hx i (by omega)
      obtain ⟨t, rfl, hts⟩ := open_source ht
      have hs := World.cells?_some hc
      exact ⟨t, by simpa using hs.2.2 0 (by omega), by simpa using hs.2.2 1 (by omega), hts⟩
    let f : Nat → S2 := fun i => if h : i < len then Classical.choose (hex i h) else ⟨ByteArray.empty, ByteArray.empty⟩
    have hf : ∀ i, (h : i < len) → W.cell? ((a.add (i * 2)).add 0) = some (.string (f i).name) ∧ W.cell? ((a.add (i * 2)).add 1) = some (.string (f i).text) ∧ (f i).name.size ≤ maxLen ∧ (f i).text.size ≤ maxLen := by
      intro i h
      have : f i = Classical.choose (hex i h) := by simp only [f, dif_pos h]
      rw [this]; exact Classical.choose_spec (hex i h)
    have hix : ∀ i, i < len → sx ((List.range len).map f) i = f i := by
      intro i h
      simp [sx, List.getD_eq_getElem?_getD, h]
    refine ⟨some a, cap, (List.range len).map f, by simp, ?_, by simp; omega, ?_, ?_⟩
    · intro i hi
      have hi' : i < len := by simpa using hi
      obtain ⟨h1, h2, _⟩ := hf i hi'
      rw [hix i hi']
      obtain ⟨b, off, spot⟩ := a
      have hspot : spot = none := by
        have := World.cell?_spot (hf 0 (by omega)).1
        simpa [Addr.add] using this
      subst hspot
      simp only [Addr.add_lit] at h1 h2
      exact ⟨b, off, rfl, h1, h2⟩
    · intro i
      by_cases h : i < len
      · rw [hix i h]; exact (hf i h).2.2.1
      · simp [sx, List.getD_eq_getElem?_getD, h]
    · intro i
      by_cases h : i < len
      · rw [hix i h]; exact (hf i h).2.2.2
      · simp [sx, List.getD_eq_getElem?_getD, h]

theorem open_targets {fuel : Nat} {c : Value} {x : DataW H × List MemPlace} (h : DataW.trod enc Tryd.prog W base spare held fuel 35 [c] = some x) :
    ∃ (a : Option Addr) (cap : Nat) (is : List T2), c = .slice a is.length cap ∧ RowT W a is ∧ is.length ≤ maxLen ∧ (∀ i, (tx is i).name.size ≤ maxLen) ∧ (∀ i, (tx is i).code.length ≤ maxLen) ∧ ∀ i j, (ix (tx is i).code j).text.size ≤ maxLen := by
  rcases open_slice Tryd.underlying35 h with ⟨hcs, _⟩ | ⟨a, len, cap, m, n, D, Pl, hcs, _, hl, hm, hmm, _, hx⟩
  · simp at hcs
    subst hcs
    exact ⟨none, 0, [], rfl, fun i hi => by simp at hi, by simp, fun i => by simp [tx], fun i => by simp [tx], fun i j => by simp [tx, ix, i0]⟩
  · simp at hcs
    subst hcs
    rw [Tryd.cells156] at hx
    have hlm : len ≤ m := by rw [hmm]; split <;> omega
    have hex : ∀ i, i < len → ∃ t : T2, W.cell? ((a.add (i * 2)).add 0) = some (.string t.name) ∧ (∃ a' cap', W.cell? ((a.add (i * 2)).add 1) = some (.slice a' t.code.length cap') ∧ Row3 W a' t.code) ∧ t.name.size ≤ maxLen ∧ t.code.length ≤ maxLen ∧ ∀ j, (ix t.code j).text.size ≤ maxLen := by
      intro i hi
      obtain ⟨cs', hc, ht⟩ := hx i (by omega)
      obtain ⟨t, a', cap', rfl, hr, hts⟩ := open_target ht
      have hs := World.cells?_some hc
      exact ⟨t, by simpa using hs.2.2 0 (by omega), ⟨a', cap', by simpa using hs.2.2 1 (by omega), hr⟩, hts⟩
    let f : Nat → T2 := fun i => if h : i < len then Classical.choose (hex i h) else ⟨ByteArray.empty, []⟩
    have hf : ∀ i, (h : i < len) → W.cell? ((a.add (i * 2)).add 0) = some (.string (f i).name) ∧ (∃ a' cap', W.cell? ((a.add (i * 2)).add 1) = some (.slice a' (f i).code.length cap') ∧ Row3 W a' (f i).code) ∧ (f i).name.size ≤ maxLen ∧ (f i).code.length ≤ maxLen ∧ ∀ j, (ix (f i).code j).text.size ≤ maxLen := by
      intro i h
      have : f i = Classical.choose (hex i h) := by simp only [f, dif_pos h]
      rw [this]; exact Classical.choose_spec (hex i h)
    have hix : ∀ i, i < len → tx ((List.range len).map f) i = f i := by
      intro i h
      simp [tx, List.getD_eq_getElem?_getD, h]
    refine ⟨some a, cap, (List.range len).map f, by simp, ?_, by simp; omega, ?_, ?_, ?_⟩
    · intro i hi
      have hi' : i < len := by simpa using hi
      obtain ⟨h1, ⟨a', cap', h2, h3⟩, _⟩ := hf i hi'
      rw [hix i hi']
      obtain ⟨b, off, spot⟩ := a
      have hspot : spot = none := by
        have := World.cell?_spot (hf 0 (by omega)).1
        simpa [Addr.add] using this
      subst hspot
      simp only [Addr.add_lit] at h1 h2
      exact ⟨b, off, rfl, h1, a', cap', h2, h3⟩
    · intro i
      by_cases h : i < len
      · rw [hix i h]; exact (hf i h).2.2.1
      · simp [tx, List.getD_eq_getElem?_getD, h]
    · intro i
      by_cases h : i < len
      · rw [hix i h]; exact (hf i h).2.2.2.1
      · simp [tx, List.getD_eq_getElem?_getD, h]
    · intro i j
      by_cases h : i < len
      · rw [hix i h]; exact (hf i h).2.2.2.2 j
      · simp [tx, List.getD_eq_getElem?_getD, h, ix, i0]

set_option maxRecDepth 100000 in
theorem open_space {r : Reach} {b0 : Nat} {v : Value} {d : DataW H} {p : List MemPlace} (hv : Value.okWide Tryd.prog W r b0 37 v) (h : DataW.Trod enc Tryd.prog W base spare held 37 v d p) :
    ∃ (sa : Option Addr) (c1 : Nat) (ss : List S2) (ta : Option Addr) (c2 : Nat) (ts : List T2), v = .agg #[.slice sa ss.length c1, .slice ta ts.length c2] ∧ SpOk W sa ss ta ts := by
  obtain ⟨cs, rfl, hsz⟩ := okWide_struct Tryd.underlying37 hv
  rw [Tryd.cells37] at hsz
  obtain ⟨fuel, hf⟩ := h
  obtain ⟨y0, y1, n, _, _, h0, h1⟩ := trod_struct2 Tryd.underlying37 hf
  simp only [Tryd.cells34, Tryd.cells35] at h0 h1
  obtain ⟨l⟩ := cs
  match l, hsz with
  | [k0, k1], _ =>
    simp only [Value.cells] at h0 h1
    obtain ⟨sa, c1, ss, e0, a1, a2, a3, a4⟩ := open_sources (c := k0) (by simpa using h0)
    obtain ⟨ta, c2, ts, e1, b1, b2, b3, b4, b5⟩ := open_targets (c := k1) (by simpa using h1)
    subst e0; subst e1
    exact ⟨sa, c1, ss, ta, c2, ts, rfl, ⟨a1, b1, a2, b2, a3, a4, b3, b4, b5⟩⟩
end

end Go.Proofs.YtmeojnaoljgieacDoor
