import Derived.Test.YtmeojnaoljgieaeGreatDoorTSpSize
namespace Go.Proofs.YtmeojnaoljgieaeGreatDoor
open Go.RowKit
set_option linter.unusedVariables false
set_option maxHeartbeats 8000000
set_option maxRecDepth 100000
section
open Go.ChangeShapes Go.WideShapes Go.ChangeAt Go.Deep
theorem Tryz.cells71 : Tryz.prog.cellsOf 71 = 2 := by kernel_rfl
theorem Tryz.cells68 : Tryz.prog.cellsOf 68 = 1 := by kernel_rfl
theorem Tryz.cells69 : Tryz.prog.cellsOf 69 = 1 := by kernel_rfl
theorem Tryz.cells196 : Tryz.prog.cellsOf 196 = 2 := by kernel_rfl
theorem Tryz.cells199 : Tryz.prog.cellsOf 199 = 2 := by kernel_rfl
section
variable {H : Type} {enc : TypeId × Value -> H} {W : World} {base : Nat} {spare : Nat -> Bool} {held : Bool}
theorem open_source {fuel : Nat} {cs : List Value} {x : DataW H × List MemPlace} (h : DataW.trod enc Tryz.prog W base spare held fuel 196 cs = some x) :
    ∃ i : S2, cs = [.string i.name, .string i.text] /\ i.name.size <= maxLen /\ i.text.size <= maxLen := by
  obtain ⟨y0, y1, n, _, hl, h0, h1⟩ := trod_struct2 Tryz.underlying196 h
  rw [Tryz.cells196] at hl
  simp only [Tryz.cells9] at h0 h1
  match cs, hl with
  | [c0, c1], _ =>
    obtain ⟨s, e0, _, hs⟩ := DataW.trod_string Tryz.underlying9 h0
    obtain ⟨t, e1, _, ht⟩ := DataW.trod_string Tryz.underlying9 h1
    simp at e0 e1
    subst e0; subst e1
    exact ⟨⟨s, t⟩, rfl, hs, ht⟩
theorem open_target {fuel : Nat} {cs : List Value} {x : DataW H × List MemPlace} (h : DataW.trod enc Tryz.prog W base spare held fuel 199 cs = some x) :
    ∃ (i : T2) (a : Option Addr) (cap : Nat), cs = [.string i.name, .slice a i.code.length cap] /\ Row3 W a i.code /\ i.name.size <= maxLen /\ i.code.length <= maxLen /\ ∀ j, (ix i.code j).text.size <= maxLen := by
  obtain ⟨y0, y1, n, _, hl, h0, h1⟩ := trod_struct2 Tryz.underlying199 h
  rw [Tryz.cells199] at hl
  simp only [Tryz.cells9, Tryz.cells47] at h0 h1
  match cs, hl with
  | [c0, c1], _ =>
    obtain ⟨s, e0, _, hs⟩ := DataW.trod_string Tryz.underlying9 h0
    simp at e0
    subst e0
    obtain ⟨z0, m, _, _, h2⟩ := trod_struct1 Tryz.underlying47 h1
    simp only [Tryz.cells45] at h2
    obtain ⟨a, cap, is, e1, r1, r2, r3⟩ := open_code (c := c1) (by simpa using h2)
    subst e1
    exact ⟨⟨s, is⟩, a, cap, rfl, r1, hs, r2, r3⟩
theorem open_sources {fuel : Nat} {c : Value} {x : DataW H × List MemPlace} (h : DataW.trod enc Tryz.prog W base spare held fuel 68 [c] = some x) :
    ∃ (a : Option Addr) (cap : Nat) (is : List S2), c = .slice a is.length cap /\ RowS W a is /\ is.length <= maxLen /\ (∀ i, (sx is i).name.size <= maxLen) /\ ∀ i, (sx is i).text.size <= maxLen := by
  rcases open_slice Tryz.underlying68 h with ⟨hcs, _⟩ | ⟨a, len, cap, m, n, D, Pl, hcs, _, hl, hm, hmm, _, hx⟩
  · simp at hcs
    subst hcs
    exact ⟨none, 0, [], rfl, fun i hi => by simp at hi, by simp, fun i => by simp [sx], fun i => by simp [sx]⟩
  · simp at hcs
    subst hcs
    rw [Tryz.cells196] at hx
    have hlm : len <= m := by rw [hmm]; split <;> omega
    have hex : ∀ i, i < len -> ∃ t : S2, W.cell? ((a.add (i * 2)).add 0) = some (.string t.name) /\ W.cell? ((a.add (i * 2)).add 1) = some (.string t.text) /\ t.name.size <= maxLen /\ t.text.size <= maxLen := by
      intro i hi
      obtain ⟨cs', hc, ht⟩ := hx i (by omega)
      obtain ⟨t, rfl, hts⟩ := open_source ht
      have hs := World.cells?_some hc
      exact ⟨t, by simpa using hs.2.2 0 (by omega), by simpa using hs.2.2 1 (by omega), hts⟩
    let f : Nat -> S2 := fun i => if h : i < len then Classical.choose (hex i h) else ⟨ByteArray.empty, ByteArray.empty⟩
    have hf : ∀ i, (h : i < len) -> W.cell? ((a.add (i * 2)).add 0) = some (.string (f i).name) /\ W.cell? ((a.add (i * 2)).add 1) = some (.string (f i).text) /\ (f i).name.size <= maxLen /\ (f i).text.size <= maxLen := by
      intro i h
      have : f i = Classical.choose (hex i h) := by simp only [f, dif_pos h]
      rw [this]; exact Classical.choose_spec (hex i h)
    have hix : ∀ i, i < len -> sx ((List.range len).map f) i = f i := by
      intro i h
      simp [sx, List.getD_eq_getElem?_getD, h]
    refine ⟨some a, cap, (List.range len).map f, by simp, ?_, by simp; omega, ?_, ?_⟩
    · intro i hi
      have hi' : i < len := by simpa using hi
      obtain ⟨h1, h2, _⟩ := hf i hi'
      rw [hix i hi']
      obtain ⟨b, off, spot⟩ := a
      have hspot : spot = none := by
        have := World.cell?_spot (hf 0 (by omega)).1
        simpa [Addr.add] using this
      subst hspot
      simp only [Addr.add_lit] at h1 h2
      exact ⟨b, off, rfl, h1, h2⟩
    · intro i
      by_cases h : i < len
      · rw [hix i h]; exact (hf i h).2.2.1
      · simp [sx, List.getD_eq_getElem?_getD, h]
    · intro i
      by_cases h : i < len
      · rw [hix i h]; exact (hf i h).2.2.2
      · simp [sx, List.getD_eq_getElem?_getD, h]
theorem open_targets {fuel : Nat} {c : Value} {x : DataW H × List MemPlace} (h : DataW.trod enc Tryz.prog W base spare held fuel 69 [c] = some x) :
    ∃ (a : Option Addr) (cap : Nat) (is : List T2), c = .slice a is.length cap /\ RowT W a is /\ is.length <= maxLen /\ (∀ i, (tx is i).name.size <= maxLen) /\ (∀ i, (tx is i).code.length <= maxLen) /\ ∀ i j, (ix (tx is i).code j).text.size <= maxLen := by
  rcases open_slice Tryz.underlying69 h with ⟨hcs, _⟩ | ⟨a, len, cap, m, n, D, Pl, hcs, _, hl, hm, hmm, _, hx⟩
  · simp at hcs
    subst hcs
    exact ⟨none, 0, [], rfl, fun i hi => by simp at hi, by simp, fun i => by simp [tx], fun i => by simp [tx], fun i j => by simp [tx, ix, i0]⟩
  · simp at hcs
    subst hcs
    rw [Tryz.cells199] at hx
    have hlm : len <= m := by rw [hmm]; split <;> omega
    have hex : ∀ i, i < len -> ∃ t : T2, W.cell? ((a.add (i * 2)).add 0) = some (.string t.name) /\ (∃ a' cap', W.cell? ((a.add (i * 2)).add 1) = some (.slice a' t.code.length cap') /\ Row3 W a' t.code) /\ t.name.size <= maxLen /\ t.code.length <= maxLen /\ ∀ j, (ix t.code j).text.size <= maxLen := by
      intro i hi
      obtain ⟨cs', hc, ht⟩ := hx i (by omega)
      obtain ⟨t, a', cap', rfl, hr, hts⟩ := open_target ht
      have hs := World.cells?_some hc
      exact ⟨t, by simpa using hs.2.2 0 (by omega), ⟨a', cap', by simpa using hs.2.2 1 (by omega), hr⟩, hts⟩
    let f : Nat -> T2 := fun i => if h : i < len then Classical.choose (hex i h) else ⟨ByteArray.empty, []⟩
    have hf : ∀ i, (h : i < len) -> W.cell? ((a.add (i * 2)).add 0) = some (.string (f i).name) /\ (∃ a' cap', W.cell? ((a.add (i * 2)).add 1) = some (.slice a' (f i).code.length cap') /\ Row3 W a' (f i).code) /\ (f i).name.size <= maxLen /\ (f i).code.length <= maxLen /\ ∀ j, (ix (f i).code j).text.size <= maxLen := by
      intro i h
      have : f i = Classical.choose (hex i h) := by simp only [f, dif_pos h]
      rw [this]; exact Classical.choose_spec (hex i h)
    have hix : ∀ i, i < len -> tx ((List.range len).map f) i = f i := by
      intro i h
      simp [tx, List.getD_eq_getElem?_getD, h]
    refine ⟨some a, cap, (List.range len).map f, by simp, ?_, by simp; omega, ?_, ?_, ?_⟩
    · intro i hi
      have hi' : i < len := by simpa using hi
      obtain ⟨h1, ⟨a', cap', h2, h3⟩, _⟩ := hf i hi'
      rw [hix i hi']
      obtain ⟨b, off, spot⟩ := a
      have hspot : spot = none := by
        have := World.cell?_spot (hf 0 (by omega)).1
        simpa [Addr.add] using this
      subst hspot
      simp only [Addr.add_lit] at h1 h2
      exact ⟨b, off, rfl, h1, a', cap', h2, h3⟩
    · intro i
      by_cases h : i < len
      · rw [hix i h]; exact (hf i h).2.2.1
      · simp [tx, List.getD_eq_getElem?_getD, h]
    · intro i
      by_cases h : i < len
      · rw [hix i h]; exact (hf i h).2.2.2.1
      · simp [tx, List.getD_eq_getElem?_getD, h]
    · intro i j
      by_cases h : i < len
      · rw [hix i h]; exact (hf i h).2.2.2.2 j
      · simp [tx, List.getD_eq_getElem?_getD, h, ix, i0]
theorem open_space {r : Reach} {b0 : Nat} {v : Value} {d : DataW H} {p : List MemPlace} (hv : Value.okWide Tryz.prog W r b0 71 v) (h : DataW.Trod enc Tryz.prog W base spare held 71 v d p) :
    ∃ (sa : Option Addr) (c1 : Nat) (ss : List S2) (ta : Option Addr) (c2 : Nat) (ts : List T2), v = .agg #[.slice sa ss.length c1, .slice ta ts.length c2] /\ SpOk W sa ss ta ts := by
  obtain ⟨cs, rfl, hsz⟩ := okWide_struct Tryz.underlying71 hv
  rw [Tryz.cells71] at hsz
  obtain ⟨fuel, hf⟩ := h
  obtain ⟨y0, y1, n, _, _, h0, h1⟩ := trod_struct2 Tryz.underlying71 hf
  simp only [Tryz.cells68, Tryz.cells69] at h0 h1
  obtain ⟨l⟩ := cs
  match l, hsz with
  | [k0, k1], _ =>
    simp only [Value.cells] at h0 h1
    obtain ⟨sa, c1, ss, e0, a1, a2, a3, a4⟩ := open_sources (c := k0) (by simpa using h0)
    obtain ⟨ta, c2, ts, e1, b1, b2, b3, b4, b5⟩ := open_targets (c := k1) (by simpa using h1)
    subst e0; subst e1
    exact ⟨sa, c1, ss, ta, c2, ts, rfl, ⟨a1, b1, a2, b2, a3, a4, b3, b4, b5⟩⟩
end
end
end Go.Proofs.YtmeojnaoljgieaeGreatDoor
