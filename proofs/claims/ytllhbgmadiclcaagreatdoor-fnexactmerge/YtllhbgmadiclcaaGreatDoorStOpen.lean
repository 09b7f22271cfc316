import Derived.Test.YtllhbgmadiclcaaGreatDoorRows
import Derived.Test.YtllhbgmadiclcaaGreatDoorStLaw
import Derived.ProofKit
import Derived.OpenShut
import Derived.Deep.Slices
import Derived.Deep.Strs
import Derived.SliceStrings
import Derived.OpenVars
import Derived.MakeChecks
import Derived.LaidSub
import Derived.Lib.LaidTab
namespace Go.Proofs.YtllhbgmadiclcaaGreatDoor
open Go.ChangeShapes Go.WideShapes Go.ChangeAt Go.RowKit Go.Deep
set_option linter.unusedVariables false

theorem Tryz.cells83 : Tryz.prog.cellsOf 83 = 3 := by kernel_rfl
theorem Tryz.cells80 : Tryz.prog.cellsOf 80 = 1 := by kernel_rfl
theorem Tryz.cells78 : Tryz.prog.cellsOf 78 = 1 := by kernel_rfl
theorem Tryz.cells144 : Tryz.prog.cellsOf 144 = 3 := by kernel_rfl
theorem Tryz.cells135 : Tryz.prog.cellsOf 135 = 3 := by kernel_rfl
theorem Tryz.cells81 : Tryz.prog.cellsOf 81 = 1 := by kernel_rfl
theorem Tryz.cells9 : Tryz.prog.cellsOf 9 = 1 := by kernel_rfl
theorem Tryz.cells3 : Tryz.prog.cellsOf 3 = 1 := by kernel_rfl
theorem Tryz.cells4 : Tryz.prog.cellsOf 4 = 1 := by kernel_rfl
theorem Tryz.cells151 : Tryz.prog.cellsOf 151 = 3 := by kernel_rfl
theorem Tryz.cells25 : Tryz.prog.cellsOf 25 = 3 := by kernel_rfl
theorem Tryz.cells22 : Tryz.prog.cellsOf 22 = 1 := by kernel_rfl
theorem Tryz.cells23 : Tryz.prog.cellsOf 23 = 1 := by kernel_rfl

section
variable {H : Type} {enc : TypeId × Value → H} {W : World} {base : Nat} {spare : Nat → Bool} {held : Bool}

/-- An instruction's three cells. -/
theorem open_ins {fuel : Nat} {cs : List Value} {x : DataW H × List MemPlace} (h : DataW.trod enc Tryz.prog W base spare held fuel 144 cs = some x) :
    ∃ i : I3, cs = [.int .i64 i.op, .string i.text, .int .i64 i.n] ∧ i.text.size ≤ maxLen := by
  obtain ⟨y0, y1, y2, n, _, hl, h0, h1, h2⟩ := trod_struct3 Tryz.underlying144 h
  rw [Tryz.cells144] at hl
  simp only [Tryz.cells3, Tryz.cells9] at h0 h1 h2
  match cs, hl with
  | [c0, c1, c2], _ =>
    obtain ⟨op, e0, _, _⟩ := DataW.trod_int Tryz.underlying3 h0
    obtain ⟨t, e1, _, ht⟩ := DataW.trod_string Tryz.underlying9 h1
    obtain ⟨m, e2, _, _⟩ := DataW.trod_int Tryz.underlying3 h2
    simp at e0 e1 e2
    subst e0; subst e1; subst e2
    exact ⟨⟨op, t, m⟩, rfl, ht⟩

theorem open_code {fuel : Nat} {c : Value} {x : DataW H × List MemPlace} (h : DataW.trod enc Tryz.prog W base spare held fuel 78 [c] = some x) :
    ∃ (a : Option Addr) (cap : Nat) (is : List I3), c = .slice a is.length cap ∧ Row3 W a is ∧ is.length ≤ maxLen ∧ ∀ i, (ix is i).text.size ≤ maxLen := by
  rcases open_slice Tryz.underlying78 h with ⟨hcs, _⟩ | ⟨a, len, cap, m, n, D, Pl, hcs, _, hl, hm, hmm, _, hx⟩
  · simp at hcs
    subst hcs
    exact ⟨none, 0, [], rfl, fun i hi => by simp at hi, by simp, fun i => by simp [ix, i0]⟩
  · simp at hcs
    subst hcs
    rw [Tryz.cells144] at hx
    have hlm : len ≤ m := by rw [hmm]; split <;> omega
    have hex : ∀ i, i < len → ∃ t : I3, W.cell? ((a.add (i * 3)).add 0) = some (.int .i64 t.op) ∧ W.cell? ((a.add (i * 3)).add 1) = some (.string t.text) ∧ W.cell? ((a.add (i * 3)).add 2) = some (.int .i64 t.n) ∧ t.text.size ≤ maxLen := by
      intro i hi
      obtain ⟨cs', hc, ht⟩ := hx i (by omega)
      obtain ⟨t, rfl, hts⟩ := open_ins ht
      have hs := World.cells?_some hc
      exact ⟨t, by simpa using hs.2.2 0 (by omega), by simpa using hs.2.2 1 (by omega), by simpa using hs.2.2 2 (by omega), hts⟩
    let f : Nat → I3 := fun i => if h : i < len then Classical.choose (hex i h) else i0
    have hf : ∀ i, (h : i < len) → W.cell? ((a.add (i * 3)).add 0) = some (.int .i64 (f i).op) ∧ W.cell? ((a.add (i * 3)).add 1) = some (.string (f i).text) ∧ W.cell? ((a.add (i * 3)).add 2) = some (.int .i64 (f i).n) ∧ (f i).text.size ≤ maxLen := by
      intro i h
      have : f i = Classical.choose (hex i h) := by simp only [f, dif_pos h]
      rw [this]; exact Classical.choose_spec (hex i h)
    have hix : ∀ i, i < len → ix ((List.range len).map f) i = f i := by
      intro i h
      simp [ix, List.getD_eq_getElem?_getD, h]
    refine ⟨some a, cap, (List.range len).map f, by simp, ?_, by simp; omega, ?_⟩
    · intro i hi
      have hi' : i < len := by simpa using hi
      obtain ⟨h1, h2, h3, _⟩ := hf i hi'
      rw [hix i hi']
      obtain ⟨b, off, spot⟩ := a
      have hspot : spot = none := by
        have := World.cell?_spot (hf 0 (by omega)).1
        simpa [Addr.add] using this
      subst hspot
      simp only [Addr.add_lit] at h1 h2 h3
      exact ⟨b, off, rfl, h1, h2, h3⟩
    · intro i
      by_cases h : i < len
      · rw [hix i h]; exact (hf i h).2.2.2
      · simp [ix, List.getD_eq_getElem?_getD, h, i0]

theorem open_glance {fuel : Nat} {cs : List Value} {x : DataW H × List MemPlace} (h : DataW.trod enc Tryz.prog W base spare held fuel 135 cs = some x) :
    ∃ i : G3, cs = [.string i.name, .bool i.ask, .string i.sum] ∧ i.name.size ≤ maxLen ∧ i.sum.size ≤ maxLen := by
  obtain ⟨y0, y1, y2, n, _, hl, h0, h1, h2⟩ := trod_struct3 Tryz.underlying135 h
  rw [Tryz.cells135] at hl
  simp only [Tryz.cells9, Tryz.cells4] at h0 h1 h2
  match cs, hl with
  | [c0, c1, c2], _ =>
    obtain ⟨s, e0, _, hs⟩ := DataW.trod_string Tryz.underlying9 h0
    obtain ⟨b, e1, _⟩ := DataW.trod_bool Tryz.underlying4 h1
    obtain ⟨t, e2, _, ht⟩ := DataW.trod_string Tryz.underlying9 h2
    simp at e0 e1 e2
    subst e0; subst e1; subst e2
    exact ⟨⟨s, b, t⟩, rfl, hs, ht⟩

theorem open_glances {fuel : Nat} {c : Value} {x : DataW H × List MemPlace} (h : DataW.trod enc Tryz.prog W base spare held fuel 81 [c] = some x) :
    ∃ (a : Option Addr) (cap : Nat) (is : List G3), c = .slice a is.length cap ∧ RowG W a is ∧ is.length ≤ maxLen ∧ (∀ i, (gx is i).name.size ≤ maxLen) ∧ ∀ i, (gx is i).sum.size ≤ maxLen := by
  rcases open_slice Tryz.underlying81 h with ⟨hcs, _⟩ | ⟨a, len, cap, m, n, D, Pl, hcs, _, hl, hm, hmm, _, hx⟩
  · simp at hcs
    subst hcs
    exact ⟨none, 0, [], rfl, fun i hi => by simp at hi, by simp, fun i => by simp [gx, g00], fun i => by simp [gx, g00]⟩
  · simp at hcs
    subst hcs
    rw [Tryz.cells135] at hx
    have hlm : len ≤ m := by rw [hmm]; split <;> omega
    have hex : ∀ i, i < len → ∃ t : G3, W.cell? ((a.add (i * 3)).add 0) = some (.string t.name) ∧ W.cell? ((a.add (i * 3)).add 1) = some (.bool t.ask) ∧ W.cell? ((a.add (i * 3)).add 2) = some (.string t.sum) ∧ t.name.size ≤ maxLen ∧ t.sum.size ≤ maxLen := by
      intro i hi
      obtain ⟨cs', hc, ht⟩ := hx i (by omega)
      obtain ⟨t, rfl, hts⟩ := open_glance ht
      have hs := World.cells?_some hc
      exact ⟨t, by simpa using hs.2.2 0 (by omega), by simpa using hs.2.2 1 (by omega), by simpa using hs.2.2 2 (by omega), hts⟩
    let f : Nat → G3 := fun i => if h : i < len then Classical.choose (hex i h) else g00
    have hf : ∀ i, (h : i < len) → W.cell? ((a.add (i * 3)).add 0) = some (.string (f i).name) ∧ W.cell? ((a.add (i * 3)).add 1) = some (.bool (f i).ask) ∧ W.cell? ((a.add (i * 3)).add 2) = some (.string (f i).sum) ∧ (f i).name.size ≤ maxLen ∧ (f i).sum.size ≤ maxLen := by
      intro i h
      have : f i = Classical.choose (hex i h) := by simp only [f, dif_pos h]
      rw [this]; exact Classical.choose_spec (hex i h)
    have hix : ∀ i, i < len → gx ((List.range len).map f) i = f i := by
      intro i h
      simp [gx, List.getD_eq_getElem?_getD, h]
    refine ⟨some a, cap, (List.range len).map f, by simp, ?_, by simp; omega, ?_, ?_⟩
    · intro i hi
      have hi' : i < len := by simpa using hi
      obtain ⟨h1, h2, h3, _⟩ := hf i hi'
      rw [hix i hi']
      obtain ⟨b, off, spot⟩ := a
      have hspot : spot = none := by
        have := World.cell?_spot (hf 0 (by omega)).1
        simpa [Addr.add] using this
      subst hspot
      simp only [Addr.add_lit] at h1 h2 h3
      exact ⟨b, off, rfl, h1, h2, h3⟩
    · intro i
      by_cases h : i < len
      · rw [hix i h]; exact (hf i h).2.2.2.1
      · simp [gx, List.getD_eq_getElem?_getD, h, g00]
    · intro i
      by_cases h : i < len
      · rw [hix i h]; exact (hf i h).2.2.2.2
      · simp [gx, List.getD_eq_getElem?_getD, h, g00]

theorem open_rec {fuel : Nat} {cs : List Value} {x : DataW H × List MemPlace} (h : DataW.trod enc Tryz.prog W base spare held fuel 83 cs = some x) :
    ∃ (i : T3) (a la : Option Addr) (cap lc : Nat), cs = [.slice a i.code.length cap, .slice la i.looks.length lc, .string i.out] ∧ RecOk W a i.code la i.looks i.out := by
  obtain ⟨y0, y1, y2, n, _, hl, h0, h1, h2⟩ := trod_struct3 Tryz.underlying83 h
  rw [Tryz.cells83] at hl
  simp only [Tryz.cells80, Tryz.cells81, Tryz.cells9] at h0 h1 h2
  match cs, hl with
  | [c0, c1, c2], _ =>
    have h0' : DataW.trod enc Tryz.prog W base spare held n 80 [c0] = some y0 := by simpa using h0
    have h1' : DataW.trod enc Tryz.prog W base spare held n 81 [c1] = some y1 := by simpa using h1
    have h2' : DataW.trod enc Tryz.prog W base spare held n 9 [c2] = some y2 := by simpa using h2
    obtain ⟨z0, m, _, _, h3⟩ := trod_struct1 Tryz.underlying80 h0'
    simp only [Tryz.cells78] at h3
    obtain ⟨a, cap, is, rfl, r1, r2, r3⟩ := open_code (c := c0) (by simpa using h3)
    obtain ⟨la, lc, gs, rfl, g1, g2, g3, g4⟩ := open_glances h1'
    obtain ⟨t, e2, _, ht⟩ := DataW.trod_string Tryz.underlying9 h2'
    simp at e2
    subst e2
    exact ⟨⟨is, gs, t⟩, a, la, cap, lc, rfl, r1, g1, r2, g2, r3, g3, g4, ht⟩

theorem open_recs {fuel : Nat} {c : Value} {x : DataW H × List MemPlace} (h : DataW.trod enc Tryz.prog W base spare held fuel 23 [c] = some x) :
    ∃ (a : Option Addr) (cap : Nat) (is : List T3), c = .slice a is.length cap ∧ RowQ W a is ∧ QsOk is := by
  rcases open_slice Tryz.underlying23 h with ⟨hcs, _⟩ | ⟨a, len, cap, m, n, D, Pl, hcs, _, hl, hm, hmm, _, hx⟩
  · simp at hcs
    subst hcs
    exact ⟨none, 0, [], rfl, fun i hi => by simp at hi, ⟨by simp, fun i => by simp [qx, q00], fun i => by simp [qx, q00], fun i j => by simp [qx, q00, ix, i0], fun i j => by simp [qx, q00, gx, g00], fun i j => by simp [qx, q00, gx, g00], fun i => by simp [qx, q00]⟩⟩
  · simp at hcs
    subst hcs
    rw [Tryz.cells83] at hx
    have hlm : len ≤ m := by rw [hmm]; split <;> omega
    have hex : ∀ i, i < len → ∃ t : T3, ∃ ca cc la lc, W.cell? ((a.add (i * 3)).add 0) = some (.slice ca t.code.length cc) ∧ W.cell? ((a.add (i * 3)).add 1) = some (.slice la t.looks.length lc) ∧ W.cell? ((a.add (i * 3)).add 2) = some (.string t.out) ∧ RecOk W ca t.code la t.looks t.out := by
      intro i hi
      obtain ⟨cs', hc, ht⟩ := hx i (by omega)
      obtain ⟨t, ca, la, cc, lc, rfl, hts⟩ := open_rec ht
      have hs := World.cells?_some hc
      exact ⟨t, ca, cc, la, lc, by simpa using hs.2.2 0 (by omega), by simpa using hs.2.2 1 (by omega), by simpa using hs.2.2 2 (by omega), hts⟩
    let f : Nat → T3 := fun i => if h : i < len then Classical.choose (hex i h) else q00
    have hf : ∀ i, (h : i < len) → ∃ ca cc la lc, W.cell? ((a.add (i * 3)).add 0) = some (.slice ca (f i).code.length cc) ∧ W.cell? ((a.add (i * 3)).add 1) = some (.slice la (f i).looks.length lc) ∧ W.cell? ((a.add (i * 3)).add 2) = some (.string (f i).out) ∧ RecOk W ca (f i).code la (f i).looks (f i).out := by
      intro i h
      have : f i = Classical.choose (hex i h) := by simp only [f, dif_pos h]
      rw [this]; exact Classical.choose_spec (hex i h)
    have hix : ∀ i, i < len → qx ((List.range len).map f) i = f i := by
      intro i h
      simp [qx, List.getD_eq_getElem?_getD, h]
    have hno : ∀ i, ¬ i < len → qx ((List.range len).map f) i = q00 := by
      intro i h
      simp [qx, List.getD_eq_getElem?_getD, h]
    have hall : ∀ (P : T3 → Prop), P q00 → (∀ t ca la, RecOk W ca t.code la t.looks t.out → P t) → ∀ i, P (qx ((List.range len).map f) i) := by
      intro P h0 h1 i
      by_cases h : i < len
      · obtain ⟨ca, cc, la, lc, _, _, _, hr⟩ := hf i h
        rw [hix i h]; exact h1 _ ca la hr
      · rw [hno i h]; exact h0
    refine ⟨some a, cap, (List.range len).map f, by simp, ?_, ⟨by simp; omega, hall (fun t => t.code.length ≤ maxLen) (by simp [q00]) (fun t _ _ h => h.lc), hall (fun t => t.looks.length ≤ maxLen) (by simp [q00]) (fun t _ _ h => h.lg), hall (fun t => ∀ j, (ix t.code j).text.size ≤ maxLen) (by intro j; simp [q00, ix, i0]) (fun t _ _ h => h.xc), hall (fun t => ∀ j, (gx t.looks j).name.size ≤ maxLen) (by intro j; simp [q00, gx, g00]) (fun t _ _ h => h.ng), hall (fun t => ∀ j, (gx t.looks j).sum.size ≤ maxLen) (by intro j; simp [q00, gx, g00]) (fun t _ _ h => h.sg), hall (fun t => t.out.size ≤ maxLen) (by simp [q00]) (fun t _ _ h => h.so)⟩⟩
    intro i hi
    have hi' : i < len := by simpa using hi
    obtain ⟨ca, cc, la, lc, h1, h2, h3, hr⟩ := hf i hi'
    rw [hix i hi']
    obtain ⟨b, off, spot⟩ := a
    have hspot : spot = none := by
      obtain ⟨_, _, _, _, h1, _⟩ := hf 0 (by omega)
      have := World.cell?_spot h1
      simpa [Addr.add] using this
    subst hspot
    simp only [Addr.add_lit] at h1 h2 h3
    exact ⟨b, off, rfl, ca, cc, la, lc, h1, h2, h3, hr.rc, hr.rg⟩

theorem open_texts {fuel : Nat} {c : Value} {x : DataW H × List MemPlace} (h : DataW.trod enc Tryz.prog W base spare held fuel 22 [c] = some x) :
    ∃ (a : Option Addr) (cap : Nat) (ts : List ByteArray), c = .slice a ts.length cap ∧ Strs W a ts ∧ ts.length ≤ maxLen ∧ ∀ s ∈ ts, s.size ≤ maxLen := by
  rcases open_strings Tryz.underlying22 Tryz.underlying9 Tryz.cells9 h with ⟨hcs, _⟩ | ⟨x, l, c, zs, hcs, _, hl, hm, hz, _, hcell, hws⟩
  · simp at hcs
    subst hcs
    exact ⟨none, 0, [], rfl, fun i h => by simp at h, by simp, by simp⟩
  · simp at hcs
    subst hcs
    have hlz : l ≤ zs.length := by rw [hz]; split <;> omega
    refine ⟨some x, c, zs.take l, by simp; omega, ?_, by simp; omega, fun s hs => hws s (List.mem_of_mem_take hs)⟩
    intro i hi
    have hi' : i < l ∧ i < zs.length := by simp only [List.length_take] at hi; omega
    have hc := hcell i (by omega)
    obtain ⟨b, off, spot⟩ := x
    have hspot : spot = none := by simpa [Addr.add] using World.cell?_spot (hcell 0 (by omega))
    subst hspot
    refine ⟨b, off, rfl, ?_⟩
    simp only [List.getD_eq_getElem?_getD, List.getElem?_take, if_pos hi'.1]
    rw [Addr.add_lit] at hc
    simpa [List.getD_eq_getElem?_getD] using hc

set_option maxRecDepth 100000 in
theorem open_store {r : Reach} {b0 : Nat} {v : Value} {d : DataW H} {p : List MemPlace} (hv : Value.okWide Tryz.prog W r b0 25 v) (h : DataW.Trod enc Tryz.prog W base spare held 25 v d p) :
    ∃ (n : Int) (ta ra : Option Addr) (tc rc : Nat) (ts : List ByteArray) (rs : List T3), v = .agg #[.int .i64 n, .slice ta ts.length tc, .slice ra rs.length rc] ∧ SoOk W ta ts ra rs := by
  obtain ⟨cs, rfl, hsz⟩ := okWide_struct Tryz.underlying25 hv
  rw [Tryz.cells25] at hsz
  obtain ⟨fuel, hf⟩ := h
  obtain ⟨y0, y1, y2, n, _, _, h0, h1, h2⟩ := trod_struct3 Tryz.underlying25 hf
  obtain ⟨l⟩ := cs
  match l, hsz with
  | [c0, c1, c2], _ =>
    simp only [Tryz.cells3, Tryz.cells22, Tryz.cells23] at h0 h1 h2
    have h0' : DataW.trod enc Tryz.prog W base spare held n 3 [c0] = some y0 := by simpa [Value.cells] using h0
    have h1' : DataW.trod enc Tryz.prog W base spare held n 22 [c1] = some y1 := by simpa [Value.cells] using h1
    have h2' : DataW.trod enc Tryz.prog W base spare held n 23 [c2] = some y2 := by simpa [Value.cells] using h2
    obtain ⟨m, e0, _, _⟩ := DataW.trod_int Tryz.underlying3 h0'
    simp at e0
    subst e0
    obtain ⟨ta, tc, ts, rfl, t1, t2, t3⟩ := open_texts h1'
    obtain ⟨ra, rc, rs, rfl, r1, r2⟩ := open_recs h2'
    exact ⟨m, ta, ra, tc, rc, ts, rs, rfl, t1, t2, t3, r1, r2⟩
end

/-- The table's rows, as the list has them. -/
theorem row_of (o : Nat) (ho : o < 16) : ∃ L : List (DataW Unit), (Rows.laid_loop_example_kilntrace_impl_opKinds : DataW Unit) = .agg L ∧ L.length = 16 ∧ L[o]? = some (.agg [.lit (.string (words.getD o [])), .lit (.int .i64 (kindOf o)), .lit (.int .i64 (takesOf.getD o 0))]) := by
  refine ⟨_, rfl, rfl, ?_⟩
  rcases (show o = 0 ∨ o = 1 ∨ o = 2 ∨ o = 3 ∨ o = 4 ∨ o = 5 ∨ o = 6 ∨ o = 7 ∨ o = 8 ∨ o = 9 ∨ o = 10 ∨ o = 11 ∨ o = 12 ∨ o = 13 ∨ o = 14 ∨ o = 15 from by omega) with rfl | rfl | rfl | rfl | rfl | rfl | rfl | rfl | rfl | rfl | rfl | rfl | rfl | rfl | rfl | rfl <;> rfl

theorem tab_of_laid {W : World} (h : laidMetH Tryz.prog [("loop.example/kilntrace/impl.opKinds", Rows.laid_loop_example_kilntrace_impl_opKinds)] W) : Tab W := by
  rw [MakeChecks.laidMetH_plain _ _ _ (by kernel_rfl)] at h
  obtain ⟨ps, ⟨g, t, cs, fuel, p, q, hg, ht, hv, hd, _, _⟩, _, _⟩ := h
  obtain rfl := Option.some.inj ((show Tryz.prog.globalNamed "loop.example/kilntrace/impl.opKinds" = some 0 by kernel_rfl).symm.trans hg)
  obtain rfl := Option.some.inj ((show (Tryz.prog.globals[0]?).map (·.type) = some 152 by kernel_rfl).symm.trans ht)
  obtain ⟨xs, m, _, ex, hlen, hl, hel⟩ := DataW.trod_array Tryz.underlying152 hd
  intro o ho
  obtain ⟨L, hL, hLl, hLo⟩ := row_of o ho
  have e1 : L = xs.map (·.1) := by
    have := (Prod.mk.inj ex).1
    rw [hL] at this
    exact DataW.agg.inj this
  have hxo : o < xs.length := by omega
  have k := hel o ho
  rw [Tryz.cells151, List.getElem?_eq_getElem hxo] at k
  have e2 : xs[o].1 = .agg [.lit (.string (words.getD o [])), .lit (.int .i64 (kindOf o)), .lit (.int .i64 (takesOf.getD o 0))] := by
    rw [e1, List.getElem?_map, List.getElem?_eq_getElem hxo] at hLo
    simpa using hLo
  obtain ⟨y0, y1, y2, n, he, hl3, h0, h1, h2⟩ := trod_struct3 Tryz.underlying151 k
  rw [Tryz.cells151] at hl3
  simp only [Tryz.cells3, Tryz.cells9] at h0 h1 h2
  have e3 : [y0.1, y1.1, y2.1] = [.lit (.string (words.getD o [])), .lit (.int .i64 (kindOf o)), .lit (.int .i64 (takesOf.getD o 0))] := by
    have : xs[o].1 = .agg [y0.1, y1.1, y2.1] := by rw [he]
    rw [e2] at this
    exact (DataW.agg.inj this).symm
  simp only [List.cons.injEq, and_true] at e3
  obtain ⟨a0, a1, a2⟩ := e3
  obtain ⟨s, c0, d0, _⟩ := DataW.trod_string Tryz.underlying9 h0
  obtain ⟨z1, c1, d1, _⟩ := DataW.trod_int Tryz.underlying3 h1
  obtain ⟨z2, c2, d2, _⟩ := DataW.trod_int Tryz.underlying3 h2
  have hcell := fun j => World.var?_cell (show Tryz.prog.globalNamed "loop.example/kilntrace/impl.opKinds" = some 0 by kernel_rfl) hv j
  rw [d0] at a0; rw [d1] at a1; rw [d2] at a2
  simp only [DataW.lit.injEq, Lit.string.injEq, Lit.int.injEq, true_and] at a0 a1 a2
  have hs : s = wordB o := bytes_inj (by rw [a0]; simp [wordB])
  have f : ∀ j, j < 3 → cs[o * 3 + j]? = (((cs.toList.drop (o * 3)).take 3))[j]? := by
    intro j hj
    rw [List.getElem?_take, if_pos hj, List.getElem?_drop, Array.getElem?_toList]
  have g0 : cs[o * 3 + 0]? = some (.string s) := by
    rw [f 0 (by omega)]
    have := congrArg (fun l => l[0]?) c0
    simpa [List.getElem?_take, List.getElem?_drop] using this
  have g1 : cs[o * 3 + 1]? = some (.int .i64 z1) := by
    rw [f 1 (by omega)]
    have := congrArg (fun l => l[0]?) c1
    simpa [List.getElem?_take, List.getElem?_drop] using this
  have g2 : cs[o * 3 + 2]? = some (.int .i64 z2) := by
    rw [f 2 (by omega)]
    have := congrArg (fun l => l[0]?) c2
    simpa [List.getElem?_take, List.getElem?_drop] using this
  exact ⟨by rw [hcell]; simpa [hs] using g0, by rw [hcell, g1, a1], by rw [hcell, g2, a2]⟩

end Go.Proofs.YtllhbgmadiclcaaGreatDoor
