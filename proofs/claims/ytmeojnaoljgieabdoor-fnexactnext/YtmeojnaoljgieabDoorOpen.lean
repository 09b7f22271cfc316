/-
  The argument opened: a Program is a row of instructions; the listed table opened.
-/
import Derived.Test.YtmeojnaoljgieabDoorRows
import Derived.Test.YtmeojnaoljgieabDoorValid
import Derived.ProofKit
import Derived.OpenShut
import Derived.Deep.Slices
import Derived.Deep.Strs
import Derived.OpenVars
import Derived.MakeChecks
import Derived.LaidSub
import Derived.Lib.LaidTab
import Derived.Lib.AppendIntMem
import Derived.Test.YtmeojnaoljgieabDoorIPrint
namespace Go.Proofs.YtmeojnaoljgieabDoor
open Go.ChangeShapes Go.WideShapes Go.ChangeAt Go.RowKit Go.Deep
set_option linter.unusedVariables false

theorem Tryd.cells24 : Tryd.prog.cellsOf 24 = 1 := by kernel_rfl
theorem Tryd.cells22 : Tryd.prog.cellsOf 22 = 1 := by kernel_rfl
theorem Tryd.cells108 : Tryd.prog.cellsOf 108 = 3 := by kernel_rfl
theorem Tryd.cells3 : Tryd.prog.cellsOf 3 = 1 := by kernel_rfl
theorem Tryd.cells9 : Tryd.prog.cellsOf 9 = 1 := by kernel_rfl
theorem Tryd.cells116 : Tryd.prog.cellsOf 116 = 3 := by kernel_rfl

section
variable {H : Type} {enc : TypeId × Value → H} {W : World} {base : Nat} {spare : Nat → Bool} {held : Bool}

/-- An instruction's three cells. -/
theorem open_ins {fuel : Nat} {cs : List Value} {x : DataW H × List MemPlace} (h : DataW.trod enc Tryd.prog W base spare held fuel 108 cs = some x) :
    ∃ i : I3, cs = [.int .i64 i.op, .string i.text, .int .i64 i.n] ∧ i.text.size ≤ maxLen := by
  obtain ⟨y0, y1, y2, n, _, hl, h0, h1, h2⟩ := trod_struct3 Tryd.underlying108 h
  rw [Tryd.cells108] at hl
  simp only [Tryd.cells3, Tryd.cells9] at h0 h1 h2
  match cs, hl with
  | [c0, c1, c2], _ =>
    obtain ⟨op, e0, _, _⟩ := DataW.trod_int Tryd.underlying3 h0
    obtain ⟨t, e1, _, ht⟩ := DataW.trod_string Tryd.underlying9 h1
    obtain ⟨m, e2, _, _⟩ := DataW.trod_int Tryd.underlying3 h2
    simp at e0 e1 e2
    subst e0; subst e1; subst e2
    exact ⟨⟨op, t, m⟩, rfl, ht⟩

theorem open_code {fuel : Nat} {c : Value} {x : DataW H × List MemPlace} (h : DataW.trod enc Tryd.prog W base spare held fuel 22 [c] = some x) :
    ∃ (a : Option Addr) (cap : Nat) (is : List I3), c = .slice a is.length cap ∧ Row3 W a is ∧ is.length ≤ maxLen ∧ ∀ i, (ix is i).text.size ≤ maxLen := by
  rcases open_slice Tryd.underlying22 h with ⟨hcs, _⟩ | ⟨a, len, cap, m, n, D, Pl, hcs, _, hl, hm, hmm, _, hx⟩
  · simp at hcs
    subst hcs
    exact ⟨none, 0, [], rfl, fun i hi => by simp at hi, by simp, fun i => by simp [ix, i0]⟩
  · simp at hcs
    subst hcs
    rw [Tryd.cells108] at hx
    have hlm : len ≤ m := by rw [hmm]; split <;> omega
    have hex : ∀ i, i < len → ∃ t : I3, W.cell? ((a.add (i * 3)).add 0) = some (.int .i64 t.op) ∧ W.cell? ((a.add (i * 3)).add 1) = some (.string t.text) ∧ W.cell? ((a.add (i * 3)).add 2) = some (.int .i64 t.n) ∧ t.text.size ≤ maxLen := by
      intro i hi
      obtain ⟨cs', hc, ht⟩ := hx i (by omega)
      obtain ⟨t, rfl, hts⟩ := open_ins ht
      have hs := World.cells?_some hc
      exact ⟨t, by simpa using hs.2.2 0 (by omega), by simpa using hs.2.2 1 (by omega), by simpa using hs.2.2 2 (by omega), hts⟩
    let f : Nat → I3 := fun i => if h : i < len then Classical.choose (hex i h) else i0
    have hf : ∀ i, (h : i < len) → W.cell? ((a.add (i * 3)).add 0) = some (.int .i64 (f i).op) ∧ W.cell? ((a.add (i * 3)).add 1) = some (.string (f i).text) ∧ W.cell? ((a.add (i * 3)).add 2) = some (.int .i64 (f i).n) ∧ (f i).text.size ≤ maxLen := by
      intro i h
      have : f i = Classical.choose (hex i h) := by simp only [f, dif_pos h]
      rw [this]; exact Classical.choose_spec (hex i h)
    have hix : ∀ i, i < len → ix ((List.range len).map f) i = f i := by
      intro i h
      simp [ix, List.getD_eq_getElem?_getD, h]
    refine ⟨some a, cap, (List.range len).map f, by simp, ?_, by simp; omega, ?_⟩
    · intro i hi
      have hi' : i < len := by simpa using hi
      obtain ⟨h1, h2, h3, _⟩ := hf i hi'
      rw [hix i hi']
      obtain ⟨b, off, spot⟩ := a
      have hspot : spot = none := by
        have := World.cell?_spot (hf 0 (by omega)).1
        simpa [Addr.add] using this
      subst hspot
      simp only [Addr.add_lit] at h1 h2 h3
      exact ⟨b, off, rfl, h1, h2, h3⟩
    · intro i
      by_cases h : i < len
      · rw [hix i h]; exact (hf i h).2.2.2
      · simp [ix, List.getD_eq_getElem?_getD, h, i0]

set_option maxRecDepth 100000 in
theorem open_program {r : Reach} {b0 : Nat} {v : Value} {d : DataW H} {p : List MemPlace} (hv : Value.okWide Tryd.prog W r b0 24 v) (h : DataW.Trod enc Tryd.prog W base spare held 24 v d p) :
    ∃ (a : Option Addr) (cap : Nat) (is : List I3), v = .agg #[.slice a is.length cap] ∧ Row3 W a is ∧ is.length ≤ maxLen ∧ ∀ i, (ix is i).text.size ≤ maxLen := by
  obtain ⟨cs, rfl, hsz⟩ := okWide_struct Tryd.underlying24 hv
  rw [Tryd.cells24] at hsz
  obtain ⟨fuel, hf⟩ := h
  obtain ⟨y0, n, _, _, h0⟩ := trod_struct1 Tryd.underlying24 hf
  obtain ⟨l⟩ := cs
  match l, hsz with
  | [c], _ =>
    simp only [Tryd.cells22] at h0
    have h0' : DataW.trod enc Tryd.prog W base spare held n 22 [c] = some y0 := by simpa [Value.cells] using h0
    obtain ⟨a, cap, is, rfl, r1, r2, r3⟩ := open_code h0'
    exact ⟨a, cap, is, rfl, r1, r2, r3⟩
end

/-- The table's rows, as the list has them. -/
theorem row_of (o : Nat) (ho : o < 16) : ∃ L : List (DataW Unit), (Rows.laid_loop_example_kilntrace_impl_opKinds : DataW Unit) = .agg L ∧ L.length = 16 ∧ L[o]? = some (.agg [.lit (.string (words.getD o [])), .lit (.int .i64 (kindOf o)), .lit (.int .i64 (takesOf.getD o 0))]) := by
  refine ⟨_, rfl, rfl, ?_⟩
  rcases (show o = 0 ∨ o = 1 ∨ o = 2 ∨ o = 3 ∨ o = 4 ∨ o = 5 ∨ o = 6 ∨ o = 7 ∨ o = 8 ∨ o = 9 ∨ o = 10 ∨ o = 11 ∨ o = 12 ∨ o = 13 ∨ o = 14 ∨ o = 15 from by omega) with rfl | rfl | rfl | rfl | rfl | rfl | rfl | rfl | rfl | rfl | rfl | rfl | rfl | rfl | rfl | rfl <;> rfl

theorem tab_of_laid {W : World} (h : laidMetH Tryd.prog [("loop.example/kilntrace/impl.opKinds", Rows.laid_loop_example_kilntrace_impl_opKinds)] W) : Tab W := by
  rw [MakeChecks.laidMetH_plain _ _ _ (by kernel_rfl)] at h
  obtain ⟨ps, ⟨g, t, cs, fuel, p, q, hg, ht, hv, hd, _, _⟩, _, _⟩ := h
  obtain rfl := Option.some.inj ((show Tryd.prog.globalNamed "loop.example/kilntrace/impl.opKinds" = some 0 by kernel_rfl).symm.trans hg)
  obtain rfl := Option.some.inj ((show (Tryd.prog.globals[0]?).map (·.type) = some 117 by kernel_rfl).symm.trans ht)
  obtain ⟨xs, m, _, ex, hlen, hl, hel⟩ := DataW.trod_array Tryd.underlying117 hd
  intro o ho
  obtain ⟨L, hL, hLl, hLo⟩ := row_of o ho
  have e1 : L = xs.map (·.1) := by
    have := (Prod.mk.inj ex).1
    rw [hL] at this
    exact DataW.agg.inj this
  have hxo : o < xs.length := by omega
  have k := hel o ho
  rw [Tryd.cells116, List.getElem?_eq_getElem hxo] at k
  have e2 : xs[o].1 = .agg [.lit (.string (words.getD o [])), .lit (.int .i64 (kindOf o)), .lit (.int .i64 (takesOf.getD o 0))] := by
    rw [e1, List.getElem?_map, List.getElem?_eq_getElem hxo] at hLo
    simpa using hLo
  obtain ⟨y0, y1, y2, n, he, hl3, h0, h1, h2⟩ := trod_struct3 Tryd.underlying116 k
  rw [Tryd.cells116] at hl3
  simp only [Tryd.cells3, Tryd.cells9] at h0 h1 h2
  have e3 : [y0.1, y1.1, y2.1] = [.lit (.string (words.getD o [])), .lit (.int .i64 (kindOf o)), .lit (.int .i64 (takesOf.getD o 0))] := by
    have : xs[o].1 = .agg [y0.1, y1.1, y2.1] := by rw [he]
    rw [e2] at this
    exact (DataW.agg.inj this).symm
  simp only [List.cons.injEq, and_true] at e3
  obtain ⟨a0, a1, a2⟩ := e3
  obtain ⟨s, c0, d0, _⟩ := DataW.trod_string Tryd.underlying9 h0
  obtain ⟨z1, c1, d1, _⟩ := DataW.trod_int Tryd.underlying3 h1
  obtain ⟨z2, c2, d2, _⟩ := DataW.trod_int Tryd.underlying3 h2
  have hcell := fun j => World.var?_cell (show Tryd.prog.globalNamed "loop.example/kilntrace/impl.opKinds" = some 0 by kernel_rfl) hv j
  rw [d0] at a0; rw [d1] at a1; rw [d2] at a2
  simp only [DataW.lit.injEq, Lit.string.injEq, Lit.int.injEq, true_and] at a0 a1 a2
  have hs : s = wordB o := bytes_inj (by rw [a0]; simp [wordB])
  have f : ∀ j, j < 3 → cs[o * 3 + j]? = (((cs.toList.drop (o * 3)).take 3))[j]? := by
    intro j hj
    rw [List.getElem?_take, if_pos hj, List.getElem?_drop, Array.getElem?_toList]
  have g0 : cs[o * 3 + 0]? = some (.string s) := by
    rw [f 0 (by omega)]
    have := congrArg (fun l => l[0]?) c0
    simpa [List.getElem?_take, List.getElem?_drop] using this
  have g1 : cs[o * 3 + 1]? = some (.int .i64 z1) := by
    rw [f 1 (by omega)]
    have := congrArg (fun l => l[0]?) c1
    simpa [List.getElem?_take, List.getElem?_drop] using this
  have g2 : cs[o * 3 + 2]? = some (.int .i64 z2) := by
    rw [f 2 (by omega)]
    have := congrArg (fun l => l[0]?) c2
    simpa [List.getElem?_take, List.getElem?_drop] using this
  exact ⟨by rw [hcell]; simpa [hs] using g0, by rw [hcell, g1, a1], by rw [hcell, g2, a2]⟩

theorem p10_of_laid {W : World} (h : laidMetH Tryd.prog [("internal/strconv.uint64pow10", Rows.laid_internal_strconv_uint64pow10)] W) : P10 W := by
  rw [MakeChecks.laidMetH_plain _ _ _ (by kernel_rfl)] at h
  exact Lib.tabIs_of_head (g := 1) (t := 158) (e := 152) (n := 20) (by kernel_rfl) (by kernel_rfl) (by kernel_rfl) (by kernel_rfl) (by kernel_rfl) (by kernel_rfl) h

theorem laid_tab : Rows.fnExactPrintProgramRow.laid.filter (fun x => x.1 == "loop.example/kilntrace/impl.opKinds") = [("loop.example/kilntrace/impl.opKinds", Rows.laid_loop_example_kilntrace_impl_opKinds)] := rfl
theorem laid_p10 : Rows.fnExactPrintProgramRow.laid.filter (fun x => x.1 == "internal/strconv.uint64pow10") = [("internal/strconv.uint64pow10", Rows.laid_internal_strconv_uint64pow10)] := rfl
theorem tabs_of_laid {W : World} (h : laidMetH Tryd.prog Rows.fnExactPrintProgramRow.laid W) : Tab W ∧ P10 W :=
  ⟨tab_of_laid (laid_tab ▸ h.filter _), p10_of_laid (laid_p10 ▸ h.filter _)⟩

end Go.Proofs.YtmeojnaoljgieabDoor
