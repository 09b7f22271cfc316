import Derived.Test.YtikdgmmloiegjaaGreatDoorRows
import Derived.Test.YtikdgmmloiegjaaGreatDoorPsU
import Derived.ProofKit
import Derived.OpenShut
import Derived.OpenVars
import Derived.Deep.Slices
import Derived.Deep.Strs
import Derived.MakeChecks
import Derived.LaidSub
import Derived.LaidHandle
import Derived.Lib.LaidTab
import Derived.Stop.LaidErr
namespace Go.Proofs.YtikdgmmloiegjaaGreatDoor
open Go.ChangeShapes Go.WideShapes Go.ChangeAt Go.RowKit Go.Deep
set_option linter.unusedVariables false

theorem Tryz.cells3 : Tryz.prog.cellsOf 3 = 1 := by kernel_rfl
theorem Tryz.cells9 : Tryz.prog.cellsOf 9 = 1 := by kernel_rfl
theorem Tryz.cells145 : Tryz.prog.cellsOf 145 = 3 := by kernel_rfl
theorem Tryz.cells152 : Tryz.prog.cellsOf 152 = 1 := by kernel_rfl

/-- The table's rows, as the list has them. -/
theorem row_of (o : Nat) (ho : o < 16) : ∃ L : List (DataW Unit), (Rows.laid_loop_example_kilntrace_impl_opKinds : DataW Unit) = .agg L ∧ L.length = 16 ∧ L[o]? = some (.agg [.lit (.string (words.getD o [])), .lit (.int .i64 (kindOf o)), .lit (.int .i64 (takesOf.getD o 0))]) := by
  refine ⟨_, rfl, rfl, ?_⟩
  rcases (show o = 0 ∨ o = 1 ∨ o = 2 ∨ o = 3 ∨ o = 4 ∨ o = 5 ∨ o = 6 ∨ o = 7 ∨ o = 8 ∨ o = 9 ∨ o = 10 ∨ o = 11 ∨ o = 12 ∨ o = 13 ∨ o = 14 ∨ o = 15 from by omega) with rfl | rfl | rfl | rfl | rfl | rfl | rfl | rfl | rfl | rfl | rfl | rfl | rfl | rfl | rfl | rfl <;> rfl

theorem tab_of_laid {W : World} (h : laidMetH Tryz.prog [("loop.example/kilntrace/impl.opKinds", Rows.laid_loop_example_kilntrace_impl_opKinds)] W) : Tab W := by
  rw [MakeChecks.laidMetH_plain _ _ _ (by kernel_rfl)] at h
  obtain ⟨ps, ⟨g, t, cs, fuel, p, q, hg, ht, hv, hd, _, _⟩, _, _⟩ := h
  obtain rfl := Option.some.inj ((show Tryz.prog.globalNamed "loop.example/kilntrace/impl.opKinds" = some 5 by kernel_rfl).symm.trans hg)
  obtain rfl := Option.some.inj ((show (Tryz.prog.globals[5]?).map (·.type) = some 146 by kernel_rfl).symm.trans ht)
  obtain ⟨xs, m, _, ex, hlen, hl, hel⟩ := DataW.trod_array Tryz.underlying146 hd
  intro o ho
  obtain ⟨L, hL, hLl, hLo⟩ := row_of o ho
  have e1 : L = xs.map (·.1) := by
    have := (Prod.mk.inj ex).1
    rw [hL] at this
    exact DataW.agg.inj this
  have hxo : o < xs.length := by omega
  have k := hel o ho
  rw [Tryz.cells145, List.getElem?_eq_getElem hxo] at k
  have e2 : xs[o].1 = .agg [.lit (.string (words.getD o [])), .lit (.int .i64 (kindOf o)), .lit (.int .i64 (takesOf.getD o 0))] := by
    rw [e1, List.getElem?_map, List.getElem?_eq_getElem hxo] at hLo
    simpa using hLo
  obtain ⟨y0, y1, y2, n, he, hl3, h0, h1, h2⟩ := trod_struct3 Tryz.underlying145 k
  rw [Tryz.cells145] at hl3
  simp only [Tryz.cells3, Tryz.cells9] at h0 h1 h2
  have e3 : [y0.1, y1.1, y2.1] = [.lit (.string (words.getD o [])), .lit (.int .i64 (kindOf o)), .lit (.int .i64 (takesOf.getD o 0))] := by
    have : xs[o].1 = .agg [y0.1, y1.1, y2.1] := by rw [he]
    rw [e2] at this
    exact (DataW.agg.inj this).symm
  simp only [List.cons.injEq, and_true] at e3
  obtain ⟨a0, a1, a2⟩ := e3
  obtain ⟨s, c0, d0, _⟩ := DataW.trod_string Tryz.underlying9 h0
  obtain ⟨z1, c1, d1, _⟩ := DataW.trod_int Tryz.underlying3 h1
  obtain ⟨z2, c2, d2, _⟩ := DataW.trod_int Tryz.underlying3 h2
  have hcell := fun j => World.var?_cell (show Tryz.prog.globalNamed "loop.example/kilntrace/impl.opKinds" = some 5 by kernel_rfl) hv j
  rw [d0] at a0; rw [d1] at a1; rw [d2] at a2
  simp only [DataW.lit.injEq, Lit.string.injEq, Lit.int.injEq, true_and] at a0 a1 a2
  have hs : s = wordB o := bytes_inj (by rw [a0]; simp [wordB])
  have f : ∀ j, j < 3 → cs[o * 3 + j]? = (((cs.toList.drop (o * 3)).take 3))[j]? := by
    intro j hj
    rw [List.getElem?_take, if_pos hj, List.getElem?_drop, Array.getElem?_toList]
  have g0 : cs[o * 3 + 0]? = some (.string s) := by
    rw [f 0 (by omega)]
    have := congrArg (fun l => l[0]?) c0
    simpa [List.getElem?_take, List.getElem?_drop] using this
  have g1 : cs[o * 3 + 1]? = some (.int .i64 z1) := by
    rw [f 1 (by omega)]
    have := congrArg (fun l => l[0]?) c1
    simpa [List.getElem?_take, List.getElem?_drop] using this
  have g2 : cs[o * 3 + 2]? = some (.int .i64 z2) := by
    rw [f 2 (by omega)]
    have := congrArg (fun l => l[0]?) c2
    simpa [List.getElem?_take, List.getElem?_drop] using this
  exact ⟨by rw [hcell]; simpa [hs] using g0, by rw [hcell, g1, a1], by rw [hcell, g2, a2]⟩

theorem p10_of_laid {W : World} (h : laidMetH Tryz.prog [("internal/strconv.uint64pow10", Rows.laid_internal_strconv_uint64pow10)] W) : P10 W := by
  rw [MakeChecks.laidMetH_plain _ _ _ (by kernel_rfl)] at h
  exact Lib.tabIs_of_head (g := 6) (t := 154) (e := 96) (n := 20) (by kernel_rfl) (by kernel_rfl) (by kernel_rfl) (by kernel_rfl) (by kernel_rfl) (by kernel_rfl) h



theorem Tryz.star : "*" ++ "errors.errorString" = "*errors.errorString" := by decide
theorem Tryz.row150 (u : TypeId) (h : Tryz.prog.typeName? 3 u = some "*errors.errorString") : u = 150 :=
  typeName_ptr_named (nm := "errors.errorString") (by rw [Tryz.star]; kernel_rfl) (by kernel_rfl) (by decide) u (by rw [Tryz.star]; exact h)
theorem sentinel_of {n : String} {g : Nat} {text : List UInt8} {W : World} (h : laidMetH Tryz.prog [(n, .iface "*errors.errorString" (.ptr (.agg [.lit (.string text)])))] W) (hp : (([(n, .iface "*errors.errorString" (.ptr (.agg [.lit (.string text)])))] : List (String × DataW Unit)).all fun x => x.2.handleName?.isNone) = true)
    (hg : Tryz.prog.globalNamed n = some g) (ht : (Tryz.prog.globals[g]?).map (·.type) = some 66) : ∃ a, W.cell? ⟨g, 0, none⟩ = some (.iface 150 (.pointer (some a))) := by
  rw [MakeChecks.laidMetH_plain _ _ _ hp] at h
  obtain ⟨a, s, hv, _⟩ := laid_sentinel h hg ht Tryz.underlying66 Tryz.row150 Tryz.underlying150 Tryz.underlying152 rfl rfl Tryz.underlying9 Tryz.cells152 Tryz.cells9
  exact ⟨a, by simpa using World.var?_cell hg hv 0⟩
theorem laid_tab : Rows.fnExactParseStoreRow.laid.filter (fun x => x.1 == "loop.example/kilntrace/impl.opKinds") = [("loop.example/kilntrace/impl.opKinds", Rows.laid_loop_example_kilntrace_impl_opKinds)] := rfl
theorem laid_p10 : Rows.fnExactParseStoreRow.laid.filter (fun x => x.1 == "internal/strconv.uint64pow10") = [("internal/strconv.uint64pow10", Rows.laid_internal_strconv_uint64pow10)] := rfl
theorem laid_syn : Rows.fnExactParseStoreRow.laid.filter (fun x => x.1 == "strconv.ErrSyntax") = [("strconv.ErrSyntax", Rows.laid_strconv_ErrSyntax)] := rfl
theorem laid_rng : Rows.fnExactParseStoreRow.laid.filter (fun x => x.1 == "strconv.ErrRange") = [("strconv.ErrRange", Rows.laid_strconv_ErrRange)] := rfl
theorem laid_e4 : Rows.fnExactParseStoreRow.laid.filter (fun x => x.1 == "loop.example/kilntrace/impl.errOperand") = [("loop.example/kilntrace/impl.errOperand", Rows.laid_loop_example_kilntrace_impl_errOperand)] := rfl
theorem laid_e6 : Rows.fnExactParseStoreRow.laid.filter (fun x => x.1 == "loop.example/kilntrace/impl.errWord") = [("loop.example/kilntrace/impl.errWord", Rows.laid_loop_example_kilntrace_impl_errWord)] := rfl
theorem laid_e7 : Rows.fnExactParseStoreRow.laid.filter (fun x => x.1 == "loop.example/kilntrace/impl.errQuotes") = [("loop.example/kilntrace/impl.errQuotes", Rows.laid_loop_example_kilntrace_impl_errQuotes)] := rfl
theorem globT (g : Nat) (h : g = 0 ∨ g = 7 ∨ g = 1 ∨ g = 3 ∨ g = 4) : (Tryz.prog.globals[g]?).map (·.type) = some 66 := by
  rcases h with rfl | rfl | rfl | rfl | rfl <;> kernel_rfl

theorem env_of_laid {W : World} (h : laidMetH Tryz.prog Rows.fnExactParseStoreRow.laid W) (hSh : W.ShapedOpen Tryz.prog) : ∃ p, Env p W := by
  obtain ⟨a0, c0⟩ := sentinel_of (g := 0) (laid_e4 ▸ h.filter _) (by kernel_rfl) (by kernel_rfl) (globT 0 (by omega))
  obtain ⟨a7, c7⟩ := sentinel_of (g := 7) (laid_e6 ▸ h.filter _) (by kernel_rfl) (by kernel_rfl) (globT 7 (by omega))
  obtain ⟨a1, c1⟩ := sentinel_of (g := 1) (laid_e7 ▸ h.filter _) (by kernel_rfl) (by kernel_rfl) (globT 1 (by omega))
  have syn := sentinel_of (g := 3) (laid_syn ▸ h.filter _) (by kernel_rfl) (by kernel_rfl) (globT 3 (by omega))
  have rng := sentinel_of (g := 4) (laid_rng ▸ h.filter _) (by kernel_rfl) (by kernel_rfl) (globT 4 (by omega))
  refine ⟨fun g => if g = 0 then a0 else if g = 7 then a7 else a1, ⟨tab_of_laid (laid_tab ▸ h.filter _), p10_of_laid (laid_p10 ▸ h.filter _), Tryz.laysM145.s1_3 W hSh, ?_, syn, rng⟩⟩
  rintro g (rfl | rfl | rfl)
  · exact c0
  · exact c1
  · exact c7

end Go.Proofs.YtikdgmmloiegjaaGreatDoor
