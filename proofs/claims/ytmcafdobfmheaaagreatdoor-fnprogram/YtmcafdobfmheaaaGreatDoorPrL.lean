/-
  The listed variables opened: the table, the powers of ten, the sentinels, errors.errorType.
-/
import Derived.Test.YtmcafdobfmheaaaGreatDoorRows
import Derived.Test.YtmcafdobfmheaaaGreatDoorLwP
import Derived.ProofKit
import Derived.OpenShut
import Derived.OpenVars
import Derived.Deep.Slices
import Derived.Deep.Strs
import Derived.MakeChecks
import Derived.LaidSub
import Derived.LaidHandle
import Derived.Lib.LaidTab
import Derived.Stop.LaidTwo
namespace Go.Proofs.YtmcafdobfmheaaaGreatDoor
open Go.ChangeShapes Go.WideShapes Go.ChangeAt Go.RowKit Go.Deep
set_option linter.unusedVariables false

theorem Tryz.cells3 : Tryz.prog.cellsOf 3 = 1 := by kernel_rfl
theorem Tryz.cells9 : Tryz.prog.cellsOf 9 = 1 := by kernel_rfl
theorem Tryz.cells76 : Tryz.prog.cellsOf 76 = 3 := by kernel_rfl
theorem Tryz.cells173 : Tryz.prog.cellsOf 173 = 1 := by kernel_rfl

/-- The table's rows, as the list has them. -/
theorem row_of (o : Nat) (ho : o < 16) : ∃ L : List (DataW Unit), (Rows.laid_loop_example_kilntrace_impl_opKinds : DataW Unit) = .agg L ∧ L.length = 16 ∧ L[o]? = some (.agg [.lit (.string (words.getD o [])), .lit (.int .i64 (kindOf o)), .lit (.int .i64 (takesOf.getD o 0))]) := by
  refine ⟨_, rfl, rfl, ?_⟩
  rcases (show o = 0 ∨ o = 1 ∨ o = 2 ∨ o = 3 ∨ o = 4 ∨ o = 5 ∨ o = 6 ∨ o = 7 ∨ o = 8 ∨ o = 9 ∨ o = 10 ∨ o = 11 ∨ o = 12 ∨ o = 13 ∨ o = 14 ∨ o = 15 from by omega) with rfl | rfl | rfl | rfl | rfl | rfl | rfl | rfl | rfl | rfl | rfl | rfl | rfl | rfl | rfl | rfl <;> rfl

theorem tab_of_laid {W : World} (h : laidMetH Tryz.prog [("loop.example/kilntrace/impl.opKinds", Rows.laid_loop_example_kilntrace_impl_opKinds)] W) : Tab W := by
  rw [MakeChecks.laidMetH_plain _ _ _ (by kernel_rfl)] at h
  obtain ⟨ps, ⟨g, t, cs, fuel, p, q, hg, ht, hv, hd, _, _⟩, _, _⟩ := h
  obtain rfl := Option.some.inj ((show Tryz.prog.globalNamed "loop.example/kilntrace/impl.opKinds" = some 0 by kernel_rfl).symm.trans hg)
  obtain rfl := Option.some.inj ((show (Tryz.prog.globals[0]?).map (·.type) = some 77 by kernel_rfl).symm.trans ht)
  obtain ⟨xs, m, _, ex, hlen, hl, hel⟩ := DataW.trod_array Tryz.underlying77 hd
  intro o ho
  obtain ⟨L, hL, hLl, hLo⟩ := row_of o ho
  have e1 : L = xs.map (·.1) := by
    have := (Prod.mk.inj ex).1
    rw [hL] at this
    exact DataW.agg.inj this
  have hxo : o < xs.length := by omega
  have k := hel o ho
  rw [Tryz.cells76, List.getElem?_eq_getElem hxo] at k
  have e2 : xs[o].1 = .agg [.lit (.string (words.getD o [])), .lit (.int .i64 (kindOf o)), .lit (.int .i64 (takesOf.getD o 0))] := by
    rw [e1, List.getElem?_map, List.getElem?_eq_getElem hxo] at hLo
    simpa using hLo
  obtain ⟨y0, y1, y2, n, he, hl3, h0, h1, h2⟩ := trod_struct3 Tryz.underlying76 k
  rw [Tryz.cells76] at hl3
  simp only [Tryz.cells3, Tryz.cells9] at h0 h1 h2
  have e3 : [y0.1, y1.1, y2.1] = [.lit (.string (words.getD o [])), .lit (.int .i64 (kindOf o)), .lit (.int .i64 (takesOf.getD o 0))] := by
    have : xs[o].1 = .agg [y0.1, y1.1, y2.1] := by rw [he]
    rw [e2] at this
    exact (DataW.agg.inj this).symm
  simp only [List.cons.injEq, and_true] at e3
  obtain ⟨a0, a1, a2⟩ := e3
  obtain ⟨s, c0, d0, _⟩ := DataW.trod_string Tryz.underlying9 h0
  obtain ⟨z1, c1, d1, _⟩ := DataW.trod_int Tryz.underlying3 h1
  obtain ⟨z2, c2, d2, _⟩ := DataW.trod_int Tryz.underlying3 h2
  have hcell := fun j => World.var?_cell (show Tryz.prog.globalNamed "loop.example/kilntrace/impl.opKinds" = some 0 by kernel_rfl) hv j
  rw [d0] at a0; rw [d1] at a1; rw [d2] at a2
  simp only [DataW.lit.injEq, Lit.string.injEq, Lit.int.injEq, true_and] at a0 a1 a2
  have hs : s = wordB o := bytes_inj (by rw [a0]; simp [wordB])
  have f : ∀ j, j < 3 → cs[o * 3 + j]? = (((cs.toList.drop (o * 3)).take 3))[j]? := by
    intro j hj
    rw [List.getElem?_take, if_pos hj, List.getElem?_drop, Array.getElem?_toList]
  have g0 : cs[o * 3 + 0]? = some (.string s) := by
    rw [f 0 (by omega)]
    have := congrArg (fun l => l[0]?) c0
    simpa [List.getElem?_take, List.getElem?_drop] using this
  have g1 : cs[o * 3 + 1]? = some (.int .i64 z1) := by
    rw [f 1 (by omega)]
    have := congrArg (fun l => l[0]?) c1
    simpa [List.getElem?_take, List.getElem?_drop] using this
  have g2 : cs[o * 3 + 2]? = some (.int .i64 z2) := by
    rw [f 2 (by omega)]
    have := congrArg (fun l => l[0]?) c2
    simpa [List.getElem?_take, List.getElem?_drop] using this
  exact ⟨by rw [hcell]; simpa [hs] using g0, by rw [hcell, g1, a1], by rw [hcell, g2, a2]⟩

theorem p10_of_laid {W : World} (h : laidMetH Tryz.prog [("internal/strconv.uint64pow10", Rows.laid_internal_strconv_uint64pow10)] W) : P10 W := by
  rw [MakeChecks.laidMetH_plain _ _ _ (by kernel_rfl)] at h
  exact Lib.tabIs_of_head (g := 9) (t := 149) (e := 139) (n := 20) (by kernel_rfl) (by kernel_rfl) (by kernel_rfl) (by kernel_rfl) (by kernel_rfl) (by kernel_rfl) h



theorem Tryz.star : "*" ++ "errors.errorString" = "*errors.errorString" := by decide
theorem Tryz.row171 (u : TypeId) (h : Tryz.prog.typeName? 3 u = some "*errors.errorString") : u = 171 :=
  typeName_ptr_named (nm := "errors.errorString") (by rw [Tryz.star]; kernel_rfl) (by kernel_rfl) (by decide) u (by rw [Tryz.star]; exact h)
theorem sentinel_of {n : String} {g : Nat} {text : List UInt8} {W : World} (h : laidMetH Tryz.prog [(n, .iface "*errors.errorString" (.ptr (.agg [.lit (.string text)])))] W) (hp : (([(n, .iface "*errors.errorString" (.ptr (.agg [.lit (.string text)])))] : List (String × DataW Unit)).all fun x => x.2.handleName?.isNone) = true)
    (hg : Tryz.prog.globalNamed n = some g) (ht : (Tryz.prog.globals[g]?).map (·.type) = some 49) : ∃ a, W.cell? ⟨g, 0, none⟩ = some (.iface 171 (.pointer (some a))) := by
  rw [MakeChecks.laidMetH_plain _ _ _ hp] at h
  obtain ⟨a, s, hv, _⟩ := laid_sentinel h hg ht Tryz.underlying49 Tryz.row171 Tryz.underlying171 Tryz.underlying173 rfl rfl Tryz.underlying9 Tryz.cells173 Tryz.cells9
  exact ⟨a, by simpa using World.var?_cell hg hv 0⟩
theorem handle_of_laid {W : World} (h : laidMetH Tryz.prog [("errors.errorType", Rows.laid_errors_errorType)] W) : W.cell? ⟨5, 0, none⟩ = some (.iface 122 (.agg #[.pointer (some ⟨14, 49, none⟩)])) := by
  have h' : laidMet Tryz.prog [] W ∧ handlesMet Tryz.prog [("errors.errorType", Rows.laid_errors_errorType)] W := h
  obtain ⟨name, u, ty, e1, e2, e3, e4, e5⟩ := h'.2 _ (List.mem_singleton.2 rfl)
  have en : name = [101, 114, 114, 111, 114] := (Option.some.inj e1).symm
  subst en
  obtain rfl := Option.some.inj ((show (Tryz.prog.cutTypes.find? (·.1 == "internal/reflectlite.rtype")).map (·.2) = some 122 by kernel_rfl).symm.trans e2)
  have hm : ty ∈ (List.range Tryz.prog.types.size).filter fun t => Tryz.prog.rowNamed t [101, 114, 114, 111, 114] := List.mem_filter.2 ⟨List.mem_range.2 e3, e4⟩
  rw [show ((List.range Tryz.prog.types.size).filter fun t => Tryz.prog.rowNamed t [101, 114, 114, 111, 114]) = [49] by kernel_rfl] at hm
  obtain rfl := List.mem_singleton.1 hm
  have hh : typeHandle Tryz.prog 49 = .pointer (some ⟨14, 49, none⟩) := by kernel_rfl
  rw [hh] at e5
  simpa using World.var?_cell (show Tryz.prog.globalNamed "errors.errorType" = some 5 by kernel_rfl) e5 0

theorem laid_tab : Rows.fnProgramRow.laid.filter (fun x => x.1 == "loop.example/kilntrace/impl.opKinds") = [("loop.example/kilntrace/impl.opKinds", Rows.laid_loop_example_kilntrace_impl_opKinds)] := rfl
theorem laid_p10 : Rows.fnProgramRow.laid.filter (fun x => x.1 == "internal/strconv.uint64pow10") = [("internal/strconv.uint64pow10", Rows.laid_internal_strconv_uint64pow10)] := rfl
theorem laid_et : Rows.fnProgramRow.laid.filter (fun x => x.1 == "errors.errorType") = [("errors.errorType", Rows.laid_errors_errorType)] := rfl
theorem laid_syn : Rows.fnProgramRow.laid.filter (fun x => x.1 == "strconv.ErrSyntax") = [("strconv.ErrSyntax", Rows.laid_strconv_ErrSyntax)] := rfl
theorem laid_rng : Rows.fnProgramRow.laid.filter (fun x => x.1 == "strconv.ErrRange") = [("strconv.ErrRange", Rows.laid_strconv_ErrRange)] := rfl
theorem laid_e1 : Rows.fnProgramRow.laid.filter (fun x => x.1 == "loop.example/kilntrace/impl.errSize") = [("loop.example/kilntrace/impl.errSize", Rows.laid_loop_example_kilntrace_impl_errSize)] := rfl
theorem laid_e2 : Rows.fnProgramRow.laid.filter (fun x => x.1 == "loop.example/kilntrace/impl.errNewline") = [("loop.example/kilntrace/impl.errNewline", Rows.laid_loop_example_kilntrace_impl_errNewline)] := rfl
theorem laid_e3 : Rows.fnProgramRow.laid.filter (fun x => x.1 == "loop.example/kilntrace/impl.errMany") = [("loop.example/kilntrace/impl.errMany", Rows.laid_loop_example_kilntrace_impl_errMany)] := rfl
theorem laid_e4 : Rows.fnProgramRow.laid.filter (fun x => x.1 == "loop.example/kilntrace/impl.errOperand") = [("loop.example/kilntrace/impl.errOperand", Rows.laid_loop_example_kilntrace_impl_errOperand)] := rfl
theorem laid_e6 : Rows.fnProgramRow.laid.filter (fun x => x.1 == "loop.example/kilntrace/impl.errWord") = [("loop.example/kilntrace/impl.errWord", Rows.laid_loop_example_kilntrace_impl_errWord)] := rfl
theorem laid_e7 : Rows.fnProgramRow.laid.filter (fun x => x.1 == "loop.example/kilntrace/impl.errQuotes") = [("loop.example/kilntrace/impl.errQuotes", Rows.laid_loop_example_kilntrace_impl_errQuotes)] := rfl
theorem laid_two : Rows.fnProgramRow.laid.filter (fun x => x.1 == "loop.example/kilntrace/impl.errSize" || x.1 == "loop.example/kilntrace/impl.errMany") = [("loop.example/kilntrace/impl.errSize", Rows.laid_loop_example_kilntrace_impl_errSize), ("loop.example/kilntrace/impl.errMany", Rows.laid_loop_example_kilntrace_impl_errMany)] := rfl
theorem globT (g : Nat) (h : g = 1 ∨ g = 2 ∨ g = 3 ∨ g = 4 ∨ g = 6 ∨ g = 7 ∨ g = 10 ∨ g = 11) : (Tryz.prog.globals[g]?).map (·.type) = some 49 := by
  rcases h with rfl | rfl | rfl | rfl | rfl | rfl | rfl | rfl <;> kernel_rfl

theorem env_of_laid {W : World} (h : laidMetH Tryz.prog Rows.fnProgramRow.laid W) (hSh : W.ShapedOpen Tryz.prog) : ∃ p, Env p W ∧ Sen p W := by
  have two := laid_two ▸ h.filter (fun x => x.1 == "loop.example/kilntrace/impl.errSize" || x.1 == "loop.example/kilntrace/impl.errMany")
  rw [MakeChecks.laidMetH_plain _ _ _ (by kernel_rfl)] at two
  obtain ⟨a1, a3, s1, s3, x1, x3, t1, t3, hv1, hv3, _, _, _, _, _, _, hne, hb1, hb3⟩ := laid_sentinels2 two (show Tryz.prog.globalNamed "loop.example/kilntrace/impl.errSize" = some 1 by kernel_rfl) (globT 1 (by omega)) (show Tryz.prog.globalNamed "loop.example/kilntrace/impl.errMany" = some 3 by kernel_rfl) (globT 3 (by omega)) Tryz.underlying49 Tryz.row171 Tryz.underlying171 Tryz.underlying173 rfl rfl Tryz.underlying9 Tryz.cells173 Tryz.cells9
  obtain ⟨a2, c2⟩ := sentinel_of (g := 2) (laid_e2 ▸ h.filter _) (by kernel_rfl) (by kernel_rfl) (globT 2 (by omega))
  obtain ⟨a4, c4⟩ := sentinel_of (g := 4) (laid_e4 ▸ h.filter _) (by kernel_rfl) (by kernel_rfl) (globT 4 (by omega))
  obtain ⟨a6, c6⟩ := sentinel_of (g := 6) (laid_e6 ▸ h.filter _) (by kernel_rfl) (by kernel_rfl) (globT 6 (by omega))
  obtain ⟨a7, c7⟩ := sentinel_of (g := 7) (laid_e7 ▸ h.filter _) (by kernel_rfl) (by kernel_rfl) (globT 7 (by omega))
  have syn := sentinel_of (g := 10) (laid_syn ▸ h.filter _) (by kernel_rfl) (by kernel_rfl) (globT 10 (by omega))
  have rng := sentinel_of (g := 11) (laid_rng ▸ h.filter _) (by kernel_rfl) (by kernel_rfl) (globT 11 (by omega))
  have c1 : W.cell? ⟨1, 0, none⟩ = some (.iface 171 (.pointer (some a1))) := by simpa using World.var?_cell (show Tryz.prog.globalNamed "loop.example/kilntrace/impl.errSize" = some 1 by kernel_rfl) hv1 0
  have c3 : W.cell? ⟨3, 0, none⟩ = some (.iface 171 (.pointer (some a3))) := by simpa using World.var?_cell (show Tryz.prog.globalNamed "loop.example/kilntrace/impl.errMany" = some 3 by kernel_rfl) hv3 0
  refine ⟨fun g => if g = 1 then a1 else if g = 2 then a2 else if g = 3 then a3 else if g = 4 then a4 else if g = 6 then a6 else a7, ⟨tab_of_laid (laid_tab ▸ h.filter _), p10_of_laid (laid_p10 ▸ h.filter _), Tryz.laysM145.s1_3 W hSh, ?_, syn, rng, handle_of_laid (laid_et ▸ h.filter _)⟩, ⟨hne, ⟨x1, t1, hb1⟩, ⟨x3, t3, hb3⟩⟩⟩
  rintro g (rfl | rfl | rfl | rfl | rfl | rfl)
  · exact c1
  · exact c2
  · exact c3
  · exact c4
  · exact c6
  · exact c7

end Go.Proofs.YtmcafdobfmheaaaGreatDoor
