import Derived.Test.YtbbfboikigmghaaGreatDoorRows
import Derived.Test.YtbbfboikigmghaaGreatDoorValid
import Derived.ProofKit
import Derived.OpenShut
import Derived.Deep.Slices
import Derived.Deep.Strs
import Derived.OpenVars
import Derived.MakeChecks
import Derived.LaidSub
import Derived.Lib.LaidTab
import Derived.Lib.AppendIntMem
namespace Go.Proofs.YtbbfboikigmghaaGreatDoor
open Go.RowKit
set_option linter.unusedVariables false
set_option maxHeartbeats 32000000
set_option maxRecDepth 100000
section
open Go.ChangeShapes Go.WideShapes Go.ChangeAt Go.Deep
theorem Tryz.cells69 : Tryz.prog.cellsOf 69 = 1 := by kernel_rfl
theorem Tryz.cells67 : Tryz.prog.cellsOf 67 = 1 := by kernel_rfl
theorem Tryz.cells180 : Tryz.prog.cellsOf 180 = 3 := by kernel_rfl
theorem Tryz.cells3 : Tryz.prog.cellsOf 3 = 1 := by kernel_rfl
theorem Tryz.cells9 : Tryz.prog.cellsOf 9 = 1 := by kernel_rfl
theorem Tryz.cells185 : Tryz.prog.cellsOf 185 = 3 := by kernel_rfl
section
variable {H : Type} {enc : TypeId × Value -> H} {W : World} {base : Nat} {spare : Nat -> Bool} {held : Bool}
/-- An instruction's three cells. -/
theorem open_ins {fuel : Nat} {cs : List Value} {x : DataW H × List MemPlace} (h : DataW.trod enc Tryz.prog W base spare held fuel 180 cs = some x) :
    ∃ i : I3, cs = [.int .i64 i.op, .string i.text, .int .i64 i.n] /\ i.text.size <= maxLen := by
  obtain ⟨y0, y1, y2, n, _, hl, h0, h1, h2⟩ := trod_struct3 Tryz.underlying180 h
  rw [Tryz.cells180] at hl
  simp only [Tryz.cells3, Tryz.cells9] at h0 h1 h2
  match cs, hl with
  | [c0, c1, c2], _ =>
    obtain ⟨op, e0, _, _⟩ := DataW.trod_int Tryz.underlying3 h0
    obtain ⟨t, e1, _, ht⟩ := DataW.trod_string Tryz.underlying9 h1
    obtain ⟨m, e2, _, _⟩ := DataW.trod_int Tryz.underlying3 h2
    simp at e0 e1 e2
    subst e0; subst e1; subst e2
    exact ⟨⟨op, t, m⟩, rfl, ht⟩
theorem open_code {fuel : Nat} {c : Value} {x : DataW H × List MemPlace} (h : DataW.trod enc Tryz.prog W base spare held fuel 67 [c] = some x) :
    ∃ (a : Option Addr) (cap : Nat) (is : List I3), c = .slice a is.length cap /\ Row3 W a is /\ is.length <= maxLen /\ ∀ i, (ix is i).text.size <= maxLen := by
  rcases open_slice Tryz.underlying67 h with ⟨hcs, _⟩ | ⟨a, len, cap, m, n, D, Pl, hcs, _, hl, hm, hmm, _, hx⟩
  · simp at hcs
    subst hcs
    exact ⟨none, 0, [], rfl, fun i hi => by simp at hi, by simp, fun i => by simp [ix, i0]⟩
  · simp at hcs
    subst hcs
    rw [Tryz.cells180] at hx
    have hlm : len <= m := by rw [hmm]; split <;> omega
    have hex : ∀ i, i < len -> ∃ t : I3, W.cell? ((a.add (i * 3)).add 0) = some (.int .i64 t.op) /\ W.cell? ((a.add (i * 3)).add 1) = some (.string t.text) /\ W.cell? ((a.add (i * 3)).add 2) = some (.int .i64 t.n) /\ t.text.size <= maxLen := by
      intro i hi
      obtain ⟨cs', hc, ht⟩ := hx i (by omega)
      obtain ⟨t, rfl, hts⟩ := open_ins ht
      have hs := World.cells?_some hc
      exact ⟨t, by simpa using hs.2.2 0 (by omega), by simpa using hs.2.2 1 (by omega), by simpa using hs.2.2 2 (by omega), hts⟩
    let f : Nat -> I3 := fun i => if h : i < len then Classical.choose (hex i h) else i0
    have hf : ∀ i, (h : i < len) -> W.cell? ((a.add (i * 3)).add 0) = some (.int .i64 (f i).op) /\ W.cell? ((a.add (i * 3)).add 1) = some (.string (f i).text) /\ W.cell? ((a.add (i * 3)).add 2) = some (.int .i64 (f i).n) /\ (f i).text.size <= maxLen := by
      intro i h
      have : f i = Classical.choose (hex i h) := by simp only [f, dif_pos h]
      rw [this]; exact Classical.choose_spec (hex i h)
    have hix : ∀ i, i < len -> ix ((List.range len).map f) i = f i := by
      intro i h
      simp [ix, List.getD_eq_getElem?_getD, h]
    refine ⟨some a, cap, (List.range len).map f, by simp, ?_, by simp; omega, ?_⟩
    · intro i hi
      have hi' : i < len := by simpa using hi
      obtain ⟨h1, h2, h3, _⟩ := hf i hi'
      rw [hix i hi']
      obtain ⟨b, off, spot⟩ := a
      have hspot : spot = none := by
        have := World.cell?_spot (hf 0 (by omega)).1
        simpa [Addr.add] using this
      subst hspot
      simp only [Addr.add_lit] at h1 h2 h3
      exact ⟨b, off, rfl, h1, h2, h3⟩
    · intro i
      by_cases h : i < len
      · rw [hix i h]; exact (hf i h).2.2.2
      · simp [ix, List.getD_eq_getElem?_getD, h, i0]
end
/-- The table's rows, as the list has them. -/
theorem row_of (o : Nat) (ho : o < 16) : ∃ L : List (DataW Unit), (Rows.laid_loop_example_kilntrace_impl_opKinds : DataW Unit) = .agg L /\ L.length = 16 /\ L[o]? = some (.agg [.lit (.string (words.getD o [])), .lit (.int .i64 (kindOf o)), .lit (.int .i64 (takesOf.getD o 0))]) := by
  refine ⟨_, rfl, rfl, ?_⟩
  rcases (show o = 0 \/ o = 1 \/ o = 2 \/ o = 3 \/ o = 4 \/ o = 5 \/ o = 6 \/ o = 7 \/ o = 8 \/ o = 9 \/ o = 10 \/ o = 11 \/ o = 12 \/ o = 13 \/ o = 14 \/ o = 15 from by omega) with rfl | rfl | rfl | rfl | rfl | rfl | rfl | rfl | rfl | rfl | rfl | rfl | rfl | rfl | rfl | rfl <;> rfl
theorem tab_of_laid {W : World} (h : laidMetH Tryz.prog [("loop.example/kilntrace/impl.opKinds", Rows.laid_loop_example_kilntrace_impl_opKinds)] W) : Tab W := by
  rw [MakeChecks.laidMetH_plain _ _ _ (by kernel_rfl)] at h
  obtain ⟨ps, ⟨g, t, cs, fuel, p, q, hg, ht, hv, hd, _, _⟩, _, _⟩ := h
  obtain rfl := Option.some.inj ((show Tryz.prog.globalNamed "loop.example/kilntrace/impl.opKinds" = some 0 by kernel_rfl).symm.trans hg)
  obtain rfl := Option.some.inj ((show (Tryz.prog.globals[0]?).map (·.type) = some 186 by kernel_rfl).symm.trans ht)
  obtain ⟨xs, m, _, ex, hlen, hl, hel⟩ := DataW.trod_array Tryz.underlying186 hd
  intro o ho
  obtain ⟨L, hL, hLl, hLo⟩ := row_of o ho
  have e1 : L = xs.map (·.1) := by
    have := (Prod.mk.inj ex).1
    rw [hL] at this
    exact DataW.agg.inj this
  have hxo : o < xs.length := by omega
  have k := hel o ho
  rw [Tryz.cells185, List.getElem?_eq_getElem hxo] at k
  have e2 : xs[o].1 = .agg [.lit (.string (words.getD o [])), .lit (.int .i64 (kindOf o)), .lit (.int .i64 (takesOf.getD o 0))] := by
    rw [e1, List.getElem?_map, List.getElem?_eq_getElem hxo] at hLo
    simpa using hLo
  obtain ⟨y0, y1, y2, n, he, hl3, h0, h1, h2⟩ := trod_struct3 Tryz.underlying185 k
  rw [Tryz.cells185] at hl3
  simp only [Tryz.cells3, Tryz.cells9] at h0 h1 h2
  have e3 : [y0.1, y1.1, y2.1] = [.lit (.string (words.getD o [])), .lit (.int .i64 (kindOf o)), .lit (.int .i64 (takesOf.getD o 0))] := by
    have : xs[o].1 = .agg [y0.1, y1.1, y2.1] := by rw [he]
    rw [e2] at this
    exact (DataW.agg.inj this).symm
  simp only [List.cons.injEq, and_true] at e3
  obtain ⟨a0, a1, a2⟩ := e3
  obtain ⟨s, c0, d0, _⟩ := DataW.trod_string Tryz.underlying9 h0
  obtain ⟨z1, c1, d1, _⟩ := DataW.trod_int Tryz.underlying3 h1
  obtain ⟨z2, c2, d2, _⟩ := DataW.trod_int Tryz.underlying3 h2
  have hcell := fun j => World.var?_cell (show Tryz.prog.globalNamed "loop.example/kilntrace/impl.opKinds" = some 0 by kernel_rfl) hv j
  rw [d0] at a0; rw [d1] at a1; rw [d2] at a2
  simp only [DataW.lit.injEq, Lit.string.injEq, Lit.int.injEq, true_and] at a0 a1 a2
  have hs : s = wordB o := bytes_inj (by rw [a0]; simp [wordB])
  have f : ∀ j, j < 3 -> cs[o * 3 + j]? = (((cs.toList.drop (o * 3)).take 3))[j]? := by
    intro j hj
    rw [List.getElem?_take, if_pos hj, List.getElem?_drop, Array.getElem?_toList]
  have g0 : cs[o * 3 + 0]? = some (.string s) := by
    rw [f 0 (by omega)]
    have := congrArg (fun l => l[0]?) c0
    simpa [List.getElem?_take, List.getElem?_drop] using this
  have g1 : cs[o * 3 + 1]? = some (.int .i64 z1) := by
    rw [f 1 (by omega)]
    have := congrArg (fun l => l[0]?) c1
    simpa [List.getElem?_take, List.getElem?_drop] using this
  have g2 : cs[o * 3 + 2]? = some (.int .i64 z2) := by
    rw [f 2 (by omega)]
    have := congrArg (fun l => l[0]?) c2
    simpa [List.getElem?_take, List.getElem?_drop] using this
  exact ⟨by rw [hcell]; simpa [hs] using g0, by rw [hcell, g1, a1], by rw [hcell, g2, a2]⟩
end
structure G3 where
  name : ByteArray
  ask : Bool
  sum : ByteArray
def g00 : G3 := ⟨ByteArray.empty, false, ByteArray.empty⟩
def gx (is : List G3) (i : Nat) : G3 := is.getD i g00
def FilledG (is : List G3) (k : Nat) (xs : List Value) : Prop :=
  ∀ i, i < k -> xs[i * 3]? = some (.string (gx is i).name) /\ xs[i * 3 + 1]? = some (.bool (gx is i).ask) /\ xs[i * 3 + 2]? = some (.string (gx is i).sum)
theorem cell_of_length3 {w : World} {B g n cap j T : Nat} {xs : List Value} (h : w.ownsRow B T 3 (.slice (some ⟨g, 0, none⟩) n cap) n xs) (hj : j < n * 3) : ∃ v, w.cell? ⟨g, j, none⟩ = some v := by
  have hl := h.1
  exact ⟨xs[j]'(by omega), by rw [h.cellAt j hj]; exact List.getElem?_eq_getElem _⟩
theorem ext_succ {P : Nat -> Prop} {k : Nat} (h : ∀ i, i < k -> P i) (hk : P k) : ∀ i, i < k + 1 -> P i := by
  intro i hi
  rcases Nat.lt_or_ge i k with h1 | h1
  · exact h i h1
  · obtain rfl : i = k := by omega
    exact hk
theorem bt {w a b : World} (h : Below w.heap.size w a) (k : Below a.heap.size a b) : Below w.heap.size w b := h.trans (k.mono h.size)
theorem Tryz.info174 : (Tryz.prog.info? 174).map (fun i => (i.zero, i.size, i.bytes)) = some (some (.agg #[.string ByteArray.empty, .bool false, .string ByteArray.empty]), 3, 40) := by kernel_rfl
theorem szInsS_left (a : Option Addr) (cap : Nat) (is : List I3) (lft : Int) (w : World) (hf0 : 0 <= lft) (hf1 : lft <= 1048576) (hc : Row3 w a is) (hl : is.length <= maxLen) (hs : ∀ i, (ix is i).text.size <= maxLen) :
    Calls Tryz.prog 82 #[.slice a is.length cap, .int .i64 lft] w fun e w' => Below w.heap.size w w' /\ ∃ r : Int, e = .returned (.int .i64 r) /\ (r < 0 \/ ((is.length : Int) <= lft /\ 0 <= r /\ r <= lft)) := by
  unfold maxLen at hl hs
  by_cases h0 : (is.length : Int) <= lft
  · go_enter Tryz.func82, Tryz.ntmps82
    go_wp2
    go_loopw [1, 5] (fun l i wr => ∃ k : Nat, ∃ q : Int, k <= is.length /\ i = .int .i64 k /\ l = .int .i64 q /\ 0 <= q /\ q <= lft /\ Below w.heap.size w wr) (fun _ i _ => is.length - (intOf i).toNat)
    case atStart => exact ⟨0, _, Nat.zero_le _, rfl, rfl, by omega, by omega, Below.refl _ _⟩
    case round =>
      obtain ⟨k, q, hk, rfl, rfl, hq0, hq1, hbr⟩ := hrel
      by_cases hlt : k < is.length
      · obtain ⟨b, off, rfl, c1, c2, c3⟩ := (hc.below hbr) k hlt
        have hsk := hs k
        clear hs hc
        generalize ix is k = i at *
        go_wp2_with fail
        refine (szIns_any i _ _ (by omega) (by omega) hsk).mono ?_
        rintro e w1 ⟨hb1, ⟨hneg, rfl⟩ | ⟨hpos, rfl⟩⟩
        · go_wp2
          go_ret
          exact ⟨hbr.trans (hb1.mono hbr.size), -1, rfl, by omega⟩
        · go_wp2
          go_roundw
          case rel => exact ⟨k + 1, _, by omega, by go_num, rfl, by omega, by omega, hbr.trans (hb1.mono hbr.size)⟩
          case measure => simp [intOf]; omega
      · go_wp2
        go_ret
        exact ⟨hbr, _, rfl, by omega⟩
  · go_enter Tryz.func82, Tryz.ntmps82
    go_wp2
    go_ret
    exact ⟨Below.refl _ _, -1, rfl, by omega⟩
theorem szProgram_left (a : Option Addr) (cap : Nat) (is : List I3) (lft : Int) (w : World) (hf0 : 0 <= lft) (hf1 : lft <= 1048576) (hc : Row3 w a is) (hl : is.length <= maxLen) (hs : ∀ i, (ix is i).text.size <= maxLen) :
    Calls Tryz.prog 63 #[.agg #[.slice a is.length cap], .int .i64 lft] w fun e w' => Below w.heap.size w w' /\ ∃ r : Int, e = .returned (.int .i64 r) /\ (r < 0 \/ ((is.length : Int) <= lft /\ 0 <= r /\ r <= lft)) := by
  have hb0 : Below w.heap.size w (w.alloc (.cells #[.slice a is.length cap] 69)) := (Below.refl _ _).alloc (Nat.le_refl _) _
  go_enter Tryz.func63, Tryz.ntmps63
  go_wp2_with fail
  refine (szInsS_left a cap is lft _ hf0 hf1 (hc.below hb0) hl hs).mono ?_
  rintro e w1 ⟨hb1, r, rfl, hr⟩
  have hB1 := bt hb0 hb1
  clear hb0 hb1
  go_wp2
  all_goals go_ret
  · exact ⟨hB1, -1, rfl, by omega⟩
  · exact ⟨hB1, r, rfl, by omega⟩
structure S2 where
  name : ByteArray
  text : ByteArray
def sx (is : List S2) (i : Nat) : S2 := is.getD i ⟨ByteArray.empty, ByteArray.empty⟩
structure T2 where
  name : ByteArray
  code : List I3
def tx (is : List T2) (i : Nat) : T2 := is.getD i ⟨ByteArray.empty, []⟩
def RowS (w : World) (a : Option Addr) (is : List S2) : Prop :=
  ∀ i, i < is.length -> ∃ b off, a = some ⟨b, off, none⟩ /\ w.cell? ⟨b, off + i * 2, none⟩ = some (.string (sx is i).name) /\ w.cell? ⟨b, off + i * 2 + 1, none⟩ = some (.string (sx is i).text)
def RowT (w : World) (a : Option Addr) (is : List T2) : Prop :=
  ∀ i, i < is.length -> ∃ b off, a = some ⟨b, off, none⟩ /\ w.cell? ⟨b, off + i * 2, none⟩ = some (.string (tx is i).name) /\ ∃ a' cap', w.cell? ⟨b, off + i * 2 + 1, none⟩ = some (.slice a' (tx is i).code.length cap') /\ Row3 w a' (tx is i).code
theorem RowS.below {w w' : World} {a : Option Addr} {is : List S2} (h : RowS w a is) (hb : Below w.heap.size w w') : RowS w' a is := by
  intro i hi
  obtain ⟨b, off, ha, h1, h2⟩ := h i hi
  exact ⟨b, off, ha, cell_below hb h1, cell_below hb h2⟩
theorem RowT.below {w w' : World} {a : Option Addr} {is : List T2} (h : RowT w a is) (hb : Below w.heap.size w w') : RowT w' a is := by
  intro i hi
  obtain ⟨b, off, ha, h1, a', cap', h2, h3⟩ := h i hi
  exact ⟨b, off, ha, cell_below hb h1, a', cap', cell_below hb h2, h3.below hb⟩
theorem szSource_any (i : S2) (l : Int) (w : World) (h0 : 0 <= l) (h1 : l <= 1048576) (hs : i.name.size <= maxLen) (ht : i.text.size <= maxLen) :
    Calls Tryz.prog 37 #[.agg #[.string i.name, .string i.text], .int .i64 l] w fun e w' => Below w.heap.size w w' /\ ∃ r : Int, e = .returned (.int .i64 r) /\ (r < 0 \/ (0 <= r /\ r <= l)) := by
  unfold maxLen at hs ht
  by_cases h : l - i.name.size < 0
  · go_enter Tryz.func37, Tryz.ntmps37
    go_wp2
    go_ret
    exact ⟨(Below.refl _ _).alloc (Nat.le_refl _) _, _, rfl, by omega⟩
  · by_cases h2 : l - i.name.size - i.text.size < 0
    · go_enter Tryz.func37, Tryz.ntmps37
      go_wp2
      go_ret
      exact ⟨(Below.refl _ _).alloc (Nat.le_refl _) _, _, rfl, by omega⟩
    · go_enter Tryz.func37, Tryz.ntmps37
      go_wp2
      go_ret
      exact ⟨(Below.refl _ _).alloc (Nat.le_refl _) _, _, rfl, by omega⟩
theorem szTarget_any (n : ByteArray) (a : Option Addr) (cap : Nat) (is : List I3) (l : Int) (w : World) (h0 : 0 <= l) (h1 : l <= 1048576) (hn : n.size <= maxLen) (hc : Row3 w a is) (hl : is.length <= maxLen) (hs : ∀ i, (ix is i).text.size <= maxLen) :
    Calls Tryz.prog 38 #[.agg #[.string n, .slice a is.length cap], .int .i64 l] w fun e w' => Below w.heap.size w w' /\ ∃ r : Int, e = .returned (.int .i64 r) /\ (r < 0 \/ (is.length <= 1048576 /\ 0 <= r /\ r <= l)) := by
  have hb0 : Below w.heap.size w (w.alloc (.cells #[.string n, .slice a is.length cap] 78)) := (Below.refl _ _).alloc (Nat.le_refl _) _
  unfold maxLen at hn
  by_cases h : l - n.size < 0
  · go_enter Tryz.func38, Tryz.ntmps38
    go_wp2
    go_ret
    exact ⟨hb0, _, rfl, by omega⟩
  · go_enter Tryz.func38, Tryz.ntmps38
    go_wp2_with fail
    refine (szProgram_left a cap is (l - n.size) _ (by omega) (by omega) (hc.below hb0) hl hs).mono ?_
    rintro e w1 ⟨hb1, r, rfl, hr⟩
    have hB1 := bt hb0 hb1
    clear hb0 hb1
    go_wp2
    all_goals go_ret
    · exact ⟨hB1, -1, rfl, by omega⟩
    · exact ⟨hB1, r, rfl, by omega⟩
theorem szSS_any (a : Option Addr) (cap : Nat) (is : List S2) (lft : Int) (w : World) (hf0 : 0 <= lft) (hf1 : lft <= 1048576) (hc : RowS w a is) (hl : is.length <= maxLen) (hs : ∀ i, (sx is i).name.size <= maxLen) (ht : ∀ i, (sx is i).text.size <= maxLen) :
    Calls Tryz.prog 14 #[.slice a is.length cap, .int .i64 lft] w fun e w' => Below w.heap.size w w' /\ ∃ r : Int, e = .returned (.int .i64 r) /\ (r < 0 \/ ((is.length : Int) <= lft /\ 0 <= r /\ r <= lft)) := by
  have hl' := hl
  unfold maxLen at hl'
  by_cases h0 : (is.length : Int) <= lft
  · go_enter Tryz.func14, Tryz.ntmps14
    go_wp2
    go_loopw [1, 5] (fun l i wr => ∃ k : Nat, ∃ q : Int, k <= is.length /\ i = .int .i64 k /\ l = .int .i64 q /\ 0 <= q /\ q <= lft /\ Below w.heap.size w wr) (fun _ i _ => is.length - (intOf i).toNat)
    case atStart => exact ⟨0, _, Nat.zero_le _, rfl, rfl, by omega, by omega, Below.refl _ _⟩
    case round =>
      obtain ⟨k, q, hk, rfl, rfl, hq0, hq1, hbr⟩ := hrel
      by_cases hlt : k < is.length
      · obtain ⟨b, off, rfl, c1, c2⟩ := (hc.below hbr) k hlt
        have hsk := hs k
        have htk := ht k
        clear hs ht hc
        generalize sx is k = i at *
        go_wp2_with fail
        refine (szSource_any i _ _ (by omega) (by omega) hsk htk).mono ?_
        rintro e w1 ⟨hb1, r, rfl, hr⟩
        rcases hr with hr | hr
        · go_wp2
          go_ret
          exact ⟨hbr.trans (hb1.mono hbr.size), -1, rfl, by omega⟩
        · have hr0 : 0 <= r := by omega
          have hr1 : r <= q := by omega
          go_wp2
          go_roundw
          case rel => exact ⟨k + 1, _, by omega, by go_num, rfl, by omega, by omega, hbr.trans (hb1.mono hbr.size)⟩
          case measure => simp [intOf]; omega
      · go_wp2
        go_ret
        exact ⟨hbr, _, rfl, by omega⟩
  · go_enter Tryz.func14, Tryz.ntmps14
    go_wp2
    go_ret
    exact ⟨Below.refl _ _, -1, rfl, by omega⟩
theorem szTS_any (a : Option Addr) (cap : Nat) (is : List T2) (lft : Int) (w : World) (hf0 : 0 <= lft) (hf1 : lft <= 1048576) (hc : RowT w a is) (hl : is.length <= maxLen) (hs : ∀ i, (tx is i).name.size <= maxLen) (ht : ∀ i, (tx is i).code.length <= maxLen) (hu : ∀ i j, (ix (tx is i).code j).text.size <= maxLen) :
    Calls Tryz.prog 15 #[.slice a is.length cap, .int .i64 lft] w fun e w' => Below w.heap.size w w' /\ ∃ r : Int, e = .returned (.int .i64 r) /\ (r < 0 \/ ((is.length : Int) <= lft /\ 0 <= r /\ r <= lft /\ ∀ i, i < is.length -> (tx is i).code.length <= 1048576)) := by
  have hl' := hl
  unfold maxLen at hl'
  by_cases h0 : (is.length : Int) <= lft
  · go_enter Tryz.func15, Tryz.ntmps15
    go_wp2
    go_loopw [1, 5] (fun l i wr => ∃ k : Nat, ∃ q : Int, k <= is.length /\ i = .int .i64 k /\ l = .int .i64 q /\ 0 <= q /\ q <= lft /\ Below w.heap.size w wr /\ Hid (∀ i, i < k -> (tx is i).code.length <= 1048576)) (fun _ i _ => is.length - (intOf i).toNat)
    case atStart => exact ⟨0, _, Nat.zero_le _, rfl, rfl, by omega, by omega, Below.refl _ _, (fun i hi => by omega : ∀ i, i < 0 -> (tx is i).code.length <= 1048576)⟩
    case round =>
      obtain ⟨k, q, hk, rfl, rfl, hq0, hq1, hbr, HK⟩ := hrel
      by_cases hlt : k < is.length
      · obtain ⟨b, off, rfl, c1, a', cap', c2, c3⟩ := (hc.below hbr) k hlt
        have hsk := hs k
        have htk := ht k
        have huk := hu k
        clear hs ht hc
        obtain ⟨i, ei⟩ : ∃ i, tx is k = i := ⟨_, rfl⟩
        rw [ei] at c1 c2 c3 hsk htk huk
        have EI : Hid (tx is k = i) := ei
        clear ei
        go_wp2_with fail
        refine (szTarget_any i.name a' cap' i.code _ _ (by omega) (by omega) hsk c3 htk huk).mono ?_
        rintro e w1 ⟨hb1, r, rfl, hr⟩
        rcases hr with hr | hr
        · go_wp2
          go_ret
          exact ⟨hbr.trans (hb1.mono hbr.size), -1, rfl, Or.inl (by omega)⟩
        · have hr0 : 0 <= r := by omega
          have hr1 : r <= q := by omega
          go_wp2
          go_roundw
          case rel => exact ⟨k + 1, _, by omega, by go_num, rfl, by omega, by omega, hbr.trans (hb1.mono hbr.size), ext_succ HK.out (by rw [EI.out]; omega)⟩
          case measure => simp [intOf]; omega
      · go_wp2
        go_ret
        exact ⟨hbr, _, rfl, by refine Or.inr ⟨by omega, by omega, by omega, fun i hi => HK.out i (by omega)⟩⟩
  · go_enter Tryz.func15, Tryz.ntmps15
    go_wp2
    go_ret
    exact ⟨Below.refl _ _, -1, rfl, Or.inl (by omega)⟩
structure SpOk (w : World) (sa : Option Addr) (ss : List S2) (ta : Option Addr) (ts : List T2) : Prop where
  rs : RowS w sa ss
  rt : RowT w ta ts
  ls : ss.length <= maxLen
  lt : ts.length <= maxLen
  ns : ∀ i, (sx ss i).name.size <= maxLen
  xs : ∀ i, (sx ss i).text.size <= maxLen
  nt : ∀ i, (tx ts i).name.size <= maxLen
  lc : ∀ i, (tx ts i).code.length <= maxLen
  xt : ∀ i j, (ix (tx ts i).code j).text.size <= maxLen
structure SpSmall (ss : List S2) (ts : List T2) : Prop where
  ls : ss.length <= 1048576
  lt : ts.length <= 1048576
  lc : ∀ i, i < ts.length -> (tx ts i).code.length <= 1048576
section
open Go.ChangeShapes Go.WideShapes Go.ChangeAt Go.Deep
theorem Tryz.cells29 : Tryz.prog.cellsOf 29 = 2 := by kernel_rfl
theorem Tryz.cells26 : Tryz.prog.cellsOf 26 = 1 := by kernel_rfl
theorem Tryz.cells27 : Tryz.prog.cellsOf 27 = 1 := by kernel_rfl
theorem Tryz.cells75 : Tryz.prog.cellsOf 75 = 2 := by kernel_rfl
theorem Tryz.cells78 : Tryz.prog.cellsOf 78 = 2 := by kernel_rfl
section
variable {H : Type} {enc : TypeId × Value -> H} {W : World} {base : Nat} {spare : Nat -> Bool} {held : Bool}
theorem open_source {fuel : Nat} {cs : List Value} {x : DataW H × List MemPlace} (h : DataW.trod enc Tryz.prog W base spare held fuel 75 cs = some x) :
    ∃ i : S2, cs = [.string i.name, .string i.text] /\ i.name.size <= maxLen /\ i.text.size <= maxLen := by
  obtain ⟨y0, y1, n, _, hl, h0, h1⟩ := trod_struct2 Tryz.underlying75 h
  rw [Tryz.cells75] at hl
  simp only [Tryz.cells9] at h0 h1
  match cs, hl with
  | [c0, c1], _ =>
    obtain ⟨s, e0, _, hs⟩ := DataW.trod_string Tryz.underlying9 h0
    obtain ⟨t, e1, _, ht⟩ := DataW.trod_string Tryz.underlying9 h1
    simp at e0 e1
    subst e0; subst e1
    exact ⟨⟨s, t⟩, rfl, hs, ht⟩
theorem open_target {fuel : Nat} {cs : List Value} {x : DataW H × List MemPlace} (h : DataW.trod enc Tryz.prog W base spare held fuel 78 cs = some x) :
    ∃ (i : T2) (a : Option Addr) (cap : Nat), cs = [.string i.name, .slice a i.code.length cap] /\ Row3 W a i.code /\ i.name.size <= maxLen /\ i.code.length <= maxLen /\ ∀ j, (ix i.code j).text.size <= maxLen := by
  obtain ⟨y0, y1, n, _, hl, h0, h1⟩ := trod_struct2 Tryz.underlying78 h
  rw [Tryz.cells78] at hl
  simp only [Tryz.cells9, Tryz.cells69] at h0 h1
  match cs, hl with
  | [c0, c1], _ =>
    obtain ⟨s, e0, _, hs⟩ := DataW.trod_string Tryz.underlying9 h0
    simp at e0
    subst e0
    obtain ⟨z0, m, _, _, h2⟩ := trod_struct1 Tryz.underlying69 h1
    simp only [Tryz.cells67] at h2
    obtain ⟨a, cap, is, e1, r1, r2, r3⟩ := open_code (c := c1) (by simpa using h2)
    subst e1
    exact ⟨⟨s, is⟩, a, cap, rfl, r1, hs, r2, r3⟩
theorem open_sources {fuel : Nat} {c : Value} {x : DataW H × List MemPlace} (h : DataW.trod enc Tryz.prog W base spare held fuel 26 [c] = some x) :
    ∃ (a : Option Addr) (cap : Nat) (is : List S2), c = .slice a is.length cap /\ RowS W a is /\ is.length <= maxLen /\ (∀ i, (sx is i).name.size <= maxLen) /\ ∀ i, (sx is i).text.size <= maxLen := by
  rcases open_slice Tryz.underlying26 h with ⟨hcs, _⟩ | ⟨a, len, cap, m, n, D, Pl, hcs, _, hl, hm, hmm, _, hx⟩
  · simp at hcs
    subst hcs
    exact ⟨none, 0, [], rfl, fun i hi => by simp at hi, by simp, fun i => by simp [sx], fun i => by simp [sx]⟩
  · simp at hcs
    subst hcs
    rw [Tryz.cells75] at hx
    have hlm : len <= m := by rw [hmm]; split <;> omega
    have hex : ∀ i, i < len -> ∃ t : S2, W.cell? ((a.add (i * 2)).add 0) = some (.string t.name) /\ W.cell? ((a.add (i * 2)).add 1) = some (.string t.text) /\ t.name.size <= maxLen /\ t.text.size <= maxLen := by
      intro i hi
      obtain ⟨cs', hc, ht⟩ := hx i (by omega)
      obtain ⟨t, rfl, hts⟩ := open_source ht
      have hs := World.cells?_some hc
      exact ⟨t, by simpa using hs.2.2 0 (by omega), by simpa using hs.2.2 1 (by omega), hts⟩
    let f : Nat -> S2 := fun i => if h : i < len then Classical.choose (hex i h) else ⟨ByteArray.empty, ByteArray.empty⟩
    have hf : ∀ i, (h : i < len) -> W.cell? ((a.add (i * 2)).add 0) = some (.string (f i).name) /\ W.cell? ((a.add (i * 2)).add 1) = some (.string (f i).text) /\ (f i).name.size <= maxLen /\ (f i).text.size <= maxLen := by
      intro i h
      have : f i = Classical.choose (hex i h) := by simp only [f, dif_pos h]
      rw [this]; exact Classical.choose_spec (hex i h)
    have hix : ∀ i, i < len -> sx ((List.range len).map f) i = f i := by
      intro i h
      simp [sx, List.getD_eq_getElem?_getD, h]
    refine ⟨some a, cap, (List.range len).map f, by simp, ?_, by simp; omega, ?_, ?_⟩
    · intro i hi
      have hi' : i < len := by simpa using hi
      obtain ⟨h1, h2, _⟩ := hf i hi'
      rw [hix i hi']
      obtain ⟨b, off, spot⟩ := a
      have hspot : spot = none := by
        have := World.cell?_spot (hf 0 (by omega)).1
        simpa [Addr.add] using this
      subst hspot
      simp only [Addr.add_lit] at h1 h2
      exact ⟨b, off, rfl, h1, h2⟩
    · intro i
      by_cases h : i < len
      · rw [hix i h]; exact (hf i h).2.2.1
      · simp [sx, List.getD_eq_getElem?_getD, h]
    · intro i
      by_cases h : i < len
      · rw [hix i h]; exact (hf i h).2.2.2
      · simp [sx, List.getD_eq_getElem?_getD, h]
theorem open_targets {fuel : Nat} {c : Value} {x : DataW H × List MemPlace} (h : DataW.trod enc Tryz.prog W base spare held fuel 27 [c] = some x) :
    ∃ (a : Option Addr) (cap : Nat) (is : List T2), c = .slice a is.length cap /\ RowT W a is /\ is.length <= maxLen /\ (∀ i, (tx is i).name.size <= maxLen) /\ (∀ i, (tx is i).code.length <= maxLen) /\ ∀ i j, (ix (tx is i).code j).text.size <= maxLen := by
  rcases open_slice Tryz.underlying27 h with ⟨hcs, _⟩ | ⟨a, len, cap, m, n, D, Pl, hcs, _, hl, hm, hmm, _, hx⟩
  · simp at hcs
    subst hcs
    exact ⟨none, 0, [], rfl, fun i hi => by simp at hi, by simp, fun i => by simp [tx], fun i => by simp [tx], fun i j => by simp [tx, ix, i0]⟩
  · simp at hcs
    subst hcs
    rw [Tryz.cells78] at hx
    have hlm : len <= m := by rw [hmm]; split <;> omega
    have hex : ∀ i, i < len -> ∃ t : T2, W.cell? ((a.add (i * 2)).add 0) = some (.string t.name) /\ (∃ a' cap', W.cell? ((a.add (i * 2)).add 1) = some (.slice a' t.code.length cap') /\ Row3 W a' t.code) /\ t.name.size <= maxLen /\ t.code.length <= maxLen /\ ∀ j, (ix t.code j).text.size <= maxLen := by
      intro i hi
      obtain ⟨cs', hc, ht⟩ := hx i (by omega)
      obtain ⟨t, a', cap', rfl, hr, hts⟩ := open_target ht
      have hs := World.cells?_some hc
      exact ⟨t, by simpa using hs.2.2 0 (by omega), ⟨a', cap', by simpa using hs.2.2 1 (by omega), hr⟩, hts⟩
    let f : Nat -> T2 := fun i => if h : i < len then Classical.choose (hex i h) else ⟨ByteArray.empty, []⟩
    have hf : ∀ i, (h : i < len) -> W.cell? ((a.add (i * 2)).add 0) = some (.string (f i).name) /\ (∃ a' cap', W.cell? ((a.add (i * 2)).add 1) = some (.slice a' (f i).code.length cap') /\ Row3 W a' (f i).code) /\ (f i).name.size <= maxLen /\ (f i).code.length <= maxLen /\ ∀ j, (ix (f i).code j).text.size <= maxLen := by
      intro i h
      have : f i = Classical.choose (hex i h) := by simp only [f, dif_pos h]
      rw [this]; exact Classical.choose_spec (hex i h)
    have hix : ∀ i, i < len -> tx ((List.range len).map f) i = f i := by
      intro i h
      simp [tx, List.getD_eq_getElem?_getD, h]
    refine ⟨some a, cap, (List.range len).map f, by simp, ?_, by simp; omega, ?_, ?_, ?_⟩
    · intro i hi
      have hi' : i < len := by simpa using hi
      obtain ⟨h1, ⟨a', cap', h2, h3⟩, _⟩ := hf i hi'
      rw [hix i hi']
      obtain ⟨b, off, spot⟩ := a
      have hspot : spot = none := by
        have := World.cell?_spot (hf 0 (by omega)).1
        simpa [Addr.add] using this
      subst hspot
      simp only [Addr.add_lit] at h1 h2
      exact ⟨b, off, rfl, h1, a', cap', h2, h3⟩
    · intro i
      by_cases h : i < len
      · rw [hix i h]; exact (hf i h).2.2.1
      · simp [tx, List.getD_eq_getElem?_getD, h]
    · intro i
      by_cases h : i < len
      · rw [hix i h]; exact (hf i h).2.2.2.1
      · simp [tx, List.getD_eq_getElem?_getD, h]
    · intro i j
      by_cases h : i < len
      · rw [hix i h]; exact (hf i h).2.2.2.2 j
      · simp [tx, List.getD_eq_getElem?_getD, h, ix, i0]
theorem open_space {r : Reach} {b0 : Nat} {v : Value} {d : DataW H} {p : List MemPlace} (hv : Value.okWide Tryz.prog W r b0 29 v) (h : DataW.Trod enc Tryz.prog W base spare held 29 v d p) :
    ∃ (sa : Option Addr) (c1 : Nat) (ss : List S2) (ta : Option Addr) (c2 : Nat) (ts : List T2), v = .agg #[.slice sa ss.length c1, .slice ta ts.length c2] /\ SpOk W sa ss ta ts := by
  obtain ⟨cs, rfl, hsz⟩ := okWide_struct Tryz.underlying29 hv
  rw [Tryz.cells29] at hsz
  obtain ⟨fuel, hf⟩ := h
  obtain ⟨y0, y1, n, _, _, h0, h1⟩ := trod_struct2 Tryz.underlying29 hf
  simp only [Tryz.cells26, Tryz.cells27] at h0 h1
  obtain ⟨l⟩ := cs
  match l, hsz with
  | [k0, k1], _ =>
    simp only [Value.cells] at h0 h1
    obtain ⟨sa, c1, ss, e0, a1, a2, a3, a4⟩ := open_sources (c := k0) (by simpa using h0)
    obtain ⟨ta, c2, ts, e1, b1, b2, b3, b4, b5⟩ := open_targets (c := k1) (by simpa using h1)
    subst e0; subst e1
    exact ⟨sa, c1, ss, ta, c2, ts, rfl, ⟨a1, b1, a2, b2, a3, a4, b3, b4, b5⟩⟩
end
end
end Go.Proofs.YtbbfboikigmghaaGreatDoor
