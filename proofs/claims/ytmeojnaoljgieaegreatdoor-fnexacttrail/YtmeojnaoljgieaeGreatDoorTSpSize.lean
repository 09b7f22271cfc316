import Derived.Test.YtmeojnaoljgieaeGreatDoorRows
import Derived.Test.YtmeojnaoljgieaeGreatDoorTValid
import Derived.ProofKit
import Derived.OpenShut
import Derived.Deep.Slices
import Derived.Deep.Strs
import Derived.OpenVars
import Derived.MakeChecks
import Derived.LaidSub
import Derived.Lib.LaidTab
import Derived.Lib.AppendIntMem
namespace Go.Proofs.YtmeojnaoljgieaeGreatDoor
open Go.RowKit
set_option linter.unusedVariables false
set_option maxHeartbeats 8000000
set_option maxRecDepth 100000
section
open Go.ChangeShapes Go.WideShapes Go.ChangeAt Go.Deep
theorem Tryz.cells47 : Tryz.prog.cellsOf 47 = 1 := by kernel_rfl
theorem Tryz.cells45 : Tryz.prog.cellsOf 45 = 1 := by kernel_rfl
theorem Tryz.cells233 : Tryz.prog.cellsOf 233 = 3 := by kernel_rfl
theorem Tryz.cells3 : Tryz.prog.cellsOf 3 = 1 := by kernel_rfl
theorem Tryz.cells9 : Tryz.prog.cellsOf 9 = 1 := by kernel_rfl
theorem Tryz.cells275 : Tryz.prog.cellsOf 275 = 3 := by kernel_rfl
section
variable {H : Type} {enc : TypeId × Value -> H} {W : World} {base : Nat} {spare : Nat -> Bool} {held : Bool}
/-- An instruction's three cells. -/
theorem open_ins {fuel : Nat} {cs : List Value} {x : DataW H × List MemPlace} (h : DataW.trod enc Tryz.prog W base spare held fuel 233 cs = some x) :
    ∃ i : I3, cs = [.int .i64 i.op, .string i.text, .int .i64 i.n] /\ i.text.size <= maxLen := by
  obtain ⟨y0, y1, y2, n, _, hl, h0, h1, h2⟩ := trod_struct3 Tryz.underlying233 h
  rw [Tryz.cells233] at hl
  simp only [Tryz.cells3, Tryz.cells9] at h0 h1 h2
  match cs, hl with
  | [c0, c1, c2], _ =>
    obtain ⟨op, e0, _, _⟩ := DataW.trod_int Tryz.underlying3 h0
    obtain ⟨t, e1, _, ht⟩ := DataW.trod_string Tryz.underlying9 h1
    obtain ⟨m, e2, _, _⟩ := DataW.trod_int Tryz.underlying3 h2
    simp at e0 e1 e2
    subst e0; subst e1; subst e2
    exact ⟨⟨op, t, m⟩, rfl, ht⟩
theorem open_code {fuel : Nat} {c : Value} {x : DataW H × List MemPlace} (h : DataW.trod enc Tryz.prog W base spare held fuel 45 [c] = some x) :
    ∃ (a : Option Addr) (cap : Nat) (is : List I3), c = .slice a is.length cap /\ Row3 W a is /\ is.length <= maxLen /\ ∀ i, (ix is i).text.size <= maxLen := by
  rcases open_slice Tryz.underlying45 h with ⟨hcs, _⟩ | ⟨a, len, cap, m, n, D, Pl, hcs, _, hl, hm, hmm, _, hx⟩
  · simp at hcs
    subst hcs
    exact ⟨none, 0, [], rfl, fun i hi => by simp at hi, by simp, fun i => by simp [ix, i0]⟩
  · simp at hcs
    subst hcs
    rw [Tryz.cells233] at hx
    have hlm : len <= m := by rw [hmm]; split <;> omega
    have hex : ∀ i, i < len -> ∃ t : I3, W.cell? ((a.add (i * 3)).add 0) = some (.int .i64 t.op) /\ W.cell? ((a.add (i * 3)).add 1) = some (.string t.text) /\ W.cell? ((a.add (i * 3)).add 2) = some (.int .i64 t.n) /\ t.text.size <= maxLen := by
      intro i hi
      obtain ⟨cs', hc, ht⟩ := hx i (by omega)
      obtain ⟨t, rfl, hts⟩ := open_ins ht
      have hs := World.cells?_some hc
      exact ⟨t, by simpa using hs.2.2 0 (by omega), by simpa using hs.2.2 1 (by omega), by simpa using hs.2.2 2 (by omega), hts⟩
    let f : Nat -> I3 := fun i => if h : i < len then Classical.choose (hex i h) else i0
    have hf : ∀ i, (h : i < len) -> W.cell? ((a.add (i * 3)).add 0) = some (.int .i64 (f i).op) /\ W.cell? ((a.add (i * 3)).add 1) = some (.string (f i).text) /\ W.cell? ((a.add (i * 3)).add 2) = some (.int .i64 (f i).n) /\ (f i).text.size <= maxLen := by
      intro i h
      have : f i = Classical.choose (hex i h) := by simp only [f, dif_pos h]
      rw [this]; exact Classical.choose_spec (hex i h)
    have hix : ∀ i, i < len -> ix ((List.range len).map f) i = f i := by
      intro i h
      simp [ix, List.getD_eq_getElem?_getD, h]
    refine ⟨some a, cap, (List.range len).map f, by simp, ?_, by simp; omega, ?_⟩
    · intro i hi
      have hi' : i < len := by simpa using hi
      obtain ⟨h1, h2, h3, _⟩ := hf i hi'
      rw [hix i hi']
      obtain ⟨b, off, spot⟩ := a
      have hspot : spot = none := by
        have := World.cell?_spot (hf 0 (by omega)).1
        simpa [Addr.add] using this
      subst hspot
      simp only [Addr.add_lit] at h1 h2 h3
      exact ⟨b, off, rfl, h1, h2, h3⟩
    · intro i
      by_cases h : i < len
      · rw [hix i h]; exact (hf i h).2.2.2
      · simp [ix, List.getD_eq_getElem?_getD, h, i0]
theorem open_program {r : Reach} {b0 : Nat} {v : Value} {d : DataW H} {p : List MemPlace} (hv : Value.okWide Tryz.prog W r b0 47 v) (h : DataW.Trod enc Tryz.prog W base spare held 47 v d p) :
    ∃ (a : Option Addr) (cap : Nat) (is : List I3), v = .agg #[.slice a is.length cap] /\ Row3 W a is /\ is.length <= maxLen /\ ∀ i, (ix is i).text.size <= maxLen := by
  obtain ⟨cs, rfl, hsz⟩ := okWide_struct Tryz.underlying47 hv
  rw [Tryz.cells47] at hsz
  obtain ⟨fuel, hf⟩ := h
  obtain ⟨y0, n, _, _, h0⟩ := trod_struct1 Tryz.underlying47 hf
  obtain ⟨l⟩ := cs
  match l, hsz with
  | [c], _ =>
    simp only [Tryz.cells45] at h0
    have h0' : DataW.trod enc Tryz.prog W base spare held n 45 [c] = some y0 := by simpa [Value.cells] using h0
    obtain ⟨a, cap, is, rfl, r1, r2, r3⟩ := open_code h0'
    exact ⟨a, cap, is, rfl, r1, r2, r3⟩
end
/-- The table's rows, as the list has them. -/
theorem row_of (o : Nat) (ho : o < 16) : ∃ L : List (DataW Unit), (Rows.laid_loop_example_kilntrace_impl_opKinds : DataW Unit) = .agg L /\ L.length = 16 /\ L[o]? = some (.agg [.lit (.string (words.getD o [])), .lit (.int .i64 (kindOf o)), .lit (.int .i64 (takesOf.getD o 0))]) := by
  refine ⟨_, rfl, rfl, ?_⟩
  rcases (show o = 0 \/ o = 1 \/ o = 2 \/ o = 3 \/ o = 4 \/ o = 5 \/ o = 6 \/ o = 7 \/ o = 8 \/ o = 9 \/ o = 10 \/ o = 11 \/ o = 12 \/ o = 13 \/ o = 14 \/ o = 15 from by omega) with rfl | rfl | rfl | rfl | rfl | rfl | rfl | rfl | rfl | rfl | rfl | rfl | rfl | rfl | rfl | rfl <;> rfl
theorem tab_of_laid {W : World} (h : laidMetH Tryz.prog [("loop.example/kilntrace/impl.opKinds", Rows.laid_loop_example_kilntrace_impl_opKinds)] W) : Tab W := by
  rw [MakeChecks.laidMetH_plain _ _ _ (by kernel_rfl)] at h
  obtain ⟨ps, ⟨g, t, cs, fuel, p, q, hg, ht, hv, hd, _, _⟩, _, _⟩ := h
  obtain rfl := Option.some.inj ((show Tryz.prog.globalNamed "loop.example/kilntrace/impl.opKinds" = some 0 by kernel_rfl).symm.trans hg)
  obtain rfl := Option.some.inj ((show (Tryz.prog.globals[0]?).map (·.type) = some 276 by kernel_rfl).symm.trans ht)
  obtain ⟨xs, m, _, ex, hlen, hl, hel⟩ := DataW.trod_array Tryz.underlying276 hd
  intro o ho
  obtain ⟨L, hL, hLl, hLo⟩ := row_of o ho
  have e1 : L = xs.map (·.1) := by
    have := (Prod.mk.inj ex).1
    rw [hL] at this
    exact DataW.agg.inj this
  have hxo : o < xs.length := by omega
  have k := hel o ho
  rw [Tryz.cells275, List.getElem?_eq_getElem hxo] at k
  have e2 : xs[o].1 = .agg [.lit (.string (words.getD o [])), .lit (.int .i64 (kindOf o)), .lit (.int .i64 (takesOf.getD o 0))] := by
    rw [e1, List.getElem?_map, List.getElem?_eq_getElem hxo] at hLo
    simpa using hLo
  obtain ⟨y0, y1, y2, n, he, hl3, h0, h1, h2⟩ := trod_struct3 Tryz.underlying275 k
  rw [Tryz.cells275] at hl3
  simp only [Tryz.cells3, Tryz.cells9] at h0 h1 h2
  have e3 : [y0.1, y1.1, y2.1] = [.lit (.string (words.getD o [])), .lit (.int .i64 (kindOf o)), .lit (.int .i64 (takesOf.getD o 0))] := by
    have : xs[o].1 = .agg [y0.1, y1.1, y2.1] := by rw [he]
    rw [e2] at this
    exact (DataW.agg.inj this).symm
  simp only [List.cons.injEq, and_true] at e3
  obtain ⟨a0, a1, a2⟩ := e3
  obtain ⟨s, c0, d0, _⟩ := DataW.trod_string Tryz.underlying9 h0
  obtain ⟨z1, c1, d1, _⟩ := DataW.trod_int Tryz.underlying3 h1
  obtain ⟨z2, c2, d2, _⟩ := DataW.trod_int Tryz.underlying3 h2
  have hcell := fun j => World.var?_cell (show Tryz.prog.globalNamed "loop.example/kilntrace/impl.opKinds" = some 0 by kernel_rfl) hv j
  rw [d0] at a0; rw [d1] at a1; rw [d2] at a2
  simp only [DataW.lit.injEq, Lit.string.injEq, Lit.int.injEq, true_and] at a0 a1 a2
  have hs : s = wordB o := bytes_inj (by rw [a0]; simp [wordB])
  have f : ∀ j, j < 3 -> cs[o * 3 + j]? = (((cs.toList.drop (o * 3)).take 3))[j]? := by
    intro j hj
    rw [List.getElem?_take, if_pos hj, List.getElem?_drop, Array.getElem?_toList]
  have g0 : cs[o * 3 + 0]? = some (.string s) := by
    rw [f 0 (by omega)]
    have := congrArg (fun l => l[0]?) c0
    simpa [List.getElem?_take, List.getElem?_drop] using this
  have g1 : cs[o * 3 + 1]? = some (.int .i64 z1) := by
    rw [f 1 (by omega)]
    have := congrArg (fun l => l[0]?) c1
    simpa [List.getElem?_take, List.getElem?_drop] using this
  have g2 : cs[o * 3 + 2]? = some (.int .i64 z2) := by
    rw [f 2 (by omega)]
    have := congrArg (fun l => l[0]?) c2
    simpa [List.getElem?_take, List.getElem?_drop] using this
  exact ⟨by rw [hcell]; simpa [hs] using g0, by rw [hcell, g1, a1], by rw [hcell, g2, a2]⟩
end
structure G3 where
  name : ByteArray
  ask : Bool
  sum : ByteArray
def g00 : G3 := ⟨ByteArray.empty, false, ByteArray.empty⟩
def gx (is : List G3) (i : Nat) : G3 := is.getD i g00
def RowG (w : World) (a : Option Addr) (is : List G3) : Prop :=
  ∀ i, i < is.length -> ∃ b off, a = some ⟨b, off, none⟩ /\ w.cell? ⟨b, off + i * 3, none⟩ = some (.string (gx is i).name) /\ w.cell? ⟨b, off + i * 3 + 1, none⟩ = some (.bool (gx is i).ask) /\ w.cell? ⟨b, off + i * 3 + 2, none⟩ = some (.string (gx is i).sum)
theorem RowG.below {w w' : World} {a : Option Addr} {is : List G3} (h : RowG w a is) (hb : Below w.heap.size w w') : RowG w' a is := by
  intro i hi
  obtain ⟨b, off, ha, h1, h2, h3⟩ := h i hi
  exact ⟨b, off, ha, cell_below hb h1, cell_below hb h2, cell_below hb h3⟩
def FilledG (is : List G3) (k : Nat) (xs : List Value) : Prop :=
  ∀ i, i < k -> xs[i * 3]? = some (.string (gx is i).name) /\ xs[i * 3 + 1]? = some (.bool (gx is i).ask) /\ xs[i * 3 + 2]? = some (.string (gx is i).sum)
theorem cell_of_length3 {w : World} {B g n cap j T : Nat} {xs : List Value} (h : w.ownsRow B T 3 (.slice (some ⟨g, 0, none⟩) n cap) n xs) (hj : j < n * 3) : ∃ v, w.cell? ⟨g, j, none⟩ = some v := by
  have hl := h.1
  exact ⟨xs[j]'(by omega), by rw [h.cellAt j hj]; exact List.getElem?_eq_getElem _⟩
theorem ext_succ {P : Nat -> Prop} {k : Nat} (h : ∀ i, i < k -> P i) (hk : P k) : ∀ i, i < k + 1 -> P i := by
  intro i hi
  rcases Nat.lt_or_ge i k with h1 | h1
  · exact h i h1
  · obtain rfl : i = k := by omega
    exact hk
theorem bt {w a b : World} (h : Below w.heap.size w a) (k : Below a.heap.size a b) : Below w.heap.size w b := h.trans (k.mono h.size)
theorem Tryz.info39 : (Tryz.prog.info? 39).map (fun i => (i.zero, i.size, i.bytes)) = some (some (.agg #[.string ByteArray.empty, .bool false, .string ByteArray.empty]), 3, 40) := by kernel_rfl
theorem eqSeen_same (i : G3) (w : World) :
    Calls Tryz.prog 94 #[.agg #[.string i.name, .bool i.ask, .string i.sum], .agg #[.string i.name, .bool i.ask, .string i.sum]] w fun e w' => Below w.heap.size w w' /\ e = .returned (.bool true) := by
  have e1 := str_eq (rfl : i.name = i.name)
  have e2 := str_eq (rfl : i.sum = i.sum)
  go_enter Tryz.func94, Tryz.ntmps94
  go_wp2
  go_ret
  exact ⟨((Below.refl _ _).alloc (Nat.le_refl _) _).alloc (by simp) _, rfl⟩
theorem eqSeenS_same (a a' : Option Addr) (cap cap' : Nat) (is : List G3) (w : World) (hc : RowG w a is) (hc' : RowG w a' is) (hl : is.length <= 1048576) :
    Calls Tryz.prog 38 #[.slice a is.length cap, .slice a' is.length cap'] w fun e w' => Below w.heap.size w w' /\ e = .returned (.bool true) := by
  go_enter Tryz.func38, Tryz.ntmps38
  go_wp2
  go_loopw [5] (fun i wr => ∃ k : Nat, k <= is.length /\ i = .int .i64 k /\ Below w.heap.size w wr) (fun i _ => is.length - (intOf i).toNat)
  case atStart => exact ⟨0, Nat.zero_le _, rfl, Below.refl _ _⟩
  case round =>
    obtain ⟨k, hk, rfl, hbel⟩ := hrel
    by_cases hlt : k < is.length
    · obtain ⟨b, off, rfl, c1, c2, c3⟩ := (hc.below hbel) k hlt
      obtain ⟨b', off', rfl, d1, d2, d3⟩ := (hc'.below hbel) k hlt
      generalize gx is k = i at *
      clear hc hc'
      have hkI : (k : Int) < (is.length : Int) := by omega
      have hk0 : (0 : Int) <= (k : Int) := by omega
      go_wp2_with fail
      go_region_held3 (fun w' => (w'.cell? ⟨b, off + k * 3, none⟩ = some (.string i.name) /\ w'.cell? ⟨b, off + k * 3 + 1, none⟩ = some (.bool i.ask) /\ w'.cell? ⟨b, off + k * 3 + 2, none⟩ = some (.string i.sum)) /\ (w'.cell? ⟨b', off' + k * 3, none⟩ = some (.string i.name) /\ w'.cell? ⟨b', off' + k * 3 + 1, none⟩ = some (.bool i.ask) /\ w'.cell? ⟨b', off' + k * 3 + 2, none⟩ = some (.string i.sum)))
        (first | assumption | (simp [*]; done) | exact ⟨⟨cell_below hb1 (by simp [*]), cell_below hb1 (by simp [*]), cell_below hb1 (by simp [*])⟩, cell_below hb1 (by simp [*]), cell_below hb1 (by simp [*]), cell_below hb1 (by simp [*])⟩)
        (first | (go_at_call 94; refine (eqSeen_same i _).mono ?_; rintro e w1 ⟨hb1, rfl⟩))
      all_goals
        go_wp2
        go_roundw
        case rel => exact ⟨k + 1, by omega, by go_num, hbel.trans (Below.trans (Below.drew (Below.refl _ _)) (hb1.mono (by simpa using hbel.size)))⟩
        case measure => simp [intOf]; omega
    · go_wp2
      go_ret
      exact ⟨hbel, rfl⟩
theorem szInsS_left (a : Option Addr) (cap : Nat) (is : List I3) (lft : Int) (w : World) (hf0 : 0 <= lft) (hf1 : lft <= 1048576) (hc : Row3 w a is) (hl : is.length <= maxLen) (hs : ∀ i, (ix is i).text.size <= maxLen) :
    Calls Tryz.prog 110 #[.slice a is.length cap, .int .i64 lft] w fun e w' => Below w.heap.size w w' /\ ∃ r : Int, e = .returned (.int .i64 r) /\ (r < 0 \/ ((is.length : Int) <= lft /\ 0 <= r /\ r <= lft)) := by
  unfold maxLen at hl hs
  by_cases h0 : (is.length : Int) <= lft
  · go_enter Tryz.func110, Tryz.ntmps110
    go_wp2
    go_loopw [1, 5] (fun l i wr => ∃ k : Nat, ∃ q : Int, k <= is.length /\ i = .int .i64 k /\ l = .int .i64 q /\ 0 <= q /\ q <= lft /\ Below w.heap.size w wr) (fun _ i _ => is.length - (intOf i).toNat)
    case atStart => exact ⟨0, _, Nat.zero_le _, rfl, rfl, by omega, by omega, Below.refl _ _⟩
    case round =>
      obtain ⟨k, q, hk, rfl, rfl, hq0, hq1, hbr⟩ := hrel
      by_cases hlt : k < is.length
      · obtain ⟨b, off, rfl, c1, c2, c3⟩ := (hc.below hbr) k hlt
        have hsk := hs k
        clear hs hc
        generalize ix is k = i at *
        go_wp2_with fail
        refine (szIns_any i _ _ (by omega) (by omega) hsk).mono ?_
        rintro e w1 ⟨hb1, ⟨hneg, rfl⟩ | ⟨hpos, rfl⟩⟩
        · go_wp2
          go_ret
          exact ⟨hbr.trans (hb1.mono hbr.size), -1, rfl, by omega⟩
        · go_wp2
          go_roundw
          case rel => exact ⟨k + 1, _, by omega, by go_num, rfl, by omega, by omega, hbr.trans (hb1.mono hbr.size)⟩
          case measure => simp [intOf]; omega
      · go_wp2
        go_ret
        exact ⟨hbr, _, rfl, by omega⟩
  · go_enter Tryz.func110, Tryz.ntmps110
    go_wp2
    go_ret
    exact ⟨Below.refl _ _, -1, rfl, by omega⟩
theorem szProgram_left (a : Option Addr) (cap : Nat) (is : List I3) (lft : Int) (w : World) (hf0 : 0 <= lft) (hf1 : lft <= 1048576) (hc : Row3 w a is) (hl : is.length <= maxLen) (hs : ∀ i, (ix is i).text.size <= maxLen) :
    Calls Tryz.prog 55 #[.agg #[.slice a is.length cap], .int .i64 lft] w fun e w' => Below w.heap.size w w' /\ ∃ r : Int, e = .returned (.int .i64 r) /\ (r < 0 \/ ((is.length : Int) <= lft /\ 0 <= r /\ r <= lft)) := by
  have hb0 : Below w.heap.size w (w.alloc (.cells #[.slice a is.length cap] 47)) := (Below.refl _ _).alloc (Nat.le_refl _) _
  go_enter Tryz.func55, Tryz.ntmps55
  go_wp2_with fail
  refine (szInsS_left a cap is lft _ hf0 hf1 (hc.below hb0) hl hs).mono ?_
  rintro e w1 ⟨hb1, r, rfl, hr⟩
  have hB1 := bt hb0 hb1
  clear hb0 hb1
  go_wp2
  all_goals go_ret
  · exact ⟨hB1, -1, rfl, by omega⟩
  · exact ⟨hB1, r, rfl, by omega⟩
structure S2 where
  name : ByteArray
  text : ByteArray
def sx (is : List S2) (i : Nat) : S2 := is.getD i ⟨ByteArray.empty, ByteArray.empty⟩
structure T2 where
  name : ByteArray
  code : List I3
def tx (is : List T2) (i : Nat) : T2 := is.getD i ⟨ByteArray.empty, []⟩
def RowS (w : World) (a : Option Addr) (is : List S2) : Prop :=
  ∀ i, i < is.length -> ∃ b off, a = some ⟨b, off, none⟩ /\ w.cell? ⟨b, off + i * 2, none⟩ = some (.string (sx is i).name) /\ w.cell? ⟨b, off + i * 2 + 1, none⟩ = some (.string (sx is i).text)
def RowT (w : World) (a : Option Addr) (is : List T2) : Prop :=
  ∀ i, i < is.length -> ∃ b off, a = some ⟨b, off, none⟩ /\ w.cell? ⟨b, off + i * 2, none⟩ = some (.string (tx is i).name) /\ ∃ a' cap', w.cell? ⟨b, off + i * 2 + 1, none⟩ = some (.slice a' (tx is i).code.length cap') /\ Row3 w a' (tx is i).code
theorem RowS.below {w w' : World} {a : Option Addr} {is : List S2} (h : RowS w a is) (hb : Below w.heap.size w w') : RowS w' a is := by
  intro i hi
  obtain ⟨b, off, ha, h1, h2⟩ := h i hi
  exact ⟨b, off, ha, cell_below hb h1, cell_below hb h2⟩
theorem RowT.below {w w' : World} {a : Option Addr} {is : List T2} (h : RowT w a is) (hb : Below w.heap.size w w') : RowT w' a is := by
  intro i hi
  obtain ⟨b, off, ha, h1, a', cap', h2, h3⟩ := h i hi
  exact ⟨b, off, ha, cell_below hb h1, a', cap', cell_below hb h2, h3.below hb⟩
theorem szSource_any (i : S2) (l : Int) (w : World) (h0 : 0 <= l) (h1 : l <= 1048576) (hs : i.name.size <= maxLen) (ht : i.text.size <= maxLen) :
    Calls Tryz.prog 132 #[.agg #[.string i.name, .string i.text], .int .i64 l] w fun e w' => Below w.heap.size w w' /\ ∃ r : Int, e = .returned (.int .i64 r) /\ (r < 0 \/ (0 <= r /\ r <= l)) := by
  unfold maxLen at hs ht
  by_cases h : l - i.name.size < 0
  · go_enter Tryz.func132, Tryz.ntmps132
    go_wp2
    go_ret
    exact ⟨(Below.refl _ _).alloc (Nat.le_refl _) _, _, rfl, by omega⟩
  · by_cases h2 : l - i.name.size - i.text.size < 0
    · go_enter Tryz.func132, Tryz.ntmps132
      go_wp2
      go_ret
      exact ⟨(Below.refl _ _).alloc (Nat.le_refl _) _, _, rfl, by omega⟩
    · go_enter Tryz.func132, Tryz.ntmps132
      go_wp2
      go_ret
      exact ⟨(Below.refl _ _).alloc (Nat.le_refl _) _, _, rfl, by omega⟩
theorem szTarget_any (n : ByteArray) (a : Option Addr) (cap : Nat) (is : List I3) (l : Int) (w : World) (h0 : 0 <= l) (h1 : l <= 1048576) (hn : n.size <= maxLen) (hc : Row3 w a is) (hl : is.length <= maxLen) (hs : ∀ i, (ix is i).text.size <= maxLen) :
    Calls Tryz.prog 133 #[.agg #[.string n, .slice a is.length cap], .int .i64 l] w fun e w' => Below w.heap.size w w' /\ ∃ r : Int, e = .returned (.int .i64 r) /\ (r < 0 \/ (is.length <= 1048576 /\ 0 <= r /\ r <= l)) := by
  have hb0 : Below w.heap.size w (w.alloc (.cells #[.string n, .slice a is.length cap] 199)) := (Below.refl _ _).alloc (Nat.le_refl _) _
  unfold maxLen at hn
  by_cases h : l - n.size < 0
  · go_enter Tryz.func133, Tryz.ntmps133
    go_wp2
    go_ret
    exact ⟨hb0, _, rfl, by omega⟩
  · go_enter Tryz.func133, Tryz.ntmps133
    go_wp2_with fail
    refine (szProgram_left a cap is (l - n.size) _ (by omega) (by omega) (hc.below hb0) hl hs).mono ?_
    rintro e w1 ⟨hb1, r, rfl, hr⟩
    have hB1 := bt hb0 hb1
    clear hb0 hb1
    go_wp2
    all_goals go_ret
    · exact ⟨hB1, -1, rfl, by omega⟩
    · exact ⟨hB1, r, rfl, by omega⟩
theorem szSS_any (a : Option Addr) (cap : Nat) (is : List S2) (lft : Int) (w : World) (hf0 : 0 <= lft) (hf1 : lft <= 1048576) (hc : RowS w a is) (hl : is.length <= maxLen) (hs : ∀ i, (sx is i).name.size <= maxLen) (ht : ∀ i, (sx is i).text.size <= maxLen) :
    Calls Tryz.prog 71 #[.slice a is.length cap, .int .i64 lft] w fun e w' => Below w.heap.size w w' /\ ∃ r : Int, e = .returned (.int .i64 r) /\ (r < 0 \/ ((is.length : Int) <= lft /\ 0 <= r /\ r <= lft)) := by
  have hl' := hl
  unfold maxLen at hl'
  by_cases h0 : (is.length : Int) <= lft
  · go_enter Tryz.func71, Tryz.ntmps71
    go_wp2
    go_loopw [1, 5] (fun l i wr => ∃ k : Nat, ∃ q : Int, k <= is.length /\ i = .int .i64 k /\ l = .int .i64 q /\ 0 <= q /\ q <= lft /\ Below w.heap.size w wr) (fun _ i _ => is.length - (intOf i).toNat)
    case atStart => exact ⟨0, _, Nat.zero_le _, rfl, rfl, by omega, by omega, Below.refl _ _⟩
    case round =>
      obtain ⟨k, q, hk, rfl, rfl, hq0, hq1, hbr⟩ := hrel
      by_cases hlt : k < is.length
      · obtain ⟨b, off, rfl, c1, c2⟩ := (hc.below hbr) k hlt
        have hsk := hs k
        have htk := ht k
        clear hs ht hc
        generalize sx is k = i at *
        go_wp2_with fail
        refine (szSource_any i _ _ (by omega) (by omega) hsk htk).mono ?_
        rintro e w1 ⟨hb1, r, rfl, hr⟩
        rcases hr with hr | hr
        · go_wp2
          go_ret
          exact ⟨hbr.trans (hb1.mono hbr.size), -1, rfl, by omega⟩
        · have hr0 : 0 <= r := by omega
          have hr1 : r <= q := by omega
          go_wp2
          go_roundw
          case rel => exact ⟨k + 1, _, by omega, by go_num, rfl, by omega, by omega, hbr.trans (hb1.mono hbr.size)⟩
          case measure => simp [intOf]; omega
      · go_wp2
        go_ret
        exact ⟨hbr, _, rfl, by omega⟩
  · go_enter Tryz.func71, Tryz.ntmps71
    go_wp2
    go_ret
    exact ⟨Below.refl _ _, -1, rfl, by omega⟩
theorem szTS_any (a : Option Addr) (cap : Nat) (is : List T2) (lft : Int) (w : World) (hf0 : 0 <= lft) (hf1 : lft <= 1048576) (hc : RowT w a is) (hl : is.length <= maxLen) (hs : ∀ i, (tx is i).name.size <= maxLen) (ht : ∀ i, (tx is i).code.length <= maxLen) (hu : ∀ i j, (ix (tx is i).code j).text.size <= maxLen) :
    Calls Tryz.prog 72 #[.slice a is.length cap, .int .i64 lft] w fun e w' => Below w.heap.size w w' /\ ∃ r : Int, e = .returned (.int .i64 r) /\ (r < 0 \/ ((is.length : Int) <= lft /\ 0 <= r /\ r <= lft /\ ∀ i, i < is.length -> (tx is i).code.length <= 1048576)) := by
  have hl' := hl
  unfold maxLen at hl'
  by_cases h0 : (is.length : Int) <= lft
  · go_enter Tryz.func72, Tryz.ntmps72
    go_wp2
    go_loopw [1, 5] (fun l i wr => ∃ k : Nat, ∃ q : Int, k <= is.length /\ i = .int .i64 k /\ l = .int .i64 q /\ 0 <= q /\ q <= lft /\ Below w.heap.size w wr /\ Hid (∀ i, i < k -> (tx is i).code.length <= 1048576)) (fun _ i _ => is.length - (intOf i).toNat)
    case atStart => exact ⟨0, _, Nat.zero_le _, rfl, rfl, by omega, by omega, Below.refl _ _, (fun i hi => by omega : ∀ i, i < 0 -> (tx is i).code.length <= 1048576)⟩
    case round =>
      obtain ⟨k, q, hk, rfl, rfl, hq0, hq1, hbr, HK⟩ := hrel
      by_cases hlt : k < is.length
      · obtain ⟨b, off, rfl, c1, a', cap', c2, c3⟩ := (hc.below hbr) k hlt
        have hsk := hs k
        have htk := ht k
        have huk := hu k
        clear hs ht hc
        obtain ⟨i, ei⟩ : ∃ i, tx is k = i := ⟨_, rfl⟩
        rw [ei] at c1 c2 c3 hsk htk huk
        have EI : Hid (tx is k = i) := ei
        clear ei
        go_wp2_with fail
        refine (szTarget_any i.name a' cap' i.code _ _ (by omega) (by omega) hsk c3 htk huk).mono ?_
        rintro e w1 ⟨hb1, r, rfl, hr⟩
        rcases hr with hr | hr
        · go_wp2
          go_ret
          exact ⟨hbr.trans (hb1.mono hbr.size), -1, rfl, Or.inl (by omega)⟩
        · have hr0 : 0 <= r := by omega
          have hr1 : r <= q := by omega
          go_wp2
          go_roundw
          case rel => exact ⟨k + 1, _, by omega, by go_num, rfl, by omega, by omega, hbr.trans (hb1.mono hbr.size), ext_succ HK.out (by rw [EI.out]; omega)⟩
          case measure => simp [intOf]; omega
      · go_wp2
        go_ret
        exact ⟨hbr, _, rfl, by refine Or.inr ⟨by omega, by omega, by omega, fun i hi => HK.out i (by omega)⟩⟩
  · go_enter Tryz.func72, Tryz.ntmps72
    go_wp2
    go_ret
    exact ⟨Below.refl _ _, -1, rfl, Or.inl (by omega)⟩
structure SpOk (w : World) (sa : Option Addr) (ss : List S2) (ta : Option Addr) (ts : List T2) : Prop where
  rs : RowS w sa ss
  rt : RowT w ta ts
  ls : ss.length <= maxLen
  lt : ts.length <= maxLen
  ns : ∀ i, (sx ss i).name.size <= maxLen
  xs : ∀ i, (sx ss i).text.size <= maxLen
  nt : ∀ i, (tx ts i).name.size <= maxLen
  lc : ∀ i, (tx ts i).code.length <= maxLen
  xt : ∀ i j, (ix (tx ts i).code j).text.size <= maxLen
structure SpSmall (ss : List S2) (ts : List T2) : Prop where
  ls : ss.length <= 1048576
  lt : ts.length <= 1048576
  lc : ∀ i, i < ts.length -> (tx ts i).code.length <= 1048576
theorem szSpace_any (sa ta : Option Addr) (c1 c2 : Nat) (ss : List S2) (ts : List T2) (w : World) (h : SpOk w sa ss ta ts) :
    Calls Tryz.prog 24 #[.agg #[.slice sa ss.length c1, .slice ta ts.length c2], .int .i64 1048576] w fun e w' => Below w.heap.size w w' /\ ∃ r : Int, e = .returned (.int .i64 r) /\ (r < 0 \/ (SpSmall ss ts /\ 0 <= r)) := by
  have hb0 : Below w.heap.size w (w.alloc (.cells #[.slice sa ss.length c1, .slice ta ts.length c2] 71)) := (Below.refl _ _).alloc (Nat.le_refl _) _
  have k0 : (w.alloc (.cells #[.slice sa ss.length c1, .slice ta ts.length c2] 71)).cell? ⟨w.heap.size, 1, none⟩ = some (.slice ta ts.length c2) := by simp [go_sem]
  obtain ⟨rs, rt, ls, lt, ns, xs, nt, lc, xt⟩ := h
  go_enter Tryz.func24, Tryz.ntmps24
  go_wp2_with fail
  refine (szSS_any sa c1 ss 1048576 _ (by omega) (by omega) (rs.below hb0) ls ns xs).mono ?_
  rintro e w1 ⟨hb1, r, rfl, hr⟩
  have hB1 := bt hb0 hb1
  have k1 := cell_below hb1 k0
  rcases hr with hr | ⟨h1, hr0, hr1⟩
  · clear hb0 hb1 k0
    go_wp2
    go_ret
    exact ⟨hB1, -1, rfl, Or.inl (by omega)⟩
  · clear hb0 hb1 k0
    go_wp2_with fail
    refine (szTS_any ta c2 ts r _ (by omega) (by omega) (rt.below hB1) lt nt lc xt).mono ?_
    rintro e w2 ⟨hb2, r2, rfl, hr2⟩
    have hB2 := bt hB1 hb2
    clear hb2 hB1 k1
    rcases hr2 with hr2 | ⟨h2, hr2, hr3, h3⟩
    · go_wp2
      go_ret
      exact ⟨hB2, -1, rfl, Or.inl (by omega)⟩
    · go_wp2
      go_ret
      exact ⟨hB2, r2, rfl, Or.inr ⟨⟨by omega, by omega, h3⟩, by omega⟩⟩
end Go.Proofs.YtmeojnaoljgieaeGreatDoor
