/-
  Rows of looks (Glance, Seen) told of cells; the walks of the law's sz, to, eq over them.
-/
import Derived.Test.YtmpgajfccaoboaeGreatDoorPlain
namespace Go.Proofs.YtmpgajfccaoboaeGreatDoor
open Go.RowKit
set_option linter.unusedVariables false

structure G3 where
  name : ByteArray
  ask : Bool
  sum : ByteArray
def g00 : G3 := ⟨ByteArray.empty, false, ByteArray.empty⟩
def gx (is : List G3) (i : Nat) : G3 := is.getD i g00

def RowG (w : World) (a : Option Addr) (is : List G3) : Prop :=
  ∀ i, i < is.length → ∃ b off, a = some ⟨b, off, none⟩ ∧ w.cell? ⟨b, off + i * 3, none⟩ = some (.string (gx is i).name) ∧ w.cell? ⟨b, off + i * 3 + 1, none⟩ = some (.bool (gx is i).ask) ∧ w.cell? ⟨b, off + i * 3 + 2, none⟩ = some (.string (gx is i).sum)

theorem RowG.below {w w' : World} {a : Option Addr} {is : List G3} (h : RowG w a is) (hb : Below w.heap.size w w') : RowG w' a is := by
  intro i hi
  obtain ⟨b, off, ha, h1, h2, h3⟩ := h i hi
  exact ⟨b, off, ha, cell_below hb h1, cell_below hb h2, cell_below hb h3⟩
theorem RowG.setCell {w : World} {g : Nat} {is : List G3} (h : RowG w (some ⟨g, 0, none⟩) is) {b j : Nat} (hb : b ≠ g) (v : Value) : RowG (w.setCell ⟨b, j, none⟩ v) (some ⟨g, 0, none⟩) is := by
  intro i hi
  obtain ⟨b', off, ha, h1, h2, h3⟩ := h i hi
  cases ha
  have e : ∀ o, (w.setCell ⟨b, j, none⟩ v).cell? ⟨g, o, none⟩ = w.cell? ⟨g, o, none⟩ := fun o => World.cell?_of_block (w := w) (Below.heap_setCell w ⟨b, j, none⟩ v g (fun e => hb e.symm))
  exact ⟨g, 0, rfl, by rw [e]; exact h1, by rw [e]; exact h2, by rw [e]; exact h3⟩

def FilledG (is : List G3) (k : Nat) (xs : List Value) : Prop :=
  ∀ i, i < k → xs[i * 3]? = some (.string (gx is i).name) ∧ xs[i * 3 + 1]? = some (.bool (gx is i).ask) ∧ xs[i * 3 + 2]? = some (.string (gx is i).sum)
theorem filledG_set {is : List G3} {k : Nat} {xs : List Value} (h : FilledG is k xs) (hx : k * 3 + 2 < xs.length) :
    FilledG is (k + 1) (((xs.set (k * 3) (.string (gx is k).name)).set (k * 3 + 1) (.bool (gx is k).ask)).set (k * 3 + 2) (.string (gx is k).sum)) := by
  intro i hi
  rcases Nat.lt_or_ge i k with hl | hl
  · obtain ⟨h1, h2, h3⟩ := h i hl
    simp only [List.getElem?_set]
    rw [if_neg (by omega), if_neg (by omega), if_neg (by omega), if_neg (by omega), if_neg (by omega), if_neg (by omega), if_neg (by omega), if_neg (by omega), if_neg (by omega)]
    exact ⟨h1, h2, h3⟩
  · obtain rfl : i = k := by omega
    simp [List.getElem?_set]
    omega
theorem rowG_own {w : World} {B g n cap T : Nat} {is : List G3} {xs : List Value} (hn : n = is.length) (h : w.ownsRow B T 3 (.slice (some ⟨g, 0, none⟩) n cap) n xs) (hf : FilledG is n xs) : RowG w (some ⟨g, 0, none⟩) is := by
  subst hn
  intro i hi
  obtain ⟨h1, h2, h3⟩ := hf i hi
  refine ⟨g, 0, rfl, ?_, ?_, ?_⟩
  · rw [Nat.zero_add, h.cellAt _ (by omega)]; exact h1
  · rw [Nat.zero_add, h.cellAt _ (by omega)]; exact h2
  · rw [Nat.zero_add, h.cellAt _ (by omega)]; exact h3
theorem cell_of_length3 {w : World} {B g n cap j T : Nat} {xs : List Value} (h : w.ownsRow B T 3 (.slice (some ⟨g, 0, none⟩) n cap) n xs) (hj : j < n * 3) : ∃ v, w.cell? ⟨g, j, none⟩ = some v := by
  have hl := h.1
  exact ⟨xs[j]'(by omega), by rw [h.cellAt j hj]; exact List.getElem?_eq_getElem _⟩
theorem ext_succ {P : Nat → Prop} {k : Nat} (h : ∀ i, i < k → P i) (hk : P k) : ∀ i, i < k + 1 → P i := by
  intro i hi
  rcases Nat.lt_or_ge i k with h1 | h1
  · exact h i h1
  · obtain rfl : i = k := by omega
    exact hk
theorem bt {w a b : World} (h : Below w.heap.size w a) (k : Below a.heap.size a b) : Below w.heap.size w b := h.trans (k.mono h.size)

set_option maxHeartbeats 400000 in
theorem szGlance_any (i : G3) (l : Int) (w : World) (h0 : 0 ≤ l) (h1 : l ≤ 1048576) (hs : i.name.size ≤ maxLen) (ht : i.sum.size ≤ maxLen) :
    Calls Tryz.prog 99 #[.agg #[.string i.name, .bool i.ask, .string i.sum], .int .i64 l] w fun e w' => Below w.heap.size w w' ∧ ∃ r : Int, e = .returned (.int .i64 r) ∧ (r < 0 ∨ (0 ≤ r ∧ r ≤ l ∧ i.sum.size ≤ 1048576)) := by
  unfold maxLen at hs ht
  by_cases h : l - i.name.size < 0
  · go_enter Tryz.func99, Tryz.ntmps99
    go_wp2
    go_ret
    exact ⟨(Below.refl _ _).alloc (Nat.le_refl _) _, _, rfl, by omega⟩
  · by_cases h2 : l - i.name.size - i.sum.size < 0
    · go_enter Tryz.func99, Tryz.ntmps99
      go_wp2
      go_ret
      exact ⟨(Below.refl _ _).alloc (Nat.le_refl _) _, _, rfl, by omega⟩
    · go_enter Tryz.func99, Tryz.ntmps99
      go_wp2
      go_ret
      exact ⟨(Below.refl _ _).alloc (Nat.le_refl _) _, _, rfl, by omega⟩

set_option maxHeartbeats 1000000 in
theorem szGlanceS_any (a : Option Addr) (cap : Nat) (is : List G3) (lft : Int) (w : World) (hf0 : 0 ≤ lft) (hf1 : lft ≤ 1048576) (hc : RowG w a is) (hl : is.length ≤ maxLen) (hs : ∀ i, (gx is i).name.size ≤ maxLen) (ht : ∀ i, (gx is i).sum.size ≤ maxLen) :
    Calls Tryz.prog 51 #[.slice a is.length cap, .int .i64 lft] w fun e w' => Below w.heap.size w w' ∧ ∃ r : Int, e = .returned (.int .i64 r) ∧ (r < 0 ∨ ((is.length : Int) ≤ lft ∧ 0 ≤ r ∧ r ≤ lft ∧ ∀ i, i < is.length → (gx is i).sum.size ≤ 1048576)) := by
  have hl' := hl
  unfold maxLen at hl'
  by_cases h0 : (is.length : Int) ≤ lft
  · go_enter Tryz.func51, Tryz.ntmps51
    go_wp2
    go_loopw [1, 5] (fun l i wr => ∃ k : Nat, ∃ q : Int, k ≤ is.length ∧ i = .int .i64 k ∧ l = .int .i64 q ∧ 0 ≤ q ∧ q ≤ lft ∧ Below w.heap.size w wr ∧ Hid (∀ i, i < k → (gx is i).sum.size ≤ 1048576)) (fun _ i _ => is.length - (intOf i).toNat)
    case atStart => exact ⟨0, _, Nat.zero_le _, rfl, rfl, by omega, by omega, Below.refl _ _, (fun i hi => by omega : ∀ i, i < 0 → (gx is i).sum.size ≤ 1048576)⟩
    case round =>
      obtain ⟨k, q, hk, rfl, rfl, hq0, hq1, hbr, HK⟩ := hrel
      by_cases hlt : k < is.length
      · obtain ⟨b, off, rfl, c1, c2, c3⟩ := (hc.below hbr) k hlt
        have hsk := hs k
        have htk := ht k
        clear hs ht hc
        obtain ⟨i, ei⟩ : ∃ i, gx is k = i := ⟨_, rfl⟩
        rw [ei] at c1 c2 c3 hsk htk
        have EI : Hid (gx is k = i) := ei
        clear ei
        go_wp2_with fail
        refine (szGlance_any i _ _ (by omega) (by omega) hsk htk).mono ?_
        rintro e w1 ⟨hb1, r, rfl, hr⟩
        rcases hr with hr | hr
        · go_wp2
          go_ret
          exact ⟨hbr.trans (hb1.mono hbr.size), -1, rfl, Or.inl (by omega)⟩
        · have hr0 : 0 ≤ r := by omega
          have hr1 : r ≤ q := by omega
          go_wp2
          go_roundw
          case rel => exact ⟨k + 1, _, by omega, by go_num, rfl, by omega, by omega, hbr.trans (hb1.mono hbr.size), ext_succ HK.out (by rw [EI.out]; omega)⟩
          case measure => simp [intOf]; omega
      · go_wp2
        go_ret
        exact ⟨hbr, _, rfl, Or.inr ⟨by omega, by omega, by omega, fun i hi => HK.out i (by omega)⟩⟩
  · go_enter Tryz.func51, Tryz.ntmps51
    go_wp2
    go_ret
    exact ⟨Below.refl _ _, -1, rfl, Or.inl (by omega)⟩

set_option maxHeartbeats 400000 in
theorem toGlance_any (i : G3) (w : World) :
    Calls Tryz.prog 108 #[.agg #[.string i.name, .bool i.ask, .string i.sum]] w fun e w' => Below w.heap.size w w' ∧ e = .returned (.agg #[.string i.name, .bool i.ask, .string i.sum]) := by
  go_enter Tryz.func108, Tryz.ntmps108
  go_wp2
  exact bodyPost_ret (v := .agg #[.string i.name, .bool i.ask, .string i.sum]) (by simp [results, Tryz.results108, go_sem]) rfl ⟨(((Below.refl _ _).alloc (Nat.le_refl _) _).alloc (by simp) _).alloc (by simp; omega) _, rfl⟩

theorem Tryz.info154 : (Tryz.prog.info? 154).map (fun i => (i.zero, i.size, i.bytes)) = some (some (.agg #[.string ByteArray.empty, .bool false, .string ByteArray.empty]), 3, 40) := by kernel_rfl

set_option maxHeartbeats 400000 in
theorem toGlanceS_any (a : Option Addr) (cap : Nat) (is : List G3) (w : World) (hc : RowG w a is) (hl : is.length ≤ 1048576) :
    Calls Tryz.prog 58 #[.slice a is.length cap] w fun e w' => Below w.heap.size w w' ∧ ∃ g : Nat, e = .returned (.slice (some ⟨g, 0, none⟩) is.length is.length) ∧ w.heap.size ≤ g ∧ g < w'.heap.size ∧ RowG w' (some ⟨g, 0, none⟩) is := by
  obtain ⟨z0, hi, hz0, hz1, hz2⟩ := info_parts Tryz.info154
  go_enter Tryz.func58, Tryz.ntmps58
  go_wp2_with (first | (at_make; refine wpList_make_full _ rfl (.tmp 6) (.tmp 6) 61 rfl w.heap.size 154 z0 (.agg #[.string ByteArray.empty, .bool false, .string ByteArray.empty]) 3 Tryz.underlying61 hi hz0 hz1 .i64 .i64 _ _ is.length rfl rfl rfl rfl (by rw [hz2]; omega) (by unfold maxLen; omega) (Nat.le_refl _) ?_; intro w1 hown hgrow))
  have hbel1 : Below w.heap.size w w1 := (Below.refl _ _).grown hgrow (Nat.le_refl _) (by simp)
  clear hgrow
  go_loopw [4] (fun i wr => ∃ k : Nat, ∃ xs : List Value, k ≤ is.length ∧ i = .int .i64 k ∧ wr.ownsRow w.heap.size 154 3 (.slice (some ⟨w.heap.size, 0, none⟩) is.length is.length) is.length xs ∧ FilledG is k xs ∧ Below w.heap.size w wr) (fun i _ => is.length - (intOf i).toNat)
  case atStart => exact ⟨0, _, Nat.zero_le _, rfl, hown, fun i hi => by omega, hbel1⟩
  case round =>
    obtain ⟨k, xs, hk, rfl, hown, hfi, hbel⟩ := hrel
    by_cases hlt : k < is.length
    · obtain ⟨b, off, rfl, c1, c2, c3⟩ := (hc.below hbel) k hlt
      have hf2 := filledG_set hfi (show k * 3 + 2 < xs.length by rw [hown.1]; omega)
      generalize gx is k = i at *
      clear hbel1 hc hfi
      go_wp2_with fail
      refine (toGlance_any i _).mono ?_
      rintro e w2 ⟨hb2, rfl⟩
      have hown2 := ownsRow_below hown hb2
      have hbw : Below w.heap.size w w2 := hbel.trans (hb2.mono hbel.size)
      have hfr := hown2.frozenAt
      obtain ⟨o1, d1⟩ := cell_of_length3 hown2 (j := k * 3) (by omega)
      obtain ⟨o2, d2⟩ := cell_of_length3 hown2 (j := k * 3 + 1) (by omega)
      obtain ⟨o3, d3⟩ := cell_of_length3 hown2 (j := k * 3 + 2) (by omega)
      have HO : Hid (w2.ownsRow w.heap.size 154 3 (.slice (some ⟨w.heap.size, 0, none⟩) is.length is.length) is.length xs) := hown2
      clear hown hown2 hb2 hbel
      go_wp2
      go_roundw
      case rel => exact ⟨k + 1, _, by omega, by go_num, (((HO.out.stored _ _).1.stored _ _).1.stored _ _).1, hf2, ((hbw.setCell (Nat.le_refl _) _).setCell (Nat.le_refl _) _).setCell (Nat.le_refl _) _⟩
      case measure => simp [intOf]; omega
    · have ek : k = is.length := by omega
      subst ek
      go_wp2
      go_ret
      exact ⟨hbel, _, rfl, Nat.le_refl _, (hown.lt _ rfl).2, rowG_own rfl hown hfi⟩

set_option maxHeartbeats 400000 in
theorem eqGlance_same (i : G3) (w : World) :
    Calls Tryz.prog 117 #[.agg #[.string i.name, .bool i.ask, .string i.sum], .agg #[.string i.name, .bool i.ask, .string i.sum]] w fun e w' => Below w.heap.size w w' ∧ e = .returned (.bool true) := by
  have e1 := str_eq (rfl : i.name = i.name)
  have e2 := str_eq (rfl : i.sum = i.sum)
  go_enter Tryz.func117, Tryz.ntmps117
  go_wp2
  go_ret
  exact ⟨((Below.refl _ _).alloc (Nat.le_refl _) _).alloc (by simp) _, rfl⟩

set_option maxHeartbeats 400000 in
theorem eqGlanceS_same (a a' : Option Addr) (cap cap' : Nat) (is : List G3) (w : World) (hc : RowG w a is) (hc' : RowG w a' is) (hl : is.length ≤ 1048576) :
    Calls Tryz.prog 65 #[.slice a is.length cap, .slice a' is.length cap'] w fun e w' => Below w.heap.size w w' ∧ e = .returned (.bool true) := by
  go_enter Tryz.func65, Tryz.ntmps65
  go_wp2
  go_loopw [5] (fun i wr => ∃ k : Nat, k ≤ is.length ∧ i = .int .i64 k ∧ Below w.heap.size w wr) (fun i _ => is.length - (intOf i).toNat)
  case atStart => exact ⟨0, Nat.zero_le _, rfl, Below.refl _ _⟩
  case round =>
    obtain ⟨k, hk, rfl, hbel⟩ := hrel
    by_cases hlt : k < is.length
    · obtain ⟨b, off, rfl, c1, c2, c3⟩ := (hc.below hbel) k hlt
      obtain ⟨b', off', rfl, d1, d2, d3⟩ := (hc'.below hbel) k hlt
      generalize gx is k = i at *
      clear hc hc'
      have hkI : (k : Int) < (is.length : Int) := by omega
      have hk0 : (0 : Int) ≤ (k : Int) := by omega
      go_wp2_with fail
      go_region_held3 (fun w' => (w'.cell? ⟨b, off + k * 3, none⟩ = some (.string i.name) ∧ w'.cell? ⟨b, off + k * 3 + 1, none⟩ = some (.bool i.ask) ∧ w'.cell? ⟨b, off + k * 3 + 2, none⟩ = some (.string i.sum)) ∧ (w'.cell? ⟨b', off' + k * 3, none⟩ = some (.string i.name) ∧ w'.cell? ⟨b', off' + k * 3 + 1, none⟩ = some (.bool i.ask) ∧ w'.cell? ⟨b', off' + k * 3 + 2, none⟩ = some (.string i.sum)))
        (first | assumption | (simp [*]; done) | exact ⟨⟨cell_below hb1 (by simp [*]), cell_below hb1 (by simp [*]), cell_below hb1 (by simp [*])⟩, cell_below hb1 (by simp [*]), cell_below hb1 (by simp [*]), cell_below hb1 (by simp [*])⟩)
        (first | (go_at_call 117; refine (eqGlance_same i _).mono ?_; rintro e w1 ⟨hb1, rfl⟩))
      all_goals
        go_wp2
        go_roundw
        case rel => exact ⟨k + 1, by omega, by go_num, hbel.trans (Below.trans (Below.drew (Below.refl _ _)) (hb1.mono (by simpa using hbel.size)))⟩
        case measure => simp [intOf]; omega
    · go_wp2
      go_ret
      exact ⟨hbel, rfl⟩

open Go.RowKit
set_option linter.unusedVariables false

set_option maxHeartbeats 400000 in
theorem szInsS_left (a : Option Addr) (cap : Nat) (is : List I3) (lft : Int) (w : World) (hf0 : 0 ≤ lft) (hf1 : lft ≤ 1048576) (hc : Row3 w a is) (hl : is.length ≤ maxLen) (hs : ∀ i, (ix is i).text.size ≤ maxLen) :
    Calls Tryz.prog 98 #[.slice a is.length cap, .int .i64 lft] w fun e w' => Below w.heap.size w w' ∧ ∃ r : Int, e = .returned (.int .i64 r) ∧ (r < 0 ∨ ((is.length : Int) ≤ lft ∧ 0 ≤ r ∧ r ≤ lft)) := by
  unfold maxLen at hl hs
  by_cases h0 : (is.length : Int) ≤ lft
  · go_enter Tryz.func98, Tryz.ntmps98
    go_wp2
    go_loopw [1, 5] (fun l i wr => ∃ k : Nat, ∃ q : Int, k ≤ is.length ∧ i = .int .i64 k ∧ l = .int .i64 q ∧ 0 ≤ q ∧ q ≤ lft ∧ Below w.heap.size w wr) (fun _ i _ => is.length - (intOf i).toNat)
    case atStart => exact ⟨0, _, Nat.zero_le _, rfl, rfl, by omega, by omega, Below.refl _ _⟩
    case round =>
      obtain ⟨k, q, hk, rfl, rfl, hq0, hq1, hbr⟩ := hrel
      by_cases hlt : k < is.length
      · obtain ⟨b, off, rfl, c1, c2, c3⟩ := (hc.below hbr) k hlt
        have hsk := hs k
        clear hs hc
        generalize ix is k = i at *
        go_wp2_with fail
        refine (szIns_any i _ _ (by omega) (by omega) hsk).mono ?_
        rintro e w1 ⟨hb1, ⟨hneg, rfl⟩ | ⟨hpos, rfl⟩⟩
        · go_wp2
          go_ret
          exact ⟨hbr.trans (hb1.mono hbr.size), -1, rfl, by omega⟩
        · go_wp2
          go_roundw
          case rel => exact ⟨k + 1, _, by omega, by go_num, rfl, by omega, by omega, hbr.trans (hb1.mono hbr.size)⟩
          case measure => simp [intOf]; omega
      · go_wp2
        go_ret
        exact ⟨hbr, _, rfl, by omega⟩
  · go_enter Tryz.func98, Tryz.ntmps98
    go_wp2
    go_ret
    exact ⟨Below.refl _ _, -1, rfl, by omega⟩

set_option maxHeartbeats 400000 in
theorem szProgram_left (a : Option Addr) (cap : Nat) (is : List I3) (lft : Int) (w : World) (hf0 : 0 ≤ lft) (hf1 : lft ≤ 1048576) (hc : Row3 w a is) (hl : is.length ≤ maxLen) (hs : ∀ i, (ix is i).text.size ≤ maxLen) :
    Calls Tryz.prog 50 #[.agg #[.slice a is.length cap], .int .i64 lft] w fun e w' => Below w.heap.size w w' ∧ ∃ r : Int, e = .returned (.int .i64 r) ∧ (r < 0 ∨ ((is.length : Int) ≤ lft ∧ 0 ≤ r ∧ r ≤ lft)) := by
  have hb0 : Below w.heap.size w (w.alloc (.cells #[.slice a is.length cap] 47)) := (Below.refl _ _).alloc (Nat.le_refl _) _
  go_enter Tryz.func50, Tryz.ntmps50
  go_wp2_with fail
  refine (szInsS_left a cap is lft _ hf0 hf1 (hc.below hb0) hl hs).mono ?_
  rintro e w1 ⟨hb1, r, rfl, hr⟩
  have hB1 := bt hb0 hb1
  clear hb0 hb1
  go_wp2
  all_goals go_ret
  · exact ⟨hB1, -1, rfl, by omega⟩
  · exact ⟨hB1, r, rfl, by omega⟩

/-- The hypotheses on a record that its reading gives. -/
structure RecOk (w : World) (a : Option Addr) (is : List I3) (la : Option Addr) (gs : List G3) (out : ByteArray) : Prop where
  rc : Row3 w a is
  rg : RowG w la gs
  lc : is.length ≤ maxLen
  lg : gs.length ≤ maxLen
  xc : ∀ i, (ix is i).text.size ≤ maxLen
  ng : ∀ i, (gx gs i).name.size ≤ maxLen
  sg : ∀ i, (gx gs i).sum.size ≤ maxLen
  so : out.size ≤ maxLen

set_option maxHeartbeats 400000 in
theorem szRecord_any (a la : Option Addr) (cap lc : Nat) (is : List I3) (gs : List G3) (out : ByteArray) (w : World) (h : RecOk w a is la gs out) :
    Calls Tryz.prog 16 #[.agg #[.slice a is.length cap, .slice la gs.length lc, .string out], .int .i64 1048576] w fun e w' => Below w.heap.size w w' ∧ ∃ r : Int, e = .returned (.int .i64 r) ∧ (r < 0 ∨ (is.length ≤ 1048576 ∧ gs.length ≤ 1048576 ∧ 0 ≤ r ∧ r ≤ 1048576)) := by
  obtain ⟨rc, rg, hlc, hlg, xc, ng, sg, so⟩ := h
  unfold maxLen at so
  have hb0 : Below w.heap.size w (w.alloc (.cells #[.slice a is.length cap, .slice la gs.length lc, .string out] 50)) := (Below.refl _ _).alloc (Nat.le_refl _) _
  have k1 : (w.alloc (.cells #[.slice a is.length cap, .slice la gs.length lc, .string out] 50)).cell? ⟨w.heap.size, 1, none⟩ = some (.slice la gs.length lc) := by simp [go_sem]
  have k2 : (w.alloc (.cells #[.slice a is.length cap, .slice la gs.length lc, .string out] 50)).cell? ⟨w.heap.size, 2, none⟩ = some (.string out) := by simp [go_sem]
  go_enter Tryz.func16, Tryz.ntmps16
  go_wp2_with fail
  refine (szProgram_left a cap is 1048576 _ (by omega) (by omega) (rc.below hb0) hlc xc).mono ?_
  rintro e w1 ⟨hb1, r, rfl, hr⟩
  have hB1 := bt hb0 hb1
  have k11 := cell_below hb1 k1
  have k12 := cell_below hb1 k2
  clear hb0 hb1 k1 k2
  rcases hr with hr | ⟨h1, hr0, hr1⟩
  · go_wp2
    go_ret
    exact ⟨hB1, -1, rfl, Or.inl (by omega)⟩
  · go_wp2_with fail
    refine (szGlanceS_any la lc gs r _ (by omega) (by omega) (rg.below hB1) hlg ng sg).mono ?_
    rintro e w2 ⟨hb2, r2, rfl, hr2⟩
    have hB2 := bt hB1 hb2
    have k22 := cell_below hb2 k12
    clear hb2 hB1 k11 k12
    rcases hr2 with hr2 | ⟨h2, hr2, hr3, h3⟩
    · go_wp2
      go_ret
      exact ⟨hB2, -1, rfl, Or.inl (by omega)⟩
    · by_cases h4 : r2 - out.size < 0
      · go_wp2
        go_ret
        exact ⟨hB2, -1, rfl, Or.inl (by omega)⟩
      · go_wp2
        go_ret
        exact ⟨hB2, r2 - out.size, rfl, Or.inr (by omega)⟩

set_option maxHeartbeats 400000 in
theorem toProgram_fresh (a : Option Addr) (cap : Nat) (is : List I3) (w : World) (hc : Row3 w a is) (hl : is.length ≤ 1048576) :
    Calls Tryz.prog 57 #[.agg #[.slice a is.length cap]] w fun e w' => Below w.heap.size w w' ∧ ∃ g : Nat, e = .returned (.agg #[.slice (some ⟨g, 0, none⟩) is.length is.length]) ∧ w.heap.size ≤ g ∧ Row3 w' (some ⟨g, 0, none⟩) is := by
  go_enter Tryz.func57, Tryz.ntmps57
  go_wp2_with fail
  have hb0 : Below w.heap.size w (((w.alloc (.cells #[.slice a is.length cap] 47)).alloc (.cells #[.slice none 0 0] 60)).alloc (.cells #[.slice none 0 0] 60)) := (((Below.refl _ _).alloc (Nat.le_refl _) _).alloc (by simp) _).alloc (by simp; omega) _
  refine (toInsS_any a cap is _ (hc.below hb0) hl).mono ?_
  rintro e w1 ⟨hb1, g, rfl, hg, hr⟩
  simp at hg
  have hb : Below w.heap.size w w1 := hb0.trans (hb1.mono hb0.size)
  have hz := hb1.size
  simp at hz
  have c1 : w1.cell? ⟨w.heap.size + 1, 0, none⟩ = some (.slice none 0 0) := cell_below hb1 (by simp [go_sem])
  have c2 : w1.cell? ⟨w.heap.size + 1 + 1, 0, none⟩ = some (.slice none 0 0) := cell_below hb1 (by simp [go_sem])
  have f1 : w1.frozen? ⟨w.heap.size + 1, 0, none⟩ = false := by rw [hb1.frozen (p := ⟨w.heap.size + 1, 0, none⟩) (by simp)]; simp [go_sem]
  have f2 : w1.frozen? ⟨w.heap.size + 1 + 1, 0, none⟩ = false := by rw [hb1.frozen (p := ⟨w.heap.size + 1 + 1, 0, none⟩) (by simp)]; simp [go_sem]
  clear hb0 hb1
  go_wp2
  exact bodyPost_ret (v := .agg #[.slice (some ⟨g, 0, none⟩) is.length is.length]) (by simp [results, Tryz.results57, go_sem, c1]) rfl ⟨setCell_below (setCell_below hb (by omega) _) (by omega) _, g, rfl, by omega, (hr.setCell (by omega) _).setCell (by omega) _⟩

set_option maxHeartbeats 1000000 in
theorem toRecord_any (a la : Option Addr) (cap lc : Nat) (is : List I3) (gs : List G3) (out : ByteArray) (w : World) (rc : Row3 w a is) (rg : RowG w la gs) (h1 : is.length ≤ 1048576) (h2 : gs.length ≤ 1048576) :
    Calls Tryz.prog 19 #[.agg #[.slice a is.length cap, .slice la gs.length lc, .string out]] w fun e w' => Below w.heap.size w w' ∧ ∃ g1 g2 : Nat, e = .returned (.agg #[.slice (some ⟨g1, 0, none⟩) is.length is.length, .slice (some ⟨g2, 0, none⟩) gs.length gs.length, .string out]) ∧ Row3 w' (some ⟨g1, 0, none⟩) is ∧ RowG w' (some ⟨g2, 0, none⟩) gs := by
  go_enter Tryz.func19, Tryz.ntmps19
  go_wp2_with fail
  have hb0 : Below w.heap.size w (((w.alloc (.cells #[.slice a is.length cap, .slice la gs.length lc, .string out] 50)).alloc (.cells #[.slice none 0 0, .slice none 0 0, .string ⟨#[]⟩] 63)).alloc (.cells #[.slice none 0 0, .slice none 0 0, .string ⟨#[]⟩] 63)) := (((Below.refl _ _).alloc (Nat.le_refl _) _).alloc (by simp) _).alloc (by simp; omega) _
  refine (toProgram_fresh a cap is _ (rc.below hb0) h1).mono ?_
  rintro e w1 ⟨hb1, g, rfl, hg, hr⟩
  simp at hg
  have hb : Below w.heap.size w w1 := hb0.trans (hb1.mono hb0.size)
  have hz := hb1.size
  simp at hz
  have c01 : w1.cell? ⟨w.heap.size, 1, none⟩ = some (.slice la gs.length lc) := cell_below hb1 (by simp [go_sem])
  have c02 : w1.cell? ⟨w.heap.size, 2, none⟩ = some (.string out) := cell_below hb1 (by simp [go_sem])
  have c10 : w1.cell? ⟨w.heap.size + 1, 0, none⟩ = some (.slice none 0 0) := cell_below hb1 (by simp [go_sem])
  have c11 : w1.cell? ⟨w.heap.size + 1, 1, none⟩ = some (.slice none 0 0) := cell_below hb1 (by simp [go_sem])
  have c12 : w1.cell? ⟨w.heap.size + 1, 2, none⟩ = some (.string ⟨#[]⟩) := cell_below hb1 (by simp [go_sem])
  have c20 : w1.cell? ⟨w.heap.size + 1 + 1, 0, none⟩ = some (.slice none 0 0) := cell_below hb1 (by simp [go_sem])
  have c21 : w1.cell? ⟨w.heap.size + 1 + 1, 1, none⟩ = some (.slice none 0 0) := cell_below hb1 (by simp [go_sem])
  have c22 : w1.cell? ⟨w.heap.size + 1 + 1, 2, none⟩ = some (.string ⟨#[]⟩) := cell_below hb1 (by simp [go_sem])
  have f1 : ∀ j, w1.frozen? ⟨w.heap.size + 1, j, none⟩ = false := fun j => by rw [hb1.frozen (p := ⟨w.heap.size + 1, j, none⟩) (by simp)]; simp [go_sem]
  have f2 : ∀ j, w1.frozen? ⟨w.heap.size + 1 + 1, j, none⟩ = false := fun j => by rw [hb1.frozen (p := ⟨w.heap.size + 1 + 1, j, none⟩) (by simp)]; simp [go_sem]
  clear hb0 hb1
  go_wp2_with fail
  have hbs : Below w.heap.size w (w1.setCell ⟨w.heap.size + 1 + 1, 0, none⟩ (.slice (some ⟨g, 0, none⟩) is.length is.length)) := hb.setCell (p := ⟨w.heap.size + 1 + 1, 0, none⟩) (by simp; omega) _
  refine (toGlanceS_any la lc gs _ (rg.below hbs) h2).mono ?_
  rintro e w2 ⟨hb2, g2, rfl, hg2, hg2', hr2⟩
  have hb3 : Below w.heap.size w w2 := hbs.trans (hb2.mono hbs.size)
  have hrs := (hr.setCell (b := w.heap.size + 1 + 1) (j := 0) (by omega) (.slice (some ⟨g, 0, none⟩) is.length is.length)).below hb2
  have hz2 := hb2.size
  simp at hz2
  simp at hg2
  have d02 : w2.cell? ⟨w.heap.size, 2, none⟩ = some (.string out) := cell_below hb2 (by simp [go_sem, c02])
  have d10 : w2.cell? ⟨w.heap.size + 1, 0, none⟩ = some (.slice none 0 0) := cell_below hb2 (by simp [go_sem, c10])
  have d11 : w2.cell? ⟨w.heap.size + 1, 1, none⟩ = some (.slice none 0 0) := cell_below hb2 (by simp [go_sem, c11])
  have d12 : w2.cell? ⟨w.heap.size + 1, 2, none⟩ = some (.string ⟨#[]⟩) := cell_below hb2 (by simp [go_sem, c12])
  have d20 : w2.cell? ⟨w.heap.size + 1 + 1, 0, none⟩ = some (.slice (some ⟨g, 0, none⟩) is.length is.length) := cell_below hb2 (by simp [go_sem, c20])
  have d21 : w2.cell? ⟨w.heap.size + 1 + 1, 1, none⟩ = some (.slice none 0 0) := cell_below hb2 (by simp [go_sem, c21])
  have d22 : w2.cell? ⟨w.heap.size + 1 + 1, 2, none⟩ = some (.string ⟨#[]⟩) := cell_below hb2 (by simp [go_sem, c22])
  have e1 : ∀ j, w2.frozen? ⟨w.heap.size + 1, j, none⟩ = false := fun j => by rw [hb2.frozen (p := ⟨w.heap.size + 1, j, none⟩) (by simp; omega)]; simp [go_sem, f1]
  have e2 : ∀ j, w2.frozen? ⟨w.heap.size + 1 + 1, j, none⟩ = false := fun j => by rw [hb2.frozen (p := ⟨w.heap.size + 1 + 1, j, none⟩) (by simp; omega)]; simp [go_sem, f2]
  clear hb2 hbs hb c01 c02 c10 c11 c12 c20 c21 c22 f1 f2 hr
  go_wp2
  refine bodyPost_ret (v := .agg #[.slice (some ⟨g, 0, none⟩) is.length is.length, .slice (some ⟨g2, 0, none⟩) gs.length gs.length, .string out]) (by simp [results, Tryz.results19, go_sem, d10, d11, d12]) rfl ⟨?_, g, g2, rfl, ?_, ?_⟩
  · exact ((((hb3.setCell (p := ⟨w.heap.size + 1 + 1, 1, none⟩) (by simp; omega) _).setCell (p := ⟨w.heap.size + 1 + 1, 2, none⟩) (by simp; omega) _).setCell (p := ⟨w.heap.size + 1, 0, none⟩) (by simp) _).setCell (p := ⟨w.heap.size + 1, 1, none⟩) (by simp) _).setCell (p := ⟨w.heap.size + 1, 2, none⟩) (by simp) _
  · exact ((((hrs.setCell (by omega) _).setCell (by omega) _).setCell (by omega) _).setCell (by omega) _).setCell (by omega) _
  · exact ((((hr2.setCell (by omega) _).setCell (by omega) _).setCell (by omega) _).setCell (by omega) _).setCell (by omega) _

set_option maxHeartbeats 400000 in
theorem eqRecord_same (a a' la la' : Option Addr) (cap cap' lc lc' : Nat) (is : List I3) (gs : List G3) (out : ByteArray) (w : World) (rc : Row3 w a is) (rc' : Row3 w a' is) (rg : RowG w la gs) (rg' : RowG w la' gs) (h1 : is.length ≤ 1048576) (h2 : gs.length ≤ 1048576) :
    Calls Tryz.prog 22 #[.agg #[.slice a is.length cap, .slice la gs.length lc, .string out], .agg #[.slice a' is.length cap', .slice la' gs.length lc', .string out]] w fun e w' => Below w.heap.size w w' ∧ e = .returned (.bool true) := by
  have hb0 : Below w.heap.size w ((w.alloc (.cells #[.slice a is.length cap, .slice la gs.length lc, .string out] 63)).alloc (.cells #[.slice a' is.length cap', .slice la' gs.length lc', .string out] 63)) := ((Below.refl _ _).alloc (Nat.le_refl _) _).alloc (by simp) _
  have k1 : ((w.alloc (.cells #[.slice a is.length cap, .slice la gs.length lc, .string out] 63)).alloc (.cells #[.slice a' is.length cap', .slice la' gs.length lc', .string out] 63)).cell? ⟨w.heap.size, 1, none⟩ = some (.slice la gs.length lc) := by simp [go_sem]
  have k2 : ((w.alloc (.cells #[.slice a is.length cap, .slice la gs.length lc, .string out] 63)).alloc (.cells #[.slice a' is.length cap', .slice la' gs.length lc', .string out] 63)).cell? ⟨w.heap.size, 2, none⟩ = some (.string out) := by simp [go_sem]
  have k3 : ((w.alloc (.cells #[.slice a is.length cap, .slice la gs.length lc, .string out] 63)).alloc (.cells #[.slice a' is.length cap', .slice la' gs.length lc', .string out] 63)).cell? ⟨w.heap.size + 1, 1, none⟩ = some (.slice la' gs.length lc') := by simp [go_sem]
  have k4 : ((w.alloc (.cells #[.slice a is.length cap, .slice la gs.length lc, .string out] 63)).alloc (.cells #[.slice a' is.length cap', .slice la' gs.length lc', .string out] 63)).cell? ⟨w.heap.size + 1, 2, none⟩ = some (.string out) := by simp [go_sem]
  have e1 := str_eq (rfl : out = out)
  go_enter Tryz.func22, Tryz.ntmps22
  go_wp2_with fail
  refine (eqProgram_same a a' cap cap' is _ (rc.below hb0) (rc'.below hb0) h1).mono ?_
  rintro e w1 ⟨hb1, rfl⟩
  have hB1 := bt hb0 hb1
  have c1 := cell_below hb1 k1
  have c2 := cell_below hb1 k2
  have c3 := cell_below hb1 k3
  have c4 := cell_below hb1 k4
  clear hb0 hb1 k1 k2 k3 k4
  go_wp2_with fail
  refine (eqGlanceS_same la la' lc lc' gs _ (rg.below hB1) (rg'.below hB1) h2).mono ?_
  rintro e w2 ⟨hb2, rfl⟩
  have hB2 := bt hB1 hb2
  have d2 := cell_below hb2 c2
  have d4 := cell_below hb2 c4
  clear hb2 hB1 c1 c2 c3 c4
  go_wp2
  go_ret
  exact ⟨hB2, rfl⟩

end Go.Proofs.YtmpgajfccaoboaeGreatDoor
