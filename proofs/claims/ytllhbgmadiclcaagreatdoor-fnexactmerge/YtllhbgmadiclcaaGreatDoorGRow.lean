import Derived.Test.YtllhbgmadiclcaaGreatDoorCopy
namespace Go.Proofs.YtllhbgmadiclcaaGreatDoor
open Go.RowKit
set_option linter.unusedVariables false

structure G3 where
  name : ByteArray
  ask : Bool
  sum : ByteArray
def g00 : G3 := ⟨ByteArray.empty, false, ByteArray.empty⟩
def gx (is : List G3) (i : Nat) : G3 := is.getD i g00

def RowG (w : World) (a : Option Addr) (is : List G3) : Prop :=
  ∀ i, i < is.length → ∃ b off, a = some ⟨b, off, none⟩ ∧ w.cell? ⟨b, off + i * 3, none⟩ = some (.string (gx is i).name) ∧ w.cell? ⟨b, off + i * 3 + 1, none⟩ = some (.bool (gx is i).ask) ∧ w.cell? ⟨b, off + i * 3 + 2, none⟩ = some (.string (gx is i).sum)

theorem RowG.below {w w' : World} {a : Option Addr} {is : List G3} (h : RowG w a is) (hb : Below w.heap.size w w') : RowG w' a is := by
  intro i hi
  obtain ⟨b, off, ha, h1, h2, h3⟩ := h i hi
  exact ⟨b, off, ha, cell_below hb h1, cell_below hb h2, cell_below hb h3⟩
theorem RowG.setCell {w : World} {g : Nat} {is : List G3} (h : RowG w (some ⟨g, 0, none⟩) is) {b j : Nat} (hb : b ≠ g) (v : Value) : RowG (w.setCell ⟨b, j, none⟩ v) (some ⟨g, 0, none⟩) is := by
  intro i hi
  obtain ⟨b', off, ha, h1, h2, h3⟩ := h i hi
  cases ha
  have e : ∀ o, (w.setCell ⟨b, j, none⟩ v).cell? ⟨g, o, none⟩ = w.cell? ⟨g, o, none⟩ := fun o => World.cell?_of_block (w := w) (Below.heap_setCell w ⟨b, j, none⟩ v g (fun e => hb e.symm))
  exact ⟨g, 0, rfl, by rw [e]; exact h1, by rw [e]; exact h2, by rw [e]; exact h3⟩

def FilledG (is : List G3) (k : Nat) (xs : List Value) : Prop :=
  ∀ i, i < k → xs[i * 3]? = some (.string (gx is i).name) ∧ xs[i * 3 + 1]? = some (.bool (gx is i).ask) ∧ xs[i * 3 + 2]? = some (.string (gx is i).sum)
theorem filledG_set {is : List G3} {k : Nat} {xs : List Value} (h : FilledG is k xs) (hx : k * 3 + 2 < xs.length) :
    FilledG is (k + 1) (((xs.set (k * 3) (.string (gx is k).name)).set (k * 3 + 1) (.bool (gx is k).ask)).set (k * 3 + 2) (.string (gx is k).sum)) := by
  intro i hi
  rcases Nat.lt_or_ge i k with hl | hl
  · obtain ⟨h1, h2, h3⟩ := h i hl
    simp only [List.getElem?_set]
    rw [if_neg (by omega), if_neg (by omega), if_neg (by omega), if_neg (by omega), if_neg (by omega), if_neg (by omega), if_neg (by omega), if_neg (by omega), if_neg (by omega)]
    exact ⟨h1, h2, h3⟩
  · obtain rfl : i = k := by omega
    simp [List.getElem?_set]
    omega
theorem rowG_own {w : World} {B g n cap T : Nat} {is : List G3} {xs : List Value} (hn : n = is.length) (h : w.ownsRow B T 3 (.slice (some ⟨g, 0, none⟩) n cap) n xs) (hf : FilledG is n xs) : RowG w (some ⟨g, 0, none⟩) is := by
  subst hn
  intro i hi
  obtain ⟨h1, h2, h3⟩ := hf i hi
  refine ⟨g, 0, rfl, ?_, ?_, ?_⟩
  · rw [Nat.zero_add, h.cellAt _ (by omega)]; exact h1
  · rw [Nat.zero_add, h.cellAt _ (by omega)]; exact h2
  · rw [Nat.zero_add, h.cellAt _ (by omega)]; exact h3
theorem cell_of_length3 {w : World} {B g n cap j T : Nat} {xs : List Value} (h : w.ownsRow B T 3 (.slice (some ⟨g, 0, none⟩) n cap) n xs) (hj : j < n * 3) : ∃ v, w.cell? ⟨g, j, none⟩ = some v := by
  have hl := h.1
  exact ⟨xs[j]'(by omega), by rw [h.cellAt j hj]; exact List.getElem?_eq_getElem _⟩
theorem ext_succ {P : Nat → Prop} {k : Nat} (h : ∀ i, i < k → P i) (hk : P k) : ∀ i, i < k + 1 → P i := by
  intro i hi
  rcases Nat.lt_or_ge i k with h1 | h1
  · exact h i h1
  · obtain rfl : i = k := by omega
    exact hk
theorem bt {w a b : World} (h : Below w.heap.size w a) (k : Below a.heap.size a b) : Below w.heap.size w b := h.trans (k.mono h.size)

set_option maxHeartbeats 400000 in
theorem szGlance_any (i : G3) (l : Int) (w : World) (h0 : 0 ≤ l) (h1 : l ≤ 1048576) (hs : i.name.size ≤ maxLen) (ht : i.sum.size ≤ maxLen) :
    Calls Tryz.prog 82 #[.agg #[.string i.name, .bool i.ask, .string i.sum], .int .i64 l] w fun e w' => Below w.heap.size w w' ∧ ∃ r : Int, e = .returned (.int .i64 r) ∧ (r < 0 ∨ (0 ≤ r ∧ r ≤ l ∧ i.sum.size ≤ 1048576)) := by
  unfold maxLen at hs ht
  by_cases h : l - i.name.size < 0
  · go_enter Tryz.func82, Tryz.ntmps82
    go_wp2
    go_ret
    exact ⟨(Below.refl _ _).alloc (Nat.le_refl _) _, _, rfl, by omega⟩
  · by_cases h2 : l - i.name.size - i.sum.size < 0
    · go_enter Tryz.func82, Tryz.ntmps82
      go_wp2
      go_ret
      exact ⟨(Below.refl _ _).alloc (Nat.le_refl _) _, _, rfl, by omega⟩
    · go_enter Tryz.func82, Tryz.ntmps82
      go_wp2
      go_ret
      exact ⟨(Below.refl _ _).alloc (Nat.le_refl _) _, _, rfl, by omega⟩

set_option maxHeartbeats 1000000 in
theorem szGlanceS_any (a : Option Addr) (cap : Nat) (is : List G3) (lft : Int) (w : World) (hf0 : 0 ≤ lft) (hf1 : lft ≤ 1048576) (hc : RowG w a is) (hl : is.length ≤ maxLen) (hs : ∀ i, (gx is i).name.size ≤ maxLen) (ht : ∀ i, (gx is i).sum.size ≤ maxLen) :
    Calls Tryz.prog 58 #[.slice a is.length cap, .int .i64 lft] w fun e w' => Below w.heap.size w w' ∧ ∃ r : Int, e = .returned (.int .i64 r) ∧ (r < 0 ∨ ((is.length : Int) ≤ lft ∧ 0 ≤ r ∧ r ≤ lft ∧ ∀ i, i < is.length → (gx is i).sum.size ≤ 1048576)) := by
  have hl' := hl
  unfold maxLen at hl'
  by_cases h0 : (is.length : Int) ≤ lft
  · go_enter Tryz.func58, Tryz.ntmps58
    go_wp2
    go_loopw [1, 5] (fun l i wr => ∃ k : Nat, ∃ q : Int, k ≤ is.length ∧ i = .int .i64 k ∧ l = .int .i64 q ∧ 0 ≤ q ∧ q ≤ lft ∧ Below w.heap.size w wr ∧ Hid (∀ i, i < k → (gx is i).sum.size ≤ 1048576)) (fun _ i _ => is.length - (intOf i).toNat)
    case atStart => exact ⟨0, _, Nat.zero_le _, rfl, rfl, by omega, by omega, Below.refl _ _, (fun i hi => by omega : ∀ i, i < 0 → (gx is i).sum.size ≤ 1048576)⟩
    case round =>
      obtain ⟨k, q, hk, rfl, rfl, hq0, hq1, hbr, HK⟩ := hrel
      by_cases hlt : k < is.length
      · obtain ⟨b, off, rfl, c1, c2, c3⟩ := (hc.below hbr) k hlt
        have hsk := hs k
        have htk := ht k
        clear hs ht hc
        obtain ⟨i, ei⟩ : ∃ i, gx is k = i := ⟨_, rfl⟩
        rw [ei] at c1 c2 c3 hsk htk
        have EI : Hid (gx is k = i) := ei
        clear ei
        go_wp2_with fail
        refine (szGlance_any i _ _ (by omega) (by omega) hsk htk).mono ?_
        rintro e w1 ⟨hb1, r, rfl, hr⟩
        rcases hr with hr | hr
        · go_wp2
          go_ret
          exact ⟨hbr.trans (hb1.mono hbr.size), -1, rfl, Or.inl (by omega)⟩
        · have hr0 : 0 ≤ r := by omega
          have hr1 : r ≤ q := by omega
          go_wp2
          go_roundw
          case rel => exact ⟨k + 1, _, by omega, by go_num, rfl, by omega, by omega, hbr.trans (hb1.mono hbr.size), ext_succ HK.out (by rw [EI.out]; omega)⟩
          case measure => simp [intOf]; omega
      · go_wp2
        go_ret
        exact ⟨hbr, _, rfl, Or.inr ⟨by omega, by omega, by omega, fun i hi => HK.out i (by omega)⟩⟩
  · go_enter Tryz.func58, Tryz.ntmps58
    go_wp2
    go_ret
    exact ⟨Below.refl _ _, -1, rfl, Or.inl (by omega)⟩

set_option maxHeartbeats 400000 in
theorem toGlance_any (i : G3) (w : World) :
    Calls Tryz.prog 86 #[.agg #[.string i.name, .bool i.ask, .string i.sum]] w fun e w' => Below w.heap.size w w' ∧ e = .returned (.agg #[.string i.name, .bool i.ask, .string i.sum]) := by
  go_enter Tryz.func86, Tryz.ntmps86
  go_wp2
  exact bodyPost_ret (v := .agg #[.string i.name, .bool i.ask, .string i.sum]) (by simp [results, Tryz.results86, go_sem]) rfl ⟨(((Below.refl _ _).alloc (Nat.le_refl _) _).alloc (by simp) _).alloc (by simp; omega) _, rfl⟩

theorem Tryz.info90 : (Tryz.prog.info? 90).map (fun i => (i.zero, i.size, i.bytes)) = some (some (.agg #[.string ByteArray.empty, .bool false, .string ByteArray.empty]), 3, 40) := by kernel_rfl

set_option maxHeartbeats 400000 in
theorem toGlanceS_any (a : Option Addr) (cap : Nat) (is : List G3) (w : World) (hc : RowG w a is) (hl : is.length ≤ 1048576) :
    Calls Tryz.prog 62 #[.slice a is.length cap] w fun e w' => Below w.heap.size w w' ∧ ∃ g : Nat, e = .returned (.slice (some ⟨g, 0, none⟩) is.length is.length) ∧ w.heap.size ≤ g ∧ g < w'.heap.size ∧ RowG w' (some ⟨g, 0, none⟩) is := by
  obtain ⟨z0, hi, hz0, hz1, hz2⟩ := info_parts Tryz.info90
  go_enter Tryz.func62, Tryz.ntmps62
  go_wp2_with (first | (at_make; refine wpList_make_full _ rfl (.tmp 6) (.tmp 6) 48 rfl w.heap.size 90 z0 (.agg #[.string ByteArray.empty, .bool false, .string ByteArray.empty]) 3 Tryz.underlying48 hi hz0 hz1 .i64 .i64 _ _ is.length rfl rfl rfl rfl (by rw [hz2]; omega) (by unfold maxLen; omega) (Nat.le_refl _) ?_; intro w1 hown hgrow))
  have hbel1 : Below w.heap.size w w1 := (Below.refl _ _).grown hgrow (Nat.le_refl _) (by simp)
  clear hgrow
  go_loopw [4] (fun i wr => ∃ k : Nat, ∃ xs : List Value, k ≤ is.length ∧ i = .int .i64 k ∧ wr.ownsRow w.heap.size 90 3 (.slice (some ⟨w.heap.size, 0, none⟩) is.length is.length) is.length xs ∧ FilledG is k xs ∧ Below w.heap.size w wr) (fun i _ => is.length - (intOf i).toNat)
  case atStart => exact ⟨0, _, Nat.zero_le _, rfl, hown, fun i hi => by omega, hbel1⟩
  case round =>
    obtain ⟨k, xs, hk, rfl, hown, hfi, hbel⟩ := hrel
    by_cases hlt : k < is.length
    · obtain ⟨b, off, rfl, c1, c2, c3⟩ := (hc.below hbel) k hlt
      have hf2 := filledG_set hfi (show k * 3 + 2 < xs.length by rw [hown.1]; omega)
      generalize gx is k = i at *
      clear hbel1 hc hfi
      go_wp2_with fail
      refine (toGlance_any i _).mono ?_
      rintro e w2 ⟨hb2, rfl⟩
      have hown2 := ownsRow_below hown hb2
      have hbw : Below w.heap.size w w2 := hbel.trans (hb2.mono hbel.size)
      have hfr := hown2.frozenAt
      obtain ⟨o1, d1⟩ := cell_of_length3 hown2 (j := k * 3) (by omega)
      obtain ⟨o2, d2⟩ := cell_of_length3 hown2 (j := k * 3 + 1) (by omega)
      obtain ⟨o3, d3⟩ := cell_of_length3 hown2 (j := k * 3 + 2) (by omega)
      have HO : Hid (w2.ownsRow w.heap.size 90 3 (.slice (some ⟨w.heap.size, 0, none⟩) is.length is.length) is.length xs) := hown2
      clear hown hown2 hb2 hbel
      go_wp2
      go_roundw
      case rel => exact ⟨k + 1, _, by omega, by go_num, (((HO.out.stored _ _).1.stored _ _).1.stored _ _).1, hf2, ((hbw.setCell (Nat.le_refl _) _).setCell (Nat.le_refl _) _).setCell (Nat.le_refl _) _⟩
      case measure => simp [intOf]; omega
    · have ek : k = is.length := by omega
      subst ek
      go_wp2
      go_ret
      exact ⟨hbel, _, rfl, Nat.le_refl _, (hown.lt _ rfl).2, rowG_own rfl hown hfi⟩

set_option maxHeartbeats 400000 in
theorem eqGlance_same (i : G3) (w : World) :
    Calls Tryz.prog 93 #[.agg #[.string i.name, .bool i.ask, .string i.sum], .agg #[.string i.name, .bool i.ask, .string i.sum]] w fun e w' => Below w.heap.size w w' ∧ e = .returned (.bool true) := by
  have e1 := str_eq (rfl : i.name = i.name)
  have e2 := str_eq (rfl : i.sum = i.sum)
  go_enter Tryz.func93, Tryz.ntmps93
  go_wp2
  go_ret
  exact ⟨((Below.refl _ _).alloc (Nat.le_refl _) _).alloc (by simp) _, rfl⟩

set_option maxHeartbeats 400000 in
theorem eqGlanceS_same (a a' : Option Addr) (cap cap' : Nat) (is : List G3) (w : World) (hc : RowG w a is) (hc' : RowG w a' is) (hl : is.length ≤ 1048576) :
    Calls Tryz.prog 78 #[.slice a is.length cap, .slice a' is.length cap'] w fun e w' => Below w.heap.size w w' ∧ e = .returned (.bool true) := by
  go_enter Tryz.func78, Tryz.ntmps78
  go_wp2
  go_loopw [5] (fun i wr => ∃ k : Nat, k ≤ is.length ∧ i = .int .i64 k ∧ Below w.heap.size w wr) (fun i _ => is.length - (intOf i).toNat)
  case atStart => exact ⟨0, Nat.zero_le _, rfl, Below.refl _ _⟩
  case round =>
    obtain ⟨k, hk, rfl, hbel⟩ := hrel
    by_cases hlt : k < is.length
    · obtain ⟨b, off, rfl, c1, c2, c3⟩ := (hc.below hbel) k hlt
      obtain ⟨b', off', rfl, d1, d2, d3⟩ := (hc'.below hbel) k hlt
      generalize gx is k = i at *
      clear hc hc'
      have hkI : (k : Int) < (is.length : Int) := by omega
      have hk0 : (0 : Int) ≤ (k : Int) := by omega
      go_wp2_with fail
      go_region_held3 (fun w' => (w'.cell? ⟨b, off + k * 3, none⟩ = some (.string i.name) ∧ w'.cell? ⟨b, off + k * 3 + 1, none⟩ = some (.bool i.ask) ∧ w'.cell? ⟨b, off + k * 3 + 2, none⟩ = some (.string i.sum)) ∧ (w'.cell? ⟨b', off' + k * 3, none⟩ = some (.string i.name) ∧ w'.cell? ⟨b', off' + k * 3 + 1, none⟩ = some (.bool i.ask) ∧ w'.cell? ⟨b', off' + k * 3 + 2, none⟩ = some (.string i.sum)))
        (first | assumption | (simp [*]; done) | exact ⟨⟨cell_below hb1 (by simp [*]), cell_below hb1 (by simp [*]), cell_below hb1 (by simp [*])⟩, cell_below hb1 (by simp [*]), cell_below hb1 (by simp [*]), cell_below hb1 (by simp [*])⟩)
        (first | (go_at_call 93; refine (eqGlance_same i _).mono ?_; rintro e w1 ⟨hb1, rfl⟩))
      all_goals
        go_wp2
        go_roundw
        case rel => exact ⟨k + 1, by omega, by go_num, hbel.trans (Below.trans (Below.drew (Below.refl _ _)) (hb1.mono (by simpa using hbel.size)))⟩
        case measure => simp [intOf]; omega
    · go_wp2
      go_ret
      exact ⟨hbel, rfl⟩

end Go.Proofs.YtllhbgmadiclcaaGreatDoor
