import Derived.Test.YtbbfboikigmghaaGreatDoorChkS
import Derived.Below
import Derived.Deep.RegionHeld3
import Derived.OpenShut
import Derived.ProofKit
import Derived.WalkKit
import Derived.WalkLawsBesides
import Derived.WalkSpells
namespace Go.Proofs.YtbbfboikigmghaaGreatDoor
open Go.RowKit
set_option linter.unusedVariables false
set_option maxHeartbeats 32000000
set_option maxRecDepth 100000
def total3 (is : List I3) : Nat := (is.map fun i => i.text.size).sum
theorem total3_take_succ (is : List I3) (k : Nat) (h : k < is.length) : total3 (is.take (k + 1)) = total3 (is.take k) + (ix is k).text.size := by
  have e : is.take (k + 1) = is.take k ++ [is[k]] := List.take_succ_eq_append_getElem h
  unfold total3 ix
  rw [e, List.map_append, List.sum_append, List.getD_eq_getElem?_getD, List.getElem?_eq_getElem h]
  simp
theorem row3_own {w : World} {B g n cap : Nat} {is : List I3} {xs : List Value} (hn : n = is.length) (h : w.ownsRow B 138 3 (.slice (some ⟨g, 0, none⟩) n cap) n xs) (hf : Filled3 is n xs) : Row3 w (some ⟨g, 0, none⟩) is := by
  subst hn
  intro i hi
  obtain ⟨h1, h2, h3⟩ := hf i hi
  refine ⟨g, 0, rfl, ?_, ?_, ?_⟩
  · rw [Nat.zero_add, h.cellAt _ (by omega)]; exact h1
  · rw [Nat.zero_add, h.cellAt _ (by omega)]; exact h2
  · rw [Nat.zero_add, h.cellAt _ (by omega)]; exact h3
theorem szInsS_any (a : Option Addr) (cap : Nat) (is : List I3) (w : World) (hc : Row3 w a is) (hl : is.length <= maxLen) (hs : ∀ i, (ix is i).text.size <= maxLen) :
    Calls Tryz.prog 82 #[.slice a is.length cap, .int .i64 1048576] w fun e w' => Below w.heap.size w w' /\ ∃ r : Int, e = .returned (.int .i64 r) /\ (r < 0 \/ (is.length + total3 is <= 1048576 /\ 0 <= r)) := by
  unfold maxLen at hl hs
  by_cases h0 : is.length <= 1048576
  · go_enter Tryz.func82, Tryz.ntmps82
    go_wp2
    go_loopw [1, 5] (fun l i wr => ∃ k : Nat, k <= is.length /\ i = .int .i64 k /\ l = .int .i64 (1048576 - is.length - total3 (is.take k)) /\ is.length + total3 (is.take k) <= 1048576 /\ Below w.heap.size w wr) (fun _ i _ => is.length - (intOf i).toNat)
    case atStart => exact ⟨0, Nat.zero_le _, rfl, by simp [total3], by simpa [total3] using h0, Below.refl _ _⟩
    case round =>
      obtain ⟨k, hk, rfl, rfl, ht, hbr⟩ := hrel
      by_cases hlt : k < is.length
      · obtain ⟨b, off, rfl, c1, c2, c3⟩ := (hc.below hbr) k hlt
        have hts := total3_take_succ is k hlt
        have hsk := hs k
        clear hs hc
        generalize ix is k = i at *
        have HT : Hid (total3 (is.take (k + 1)) = total3 (is.take k) + i.text.size) := hts
        clear hts
        go_wp2_with fail
        refine (szIns_any i _ _ (by omega) (by omega) hsk).mono ?_
        rintro e w1 ⟨hb1, ⟨hneg, rfl⟩ | ⟨hpos, rfl⟩⟩
        · go_wp2
          go_ret
          exact ⟨hbr.trans (hb1.mono hbr.size), -1, rfl, by omega⟩
        · go_wp2
          go_roundw
          case rel => exact ⟨k + 1, by omega, by go_num, by rw [HT.out]; go_num, by rw [HT.out]; omega, hbr.trans (hb1.mono hbr.size)⟩
          case measure => simp [intOf]; omega
      · go_wp2
        go_ret
        rw [List.take_of_length_le (show is.length <= k by omega)] at ht ⊢
        exact ⟨hbr, _, rfl, by omega⟩
  · go_enter Tryz.func82, Tryz.ntmps82
    go_wp2
    go_ret
    exact ⟨Below.refl _ _, -1, rfl, by omega⟩
theorem toInsS_any (a : Option Addr) (cap : Nat) (is : List I3) (w : World) (hc : Row3 w a is) (hl : is.length <= 1048576) :
    Calls Tryz.prog 88 #[.slice a is.length cap] w fun e w' => Below w.heap.size w w' /\ ∃ g : Nat, e = .returned (.slice (some ⟨g, 0, none⟩) is.length is.length) /\ w.heap.size <= g /\ Row3 w' (some ⟨g, 0, none⟩) is := by
  obtain ⟨z0, hi, hz0, hz1, hz2⟩ := info_parts Tryz.info138
  go_enter Tryz.func88, Tryz.ntmps88
  go_wp2_with (first | (at_make; refine wpList_make_full _ rfl (.tmp 6) (.tmp 6) 81 rfl w.heap.size 138 z0 (.agg #[.int .i64 0, .string ByteArray.empty, .int .i64 0]) 3 Tryz.underlying81 hi hz0 hz1 .i64 .i64 _ _ is.length rfl rfl rfl rfl (by rw [hz2]; omega) (by unfold maxLen; omega) (Nat.le_refl _) ?_; intro w1 hown hgrow))
  have hbel1 : Below w.heap.size w w1 := (Below.refl _ _).grown hgrow (Nat.le_refl _) (by simp)
  clear hgrow
  go_loopw [4] (fun i wr => ∃ k : Nat, ∃ xs : List Value, k <= is.length /\ i = .int .i64 k /\ wr.ownsRow w.heap.size 138 3 (.slice (some ⟨w.heap.size, 0, none⟩) is.length is.length) is.length xs /\ Filled3 is k xs /\ Below w.heap.size w wr) (fun i _ => is.length - (intOf i).toNat)
  case atStart => exact ⟨0, _, Nat.zero_le _, rfl, hown, fun i hi => by omega, hbel1⟩
  case round =>
    obtain ⟨k, xs, hk, rfl, hown, hfi, hbel⟩ := hrel
    by_cases hlt : k < is.length
    · obtain ⟨b, off, rfl, c1, c2, c3⟩ := (hc.below hbel) k hlt
      have hf2 := filled3_set hfi (show k * 3 + 2 < xs.length by rw [hown.1]; omega)
      generalize ix is k = i at *
      clear hbel1 hc hfi
      go_wp2_with fail
      refine (toIns_any i _).mono ?_
      rintro e w2 ⟨hb2, rfl⟩
      have hown2 := ownsRow_below hown hb2
      have hbw : Below w.heap.size w w2 := hbel.trans (hb2.mono hbel.size)
      have hfr := hown2.frozenAt
      obtain ⟨o1, d1⟩ := cell_of_length hown2 (j := k * 3) (by omega)
      obtain ⟨o2, d2⟩ := cell_of_length hown2 (j := k * 3 + 1) (by omega)
      obtain ⟨o3, d3⟩ := cell_of_length hown2 (j := k * 3 + 2) (by omega)
      have HO : Hid (w2.ownsRow w.heap.size 138 3 (.slice (some ⟨w.heap.size, 0, none⟩) is.length is.length) is.length xs) := hown2
      clear hown hown2 hb2 hbel
      go_wp2
      go_roundw
      case rel => exact ⟨k + 1, _, by omega, by go_num, (((HO.out.stored _ _).1.stored _ _).1.stored _ _).1, hf2, ((hbw.setCell (Nat.le_refl _) _).setCell (Nat.le_refl _) _).setCell (Nat.le_refl _) _⟩
      case measure => simp [intOf]; omega
    · have ek : k = is.length := by omega
      subst ek
      go_wp2
      go_ret
      exact ⟨hbel, _, rfl, Nat.le_refl _, row3_own rfl hown hfi⟩
theorem Row3.setCell {w : World} {g : Nat} {is : List I3} (h : Row3 w (some ⟨g, 0, none⟩) is) {b j : Nat} (hb : b ≠ g) (v : Value) : Row3 (w.setCell ⟨b, j, none⟩ v) (some ⟨g, 0, none⟩) is := by
  intro i hi
  obtain ⟨b', off, ha, h1, h2, h3⟩ := h i hi
  cases ha
  have e : ∀ o, (w.setCell ⟨b, j, none⟩ v).cell? ⟨g, o, none⟩ = w.cell? ⟨g, o, none⟩ := fun o => World.cell?_of_block (w := w) (Below.heap_setCell w ⟨b, j, none⟩ v g (fun e => hb e.symm))
  exact ⟨g, 0, rfl, by rw [e]; exact h1, by rw [e]; exact h2, by rw [e]; exact h3⟩
theorem toProgram_any (a : Option Addr) (cap : Nat) (is : List I3) (w : World) (hc : Row3 w a is) (hl : is.length <= 1048576) :
    Calls Tryz.prog 69 #[.agg #[.slice a is.length cap]] w fun e w' => Below w.heap.size w w' /\ ∃ g : Nat, e = .returned (.agg #[.slice (some ⟨g, 0, none⟩) is.length is.length]) /\ Row3 w' (some ⟨g, 0, none⟩) is := by
  go_enter Tryz.func69, Tryz.ntmps69
  go_wp2_with fail
  have hb0 : Below w.heap.size w (((w.alloc (.cells #[.slice a is.length cap] 69)).alloc (.cells #[.slice none 0 0] 83)).alloc (.cells #[.slice none 0 0] 83)) := (((Below.refl _ _).alloc (Nat.le_refl _) _).alloc (by simp) _).alloc (by simp; omega) _
  refine (toInsS_any a cap is _ (hc.below hb0) hl).mono ?_
  rintro e w1 ⟨hb1, g, rfl, hg, hr⟩
  simp at hg
  have hb : Below w.heap.size w w1 := hb0.trans (hb1.mono hb0.size)
  have hz := hb1.size
  simp at hz
  have c1 : w1.cell? ⟨w.heap.size + 1, 0, none⟩ = some (.slice none 0 0) := cell_below hb1 (by simp [go_sem])
  have c2 : w1.cell? ⟨w.heap.size + 1 + 1, 0, none⟩ = some (.slice none 0 0) := cell_below hb1 (by simp [go_sem])
  have f1 : w1.frozen? ⟨w.heap.size + 1, 0, none⟩ = false := by rw [hb1.frozen (p := ⟨w.heap.size + 1, 0, none⟩) (by simp)]; simp [go_sem]
  have f2 : w1.frozen? ⟨w.heap.size + 1 + 1, 0, none⟩ = false := by rw [hb1.frozen (p := ⟨w.heap.size + 1 + 1, 0, none⟩) (by simp)]; simp [go_sem]
  clear hb0 hb1
  go_wp2
  exact bodyPost_ret (v := .agg #[.slice (some ⟨g, 0, none⟩) is.length is.length]) (by simp [results, Tryz.results69, go_sem, c1]) rfl ⟨setCell_below (setCell_below hb (by omega) _) (by omega) _, g, rfl, (hr.setCell (by omega) _).setCell (by omega) _⟩
def RowG (w : World) (a : Option Addr) (is : List G3) : Prop :=
  ∀ i, i < is.length -> ∃ b off, a = some ⟨b, off, none⟩ /\ w.cell? ⟨b, off + i * 3, none⟩ = some (.string (gx is i).name) /\ w.cell? ⟨b, off + i * 3 + 1, none⟩ = some (.bool (gx is i).ask) /\ w.cell? ⟨b, off + i * 3 + 2, none⟩ = some (.string (gx is i).sum)
theorem RowG.below {w w' : World} {a : Option Addr} {is : List G3} (h : RowG w a is) (hb : Below w.heap.size w w') : RowG w' a is := by
  intro i hi
  obtain ⟨b, off, ha, h1, h2, h3⟩ := h i hi
  exact ⟨b, off, ha, cell_below hb h1, cell_below hb h2, cell_below hb h3⟩
theorem RowG.setCell {w : World} {g : Nat} {is : List G3} (h : RowG w (some ⟨g, 0, none⟩) is) {b j : Nat} (hb : b ≠ g) (v : Value) : RowG (w.setCell ⟨b, j, none⟩ v) (some ⟨g, 0, none⟩) is := by
  intro i hi
  obtain ⟨b', off, ha, h1, h2, h3⟩ := h i hi
  cases ha
  have e : ∀ o, (w.setCell ⟨b, j, none⟩ v).cell? ⟨g, o, none⟩ = w.cell? ⟨g, o, none⟩ := fun o => World.cell?_of_block (w := w) (Below.heap_setCell w ⟨b, j, none⟩ v g (fun e => hb e.symm))
  exact ⟨g, 0, rfl, by rw [e]; exact h1, by rw [e]; exact h2, by rw [e]; exact h3⟩
theorem filledG_set {is : List G3} {k : Nat} {xs : List Value} (h : FilledG is k xs) (hx : k * 3 + 2 < xs.length) :
    FilledG is (k + 1) (((xs.set (k * 3) (.string (gx is k).name)).set (k * 3 + 1) (.bool (gx is k).ask)).set (k * 3 + 2) (.string (gx is k).sum)) := by
  intro i hi
  rcases Nat.lt_or_ge i k with hl | hl
  · obtain ⟨h1, h2, h3⟩ := h i hl
    simp only [List.getElem?_set]
    rw [if_neg (by omega), if_neg (by omega), if_neg (by omega), if_neg (by omega), if_neg (by omega), if_neg (by omega), if_neg (by omega), if_neg (by omega), if_neg (by omega)]
    exact ⟨h1, h2, h3⟩
  · obtain rfl : i = k := by omega
    simp [List.getElem?_set]
    omega
theorem rowG_own {w : World} {B g n cap T : Nat} {is : List G3} {xs : List Value} (hn : n = is.length) (h : w.ownsRow B T 3 (.slice (some ⟨g, 0, none⟩) n cap) n xs) (hf : FilledG is n xs) : RowG w (some ⟨g, 0, none⟩) is := by
  subst hn
  intro i hi
  obtain ⟨h1, h2, h3⟩ := hf i hi
  refine ⟨g, 0, rfl, ?_, ?_, ?_⟩
  · rw [Nat.zero_add, h.cellAt _ (by omega)]; exact h1
  · rw [Nat.zero_add, h.cellAt _ (by omega)]; exact h2
  · rw [Nat.zero_add, h.cellAt _ (by omega)]; exact h3
theorem szGlance_any (i : G3) (l : Int) (w : World) (h0 : 0 <= l) (h1 : l <= 1048576) (hs : i.name.size <= maxLen) (ht : i.sum.size <= maxLen) :
    Calls Tryz.prog 83 #[.agg #[.string i.name, .bool i.ask, .string i.sum], .int .i64 l] w fun e w' => Below w.heap.size w w' /\ ∃ r : Int, e = .returned (.int .i64 r) /\ (r < 0 \/ (0 <= r /\ r <= l /\ i.sum.size <= 1048576)) := by
  unfold maxLen at hs ht
  by_cases h : l - i.name.size < 0
  · go_enter Tryz.func83, Tryz.ntmps83
    go_wp2
    go_ret
    exact ⟨(Below.refl _ _).alloc (Nat.le_refl _) _, _, rfl, by omega⟩
  · by_cases h2 : l - i.name.size - i.sum.size < 0
    · go_enter Tryz.func83, Tryz.ntmps83
      go_wp2
      go_ret
      exact ⟨(Below.refl _ _).alloc (Nat.le_refl _) _, _, rfl, by omega⟩
    · go_enter Tryz.func83, Tryz.ntmps83
      go_wp2
      go_ret
      exact ⟨(Below.refl _ _).alloc (Nat.le_refl _) _, _, rfl, by omega⟩
theorem szGlanceS_any (a : Option Addr) (cap : Nat) (is : List G3) (lft : Int) (w : World) (hf0 : 0 <= lft) (hf1 : lft <= 1048576) (hc : RowG w a is) (hl : is.length <= maxLen) (hs : ∀ i, (gx is i).name.size <= maxLen) (ht : ∀ i, (gx is i).sum.size <= maxLen) :
    Calls Tryz.prog 64 #[.slice a is.length cap, .int .i64 lft] w fun e w' => Below w.heap.size w w' /\ ∃ r : Int, e = .returned (.int .i64 r) /\ (r < 0 \/ ((is.length : Int) <= lft /\ 0 <= r /\ r <= lft /\ ∀ i, i < is.length -> (gx is i).sum.size <= 1048576)) := by
  have hl' := hl
  unfold maxLen at hl'
  by_cases h0 : (is.length : Int) <= lft
  · go_enter Tryz.func64, Tryz.ntmps64
    go_wp2
    go_loopw [1, 5] (fun l i wr => ∃ k : Nat, ∃ q : Int, k <= is.length /\ i = .int .i64 k /\ l = .int .i64 q /\ 0 <= q /\ q <= lft /\ Below w.heap.size w wr /\ Hid (∀ i, i < k -> (gx is i).sum.size <= 1048576)) (fun _ i _ => is.length - (intOf i).toNat)
    case atStart => exact ⟨0, _, Nat.zero_le _, rfl, rfl, by omega, by omega, Below.refl _ _, (fun i hi => by omega : ∀ i, i < 0 -> (gx is i).sum.size <= 1048576)⟩
    case round =>
      obtain ⟨k, q, hk, rfl, rfl, hq0, hq1, hbr, HK⟩ := hrel
      by_cases hlt : k < is.length
      · obtain ⟨b, off, rfl, c1, c2, c3⟩ := (hc.below hbr) k hlt
        have hsk := hs k
        have htk := ht k
        clear hs ht hc
        obtain ⟨i, ei⟩ : ∃ i, gx is k = i := ⟨_, rfl⟩
        rw [ei] at c1 c2 c3 hsk htk
        have EI : Hid (gx is k = i) := ei
        clear ei
        go_wp2_with fail
        refine (szGlance_any i _ _ (by omega) (by omega) hsk htk).mono ?_
        rintro e w1 ⟨hb1, r, rfl, hr⟩
        rcases hr with hr | hr
        · go_wp2
          go_ret
          exact ⟨hbr.trans (hb1.mono hbr.size), -1, rfl, Or.inl (by omega)⟩
        · have hr0 : 0 <= r := by omega
          have hr1 : r <= q := by omega
          go_wp2
          go_roundw
          case rel => exact ⟨k + 1, _, by omega, by go_num, rfl, by omega, by omega, hbr.trans (hb1.mono hbr.size), ext_succ HK.out (by rw [EI.out]; omega)⟩
          case measure => simp [intOf]; omega
      · go_wp2
        go_ret
        exact ⟨hbr, _, rfl, Or.inr ⟨by omega, by omega, by omega, fun i hi => HK.out i (by omega)⟩⟩
  · go_enter Tryz.func64, Tryz.ntmps64
    go_wp2
    go_ret
    exact ⟨Below.refl _ _, -1, rfl, Or.inl (by omega)⟩
theorem toGlance_any (i : G3) (w : World) :
    Calls Tryz.prog 89 #[.agg #[.string i.name, .bool i.ask, .string i.sum]] w fun e w' => Below w.heap.size w w' /\ e = .returned (.agg #[.string i.name, .bool i.ask, .string i.sum]) := by
  go_enter Tryz.func89, Tryz.ntmps89
  go_wp2
  exact bodyPost_ret (v := .agg #[.string i.name, .bool i.ask, .string i.sum]) (by simp [results, Tryz.results89, go_sem]) rfl ⟨(((Below.refl _ _).alloc (Nat.le_refl _) _).alloc (by simp) _).alloc (by simp; omega) _, rfl⟩
theorem Tryz.info135 : (Tryz.prog.info? 135).map (fun i => (i.zero, i.size, i.bytes)) = some (some (.agg #[.string ByteArray.empty, .bool false, .string ByteArray.empty]), 3, 40) := by kernel_rfl
theorem toGlanceS_any (a : Option Addr) (cap : Nat) (is : List G3) (w : World) (hc : RowG w a is) (hl : is.length <= 1048576) :
    Calls Tryz.prog 70 #[.slice a is.length cap] w fun e w' => Below w.heap.size w w' /\ ∃ g : Nat, e = .returned (.slice (some ⟨g, 0, none⟩) is.length is.length) /\ w.heap.size <= g /\ g < w'.heap.size /\ RowG w' (some ⟨g, 0, none⟩) is := by
  obtain ⟨z0, hi, hz0, hz1, hz2⟩ := info_parts Tryz.info135
  go_enter Tryz.func70, Tryz.ntmps70
  go_wp2_with (first | (at_make; refine wpList_make_full _ rfl (.tmp 6) (.tmp 6) 84 rfl w.heap.size 135 z0 (.agg #[.string ByteArray.empty, .bool false, .string ByteArray.empty]) 3 Tryz.underlying84 hi hz0 hz1 .i64 .i64 _ _ is.length rfl rfl rfl rfl (by rw [hz2]; omega) (by unfold maxLen; omega) (Nat.le_refl _) ?_; intro w1 hown hgrow))
  have hbel1 : Below w.heap.size w w1 := (Below.refl _ _).grown hgrow (Nat.le_refl _) (by simp)
  clear hgrow
  go_loopw [4] (fun i wr => ∃ k : Nat, ∃ xs : List Value, k <= is.length /\ i = .int .i64 k /\ wr.ownsRow w.heap.size 135 3 (.slice (some ⟨w.heap.size, 0, none⟩) is.length is.length) is.length xs /\ FilledG is k xs /\ Below w.heap.size w wr) (fun i _ => is.length - (intOf i).toNat)
  case atStart => exact ⟨0, _, Nat.zero_le _, rfl, hown, fun i hi => by omega, hbel1⟩
  case round =>
    obtain ⟨k, xs, hk, rfl, hown, hfi, hbel⟩ := hrel
    by_cases hlt : k < is.length
    · obtain ⟨b, off, rfl, c1, c2, c3⟩ := (hc.below hbel) k hlt
      have hf2 := filledG_set hfi (show k * 3 + 2 < xs.length by rw [hown.1]; omega)
      generalize gx is k = i at *
      clear hbel1 hc hfi
      go_wp2_with fail
      refine (toGlance_any i _).mono ?_
      rintro e w2 ⟨hb2, rfl⟩
      have hown2 := ownsRow_below hown hb2
      have hbw : Below w.heap.size w w2 := hbel.trans (hb2.mono hbel.size)
      have hfr := hown2.frozenAt
      obtain ⟨o1, d1⟩ := cell_of_length3 hown2 (j := k * 3) (by omega)
      obtain ⟨o2, d2⟩ := cell_of_length3 hown2 (j := k * 3 + 1) (by omega)
      obtain ⟨o3, d3⟩ := cell_of_length3 hown2 (j := k * 3 + 2) (by omega)
      have HO : Hid (w2.ownsRow w.heap.size 135 3 (.slice (some ⟨w.heap.size, 0, none⟩) is.length is.length) is.length xs) := hown2
      clear hown hown2 hb2 hbel
      go_wp2
      go_roundw
      case rel => exact ⟨k + 1, _, by omega, by go_num, (((HO.out.stored _ _).1.stored _ _).1.stored _ _).1, hf2, ((hbw.setCell (Nat.le_refl _) _).setCell (Nat.le_refl _) _).setCell (Nat.le_refl _) _⟩
      case measure => simp [intOf]; omega
    · have ek : k = is.length := by omega
      subst ek
      go_wp2
      go_ret
      exact ⟨hbel, _, rfl, Nat.le_refl _, (hown.lt _ rfl).2, rowG_own rfl hown hfi⟩
theorem eqGlance_same (i : G3) (w : World) :
    Calls Tryz.prog 101 #[.agg #[.string i.name, .bool i.ask, .string i.sum], .agg #[.string i.name, .bool i.ask, .string i.sum]] w fun e w' => Below w.heap.size w w' /\ e = .returned (.bool true) := by
  have e1 := str_eq (rfl : i.name = i.name)
  have e2 := str_eq (rfl : i.sum = i.sum)
  go_enter Tryz.func101, Tryz.ntmps101
  go_wp2
  go_ret
  exact ⟨((Below.refl _ _).alloc (Nat.le_refl _) _).alloc (by simp) _, rfl⟩
theorem eqGlanceS_same (a a' : Option Addr) (cap cap' : Nat) (is : List G3) (w : World) (hc : RowG w a is) (hc' : RowG w a' is) (hl : is.length <= 1048576) :
    Calls Tryz.prog 81 #[.slice a is.length cap, .slice a' is.length cap'] w fun e w' => Below w.heap.size w w' /\ e = .returned (.bool true) := by
  go_enter Tryz.func81, Tryz.ntmps81
  go_wp2
  go_loopw [5] (fun i wr => ∃ k : Nat, k <= is.length /\ i = .int .i64 k /\ Below w.heap.size w wr) (fun i _ => is.length - (intOf i).toNat)
  case atStart => exact ⟨0, Nat.zero_le _, rfl, Below.refl _ _⟩
  case round =>
    obtain ⟨k, hk, rfl, hbel⟩ := hrel
    by_cases hlt : k < is.length
    · obtain ⟨b, off, rfl, c1, c2, c3⟩ := (hc.below hbel) k hlt
      obtain ⟨b', off', rfl, d1, d2, d3⟩ := (hc'.below hbel) k hlt
      generalize gx is k = i at *
      clear hc hc'
      have hkI : (k : Int) < (is.length : Int) := by omega
      have hk0 : (0 : Int) <= (k : Int) := by omega
      go_wp2_with fail
      go_region_held3 (fun w' => (w'.cell? ⟨b, off + k * 3, none⟩ = some (.string i.name) /\ w'.cell? ⟨b, off + k * 3 + 1, none⟩ = some (.bool i.ask) /\ w'.cell? ⟨b, off + k * 3 + 2, none⟩ = some (.string i.sum)) /\ (w'.cell? ⟨b', off' + k * 3, none⟩ = some (.string i.name) /\ w'.cell? ⟨b', off' + k * 3 + 1, none⟩ = some (.bool i.ask) /\ w'.cell? ⟨b', off' + k * 3 + 2, none⟩ = some (.string i.sum)))
        (first | assumption | (simp [*]; done) | exact ⟨⟨cell_below hb1 (by simp [*]), cell_below hb1 (by simp [*]), cell_below hb1 (by simp [*])⟩, cell_below hb1 (by simp [*]), cell_below hb1 (by simp [*]), cell_below hb1 (by simp [*])⟩)
        (first | (go_at_call 101; refine (eqGlance_same i _).mono ?_; rintro e w1 ⟨hb1, rfl⟩))
      all_goals
        go_wp2
        go_roundw
        case rel => exact ⟨k + 1, by omega, by go_num, hbel.trans (Below.trans (Below.drew (Below.refl _ _)) (hb1.mono (by simpa using hbel.size)))⟩
        case measure => simp [intOf]; omega
    · go_wp2
      go_ret
      exact ⟨hbel, rfl⟩
structure RecOk (w : World) (a : Option Addr) (is : List I3) (la : Option Addr) (gs : List G3) (out : ByteArray) : Prop where
  rc : Row3 w a is
  rg : RowG w la gs
  lc : is.length <= maxLen
  lg : gs.length <= maxLen
  xc : ∀ i, (ix is i).text.size <= maxLen
  ng : ∀ i, (gx gs i).name.size <= maxLen
  sg : ∀ i, (gx gs i).sum.size <= maxLen
  so : out.size <= maxLen
theorem szRecord_any (a la : Option Addr) (cap lc : Nat) (is : List I3) (gs : List G3) (out : ByteArray) (w : World) (h : RecOk w a is la gs out) :
    Calls Tryz.prog 36 #[.agg #[.slice a is.length cap, .slice la gs.length lc, .string out], .int .i64 1048576] w fun e w' => Below w.heap.size w w' /\ ∃ r : Int, e = .returned (.int .i64 r) /\ (r < 0 \/ (is.length <= 1048576 /\ gs.length <= 1048576 /\ 0 <= r /\ r <= 1048576)) := by
  obtain ⟨rc, rg, hlc, hlg, xc, ng, sg, so⟩ := h
  unfold maxLen at so
  have hb0 : Below w.heap.size w (w.alloc (.cells #[.slice a is.length cap, .slice la gs.length lc, .string out] 72)) := (Below.refl _ _).alloc (Nat.le_refl _) _
  have k1 : (w.alloc (.cells #[.slice a is.length cap, .slice la gs.length lc, .string out] 72)).cell? ⟨w.heap.size, 1, none⟩ = some (.slice la gs.length lc) := by simp [go_sem]
  have k2 : (w.alloc (.cells #[.slice a is.length cap, .slice la gs.length lc, .string out] 72)).cell? ⟨w.heap.size, 2, none⟩ = some (.string out) := by simp [go_sem]
  go_enter Tryz.func36, Tryz.ntmps36
  go_wp2_with fail
  refine (szProgram_left a cap is 1048576 _ (by omega) (by omega) (rc.below hb0) hlc xc).mono ?_
  rintro e w1 ⟨hb1, r, rfl, hr⟩
  have hB1 := bt hb0 hb1
  have k11 := cell_below hb1 k1
  have k12 := cell_below hb1 k2
  clear hb0 hb1 k1 k2
  rcases hr with hr | ⟨h1, hr0, hr1⟩
  · go_wp2
    go_ret
    exact ⟨hB1, -1, rfl, Or.inl (by omega)⟩
  · go_wp2_with fail
    refine (szGlanceS_any la lc gs r _ (by omega) (by omega) (rg.below hB1) hlg ng sg).mono ?_
    rintro e w2 ⟨hb2, r2, rfl, hr2⟩
    have hB2 := bt hB1 hb2
    have k22 := cell_below hb2 k12
    clear hb2 hB1 k11 k12
    rcases hr2 with hr2 | ⟨h2, hr2, hr3, h3⟩
    · go_wp2
      go_ret
      exact ⟨hB2, -1, rfl, Or.inl (by omega)⟩
    · by_cases h4 : r2 - out.size < 0
      · go_wp2
        go_ret
        exact ⟨hB2, -1, rfl, Or.inl (by omega)⟩
      · go_wp2
        go_ret
        exact ⟨hB2, r2 - out.size, rfl, Or.inr (by omega)⟩
theorem toProgram_fresh (a : Option Addr) (cap : Nat) (is : List I3) (w : World) (hc : Row3 w a is) (hl : is.length <= 1048576) :
    Calls Tryz.prog 69 #[.agg #[.slice a is.length cap]] w fun e w' => Below w.heap.size w w' /\ ∃ g : Nat, e = .returned (.agg #[.slice (some ⟨g, 0, none⟩) is.length is.length]) /\ w.heap.size <= g /\ Row3 w' (some ⟨g, 0, none⟩) is := by
  go_enter Tryz.func69, Tryz.ntmps69
  go_wp2_with fail
  have hb0 : Below w.heap.size w (((w.alloc (.cells #[.slice a is.length cap] 69)).alloc (.cells #[.slice none 0 0] 83)).alloc (.cells #[.slice none 0 0] 83)) := (((Below.refl _ _).alloc (Nat.le_refl _) _).alloc (by simp) _).alloc (by simp; omega) _
  refine (toInsS_any a cap is _ (hc.below hb0) hl).mono ?_
  rintro e w1 ⟨hb1, g, rfl, hg, hr⟩
  simp at hg
  have hb : Below w.heap.size w w1 := hb0.trans (hb1.mono hb0.size)
  have hz := hb1.size
  simp at hz
  have c1 : w1.cell? ⟨w.heap.size + 1, 0, none⟩ = some (.slice none 0 0) := cell_below hb1 (by simp [go_sem])
  have c2 : w1.cell? ⟨w.heap.size + 1 + 1, 0, none⟩ = some (.slice none 0 0) := cell_below hb1 (by simp [go_sem])
  have f1 : w1.frozen? ⟨w.heap.size + 1, 0, none⟩ = false := by rw [hb1.frozen (p := ⟨w.heap.size + 1, 0, none⟩) (by simp)]; simp [go_sem]
  have f2 : w1.frozen? ⟨w.heap.size + 1 + 1, 0, none⟩ = false := by rw [hb1.frozen (p := ⟨w.heap.size + 1 + 1, 0, none⟩) (by simp)]; simp [go_sem]
  clear hb0 hb1
  go_wp2
  exact bodyPost_ret (v := .agg #[.slice (some ⟨g, 0, none⟩) is.length is.length]) (by simp [results, Tryz.results69, go_sem, c1]) rfl ⟨setCell_below (setCell_below hb (by omega) _) (by omega) _, g, rfl, by omega, (hr.setCell (by omega) _).setCell (by omega) _⟩
theorem toRecord_any (a la : Option Addr) (cap lc : Nat) (is : List I3) (gs : List G3) (out : ByteArray) (w : World) (rc : Row3 w a is) (rg : RowG w la gs) (h1 : is.length <= 1048576) (h2 : gs.length <= 1048576) :
    Calls Tryz.prog 45 #[.agg #[.slice a is.length cap, .slice la gs.length lc, .string out]] w fun e w' => Below w.heap.size w w' /\ ∃ g1 g2 : Nat, e = .returned (.agg #[.slice (some ⟨g1, 0, none⟩) is.length is.length, .slice (some ⟨g2, 0, none⟩) gs.length gs.length, .string out]) /\ Row3 w' (some ⟨g1, 0, none⟩) is /\ RowG w' (some ⟨g2, 0, none⟩) gs := by
  go_enter Tryz.func45, Tryz.ntmps45
  go_wp2_with fail
  have hb0 : Below w.heap.size w (((w.alloc (.cells #[.slice a is.length cap, .slice la gs.length lc, .string out] 72)).alloc (.cells #[.slice none 0 0, .slice none 0 0, .string ⟨#[]⟩] 86)).alloc (.cells #[.slice none 0 0, .slice none 0 0, .string ⟨#[]⟩] 86)) := (((Below.refl _ _).alloc (Nat.le_refl _) _).alloc (by simp) _).alloc (by simp; omega) _
  refine (toProgram_fresh a cap is _ (rc.below hb0) h1).mono ?_
  rintro e w1 ⟨hb1, g, rfl, hg, hr⟩
  simp at hg
  have hb : Below w.heap.size w w1 := hb0.trans (hb1.mono hb0.size)
  have hz := hb1.size
  simp at hz
  have c01 : w1.cell? ⟨w.heap.size, 1, none⟩ = some (.slice la gs.length lc) := cell_below hb1 (by simp [go_sem])
  have c02 : w1.cell? ⟨w.heap.size, 2, none⟩ = some (.string out) := cell_below hb1 (by simp [go_sem])
  have c10 : w1.cell? ⟨w.heap.size + 1, 0, none⟩ = some (.slice none 0 0) := cell_below hb1 (by simp [go_sem])
  have c11 : w1.cell? ⟨w.heap.size + 1, 1, none⟩ = some (.slice none 0 0) := cell_below hb1 (by simp [go_sem])
  have c12 : w1.cell? ⟨w.heap.size + 1, 2, none⟩ = some (.string ⟨#[]⟩) := cell_below hb1 (by simp [go_sem])
  have c20 : w1.cell? ⟨w.heap.size + 1 + 1, 0, none⟩ = some (.slice none 0 0) := cell_below hb1 (by simp [go_sem])
  have c21 : w1.cell? ⟨w.heap.size + 1 + 1, 1, none⟩ = some (.slice none 0 0) := cell_below hb1 (by simp [go_sem])
  have c22 : w1.cell? ⟨w.heap.size + 1 + 1, 2, none⟩ = some (.string ⟨#[]⟩) := cell_below hb1 (by simp [go_sem])
  have f1 : ∀ j, w1.frozen? ⟨w.heap.size + 1, j, none⟩ = false := fun j => by rw [hb1.frozen (p := ⟨w.heap.size + 1, j, none⟩) (by simp)]; simp [go_sem]
  have f2 : ∀ j, w1.frozen? ⟨w.heap.size + 1 + 1, j, none⟩ = false := fun j => by rw [hb1.frozen (p := ⟨w.heap.size + 1 + 1, j, none⟩) (by simp)]; simp [go_sem]
  clear hb0 hb1
  go_wp2_with fail
  have hbs : Below w.heap.size w (w1.setCell ⟨w.heap.size + 1 + 1, 0, none⟩ (.slice (some ⟨g, 0, none⟩) is.length is.length)) := hb.setCell (p := ⟨w.heap.size + 1 + 1, 0, none⟩) (by simp; omega) _
  refine (toGlanceS_any la lc gs _ (rg.below hbs) h2).mono ?_
  rintro e w2 ⟨hb2, g2, rfl, hg2, hg2', hr2⟩
  have hb3 : Below w.heap.size w w2 := hbs.trans (hb2.mono hbs.size)
  have hrs := (hr.setCell (b := w.heap.size + 1 + 1) (j := 0) (by omega) (.slice (some ⟨g, 0, none⟩) is.length is.length)).below hb2
  have hz2 := hb2.size
  simp at hz2
  simp at hg2
  have d02 : w2.cell? ⟨w.heap.size, 2, none⟩ = some (.string out) := cell_below hb2 (by simp [go_sem, c02])
  have d10 : w2.cell? ⟨w.heap.size + 1, 0, none⟩ = some (.slice none 0 0) := cell_below hb2 (by simp [go_sem, c10])
  have d11 : w2.cell? ⟨w.heap.size + 1, 1, none⟩ = some (.slice none 0 0) := cell_below hb2 (by simp [go_sem, c11])
  have d12 : w2.cell? ⟨w.heap.size + 1, 2, none⟩ = some (.string ⟨#[]⟩) := cell_below hb2 (by simp [go_sem, c12])
  have d20 : w2.cell? ⟨w.heap.size + 1 + 1, 0, none⟩ = some (.slice (some ⟨g, 0, none⟩) is.length is.length) := cell_below hb2 (by simp [go_sem, c20])
  have d21 : w2.cell? ⟨w.heap.size + 1 + 1, 1, none⟩ = some (.slice none 0 0) := cell_below hb2 (by simp [go_sem, c21])
  have d22 : w2.cell? ⟨w.heap.size + 1 + 1, 2, none⟩ = some (.string ⟨#[]⟩) := cell_below hb2 (by simp [go_sem, c22])
  have e1 : ∀ j, w2.frozen? ⟨w.heap.size + 1, j, none⟩ = false := fun j => by rw [hb2.frozen (p := ⟨w.heap.size + 1, j, none⟩) (by simp; omega)]; simp [go_sem, f1]
  have e2 : ∀ j, w2.frozen? ⟨w.heap.size + 1 + 1, j, none⟩ = false := fun j => by rw [hb2.frozen (p := ⟨w.heap.size + 1 + 1, j, none⟩) (by simp; omega)]; simp [go_sem, f2]
  clear hb2 hbs hb c01 c02 c10 c11 c12 c20 c21 c22 f1 f2 hr
  go_wp2
  refine bodyPost_ret (v := .agg #[.slice (some ⟨g, 0, none⟩) is.length is.length, .slice (some ⟨g2, 0, none⟩) gs.length gs.length, .string out]) (by simp [results, Tryz.results45, go_sem, d10, d11, d12]) rfl ⟨?_, g, g2, rfl, ?_, ?_⟩
  · exact ((((hb3.setCell (p := ⟨w.heap.size + 1 + 1, 1, none⟩) (by simp; omega) _).setCell (p := ⟨w.heap.size + 1 + 1, 2, none⟩) (by simp; omega) _).setCell (p := ⟨w.heap.size + 1, 0, none⟩) (by simp) _).setCell (p := ⟨w.heap.size + 1, 1, none⟩) (by simp) _).setCell (p := ⟨w.heap.size + 1, 2, none⟩) (by simp) _
  · exact ((((hrs.setCell (by omega) _).setCell (by omega) _).setCell (by omega) _).setCell (by omega) _).setCell (by omega) _
  · exact ((((hr2.setCell (by omega) _).setCell (by omega) _).setCell (by omega) _).setCell (by omega) _).setCell (by omega) _
theorem eqRecord_same (a a' la la' : Option Addr) (cap cap' lc lc' : Nat) (is : List I3) (gs : List G3) (out : ByteArray) (w : World) (rc : Row3 w a is) (rc' : Row3 w a' is) (rg : RowG w la gs) (rg' : RowG w la' gs) (h1 : is.length <= 1048576) (h2 : gs.length <= 1048576) :
    Calls Tryz.prog 60 #[.agg #[.slice a is.length cap, .slice la gs.length lc, .string out], .agg #[.slice a' is.length cap', .slice la' gs.length lc', .string out]] w fun e w' => Below w.heap.size w w' /\ e = .returned (.bool true) := by
  have hb0 : Below w.heap.size w ((w.alloc (.cells #[.slice a is.length cap, .slice la gs.length lc, .string out] 86)).alloc (.cells #[.slice a' is.length cap', .slice la' gs.length lc', .string out] 86)) := ((Below.refl _ _).alloc (Nat.le_refl _) _).alloc (by simp) _
  have k1 : ((w.alloc (.cells #[.slice a is.length cap, .slice la gs.length lc, .string out] 86)).alloc (.cells #[.slice a' is.length cap', .slice la' gs.length lc', .string out] 86)).cell? ⟨w.heap.size, 1, none⟩ = some (.slice la gs.length lc) := by simp [go_sem]
  have k2 : ((w.alloc (.cells #[.slice a is.length cap, .slice la gs.length lc, .string out] 86)).alloc (.cells #[.slice a' is.length cap', .slice la' gs.length lc', .string out] 86)).cell? ⟨w.heap.size, 2, none⟩ = some (.string out) := by simp [go_sem]
  have k3 : ((w.alloc (.cells #[.slice a is.length cap, .slice la gs.length lc, .string out] 86)).alloc (.cells #[.slice a' is.length cap', .slice la' gs.length lc', .string out] 86)).cell? ⟨w.heap.size + 1, 1, none⟩ = some (.slice la' gs.length lc') := by simp [go_sem]
  have k4 : ((w.alloc (.cells #[.slice a is.length cap, .slice la gs.length lc, .string out] 86)).alloc (.cells #[.slice a' is.length cap', .slice la' gs.length lc', .string out] 86)).cell? ⟨w.heap.size + 1, 2, none⟩ = some (.string out) := by simp [go_sem]
  have e1 := str_eq (rfl : out = out)
  go_enter Tryz.func60, Tryz.ntmps60
  go_wp2_with fail
  refine (eqProgram_same a a' cap cap' is _ (rc.below hb0) (rc'.below hb0) h1).mono ?_
  rintro e w1 ⟨hb1, rfl⟩
  have hB1 := bt hb0 hb1
  have c1 := cell_below hb1 k1
  have c2 := cell_below hb1 k2
  have c3 := cell_below hb1 k3
  have c4 := cell_below hb1 k4
  clear hb0 hb1 k1 k2 k3 k4
  go_wp2_with fail
  refine (eqGlanceS_same la la' lc lc' gs _ (rg.below hB1) (rg'.below hB1) h2).mono ?_
  rintro e w2 ⟨hb2, rfl⟩
  have hB2 := bt hB1 hb2
  have d2 := cell_below hb2 c2
  have d4 := cell_below hb2 c4
  clear hb2 hB1 c1 c2 c3 c4
  go_wp2
  go_ret
  exact ⟨hB2, rfl⟩
theorem Strs.setCell {w : World} {g : Nat} {ss : List ByteArray} (h : Strs w (some ⟨g, 0, none⟩) ss) {b j : Nat} (hb : b ≠ g) (v : Value) : Strs (w.setCell ⟨b, j, none⟩ v) (some ⟨g, 0, none⟩) ss := by
  intro i hi
  obtain ⟨b', off, ha, h1⟩ := h i hi
  cases ha
  have e : ∀ o, (w.setCell ⟨b, j, none⟩ v).cell? ⟨g, o, none⟩ = w.cell? ⟨g, o, none⟩ := fun o => World.cell?_of_block (w := w) (Below.heap_setCell w ⟨b, j, none⟩ v g (fun e => hb e.symm))
  exact ⟨g, 0, rfl, by rw [e]; exact h1⟩
def total (ss : List ByteArray) : Nat := (ss.map ByteArray.size).sum
theorem total_take_succ (ss : List ByteArray) (k : Nat) (h : k < ss.length) : total (ss.take (k + 1)) = total (ss.take k) + (ss.getD k ByteArray.empty).size := by
  have e : ss.take (k + 1) = ss.take k ++ [ss[k]] := List.take_succ_eq_append_getElem h
  unfold total
  rw [e, List.map_append, List.sum_append, List.getD_eq_getElem?_getD, List.getElem?_eq_getElem h]
  simp
theorem getD_le {ss : List ByteArray} (h : ∀ s ∈ ss, s.size <= maxLen) (k : Nat) : (ss.getD k ByteArray.empty).size <= maxLen := by
  rw [List.getD_eq_getElem?_getD]
  cases hk : ss[k]? with
  | none => simp [maxLen]
  | some s => exact h s (List.mem_of_getElem? hk)
theorem szStringS_any (a : Option Addr) (cap : Nat) (ss : List ByteArray) (w : World) (hc : Strs w a ss) (hl : ss.length <= maxLen) (hs : ∀ s ∈ ss, s.size <= maxLen) (L : Int) (hL0 : 0 <= L) (hL : L <= 1048576) :
    Calls Tryz.prog 12 #[.slice a ss.length cap, .int .i64 L] w fun e w' => w = w' /\ ∃ r : Int, e = .returned (.int .i64 r) /\ (r < 0 \/ ((ss.length + total ss : Int) <= L /\ 0 <= r /\ r <= L)) := by
  have hs' := getD_le hs
  unfold maxLen at hl hs'
  by_cases h0 : (ss.length : Int) <= L
  · go_enter Tryz.func12, Tryz.ntmps12
    go_wp2
    go_loop [1, 5] (fun l i => ∃ k : Nat, k <= ss.length /\ i = .int .i64 k /\ l = .int .i64 (L - ss.length - total (ss.take k)) /\ (ss.length + total (ss.take k) : Int) <= L) (fun _ i => ss.length - (intOf i).toNat)
    case atStart => exact ⟨0, Nat.zero_le _, rfl, by simp [total], by simpa [total] using h0⟩
    case round =>
      obtain ⟨k, hk, rfl, rfl, ht⟩ := hrel
      by_cases hlt : k < ss.length
      · obtain ⟨b, off, rfl, hck⟩ := hc k hlt
        have hts := total_take_succ ss k hlt
        have hsk := hs' k
        clear hs'
        generalize ss.getD k ByteArray.empty = s at *
        have HT : Hid (total (ss.take (k + 1)) = total (ss.take k) + s.size) := hts
        clear hts
        by_cases hneg : L - ss.length - total (ss.take k) - s.size < 0
        · go_wp2
          go_ret
          exact ⟨rfl, -1, rfl, by omega⟩
        · go_wp2
          go_round
          case rel => exact ⟨k + 1, by omega, by go_num, by rw [HT.out]; go_num, by rw [HT.out]; omega⟩
          case measure => simp [intOf]; omega
      · go_wp2
        go_ret
        rw [List.take_of_length_le (show ss.length <= k by omega)] at ht ⊢
        exact ⟨rfl, _, rfl, by omega⟩
  · go_enter Tryz.func12, Tryz.ntmps12
    go_wp2
    go_ret
    exact ⟨rfl, -1, rfl, by omega⟩
theorem Tryz.info9 : (Tryz.prog.info? 9).map (fun i => (i.zero, i.size, i.bytes)) = some (some (.string ByteArray.empty), 1, 16) := by kernel_rfl
def filled (ss : List ByteArray) (k n : Nat) : List Value := (ss.take k).map Value.string ++ List.replicate (n - k) (Value.string ByteArray.empty)
theorem filled_length (ss : List ByteArray) (k : Nat) (h : k <= ss.length) : (filled ss k ss.length).length = ss.length := by
  simp [filled]; omega
theorem filled_set (ss : List ByteArray) (k : Nat) (h : k < ss.length) : (filled ss k ss.length).set k (.string (ss.getD k ByteArray.empty)) = filled ss (k + 1) ss.length := by
  unfold filled
  have e : ss.take (k + 1) = ss.take k ++ [ss[k]] := List.take_succ_eq_append_getElem h
  have hr : List.replicate (ss.length - k) (Value.string ByteArray.empty) = Value.string ByteArray.empty :: List.replicate (ss.length - (k + 1)) (Value.string ByteArray.empty) := by
    rw [show ss.length - k = (ss.length - (k + 1)) + 1 by omega, List.replicate_succ]
  rw [e, hr, List.set_append_right _ _ (by simp; omega)]
  have hk : k - ((ss.take k).map Value.string).length = 0 := by simp; omega
  rw [hk, List.getD_eq_getElem?_getD, List.getElem?_eq_getElem h, List.map_append, List.append_assoc]
  rfl
theorem filled_get (ss : List ByteArray) (i : Nat) (h : i < ss.length) : (filled ss ss.length ss.length)[i]? = some (.string (ss.getD i ByteArray.empty)) := by
  simp [filled, List.getD_eq_getElem?_getD, List.getElem?_eq_getElem h]
theorem made_strings (n : Nat) : (madeCells (Value.string ByteArray.empty).cells (n * 1)).toList = List.replicate n (.string ByteArray.empty) := by
  apply List.ext_getElem?
  intro i
  by_cases h : i < n <;> simp [madeCells, Value.cells, h, Nat.mod_one]
theorem ownsRow_strs {w : World} {B g : Nat} {cap : Nat} {ss : List ByteArray} (h : w.ownsRow B 9 1 (.slice (some ⟨g, 0, none⟩) ss.length cap) ss.length (filled ss ss.length ss.length)) : Strs w (some ⟨g, 0, none⟩) ss := by
  intro i hi
  refine ⟨g, 0, rfl, ?_⟩
  rw [Nat.zero_add, h.cellAt i (by omega), filled_get ss i hi]
theorem toStringS_any (a : Option Addr) (cap : Nat) (ss : List ByteArray) (w : World) (hc : Strs w a ss) (hl : ss.length <= 1048576) :
    Calls Tryz.prog 21 #[.slice a ss.length cap] w fun e w' => Below w.heap.size w w' /\ ∃ g : Nat, e = .returned (.slice (some ⟨g, 0, none⟩) ss.length ss.length) /\ w.heap.size <= g /\ Strs w' (some ⟨g, 0, none⟩) ss := by
  obtain ⟨i0, hi, hz0, hz1, hz2⟩ := info_parts Tryz.info9
  go_enter Tryz.func21, Tryz.ntmps21
  go_wp2_with (first | (at_make; refine wpList_make_full _ rfl (.tmp 6) (.tmp 6) 22 rfl w.heap.size 9 i0 (.string ByteArray.empty) 1 Tryz.underlying22 hi hz0 hz1 .i64 .i64 _ _ ss.length rfl rfl rfl rfl (by rw [hz2]; omega) (by unfold maxLen; omega) (Nat.le_refl _) ?_; intro w1 hown hgrow))
  rw [made_strings] at hown
  have hbel1 : Below w.heap.size w w1 := (Below.refl _ _).grown hgrow (Nat.le_refl _) (by simp)
  clear hgrow
  go_loopw [4] (fun i wr => ∃ k : Nat, k <= ss.length /\ i = .int .i64 k /\ wr.ownsRow w.heap.size 9 1 (.slice (some ⟨w.heap.size, 0, none⟩) ss.length ss.length) ss.length (filled ss k ss.length) /\ Below w.heap.size w wr) (fun i _ => ss.length - (intOf i).toNat)
  case atStart => exact ⟨0, Nat.zero_le _, rfl, by simpa [filled] using hown, hbel1⟩
  case round =>
    obtain ⟨k, hk, rfl, hown, hbel⟩ := hrel
    by_cases hlt : k < ss.length
    · obtain ⟨b, off, rfl, hck⟩ := (hc.below hbel) k hlt
      have hst := hown.stored k (.string (ss.getD k ByteArray.empty))
      rw [filled_set ss k hlt] at hst
      have hfr := hown.frozenAt k
      have hce : wr.cell? ⟨w.heap.size, k, none⟩ = some ((filled ss k ss.length)[k]'(by rw [filled_length ss k hk]; exact hlt)) := by
        rw [hown.cellAt k (by omega)]; exact List.getElem?_eq_getElem _
      generalize (filled ss k ss.length)[k]'(by rw [filled_length ss k hk]; exact hlt) = old at hce
      generalize ss.getD k ByteArray.empty = s at *
      have hbel2 : Below w.heap.size w (wr.setCell ⟨w.heap.size, k, none⟩ (.string s)) := hbel.setCell (Nat.le_refl _) _
      clear hown hbel hbel1 hc
      go_wp2
      go_roundw
      case rel => exact ⟨k + 1, by omega, by go_num, hst.1, hbel2⟩
      case measure => simp [intOf]; omega
    · have ek : k = ss.length := by omega
      subst ek
      go_wp2
      go_ret
      exact ⟨hbel, _, rfl, Nat.le_refl _, ownsRow_strs hown⟩
structure T3 where
  code : List I3
  looks : List G3
  out : ByteArray
def q00 : T3 := ⟨[], [], ByteArray.empty⟩
def qx (is : List T3) (i : Nat) : T3 := is.getD i q00
def RowQ (w : World) (a : Option Addr) (is : List T3) : Prop :=
  ∀ i, i < is.length -> ∃ b off, a = some ⟨b, off, none⟩ /\ ∃ ca cc la lc, w.cell? ⟨b, off + i * 3, none⟩ = some (.slice ca (qx is i).code.length cc) /\ w.cell? ⟨b, off + i * 3 + 1, none⟩ = some (.slice la (qx is i).looks.length lc) /\ w.cell? ⟨b, off + i * 3 + 2, none⟩ = some (.string (qx is i).out) /\ Row3 w ca (qx is i).code /\ RowG w la (qx is i).looks
theorem RowQ.below {w w' : World} {a : Option Addr} {is : List T3} (h : RowQ w a is) (hb : Below w.heap.size w w') : RowQ w' a is := by
  intro i hi
  obtain ⟨b, off, ha, ca, cc, la, lc, h1, h2, h3, h4, h5⟩ := h i hi
  exact ⟨b, off, ha, ca, cc, la, lc, cell_below hb h1, cell_below hb h2, cell_below hb h3, h4.below hb, h5.below hb⟩
def RowQo (w : World) (B : Nat) (g : Nat) (is : List T3) : Prop :=
  B <= g /\ ∀ i, i < is.length -> ∃ g1 g2, B <= g1 /\ B <= g2 /\ w.cell? ⟨g, i * 3, none⟩ = some (.slice (some ⟨g1, 0, none⟩) (qx is i).code.length (qx is i).code.length) /\ w.cell? ⟨g, i * 3 + 1, none⟩ = some (.slice (some ⟨g2, 0, none⟩) (qx is i).looks.length (qx is i).looks.length) /\ w.cell? ⟨g, i * 3 + 2, none⟩ = some (.string (qx is i).out) /\ Row3 w (some ⟨g1, 0, none⟩) (qx is i).code /\ RowG w (some ⟨g2, 0, none⟩) (qx is i).looks
theorem RowQo.row {w : World} {B g : Nat} {is : List T3} (h : RowQo w B g is) : RowQ w (some ⟨g, 0, none⟩) is := by
  intro i hi
  obtain ⟨g1, g2, _, _, h1, h2, h3, h4, h5⟩ := h.2 i hi
  exact ⟨g, 0, rfl, _, _, _, _, by rw [Nat.zero_add]; exact h1, by rw [Nat.zero_add]; exact h2, by rw [Nat.zero_add]; exact h3, h4, h5⟩
theorem RowQo.setCell {w : World} {B g : Nat} {is : List T3} (h : RowQo w B g is) {b j : Nat} (hb : b < B) (v : Value) : RowQo (w.setCell ⟨b, j, none⟩ v) B g is := by
  refine ⟨h.1, fun i hi => ?_⟩
  obtain ⟨g1, g2, k1, k2, h1, h2, h3, h4, h5⟩ := h.2 i hi
  have hB := h.1
  have e : ∀ o, (w.setCell ⟨b, j, none⟩ v).cell? ⟨g, o, none⟩ = w.cell? ⟨g, o, none⟩ := fun o => World.cell?_of_block (w := w) (Below.heap_setCell w ⟨b, j, none⟩ v g (by simp; omega))
  exact ⟨g1, g2, k1, k2, by rw [e]; exact h1, by rw [e]; exact h2, by rw [e]; exact h3, h4.setCell (by omega) v, h5.setCell (by omega) v⟩
def FilledQ (w : World) (B : Nat) (is : List T3) (k : Nat) (xs : List Value) : Prop :=
  ∀ i, i < k -> ∃ g1 g2, B < g1 /\ B < g2 /\ xs[i * 3]? = some (.slice (some ⟨g1, 0, none⟩) (qx is i).code.length (qx is i).code.length) /\ xs[i * 3 + 1]? = some (.slice (some ⟨g2, 0, none⟩) (qx is i).looks.length (qx is i).looks.length) /\ xs[i * 3 + 2]? = some (.string (qx is i).out) /\ Row3 w (some ⟨g1, 0, none⟩) (qx is i).code /\ RowG w (some ⟨g2, 0, none⟩) (qx is i).looks
theorem filledQ_set {w : World} {B : Nat} {is : List T3} {k g1 g2 : Nat} {xs : List Value} (h : FilledQ w B is k xs) (hx : k * 3 + 2 < xs.length) (hg1 : B < g1) (hg2 : B < g2) (hr : Row3 w (some ⟨g1, 0, none⟩) (qx is k).code) (hr2 : RowG w (some ⟨g2, 0, none⟩) (qx is k).looks) :
    FilledQ w B is (k + 1) (((xs.set (k * 3) (.slice (some ⟨g1, 0, none⟩) (qx is k).code.length (qx is k).code.length)).set (k * 3 + 1) (.slice (some ⟨g2, 0, none⟩) (qx is k).looks.length (qx is k).looks.length)).set (k * 3 + 2) (.string (qx is k).out)) := by
  intro i hi
  rcases Nat.lt_or_ge i k with hl | hl
  · obtain ⟨a1, a2, b1, b2, h1, h2, h3, h4, h5⟩ := h i hl
    simp only [List.getElem?_set]
    rw [if_neg (by omega), if_neg (by omega), if_neg (by omega), if_neg (by omega), if_neg (by omega), if_neg (by omega), if_neg (by omega), if_neg (by omega), if_neg (by omega)]
    exact ⟨a1, a2, b1, b2, h1, h2, h3, h4, h5⟩
  · obtain rfl : i = k := by omega
    refine ⟨g1, g2, hg1, hg2, ?_, ?_, ?_, hr, hr2⟩
    · simp [List.getElem?_set]; omega
    · simp [List.getElem?_set]; omega
    · simp [List.getElem?_set]; omega
theorem FilledQ.setCell {w : World} {B : Nat} {is : List T3} {k : Nat} {xs : List Value} (h : FilledQ w B is k xs) (j : Nat) (v : Value) : FilledQ (w.setCell ⟨B, j, none⟩ v) B is k xs := by
  intro i hi
  obtain ⟨a1, a2, b1, b2, h1, h2, h3, h4, h5⟩ := h i hi
  exact ⟨a1, a2, b1, b2, h1, h2, h3, h4.setCell (by omega) v, h5.setCell (by omega) v⟩
theorem FilledQ.below {w w' : World} {B : Nat} {is : List T3} {k : Nat} {xs : List Value} (h : FilledQ w B is k xs) (hb : Below w.heap.size w w') : FilledQ w' B is k xs := by
  intro i hi
  obtain ⟨a1, a2, b1, b2, h1, h2, h3, h4, h5⟩ := h i hi
  exact ⟨a1, a2, b1, b2, h1, h2, h3, h4.below hb, h5.below hb⟩
theorem rowQ_own {w : World} {g n cap : Nat} {is : List T3} {xs : List Value} (hn : n = is.length) (h : w.ownsRow g 86 3 (.slice (some ⟨g, 0, none⟩) n cap) n xs) (hf : FilledQ w g is n xs) : RowQo w g g is := by
  subst hn
  refine ⟨Nat.le_refl _, fun i hi => ?_⟩
  obtain ⟨a1, a2, b1, b2, h1, h2, h3, h4, h5⟩ := hf i hi
  refine ⟨a1, a2, by omega, by omega, ?_, ?_, ?_, h4, h5⟩
  · rw [h.cellAt _ (by omega)]; exact h1
  · rw [h.cellAt _ (by omega)]; exact h2
  · rw [h.cellAt _ (by omega)]; exact h3
theorem szRecord_left (a la : Option Addr) (cap lc : Nat) (is : List I3) (gs : List G3) (out : ByteArray) (lft : Int) (hf0 : 0 <= lft) (hf1 : lft <= 1048576) (w : World) (h : RecOk w a is la gs out) :
    Calls Tryz.prog 36 #[.agg #[.slice a is.length cap, .slice la gs.length lc, .string out], .int .i64 lft] w fun e w' => Below w.heap.size w w' /\ ∃ r : Int, e = .returned (.int .i64 r) /\ (r < 0 \/ (is.length <= 1048576 /\ gs.length <= 1048576 /\ 0 <= r /\ r <= lft)) := by
  obtain ⟨rc, rg, hlc, hlg, xc, ng, sg, so⟩ := h
  unfold maxLen at so
  have hb0 : Below w.heap.size w (w.alloc (.cells #[.slice a is.length cap, .slice la gs.length lc, .string out] 72)) := (Below.refl _ _).alloc (Nat.le_refl _) _
  have k1 : (w.alloc (.cells #[.slice a is.length cap, .slice la gs.length lc, .string out] 72)).cell? ⟨w.heap.size, 1, none⟩ = some (.slice la gs.length lc) := by simp [go_sem]
  have k2 : (w.alloc (.cells #[.slice a is.length cap, .slice la gs.length lc, .string out] 72)).cell? ⟨w.heap.size, 2, none⟩ = some (.string out) := by simp [go_sem]
  go_enter Tryz.func36, Tryz.ntmps36
  go_wp2_with fail
  refine (szProgram_left a cap is lft _ hf0 hf1 (rc.below hb0) hlc xc).mono ?_
  rintro e w1 ⟨hb1, r, rfl, hr⟩
  have hB1 := bt hb0 hb1
  have k11 := cell_below hb1 k1
  have k12 := cell_below hb1 k2
  clear hb0 hb1 k1 k2
  rcases hr with hr | ⟨h1, hr0, hr1⟩
  · go_wp2
    go_ret
    exact ⟨hB1, -1, rfl, Or.inl (by omega)⟩
  · go_wp2_with fail
    refine (szGlanceS_any la lc gs r _ (by omega) (by omega) (rg.below hB1) hlg ng sg).mono ?_
    rintro e w2 ⟨hb2, r2, rfl, hr2⟩
    have hB2 := bt hB1 hb2
    have k22 := cell_below hb2 k12
    clear hb2 hB1 k11 k12
    rcases hr2 with hr2 | ⟨h2, hr2, hr3, h3⟩
    · go_wp2
      go_ret
      exact ⟨hB2, -1, rfl, Or.inl (by omega)⟩
    · by_cases h4 : r2 - out.size < 0
      · go_wp2
        go_ret
        exact ⟨hB2, -1, rfl, Or.inl (by omega)⟩
      · go_wp2
        go_ret
        exact ⟨hB2, r2 - out.size, rfl, Or.inr (by omega)⟩
structure QsOk (rs : List T3) : Prop where
  lr : rs.length <= maxLen
  lc : ∀ i, (qx rs i).code.length <= maxLen
  lg : ∀ i, (qx rs i).looks.length <= maxLen
  xc : ∀ i j, (ix (qx rs i).code j).text.size <= maxLen
  ng : ∀ i j, (gx (qx rs i).looks j).name.size <= maxLen
  sg : ∀ i j, (gx (qx rs i).looks j).sum.size <= maxLen
  so : ∀ i, (qx rs i).out.size <= maxLen
def QsSmall (rs : List T3) : Prop := rs.length <= 1048576 /\ ∀ i, i < rs.length -> (qx rs i).code.length <= 1048576 /\ (qx rs i).looks.length <= 1048576
theorem toRecord_fresh (a la : Option Addr) (cap lc : Nat) (is : List I3) (gs : List G3) (out : ByteArray) (w : World) (rc : Row3 w a is) (rg : RowG w la gs) (h1 : is.length <= 1048576) (h2 : gs.length <= 1048576) :
    Calls Tryz.prog 45 #[.agg #[.slice a is.length cap, .slice la gs.length lc, .string out]] w fun e w' => Below w.heap.size w w' /\ ∃ g1 g2 : Nat, e = .returned (.agg #[.slice (some ⟨g1, 0, none⟩) is.length is.length, .slice (some ⟨g2, 0, none⟩) gs.length gs.length, .string out]) /\ w.heap.size <= g1 /\ w.heap.size <= g2 /\ Row3 w' (some ⟨g1, 0, none⟩) is /\ RowG w' (some ⟨g2, 0, none⟩) gs := by
  go_enter Tryz.func45, Tryz.ntmps45
  go_wp2_with fail
  have hb0 : Below w.heap.size w (((w.alloc (.cells #[.slice a is.length cap, .slice la gs.length lc, .string out] 72)).alloc (.cells #[.slice none 0 0, .slice none 0 0, .string ⟨#[]⟩] 86)).alloc (.cells #[.slice none 0 0, .slice none 0 0, .string ⟨#[]⟩] 86)) := (((Below.refl _ _).alloc (Nat.le_refl _) _).alloc (by simp) _).alloc (by simp; omega) _
  refine (toProgram_fresh a cap is _ (rc.below hb0) h1).mono ?_
  rintro e w1 ⟨hb1, g, rfl, hg, hr⟩
  simp at hg
  have hb : Below w.heap.size w w1 := hb0.trans (hb1.mono hb0.size)
  have hz := hb1.size
  simp at hz
  have c01 : w1.cell? ⟨w.heap.size, 1, none⟩ = some (.slice la gs.length lc) := cell_below hb1 (by simp [go_sem])
  have c02 : w1.cell? ⟨w.heap.size, 2, none⟩ = some (.string out) := cell_below hb1 (by simp [go_sem])
  have c10 : w1.cell? ⟨w.heap.size + 1, 0, none⟩ = some (.slice none 0 0) := cell_below hb1 (by simp [go_sem])
  have c11 : w1.cell? ⟨w.heap.size + 1, 1, none⟩ = some (.slice none 0 0) := cell_below hb1 (by simp [go_sem])
  have c12 : w1.cell? ⟨w.heap.size + 1, 2, none⟩ = some (.string ⟨#[]⟩) := cell_below hb1 (by simp [go_sem])
  have c20 : w1.cell? ⟨w.heap.size + 1 + 1, 0, none⟩ = some (.slice none 0 0) := cell_below hb1 (by simp [go_sem])
  have c21 : w1.cell? ⟨w.heap.size + 1 + 1, 1, none⟩ = some (.slice none 0 0) := cell_below hb1 (by simp [go_sem])
  have c22 : w1.cell? ⟨w.heap.size + 1 + 1, 2, none⟩ = some (.string ⟨#[]⟩) := cell_below hb1 (by simp [go_sem])
  have f1 : ∀ j, w1.frozen? ⟨w.heap.size + 1, j, none⟩ = false := fun j => by rw [hb1.frozen (p := ⟨w.heap.size + 1, j, none⟩) (by simp)]; simp [go_sem]
  have f2 : ∀ j, w1.frozen? ⟨w.heap.size + 1 + 1, j, none⟩ = false := fun j => by rw [hb1.frozen (p := ⟨w.heap.size + 1 + 1, j, none⟩) (by simp)]; simp [go_sem]
  clear hb0 hb1
  go_wp2_with fail
  have hbs : Below w.heap.size w (w1.setCell ⟨w.heap.size + 1 + 1, 0, none⟩ (.slice (some ⟨g, 0, none⟩) is.length is.length)) := hb.setCell (p := ⟨w.heap.size + 1 + 1, 0, none⟩) (by simp; omega) _
  refine (toGlanceS_any la lc gs _ (rg.below hbs) h2).mono ?_
  rintro e w2 ⟨hb2, g2, rfl, hg2, hg2', hr2⟩
  have hb3 : Below w.heap.size w w2 := hbs.trans (hb2.mono hbs.size)
  have hrs := (hr.setCell (b := w.heap.size + 1 + 1) (j := 0) (by omega) (.slice (some ⟨g, 0, none⟩) is.length is.length)).below hb2
  have hz2 := hb2.size
  simp at hz2
  simp at hg2
  have d02 : w2.cell? ⟨w.heap.size, 2, none⟩ = some (.string out) := cell_below hb2 (by simp [go_sem, c02])
  have d10 : w2.cell? ⟨w.heap.size + 1, 0, none⟩ = some (.slice none 0 0) := cell_below hb2 (by simp [go_sem, c10])
  have d11 : w2.cell? ⟨w.heap.size + 1, 1, none⟩ = some (.slice none 0 0) := cell_below hb2 (by simp [go_sem, c11])
  have d12 : w2.cell? ⟨w.heap.size + 1, 2, none⟩ = some (.string ⟨#[]⟩) := cell_below hb2 (by simp [go_sem, c12])
  have d20 : w2.cell? ⟨w.heap.size + 1 + 1, 0, none⟩ = some (.slice (some ⟨g, 0, none⟩) is.length is.length) := cell_below hb2 (by simp [go_sem, c20])
  have d21 : w2.cell? ⟨w.heap.size + 1 + 1, 1, none⟩ = some (.slice none 0 0) := cell_below hb2 (by simp [go_sem, c21])
  have d22 : w2.cell? ⟨w.heap.size + 1 + 1, 2, none⟩ = some (.string ⟨#[]⟩) := cell_below hb2 (by simp [go_sem, c22])
  have e1 : ∀ j, w2.frozen? ⟨w.heap.size + 1, j, none⟩ = false := fun j => by rw [hb2.frozen (p := ⟨w.heap.size + 1, j, none⟩) (by simp; omega)]; simp [go_sem, f1]
  have e2 : ∀ j, w2.frozen? ⟨w.heap.size + 1 + 1, j, none⟩ = false := fun j => by rw [hb2.frozen (p := ⟨w.heap.size + 1 + 1, j, none⟩) (by simp; omega)]; simp [go_sem, f2]
  clear hb2 hbs hb c01 c02 c10 c11 c12 c20 c21 c22 f1 f2 hr
  go_wp2
  refine bodyPost_ret (v := .agg #[.slice (some ⟨g, 0, none⟩) is.length is.length, .slice (some ⟨g2, 0, none⟩) gs.length gs.length, .string out]) (by simp [results, Tryz.results45, go_sem, d10, d11, d12]) rfl ⟨?_, g, g2, rfl, by omega, by omega, ?_, ?_⟩
  · exact ((((hb3.setCell (p := ⟨w.heap.size + 1 + 1, 1, none⟩) (by simp; omega) _).setCell (p := ⟨w.heap.size + 1 + 1, 2, none⟩) (by simp; omega) _).setCell (p := ⟨w.heap.size + 1, 0, none⟩) (by simp) _).setCell (p := ⟨w.heap.size + 1, 1, none⟩) (by simp) _).setCell (p := ⟨w.heap.size + 1, 2, none⟩) (by simp) _
  · exact ((((hrs.setCell (by omega) _).setCell (by omega) _).setCell (by omega) _).setCell (by omega) _).setCell (by omega) _
  · exact ((((hr2.setCell (by omega) _).setCell (by omega) _).setCell (by omega) _).setCell (by omega) _).setCell (by omega) _
theorem Tryz.info86 : (Tryz.prog.info? 86).map (fun i => (i.zero, i.size, i.bytes)) = some (some (.agg #[.slice none 0 0, .slice none 0 0, .string ByteArray.empty]), 3, 64) := by kernel_rfl
theorem toRecordS_any (a : Option Addr) (cap : Nat) (is : List T3) (w : World) (hc : RowQ w a is) (hk : QsSmall is) :
    Calls Tryz.prog 22 #[.slice a is.length cap] w fun e w' => Below w.heap.size w w' /\ ∃ g : Nat, e = .returned (.slice (some ⟨g, 0, none⟩) is.length is.length) /\ RowQo w' w.heap.size g is := by
  obtain ⟨z0, hi, hz0, hz1, hz2⟩ := info_parts Tryz.info86
  have hl := hk.1
  have HK : Hid (∀ i, i < is.length -> (qx is i).code.length <= 1048576 /\ (qx is i).looks.length <= 1048576) := hk.2
  clear hk
  go_enter Tryz.func22, Tryz.ntmps22
  go_wp2_with (first | (at_make; refine wpList_make_full _ rfl (.tmp 6) (.tmp 6) 34 rfl w.heap.size 86 z0 (.agg #[.slice none 0 0, .slice none 0 0, .string ByteArray.empty]) 3 Tryz.underlying34 hi hz0 hz1 .i64 .i64 _ _ is.length rfl rfl rfl rfl (by rw [hz2]; omega) (by unfold maxLen; omega) (Nat.le_refl _) ?_; intro w1 hown hgrow))
  have hbel1 : Below w.heap.size w w1 := (Below.refl _ _).grown hgrow (Nat.le_refl _) (by simp)
  clear hgrow
  go_loopw [4] (fun i wr => ∃ k : Nat, ∃ xs : List Value, k <= is.length /\ i = .int .i64 k /\ wr.ownsRow w.heap.size 86 3 (.slice (some ⟨w.heap.size, 0, none⟩) is.length is.length) is.length xs /\ FilledQ wr w.heap.size is k xs /\ Below w.heap.size w wr) (fun i _ => is.length - (intOf i).toNat)
  case atStart => exact ⟨0, _, Nat.zero_le _, rfl, hown, fun i hi => by omega, hbel1⟩
  case round =>
    obtain ⟨k, xs, hk, rfl, hown, hfi, hbel⟩ := hrel
    by_cases hlt : k < is.length
    · obtain ⟨b, off, rfl, ca, cc, la, lc, c1, c2, c3, c4, c5⟩ := (hc.below hbel) k hlt
      have hck := HK.out k hlt
      have hlx : k * 3 + 2 < xs.length := by rw [hown.1]; omega
      have hgl : w.heap.size < wr.heap.size := (hown.lt _ rfl).2
      have HF : Hid (∀ (W : World) (g1 g2 : Nat), FilledQ W w.heap.size is k xs -> w.heap.size < g1 -> w.heap.size < g2 -> Row3 W (some ⟨g1, 0, none⟩) (qx is k).code -> RowG W (some ⟨g2, 0, none⟩) (qx is k).looks -> FilledQ W w.heap.size is (k + 1) (((xs.set (k * 3) (.slice (some ⟨g1, 0, none⟩) (qx is k).code.length (qx is k).code.length)).set (k * 3 + 1) (.slice (some ⟨g2, 0, none⟩) (qx is k).looks.length (qx is k).looks.length)).set (k * 3 + 2) (.string (qx is k).out))) := fun W g1 g2 h1 h2 h3 h4 h5 => filledQ_set h1 hlx h2 h3 h4 h5
      generalize qx is k = i at *
      have C4 : Hid (Row3 wr ca i.code) := c4
      have C5 : Hid (RowG wr la i.looks) := c5
      clear hbel1 hc c4 c5
      go_wp2_with fail
      refine (toRecord_fresh ca la cc lc i.code i.looks i.out _ C4.out C5.out hck.1 hck.2).mono ?_
      rintro e w2 ⟨hb2, g1, g2, rfl, hg1, hg2, hr1, hr2⟩
      have hown2 := ownsRow_below hown hb2
      have hbw : Below w.heap.size w w2 := hbel.trans (hb2.mono hbel.size)
      have hfr := hown2.frozenAt
      have hf2 := HF.out _ g1 g2 (((hfi.below hb2).setCell (k * 3) (.slice (some ⟨g1, 0, none⟩) i.code.length i.code.length) |>.setCell (k * 3 + 1) (.slice (some ⟨g2, 0, none⟩) i.looks.length i.looks.length)).setCell (k * 3 + 2) (.string i.out)) (by omega) (by omega) (((hr1.setCell (by omega) _).setCell (by omega) _).setCell (by omega) _) (((hr2.setCell (by omega) _).setCell (by omega) _).setCell (by omega) _)
      obtain ⟨o1, d1⟩ := cell_of_length3 hown2 (j := k * 3) (by omega)
      obtain ⟨o2, d2⟩ := cell_of_length3 hown2 (j := k * 3 + 1) (by omega)
      obtain ⟨o3, d3⟩ := cell_of_length3 hown2 (j := k * 3 + 2) (by omega)
      have HO : Hid (w2.ownsRow w.heap.size 86 3 (.slice (some ⟨w.heap.size, 0, none⟩) is.length is.length) is.length xs) := hown2
      have HF2 : Hid _ := hf2
      clear hown hown2 hb2 hbel hf2 hfi
      go_wp2
      go_roundw
      case rel => exact ⟨k + 1, _, by omega, by go_num, (((HO.out.stored _ _).1.stored _ _).1.stored _ _).1, HF2.out, ((hbw.setCell (Nat.le_refl _) _).setCell (Nat.le_refl _) _).setCell (Nat.le_refl _) _⟩
      case measure => simp [intOf]; omega
    · have ek : k = is.length := by omega
      subst ek
      go_wp2
      go_ret
      exact ⟨hbel, _, rfl, rowQ_own rfl hown hfi⟩
theorem eqRecordS_same (a a' : Option Addr) (cap cap' : Nat) (is : List T3) (w : World) (hc : RowQ w a is) (hc' : RowQ w a' is) (hk : QsSmall is) :
    Calls Tryz.prog 33 #[.slice a is.length cap, .slice a' is.length cap'] w fun e w' => Below w.heap.size w w' /\ e = .returned (.bool true) := by
  have hl := hk.1
  have HK : Hid (∀ i, i < is.length -> (qx is i).code.length <= 1048576 /\ (qx is i).looks.length <= 1048576) := hk.2
  clear hk
  go_enter Tryz.func33, Tryz.ntmps33
  go_wp2
  go_loopw [5] (fun i wr => ∃ k : Nat, k <= is.length /\ i = .int .i64 k /\ Below w.heap.size w wr) (fun i _ => is.length - (intOf i).toNat)
  case atStart => exact ⟨0, Nat.zero_le _, rfl, Below.refl _ _⟩
  case round =>
    obtain ⟨k, hk, rfl, hbel⟩ := hrel
    by_cases hlt : k < is.length
    · obtain ⟨b, off, rfl, ca, cc, la, lc, c1, c2, c3, c4, c5⟩ := (hc.below hbel) k hlt
      obtain ⟨b', off', rfl, ca', cc', la', lc', d1, d2, d3, d4, d5⟩ := (hc'.below hbel) k hlt
      have hck := HK.out k hlt
      generalize qx is k = i at *
      clear hc hc'
      have C4 : Hid (Row3 wr ca i.code) := c4
      have C5 : Hid (RowG wr la i.looks) := c5
      have D4 : Hid (Row3 wr ca' i.code) := d4
      have D5 : Hid (RowG wr la' i.looks) := d5
      clear c4 c5 d4 d5
      have hkI : (k : Int) < (is.length : Int) := by omega
      have hk0 : (0 : Int) <= (k : Int) := by omega
      have hbd : Below wr.heap.size wr wr.drew := (Below.refl _ _).drew
      go_wp2_with fail
      go_region_held3 (fun w' => (w'.cell? ⟨b, off + k * 3, none⟩ = some (.slice ca i.code.length cc) /\ w'.cell? ⟨b, off + k * 3 + 1, none⟩ = some (.slice la i.looks.length lc) /\ w'.cell? ⟨b, off + k * 3 + 2, none⟩ = some (.string i.out)) /\ (w'.cell? ⟨b', off' + k * 3, none⟩ = some (.slice ca' i.code.length cc') /\ w'.cell? ⟨b', off' + k * 3 + 1, none⟩ = some (.slice la' i.looks.length lc') /\ w'.cell? ⟨b', off' + k * 3 + 2, none⟩ = some (.string i.out)))
        (first | assumption | (simp [*]; done) | exact ⟨⟨cell_below hb1 (by simp [*]), cell_below hb1 (by simp [*]), cell_below hb1 (by simp [*])⟩, cell_below hb1 (by simp [*]), cell_below hb1 (by simp [*]), cell_below hb1 (by simp [*])⟩)
        (first | (go_at_call 60; refine (eqRecord_same ca ca' la la' cc cc' lc lc' i.code i.looks i.out _ (C4.out.below hbd) (D4.out.below hbd) (C5.out.below hbd) (D5.out.below hbd) hck.1 hck.2).mono ?_; rintro e w1 ⟨hb1, rfl⟩))
      all_goals
        go_wp2
        go_roundw
        case rel => exact ⟨k + 1, by omega, by go_num, hbel.trans (Below.trans (Below.drew (Below.refl _ _)) (hb1.mono (by simpa using hbel.size)))⟩
        case measure => simp [intOf]; omega
    · go_wp2
      go_ret
      exact ⟨hbel, rfl⟩
end Go.Proofs.YtbbfboikigmghaaGreatDoor
