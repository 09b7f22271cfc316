import Derived.Test.YtllhbgmadiclcaaGreatDoorProg
import Derived.WalkKit
import Derived.WalkSpells
import Derived.WalkLawsBesides
import Derived.Deep.RegionHeld3
namespace Go.Proofs.YtllhbgmadiclcaaGreatDoor
open Go.RowKit

structure I3 where
  op : Int
  text : ByteArray
  n : Int
def i0 : I3 := ⟨0, ByteArray.empty, 0⟩
def ix (is : List I3) (i : Nat) : I3 := is.getD i i0

/-- The slice's address leads to the instructions, in w. -/
def Row3 (w : World) (a : Option Addr) (is : List I3) : Prop :=
  ∀ i, i < is.length → ∃ b off, a = some ⟨b, off, none⟩ ∧ w.cell? ⟨b, off + i * 3, none⟩ = some (.int .i64 (ix is i).op) ∧ w.cell? ⟨b, off + i * 3 + 1, none⟩ = some (.string (ix is i).text) ∧ w.cell? ⟨b, off + i * 3 + 2, none⟩ = some (.int .i64 (ix is i).n)

theorem cell_below {w w' : World} {b o : Nat} {v : Value} (hb : Below w.heap.size w w') (h : w.cell? ⟨b, o, none⟩ = some v) : w'.cell? ⟨b, o, none⟩ = some v :=
  (hb.cell (p := ⟨b, o, none⟩) (World.block_lt_of_cell? w _ h)).trans h

theorem Row3.below {w w' : World} {a : Option Addr} {is : List I3} (h : Row3 w a is) (hb : Below w.heap.size w w') : Row3 w' a is := by
  intro i hi
  obtain ⟨b, off, ha, h1, h2, h3⟩ := h i hi
  exact ⟨b, off, ha, cell_below hb h1, cell_below hb h2, cell_below hb h3⟩

theorem ownsRow_below {w w' : World} {base e size n : Nat} {v : Value} {xs : List Value} (h : w.ownsRow base e size v n xs) (hb : Below w.heap.size w w') : w'.ownsRow base e size v n xs := by
  refine ⟨h.1, ?_⟩
  rcases h.2 with h2 | ⟨g, cap, cur, hv, hg, hh, r⟩
  · exact Or.inl h2
  · refine Or.inr ⟨g, cap, cur, hv, hg, ?_, r⟩
    have hlt : g < w.heap.size := by
      rcases Nat.lt_or_ge g w.heap.size with h | h
      · exact h
      · rw [Array.getElem?_eq_none h] at hh; cases hh
    rw [hb.block g hlt]; exact hh

def total3 (is : List I3) : Nat := (is.map fun i => i.text.size).sum
theorem total3_take_succ (is : List I3) (k : Nat) (h : k < is.length) : total3 (is.take (k + 1)) = total3 (is.take k) + (ix is k).text.size := by
  have e : is.take (k + 1) = is.take k ++ [is[k]] := List.take_succ_eq_append_getElem h
  unfold total3 ix
  rw [e, List.map_append, List.sum_append, List.getD_eq_getElem?_getD, List.getElem?_eq_getElem h]
  simp

theorem str_eq {p q : ByteArray} (h : p = q) : (p.toList == q.toList) = true := by subst h; simp
theorem str_ne {p q : ByteArray} (h : p ≠ q) : (p.toList == q.toList) = false := by
  rw [beq_eq_false_iff_ne]
  intro e
  rw [ByteArray.toList_eq, ByteArray.toList_eq] at e
  exact h (WideShapes.bytes_inj e)

/-- The first k instructions lie in the row. -/
def Filled3 (is : List I3) (k : Nat) (xs : List Value) : Prop :=
  ∀ i, i < k → xs[i * 3]? = some (.int .i64 (ix is i).op) ∧ xs[i * 3 + 1]? = some (.string (ix is i).text) ∧ xs[i * 3 + 2]? = some (.int .i64 (ix is i).n)

theorem filled3_set {is : List I3} {k : Nat} {xs : List Value} (h : Filled3 is k xs) (hx : k * 3 + 2 < xs.length) :
    Filled3 is (k + 1) (((xs.set (k * 3) (.int .i64 (ix is k).op)).set (k * 3 + 1) (.string (ix is k).text)).set (k * 3 + 2) (.int .i64 (ix is k).n)) := by
  intro i hi
  rcases Nat.lt_or_ge i k with hl | hl
  · obtain ⟨h1, h2, h3⟩ := h i hl
    simp only [List.getElem?_set]
    rw [if_neg (by omega), if_neg (by omega), if_neg (by omega), if_neg (by omega), if_neg (by omega), if_neg (by omega), if_neg (by omega), if_neg (by omega), if_neg (by omega)]
    exact ⟨h1, h2, h3⟩
  · obtain rfl : i = k := by omega
    simp [List.getElem?_set]
    omega

theorem row3_own {w : World} {B g n cap : Nat} {is : List I3} {xs : List Value} (hn : n = is.length) (h : w.ownsRow B 98 3 (.slice (some ⟨g, 0, none⟩) n cap) n xs) (hf : Filled3 is n xs) : Row3 w (some ⟨g, 0, none⟩) is := by
  subst hn
  intro i hi
  obtain ⟨h1, h2, h3⟩ := hf i hi
  refine ⟨g, 0, rfl, ?_, ?_, ?_⟩
  · rw [Nat.zero_add, h.cellAt _ (by omega)]; exact h1
  · rw [Nat.zero_add, h.cellAt _ (by omega)]; exact h2
  · rw [Nat.zero_add, h.cellAt _ (by omega)]; exact h3

end Go.Proofs.YtllhbgmadiclcaaGreatDoor
namespace Go.Proofs.YtllhbgmadiclcaaGreatDoor
open Go.RowKit

set_option maxHeartbeats 400000 in
theorem szIns_any (i : I3) (l : Int) (w : World) (h0 : 0 ≤ l) (h1 : l ≤ 1048576) (hs : i.text.size ≤ 9223372036854775807) :
    Calls Tryz.prog 94 #[.agg #[.int .i64 i.op, .string i.text, .int .i64 i.n], .int .i64 l] w fun e w' => Below w.heap.size w w' ∧ ((l - i.text.size < 0 ∧ e = .returned (.int .i64 (-1))) ∨ (0 ≤ l - i.text.size ∧ e = .returned (.int .i64 (l - i.text.size)))) := by
  by_cases h : l - i.text.size < 0
  · go_enter Tryz.func94, Tryz.ntmps94
    go_wp2
    go_ret
    exact ⟨(Below.refl _ _).alloc (Nat.le_refl _) _, Or.inl ⟨h, rfl⟩⟩
  · go_enter Tryz.func94, Tryz.ntmps94
    go_wp2
    go_ret
    exact ⟨(Below.refl _ _).alloc (Nat.le_refl _) _, Or.inr ⟨by omega, rfl⟩⟩

set_option maxHeartbeats 400000 in
theorem szInsS_any (a : Option Addr) (cap : Nat) (is : List I3) (w : World) (hc : Row3 w a is) (hl : is.length ≤ maxLen) (hs : ∀ i, (ix is i).text.size ≤ maxLen) :
    Calls Tryz.prog 81 #[.slice a is.length cap, .int .i64 1048576] w fun e w' => Below w.heap.size w w' ∧ ∃ r : Int, e = .returned (.int .i64 r) ∧ (r < 0 ∨ (is.length + total3 is ≤ 1048576 ∧ 0 ≤ r)) := by
  unfold maxLen at hl hs
  by_cases h0 : is.length ≤ 1048576
  · go_enter Tryz.func81, Tryz.ntmps81
    go_wp2
    go_loopw [1, 5] (fun l i wr => ∃ k : Nat, k ≤ is.length ∧ i = .int .i64 k ∧ l = .int .i64 (1048576 - is.length - total3 (is.take k)) ∧ is.length + total3 (is.take k) ≤ 1048576 ∧ Below w.heap.size w wr) (fun _ i _ => is.length - (intOf i).toNat)
    case atStart => exact ⟨0, Nat.zero_le _, rfl, by simp [total3], by simpa [total3] using h0, Below.refl _ _⟩
    case round =>
      obtain ⟨k, hk, rfl, rfl, ht, hbr⟩ := hrel
      by_cases hlt : k < is.length
      · obtain ⟨b, off, rfl, c1, c2, c3⟩ := (hc.below hbr) k hlt
        have hts := total3_take_succ is k hlt
        have hsk := hs k
        clear hs hc
        generalize ix is k = i at *
        have HT : Hid (total3 (is.take (k + 1)) = total3 (is.take k) + i.text.size) := hts
        clear hts
        go_wp2_with fail
        refine (szIns_any i _ _ (by omega) (by omega) hsk).mono ?_
        rintro e w1 ⟨hb1, ⟨hneg, rfl⟩ | ⟨hpos, rfl⟩⟩
        · go_wp2
          go_ret
          exact ⟨hbr.trans (hb1.mono hbr.size), -1, rfl, by omega⟩
        · go_wp2
          go_roundw
          case rel => exact ⟨k + 1, by omega, by go_num, by rw [HT.out]; go_num, by rw [HT.out]; omega, hbr.trans (hb1.mono hbr.size)⟩
          case measure => simp [intOf]; omega
      · go_wp2
        go_ret
        rw [List.take_of_length_le (show is.length ≤ k by omega)] at ht ⊢
        exact ⟨hbr, _, rfl, by omega⟩
  · go_enter Tryz.func81, Tryz.ntmps81
    go_wp2
    go_ret
    exact ⟨Below.refl _ _, -1, rfl, by omega⟩

set_option maxHeartbeats 400000 in
theorem szProgram_any (a : Option Addr) (cap : Nat) (is : List I3) (w : World) (hc : Row3 w a is) (hl : is.length ≤ maxLen) (hs : ∀ i, (ix is i).text.size ≤ maxLen) :
    Calls Tryz.prog 57 #[.agg #[.slice a is.length cap], .int .i64 1048576] w fun e w' => Below w.heap.size w w' ∧ ∃ r : Int, e = .returned (.int .i64 r) ∧ (r < 0 ∨ (is.length + total3 is ≤ 1048576 ∧ 0 ≤ r)) := by
  go_enter Tryz.func57, Tryz.ntmps57
  go_wp2_with fail
  have hb0 : Below w.heap.size w (w.alloc (.cells #[.slice a is.length cap] 80)) := (Below.refl _ _).alloc (Nat.le_refl _) _
  refine (szInsS_any a cap is _ (hc.below hb0) hl hs).mono ?_
  rintro e w1 ⟨hb1, r, rfl, hr⟩
  have hb : Below w.heap.size w w1 := hb0.trans (hb1.mono hb0.size)
  rcases hr with hr | ⟨h1, h2⟩
  · go_wp2
    go_ret
    exact ⟨hb, -1, rfl, by omega⟩
  · go_wp2
    go_ret
    exact ⟨hb, r, rfl, Or.inr ⟨h1, h2⟩⟩

set_option maxHeartbeats 400000 in
theorem toIns_any (i : I3) (w : World) :
    Calls Tryz.prog 96 #[.agg #[.int .i64 i.op, .string i.text, .int .i64 i.n]] w fun e w' => Below w.heap.size w w' ∧ e = .returned (.agg #[.int .i64 i.op, .string i.text, .int .i64 i.n]) := by
  go_enter Tryz.func96, Tryz.ntmps96
  go_wp2
  exact bodyPost_ret (v := .agg #[.int .i64 i.op, .string i.text, .int .i64 i.n]) (by simp [results, Tryz.results96, go_sem]) rfl ⟨(((Below.refl _ _).alloc (Nat.le_refl _) _).alloc (by simp) _).alloc (by simp; omega) _, rfl⟩

theorem Tryz.info98 : (Tryz.prog.info? 98).map (fun i => (i.zero, i.size, i.bytes)) = some (some (.agg #[.int .i64 0, .string ByteArray.empty, .int .i64 0]), 3, 32) := by kernel_rfl

theorem cell_of_length {w : World} {B g n cap j : Nat} {xs : List Value} (h : w.ownsRow B 98 3 (.slice (some ⟨g, 0, none⟩) n cap) n xs) (hj : j < n * 3) : ∃ v, w.cell? ⟨g, j, none⟩ = some v := by
  have hl := h.1
  exact ⟨xs[j]'(by omega), by rw [h.cellAt j hj]; exact List.getElem?_eq_getElem _⟩

set_option maxHeartbeats 400000 in
theorem toInsS_any (a : Option Addr) (cap : Nat) (is : List I3) (w : World) (hc : Row3 w a is) (hl : is.length ≤ 1048576) :
    Calls Tryz.prog 85 #[.slice a is.length cap] w fun e w' => Below w.heap.size w w' ∧ ∃ g : Nat, e = .returned (.slice (some ⟨g, 0, none⟩) is.length is.length) ∧ w.heap.size ≤ g ∧ Row3 w' (some ⟨g, 0, none⟩) is := by
  obtain ⟨z0, hi, hz0, hz1, hz2⟩ := info_parts Tryz.info98
  go_enter Tryz.func85, Tryz.ntmps85
  go_wp2_with (first | (at_make; refine wpList_make_full _ rfl (.tmp 6) (.tmp 6) 45 rfl w.heap.size 98 z0 (.agg #[.int .i64 0, .string ByteArray.empty, .int .i64 0]) 3 Tryz.underlying45 hi hz0 hz1 .i64 .i64 _ _ is.length rfl rfl rfl rfl (by rw [hz2]; omega) (by unfold maxLen; omega) (Nat.le_refl _) ?_; intro w1 hown hgrow))
  have hbel1 : Below w.heap.size w w1 := (Below.refl _ _).grown hgrow (Nat.le_refl _) (by simp)
  clear hgrow
  go_loopw [4] (fun i wr => ∃ k : Nat, ∃ xs : List Value, k ≤ is.length ∧ i = .int .i64 k ∧ wr.ownsRow w.heap.size 98 3 (.slice (some ⟨w.heap.size, 0, none⟩) is.length is.length) is.length xs ∧ Filled3 is k xs ∧ Below w.heap.size w wr) (fun i _ => is.length - (intOf i).toNat)
  case atStart => exact ⟨0, _, Nat.zero_le _, rfl, hown, fun i hi => by omega, hbel1⟩
  case round =>
    obtain ⟨k, xs, hk, rfl, hown, hfi, hbel⟩ := hrel
    by_cases hlt : k < is.length
    · obtain ⟨b, off, rfl, c1, c2, c3⟩ := (hc.below hbel) k hlt
      have hf2 := filled3_set hfi (show k * 3 + 2 < xs.length by rw [hown.1]; omega)
      generalize ix is k = i at *
      clear hbel1 hc hfi
      go_wp2_with fail
      refine (toIns_any i _).mono ?_
      rintro e w2 ⟨hb2, rfl⟩
      have hown2 := ownsRow_below hown hb2
      have hbw : Below w.heap.size w w2 := hbel.trans (hb2.mono hbel.size)
      have hfr := hown2.frozenAt
      obtain ⟨o1, d1⟩ := cell_of_length hown2 (j := k * 3) (by omega)
      obtain ⟨o2, d2⟩ := cell_of_length hown2 (j := k * 3 + 1) (by omega)
      obtain ⟨o3, d3⟩ := cell_of_length hown2 (j := k * 3 + 2) (by omega)
      have HO : Hid (w2.ownsRow w.heap.size 98 3 (.slice (some ⟨w.heap.size, 0, none⟩) is.length is.length) is.length xs) := hown2
      clear hown hown2 hb2 hbel
      go_wp2
      go_roundw
      case rel => exact ⟨k + 1, _, by omega, by go_num, (((HO.out.stored _ _).1.stored _ _).1.stored _ _).1, hf2, ((hbw.setCell (Nat.le_refl _) _).setCell (Nat.le_refl _) _).setCell (Nat.le_refl _) _⟩
      case measure => simp [intOf]; omega
    · have ek : k = is.length := by omega
      subst ek
      go_wp2
      go_ret
      exact ⟨hbel, _, rfl, Nat.le_refl _, row3_own rfl hown hfi⟩

theorem Row3.setCell {w : World} {g : Nat} {is : List I3} (h : Row3 w (some ⟨g, 0, none⟩) is) {b j : Nat} (hb : b ≠ g) (v : Value) : Row3 (w.setCell ⟨b, j, none⟩ v) (some ⟨g, 0, none⟩) is := by
  intro i hi
  obtain ⟨b', off, ha, h1, h2, h3⟩ := h i hi
  cases ha
  have e : ∀ o, (w.setCell ⟨b, j, none⟩ v).cell? ⟨g, o, none⟩ = w.cell? ⟨g, o, none⟩ := fun o => World.cell?_of_block (w := w) (Below.heap_setCell w ⟨b, j, none⟩ v g (fun e => hb e.symm))
  exact ⟨g, 0, rfl, by rw [e]; exact h1, by rw [e]; exact h2, by rw [e]; exact h3⟩

theorem setCell_below {w w1 : World} {b j : Nat} (h : Below w.heap.size w w1) (hb : w.heap.size ≤ b) (v : Value) : Below w.heap.size w (w1.setCell ⟨b, j, none⟩ v) := h.setCell hb v

set_option maxHeartbeats 400000 in
theorem toProgram_any (a : Option Addr) (cap : Nat) (is : List I3) (w : World) (hc : Row3 w a is) (hl : is.length ≤ 1048576) :
    Calls Tryz.prog 61 #[.agg #[.slice a is.length cap]] w fun e w' => Below w.heap.size w w' ∧ ∃ g : Nat, e = .returned (.agg #[.slice (some ⟨g, 0, none⟩) is.length is.length]) ∧ Row3 w' (some ⟨g, 0, none⟩) is := by
  go_enter Tryz.func61, Tryz.ntmps61
  go_wp2_with fail
  have hb0 : Below w.heap.size w (((w.alloc (.cells #[.slice a is.length cap] 80)).alloc (.cells #[.slice none 0 0] 47)).alloc (.cells #[.slice none 0 0] 47)) := (((Below.refl _ _).alloc (Nat.le_refl _) _).alloc (by simp) _).alloc (by simp; omega) _
  refine (toInsS_any a cap is _ (hc.below hb0) hl).mono ?_
  rintro e w1 ⟨hb1, g, rfl, hg, hr⟩
  simp at hg
  have hb : Below w.heap.size w w1 := hb0.trans (hb1.mono hb0.size)
  have hz := hb1.size
  simp at hz
  have c1 : w1.cell? ⟨w.heap.size + 1, 0, none⟩ = some (.slice none 0 0) := cell_below hb1 (by simp [go_sem])
  have c2 : w1.cell? ⟨w.heap.size + 1 + 1, 0, none⟩ = some (.slice none 0 0) := cell_below hb1 (by simp [go_sem])
  have f1 : w1.frozen? ⟨w.heap.size + 1, 0, none⟩ = false := by rw [hb1.frozen (p := ⟨w.heap.size + 1, 0, none⟩) (by simp)]; simp [go_sem]
  have f2 : w1.frozen? ⟨w.heap.size + 1 + 1, 0, none⟩ = false := by rw [hb1.frozen (p := ⟨w.heap.size + 1 + 1, 0, none⟩) (by simp)]; simp [go_sem]
  clear hb0 hb1
  go_wp2
  exact bodyPost_ret (v := .agg #[.slice (some ⟨g, 0, none⟩) is.length is.length]) (by simp [results, Tryz.results61, go_sem, c1]) rfl ⟨setCell_below (setCell_below hb (by omega) _) (by omega) _, g, rfl, (hr.setCell (by omega) _).setCell (by omega) _⟩

set_option maxHeartbeats 400000 in
theorem eqIns_same (i : I3) (w : World) :
    Calls Tryz.prog 100 #[.agg #[.int .i64 i.op, .string i.text, .int .i64 i.n], .agg #[.int .i64 i.op, .string i.text, .int .i64 i.n]] w fun e w' => Below w.heap.size w w' ∧ e = .returned (.bool true) := by
  have e1 := str_eq (rfl : i.text = i.text)
  go_enter Tryz.func100, Tryz.ntmps100
  go_wp2
  go_ret
  exact ⟨((Below.refl _ _).alloc (Nat.le_refl _) _).alloc (by simp) _, rfl⟩

set_option maxHeartbeats 400000 in
theorem eqInsS_same (a a' : Option Addr) (cap cap' : Nat) (is : List I3) (w : World) (hc : Row3 w a is) (hc' : Row3 w a' is) (hl : is.length ≤ 1048576) :
    Calls Tryz.prog 92 #[.slice a is.length cap, .slice a' is.length cap'] w fun e w' => Below w.heap.size w w' ∧ e = .returned (.bool true) := by
  go_enter Tryz.func92, Tryz.ntmps92
  go_wp2
  go_loopw [5] (fun i wr => ∃ k : Nat, k ≤ is.length ∧ i = .int .i64 k ∧ Below w.heap.size w wr) (fun i _ => is.length - (intOf i).toNat)
  case atStart => exact ⟨0, Nat.zero_le _, rfl, Below.refl _ _⟩
  case round =>
    obtain ⟨k, hk, rfl, hbel⟩ := hrel
    by_cases hlt : k < is.length
    · obtain ⟨b, off, rfl, c1, c2, c3⟩ := (hc.below hbel) k hlt
      obtain ⟨b', off', rfl, d1, d2, d3⟩ := (hc'.below hbel) k hlt
      generalize ix is k = i at *
      clear hc hc'
      have hkI : (k : Int) < (is.length : Int) := by omega
      have hk0 : (0 : Int) ≤ (k : Int) := by omega
      go_wp2_with fail
      go_region_held3 (fun w' => (w'.cell? ⟨b, off + k * 3, none⟩ = some (.int .i64 i.op) ∧ w'.cell? ⟨b, off + k * 3 + 1, none⟩ = some (.string i.text) ∧ w'.cell? ⟨b, off + k * 3 + 2, none⟩ = some (.int .i64 i.n)) ∧ (w'.cell? ⟨b', off' + k * 3, none⟩ = some (.int .i64 i.op) ∧ w'.cell? ⟨b', off' + k * 3 + 1, none⟩ = some (.string i.text) ∧ w'.cell? ⟨b', off' + k * 3 + 2, none⟩ = some (.int .i64 i.n)))
        (first | assumption | (simp [*]; done) | exact ⟨⟨cell_below hb1 (by simp [*]), cell_below hb1 (by simp [*]), cell_below hb1 (by simp [*])⟩, cell_below hb1 (by simp [*]), cell_below hb1 (by simp [*]), cell_below hb1 (by simp [*])⟩)
        (first | (go_at_call 100; refine (eqIns_same i _).mono ?_; rintro e w1 ⟨hb1, rfl⟩))
      all_goals
        go_wp2
        go_roundw
        case rel => exact ⟨k + 1, by omega, by go_num, hbel.trans (Below.trans (Below.drew (Below.refl _ _)) (hb1.mono (by simpa using hbel.size)))⟩
        case measure => simp [intOf]; omega
    · go_wp2
      go_ret
      exact ⟨hbel, rfl⟩

set_option maxHeartbeats 400000 in
theorem eqProgram_same (a a' : Option Addr) (cap cap' : Nat) (is : List I3) (w : World) (hc : Row3 w a is) (hc' : Row3 w a' is) (hl : is.length ≤ 1048576) :
    Calls Tryz.prog 77 #[.agg #[.slice a is.length cap], .agg #[.slice a' is.length cap']] w fun e w' => Below w.heap.size w w' ∧ e = .returned (.bool true) := by
  go_enter Tryz.func77, Tryz.ntmps77
  go_wp2_with fail
  have hb0 : Below w.heap.size w ((w.alloc (.cells #[.slice a is.length cap] 47)).alloc (.cells #[.slice a' is.length cap'] 47)) := ((Below.refl _ _).alloc (Nat.le_refl _) _).alloc (by simp) _
  refine (eqInsS_same a a' cap cap' is _ (hc.below hb0) (hc'.below hb0) hl).mono ?_
  rintro e w1 ⟨hb1, rfl⟩
  go_wp2
  go_ret
  exact ⟨hb0.trans (hb1.mono hb0.size), rfl⟩

end Go.Proofs.YtllhbgmadiclcaaGreatDoor
