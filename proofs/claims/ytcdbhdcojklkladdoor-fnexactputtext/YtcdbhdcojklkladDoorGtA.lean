/-
  impl.findText: the place of a sum.
-/
import Derived.Test.YtcdbhdcojklkladDoorGtIm
import Derived.Test.YtcdbhdcojklkladDoorGtSp
namespace Go.Proofs.YtcdbhdcojklkladDoor
open Go.RowKit
set_option linter.unusedVariables false

/-- The place of a sum among those of the texts. -/
structure PlT (n : Nat) (ts : List ByteArray) (t : ByteArray) (r : Nat) : Prop where
  le : r ≤ ts.length
  lo : ∀ j, j < r → lessB (sumB n (nx ts j)) t = true
  hi : r < ts.length → lessB (sumB n (nx ts r)) t = false
theorem PlT.unique {n : Nat} {ts : List ByteArray} {t : ByteArray} {r r' : Nat} (h : PlT n ts t r) (h' : PlT n ts t r') : r = r' := by
  rcases Nat.lt_trichotomy r r' with k | k | k
  · have h1 := h.hi (by have := h'.le; omega)
    rw [h'.lo r k] at h1; cases h1
  · exact k
  · have h1 := h'.hi (by have := h.le; omega)
    rw [h.lo r' k] at h1; cases h1

set_option maxRecDepth 100000 in
set_option maxHeartbeats 2000000 in
theorem search_at (a : Option Addr) (cap g n : Nat) (ts : List ByteArray) (t : ByteArray) (w : World) (hc : Strs w a ts) (hl : ts.length ≤ 1048576) (hs : ∀ i, i < ts.length → (nx ts i).size ≤ 2002) (h1 : 1 ≤ n) (h8 : n ≤ 8) (hx : w.cell? ⟨g, 0, none⟩ = some (.int .i64 n)) (hasc : Asc (ts.map (sumB n))) :
    Calls Tryd.prog 40 #[.slice a ts.length cap, .string t, .func (.func 41) #[] #[.pointer (some ⟨g, 0, none⟩)]] w fun e w' => Below w.heap.size w w' ∧ ∃ (r : Nat) (b : Bool), e = .returned (.tuple #[.int .i64 r, .bool b]) ∧ PlT n ts t r ∧ (b = true ↔ (r < ts.length ∧ sumB n (nx ts r) = t)) := by
  obtain ⟨l, el⟩ : ∃ l, ts.map (sumB n) = l := ⟨_, rfl⟩
  rw [el] at hasc
  have HLL : Hid (l.length = ts.length) := by show l.length = ts.length; rw [← el, List.length_map]
  have HNX : Hid (∀ i, i < ts.length → nx l i = sumB n (nx ts i)) := fun i h => by rw [← el]; exact nx_sums n ts i h
  have HASC : Hid (Asc l) := hasc
  have HC : Hid (Strs w a ts) := hc
  have HS : Hid (∀ i, i < ts.length → (nx ts i).size ≤ 2002) := hs
  have HX : Hid (w.cell? ⟨g, 0, none⟩ = some (.int .i64 n)) := hx
  clear hasc el hc hs hx
  go_enter Tryd.func40, Tryd.ntmps40
  go_wp2
  go_loopw [9, 10] (fun i j wr => ∃ lo hi : Nat, i = .int .i64 lo ∧ j = .int .i64 hi ∧ lo ≤ hi ∧ hi ≤ ts.length ∧ Hid (∀ j, j < lo → lessB (nx l j) t = true) ∧ Hid (∀ j, hi ≤ j → j < l.length → lessB (nx l j) t = false) ∧ Below w.heap.size w wr) (fun i j _ => (intOf j).toNat - (intOf i).toNat)
  case atStart => exact ⟨0, ts.length, rfl, rfl, Nat.zero_le _, Nat.le_refl _, (fun j hj => by omega : ∀ j, j < 0 → lessB (nx l j) t = true), (fun j h1 h2 => by have := HLL.out; omega : ∀ j, ts.length ≤ j → j < l.length → lessB (nx l j) t = false), Below.refl _ _⟩
  case round =>
    obtain ⟨lo, hi, rfl, rfl, g1, g2, HL, HH, hbr⟩ := hrel
    have hxr := cell_below hbr HX.out
    by_cases hlt : lo < hi
    · obtain ⟨m, e1, hm1, hm2⟩ : ∃ m : Nat, ((lo : Int) + (hi : Int)) / 2 = (m : Int) ∧ lo ≤ m ∧ m < hi := ⟨(lo + hi) / 2, by omega, by omega, by omega⟩
      obtain ⟨b, off, rfl, c1⟩ := (HC.out.below hbr) m (by omega)
      replace c1 : wr.cell? ⟨b, off + m, none⟩ = some (.string (nx ts m)) := c1
      have hsm := HS.out m (by omega)
      obtain ⟨v, hv⟩ : ∃ v, lessB (nx l m) t = v := ⟨_, rfl⟩
      have HV : Hid (lessB (nx l m) t = v) := hv
      have dv : decide (cmpB (sumB n (nx ts m)) t < 0) = v := by rw [← HNX.out m (by omega)]; exact cmpB_lt hv
      clear hv
      generalize nx ts m = s at c1 hsm dv
      obtain ⟨q, eq⟩ : ∃ q, cmpB (sumB n s) t = q := ⟨_, rfl⟩
      rw [eq] at dv
      have HN : Hid (∀ W : World, W.cell? ⟨g, 0, none⟩ = some (.int .i64 n) → Calls Tryd.prog 41 #[.string s, .string t, .pointer (some ⟨g, 0, none⟩)] W fun e w' => Below W.heap.size W w' ∧ e = .returned (.int .i64 q)) := fun W hW => by rw [← eq]; exact cmpText_any s t g n W (by omega) h1 h8 hW
      clear eq
      have hmI : (m : Int) < (ts.length : Int) := by omega
      cases v
      · go_wp2_with fail
        refine (HN.out _ hxr).mono ?_
        rintro e w2 ⟨hb2, rfl⟩
        go_wp2_with fail
        go_roundw
        case rel => exact ⟨lo, m, rfl, rfl, hm1, by omega, HL.out, hi_step HASC.out HV.out, bt hbr hb2⟩
        case measure => simp [intOf]; omega
      · go_wp2_with fail
        refine (HN.out _ hxr).mono ?_
        rintro e w2 ⟨hb2, rfl⟩
        go_wp2_with fail
        go_roundw
        case rel => exact ⟨m + 1, hi, by go_num, rfl, by omega, by omega, lo_step HASC.out (by have := HLL.out; omega) HV.out, HH.out, bt hbr hb2⟩
        case measure => simp [intOf]; omega
    · obtain rfl : lo = hi := by omega
      have HP : Hid (PlT n ts t lo) := ⟨g2, fun j hj => by rw [← HNX.out j (by omega)]; exact HL.out j hj, fun h => by rw [← HNX.out lo h]; exact HH.out lo (Nat.le_refl _) (by have := HLL.out; omega)⟩
      by_cases hll : lo < ts.length
      · obtain ⟨b, off, rfl, c1⟩ := (HC.out.below hbr) lo hll
        replace c1 : wr.cell? ⟨b, off + lo, none⟩ = some (.string (nx ts lo)) := c1
        have hsm := HS.out lo hll
        have hlI : (lo : Int) < (ts.length : Int) := by omega
        have HE0 : Hid (nx l lo = sumB n (nx ts lo)) := HNX.out lo hll
        have HT : Hid (∀ r, sumB n (nx ts lo) = r → sumB n (nx ts lo) = r) := fun r h => h
        by_cases he : sumB n (nx ts lo) = t
        · have HE : Hid (sumB n (nx ts lo) = t) := he
          have dz : (cmpB (sumB n (nx ts lo)) t == 0) = true := by rw [beq_iff_eq, cmpB_zero]; exact he
          clear he
          generalize nx ts lo = s at c1 hsm dz
          obtain ⟨q, eq⟩ : ∃ q, cmpB (sumB n s) t = q := ⟨_, rfl⟩
          rw [eq] at dz
          have HN : Hid (∀ W : World, W.cell? ⟨g, 0, none⟩ = some (.int .i64 n) → Calls Tryd.prog 41 #[.string s, .string t, .pointer (some ⟨g, 0, none⟩)] W fun e w' => Below W.heap.size W w' ∧ e = .returned (.int .i64 q)) := fun W hW => by rw [← eq]; exact cmpText_any s t g n W (by omega) h1 h8 hW
          clear eq
          go_wp2_with fail
          refine (HN.out _ hxr).mono ?_
          rintro e w2 ⟨hb2, rfl⟩
          go_wp2_with fail
          go_ret2
          exact ⟨bt hbr hb2, lo, true, rfl, HP.out, iff_yes ⟨hll, HE.out⟩⟩
        · have HE : Hid (¬ (lo < ts.length ∧ sumB n (nx ts lo) = t)) := fun h => he h.2
          have dz : (cmpB (sumB n (nx ts lo)) t == 0) = false := by rw [beq_eq_false_iff_ne]; exact fun h => he ((cmpB_zero _ _).mp h)
          clear he
          generalize nx ts lo = s at c1 hsm dz
          obtain ⟨q, eq⟩ : ∃ q, cmpB (sumB n s) t = q := ⟨_, rfl⟩
          rw [eq] at dz
          have HN : Hid (∀ W : World, W.cell? ⟨g, 0, none⟩ = some (.int .i64 n) → Calls Tryd.prog 41 #[.string s, .string t, .pointer (some ⟨g, 0, none⟩)] W fun e w' => Below W.heap.size W w' ∧ e = .returned (.int .i64 q)) := fun W hW => by rw [← eq]; exact cmpText_any s t g n W (by omega) h1 h8 hW
          clear eq
          go_wp2_with fail
          refine (HN.out _ hxr).mono ?_
          rintro e w2 ⟨hb2, rfl⟩
          go_wp2_with fail
          go_ret2
          exact ⟨bt hbr hb2, lo, false, rfl, HP.out, iff_no HE.out⟩
      · have hlI : ¬ (lo : Int) < (ts.length : Int) := by omega
        have HE : Hid (¬ (lo < ts.length ∧ sumB n (nx ts lo) = t)) := fun h => hll h.1
        clear hll
        go_wp2_with fail
        go_ret2
        first | exact ⟨hbr, lo, Or.inl ⟨rfl, HP.out, iff_no HE.out⟩⟩ | exact ⟨hbr, lo, Or.inl ⟨rfl, HP.out, HE.out⟩⟩ | exact ⟨hbr, lo, Or.inl ⟨rfl, HP.out, fun h1 h2 => HE.out ⟨h1, h2⟩⟩⟩

set_option maxHeartbeats 1000000 in
theorem findText_any (n : Nat) (ta ra : Option Addr) (tc rn rc : Nat) (ts : List ByteArray) (t : ByteArray) (w : World) (h1 : 1 ≤ n) (h8 : n ≤ 8) (hc : Strs w ta ts) (hl : ts.length ≤ 1048576) (hs : ∀ i, i < ts.length → (nx ts i).size ≤ 2002) (hasc : Asc (ts.map (sumB n))) :
    Calls Tryd.prog 21 #[.agg #[.int .i64 n, .slice ta ts.length tc, .slice ra rn rc], .string t] w fun e w' => Below w.heap.size w w' ∧ ∃ (r : Nat) (b : Bool), e = .returned (.tuple #[.int .i64 r, .bool b]) ∧ PlT n ts t r ∧ (b = true ↔ (r < ts.length ∧ sumB n (nx ts r) = t)) := by
  have hb1 : Below w.heap.size w (w.alloc (.cells #[.int .i64 n, .slice ta ts.length tc, .slice ra rn rc] 29)) := (Below.refl _ _).alloc (Nat.le_refl _) _
  have x0 : (w.alloc (.cells #[.int .i64 n, .slice ta ts.length tc, .slice ra rn rc] 29)).cell? ⟨w.heap.size, 0, none⟩ = some (.int .i64 n) := by simp [go_sem]
  go_enter Tryd.func21, Tryd.ntmps21
  go_wp2_with fail
  refine (search_at ta tc w.heap.size n ts t _ (hc.below hb1) hl hs h1 h8 x0 hasc).mono ?_
  rintro e w2 ⟨hb2, r, b, rfl, hp, hr⟩
  have HR : Hid (b = true ↔ (r < ts.length ∧ sumB n (nx ts r) = t)) := hr
  have HP : Hid (PlT n ts t r) := hp
  clear hr hp hasc hs
  go_wp2
  go_ret2
  exact ⟨bt hb1 hb2, r, b, rfl, HP.out, HR.out⟩

end Go.Proofs.YtcdbhdcojklkladDoor
