/-
  GetText: both of them.
-/
import Derived.Test.YtmeojnaoljgieadDoorGtIm
import Derived.Test.YtmeojnaoljgieadDoorStLaw
import Derived.BigQuiet
namespace Go.Proofs.YtmeojnaoljgieadDoor
open Go.RowKit
set_option linter.unusedVariables false

set_option maxRecDepth 100000 in
set_option maxHeartbeats 4000000 in
theorem l4Place_any (n : Nat) (ta ra : Option Addr) (tc rn rc : Nat) (ts : List ByteArray) (t : ByteArray) (w : World) (h1 : 1 ≤ n) (h8 : n ≤ 8) (hc : Strs w ta ts) (hl : ts.length ≤ 1048576) (hs : ∀ i, i < ts.length → (nx ts i).size ≤ 2002) :
    Calls Tryd.prog 31 #[.agg #[.int .i64 n, .slice ta ts.length tc, .slice ra rn rc], .string t] w fun e w' => Below w.heap.size w w' ∧ ∃ k : Nat, e = .returned (.int .i64 k) ∧ k ≤ ts.length ∧ (∀ j, j < k → lessB (sumB n (nx ts j)) t = true) ∧ (k < ts.length → lessB (sumB n (nx ts k)) t = false) := by
  have hb0 : Below w.heap.size w (w.alloc (.cells #[.int .i64 n, .slice ta ts.length tc, .slice ra rn rc] 29)) := (Below.refl _ _).alloc (Nat.le_refl _) _
  have x0 : (w.alloc (.cells #[.int .i64 n, .slice ta ts.length tc, .slice ra rn rc] 29)).cell? ⟨w.heap.size, 0, none⟩ = some (.int .i64 n) := by simp [go_sem]
  have x1 : (w.alloc (.cells #[.int .i64 n, .slice ta ts.length tc, .slice ra rn rc] 29)).cell? ⟨w.heap.size, 1, none⟩ = some (.slice ta ts.length tc) := by simp [go_sem]
  have HC : Hid (Strs w ta ts) := hc
  have HS : Hid (∀ i, i < ts.length → (nx ts i).size ≤ 2002) := hs
  clear hc hs
  go_enter Tryd.func31, Tryd.ntmps31
  go_wp2_with fail
  go_loopw [5] (fun v wr => ∃ k : Nat, k ≤ ts.length ∧ v = .int .i64 k ∧ Hid (∀ j, j < k → lessB (sumB n (nx ts j)) t = true) ∧ wr.cell? ⟨w.heap.size, 0, none⟩ = some (.int .i64 n) ∧ wr.cell? ⟨w.heap.size, 1, none⟩ = some (.slice ta ts.length tc) ∧ Below w.heap.size w wr) (fun v _ => ts.length - (intOf v).toNat)
  case atStart => exact ⟨0, Nat.zero_le _, rfl, (fun j hj => by omega : ∀ j, j < 0 → lessB (sumB n (nx ts j)) t = true), x0, x1, hb0⟩
  case round =>
    obtain ⟨k, hk, rfl, HK, y0, y1, hbr⟩ := hrel
    clear x0 x1 hb0
    have hbA : Below wr.heap.size wr wr.drew := (Below.refl _ _).drew
    by_cases hlt : k < ts.length
    · obtain ⟨b, off, rfl, c1⟩ := (HC.out.below hbr) k hlt
      replace c1 : wr.cell? ⟨b, off + k, none⟩ = some (.string (nx ts k)) := c1
      have hsk := HS.out k hlt
      have hkI : (k : Int) < (ts.length : Int) := by omega
      have hk0 : (0 : Int) ≤ (k : Int) := by omega
      have e1 : decide ((k : Int) < (ts.length : Int)) = true := by simp; omega
      obtain ⟨v, hv⟩ : ∃ v, lessB (sumB n (nx ts k)) t = v := ⟨_, rfl⟩
      have HV : Hid (lessB (sumB n (nx ts k)) t = v) := hv
      have HK1 : Hid (lessB (sumB n (nx ts k)) t = true → ∀ j, j < k + 1 → lessB (sumB n (nx ts j)) t = true) := fun h => ext_succ HK.out h
      generalize nx ts k = x at c1 hsk hv
      have hx0 : x.size ≤ 1048576 := by omega
      obtain ⟨q, eq⟩ : ∃ q, sumB n x = q := ⟨_, rfl⟩
      rw [eq] at hv
      have HSUM : Hid (∀ W : World, Calls Tryd.prog 29 #[.string x, .int .i64 n] W fun e w' => e = .returned (.string q) ∧ Below W.heap.size W w') := fun W => by rw [← eq]; exact specSum_yes x n W hx0 h1 h8
      clear eq
      unfold lessB at hv
      cases v
      · have HO : Hid (k < ts.length → lessB (sumB n (nx ts k)) t = false) := fun _ => HV.out
        go_wp2_with fail
        go_region_held3 (fun w' => (w'.cell? ⟨w.heap.size, 0, none⟩ = some (.int .i64 n) ∧ w'.cell? ⟨w.heap.size, 1, none⟩ = some (.slice (some ⟨b, off, none⟩) ts.length tc)) ∧ w'.cell? ⟨b, off + k, none⟩ = some (.string x))
          (first | assumption | (simp [*]; done) | exact ⟨⟨cell_below hb2 (by simp [*]), cell_below hb2 (by simp [*])⟩, cell_below hb2 (by simp [*])⟩)
          (first | (go_at_call 29; refine (HSUM.out _).mono ?_; rintro e w2 ⟨rfl, hb2⟩))
        all_goals
          go_wp2_with fail
          go_ret
          exact ⟨bt hbr (bt hbA hb2), k, rfl, hk, HK.out, HO.out⟩
      · have HO : Hid (∀ j, j < k + 1 → lessB (sumB n (nx ts j)) t = true) := HK1.out HV.out
        go_wp2_with fail
        go_region_held3 (fun w' => (w'.cell? ⟨w.heap.size, 0, none⟩ = some (.int .i64 n) ∧ w'.cell? ⟨w.heap.size, 1, none⟩ = some (.slice (some ⟨b, off, none⟩) ts.length tc)) ∧ w'.cell? ⟨b, off + k, none⟩ = some (.string x))
          (first | assumption | (simp [*]; done) | exact ⟨⟨cell_below hb2 (by simp [*]), cell_below hb2 (by simp [*])⟩, cell_below hb2 (by simp [*])⟩)
          (first | (go_at_call 29; refine (HSUM.out _).mono ?_; rintro e w2 ⟨rfl, hb2⟩))
        all_goals
          have z0 := cell_below hb2 (cell_below hbA y0)
          have z1 := cell_below hb2 (cell_below hbA y1)
          go_wp2_with fail
          go_roundw
          case rel => exact ⟨k + 1, by omega, by go_num, HO.out, z0, z1, bt hbr (bt hbA hb2)⟩
          case measure => simp [intOf]; omega
    · have e1 : decide (k < ts.length) = false := by simp; omega
      have HN : Hid (¬ k < ts.length) := hlt
      clear hlt
      go_wp2_with fail
      go_quiet (fail)
      go_wp2
      go_ret
      exact ⟨below_drewN hbr _, k, rfl, hk, HK.out, fun h => absurd h HN.out⟩

theorem place_has {n : Nat} {ts : List ByteArray} {t : ByteArray} {k : Nat} (ha : Asc (ts.map (sumB n))) (h1 : ∀ j, j < k → lessB (sumB n (nx ts j)) t = true) (h2 : k < ts.length → lessB (sumB n (nx ts k)) t = false) (hk : k ≤ ts.length) (hh : Has (ts.map (sumB n)) t) : k < ts.length ∧ sumB n (nx ts k) = t := by
  have hs : ∀ i, i < ts.length → nx (ts.map (sumB n)) i = sumB n (nx ts i) := fun i h => nx_sums n ts i h
  have hl : (ts.map (sumB n)).length = ts.length := List.length_map _
  have := has_at (i := k) ha (fun j hj => by rw [hs j (by omega)]; exact h1 j hj) (fun j hj hjl => by
    have hk' : k < ts.length := by omega
    exact hi_step ha (m := k) (by rw [hs k hk']; exact h2 hk') j hj hjl) hh
  exact ⟨by omega, by rw [← hs k (by omega)]; exact this.2⟩

end Go.Proofs.YtmeojnaoljgieadDoor
