import Derived.Test.YtllhbgmadiclcaaGreatDoorStIm
namespace Go.Proofs.YtllhbgmadiclcaaGreatDoor
open Go.RowKit
set_option linter.unusedVariables false

theorem asc_step {l : List ByteArray} {k : Nat} (h : ∀ j, 1 ≤ j → j < k → lessB (nx l (j - 1)) (nx l j) = true) (hk : k = 0 ∨ lessB (nx l (k - 1)) (nx l k) = true) : ∀ j, 1 ≤ j → j < k + 1 → lessB (nx l (j - 1)) (nx l j) = true := by
  intro j h1 h2
  rcases Nat.lt_or_ge j k with h3 | h3
  · exact h j h1 h3
  · obtain rfl : j = k := by omega
    rcases hk with hk | hk
    · omega
    · exact hk

set_option maxRecDepth 100000 in
set_option maxHeartbeats 2000000 in
theorem specValidStore_no (n : Int) (ta ra : Option Addr) (tc rc : Nat) (ts : List ByteArray) (rs : List T3) (w : World) (hl : ts.length ≤ 1048576) (hl2 : rs.length ≤ 1048576) (hn : ¬ (1 ≤ n ∧ n ≤ 8) ∨ 5000 < ts.length ∨ 2000 < rs.length) :
    Calls Tryz.prog 15 #[.agg #[.int .i64 n, .slice ta ts.length tc, .slice ra rs.length rc]] w fun e w' => Below w.heap.size w w' ∧ e = .returned (.bool false) := by
  have hb0 : Below w.heap.size w (w.alloc (.cells #[.int .i64 n, .slice ta ts.length tc, .slice ra rs.length rc] 29)) := (Below.refl _ _).alloc (Nat.le_refl _) _
  by_cases h1 : 1 ≤ n ∧ n ≤ 8
  · by_cases h2 : 5000 < ts.length
    · have d1 : decide ((5000 : Int) < (ts.length : Int)) = true := by simp; omega
      go_enter Tryz.func15, Tryz.ntmps15
      go_wp2_with (first | (go_at_call 36; refine (l1Width_yes _ _ (by omega) (by omega)).mono ?_; rintro e w9 ⟨rfl, rfl⟩))
      go_ret
      exact ⟨hb0, rfl⟩
    · have d1 : decide ((5000 : Int) < (ts.length : Int)) = false := by simp; omega
      have d2 : decide ((2000 : Int) < (rs.length : Int)) = true := by simp; omega
      go_enter Tryz.func15, Tryz.ntmps15
      go_wp2_with (first | (go_at_call 36; refine (l1Width_yes _ _ (by omega) (by omega)).mono ?_; rintro e w9 ⟨rfl, rfl⟩))
      go_ret
      exact ⟨hb0, rfl⟩
  · have hn' : n < 1 ∨ 8 < n := by omega
    go_enter Tryz.func15, Tryz.ntmps15
    go_wp2_with (first | (go_at_call 36; refine (l1Width_no _ _ hn').mono ?_; rintro e w9 ⟨rfl, rfl⟩))
    go_ret
    exact ⟨hb0, rfl⟩

set_option maxRecDepth 100000 in
set_option maxHeartbeats 4000000 in
theorem specValidStore_yes (n : Nat) (ta ra : Option Addr) (tc rc : Nat) (ts : List ByteArray) (rs : List T3) (w : World) (h1 : 1 ≤ n) (h8 : n ≤ 8) (hl5 : ts.length ≤ 5000) (hl2 : rs.length ≤ 2000) (h : StIn w ta ts ra rs) :
    Calls Tryz.prog 15 #[.agg #[.int .i64 n, .slice ta ts.length tc, .slice ra rs.length rc]] w fun e w' => Below w.heap.size w w' ∧ ∃ b, e = .returned (.bool b) ∧ (b = true ↔ StoOk n ts rs) := by
  have hb0 : Below w.heap.size w (w.alloc (.cells #[.int .i64 n, .slice ta ts.length tc, .slice ra rs.length rc] 29)) := (Below.refl _ _).alloc (Nat.le_refl _) _
  have x0 : (w.alloc (.cells #[.int .i64 n, .slice ta ts.length tc, .slice ra rs.length rc] 29)).cell? ⟨w.heap.size, 0, none⟩ = some (.int .i64 n) := by simp [go_sem]
  have x1 : (w.alloc (.cells #[.int .i64 n, .slice ta ts.length tc, .slice ra rs.length rc] 29)).cell? ⟨w.heap.size, 1, none⟩ = some (.slice ta ts.length tc) := by simp [go_sem]
  have x2 : (w.alloc (.cells #[.int .i64 n, .slice ta ts.length tc, .slice ra rs.length rc] 29)).cell? ⟨w.heap.size, 2, none⟩ = some (.slice ra rs.length rc) := by simp [go_sem]
  have HI : Hid (StIn w ta ts ra rs) := h
  obtain ⟨ss, ess⟩ : ∃ ss, ts.map (sumB n) = ss := ⟨_, rfl⟩
  have HSL : Hid (ss.length = ts.length) := by show ss.length = ts.length; rw [← ess, List.length_map]
  have HNX : Hid (∀ i, i < ts.length → nx ss i = sumB n (nx ts i)) := fun i h => by rw [← ess]; exact nx_sums n ts i h
  have HAS : Hid (Asc ss ↔ Asc (ts.map (sumB n))) := by show Asc ss ↔ _; rw [ess]
  have d1 : decide ((5000 : Int) < (ts.length : Int)) = false := by simp; omega
  have d2 : decide ((2000 : Int) < (rs.length : Int)) = false := by simp; omega
  clear h ess
  go_enter Tryz.func15, Tryz.ntmps15
  go_wp2_with (first | (go_at_call 36; refine (l1Width_yes _ _ (by omega) (by omega)).mono ?_; rintro e w9 ⟨rfl, rfl⟩))
  go_loopw [3, 4] (fun v i wr => ∃ (k : Nat) (bf : ByteArray), k ≤ ts.length ∧ i = .int .i64 k ∧ v = .string bf ∧ Hid (k = 0 ∨ bf = nx ss (k - 1)) ∧ Hid (∀ i, i < k → (nx ts i).size ≤ 2002) ∧ Hid (∀ j, 1 ≤ j → j < k → lessB (nx ss (j - 1)) (nx ss j) = true) ∧ wr.cell? ⟨w.heap.size, 0, none⟩ = some (.int .i64 n) ∧ wr.cell? ⟨w.heap.size, 1, none⟩ = some (.slice ta ts.length tc) ∧ wr.cell? ⟨w.heap.size, 2, none⟩ = some (.slice ra rs.length rc) ∧ Below w.heap.size w wr) (fun _ i _ => ts.length - (intOf i).toNat)
  case atStart => exact ⟨0, ⟨#[]⟩, Nat.zero_le _, rfl, rfl, Or.inl rfl, (fun i hi => by omega : ∀ i, i < 0 → (nx ts i).size ≤ 2002), (fun j h1 h2 => by omega : ∀ j, 1 ≤ j → j < 0 → lessB (nx ss (j - 1)) (nx ss j) = true), x0, x1, x2, hb0⟩
  case round =>
    obtain ⟨k, bf, hk, rfl, rfl, HBF, HK, HA, y0, y1, y2, hbr⟩ := hrel
    clear x0 x1 x2 hb0
    have hbA : Below wr.heap.size wr wr.drew := (Below.refl _ _).drew
    by_cases hlt : k < ts.length
    · obtain ⟨b, off, rfl, c1⟩ := (HI.out.st.below hbr) k hlt
      replace c1 : wr.cell? ⟨b, off + k, none⟩ = some (.string (nx ts k)) := c1
      have hsk := HI.out.xt k
      have HX : Hid (nx ss k = sumB n (nx ts k)) := HNX.out k hlt
      have hkI : (k : Int) < (ts.length : Int) := by omega
      have hk0 : (0 : Int) ≤ (k : Int) := by omega
      by_cases h3 : 2002 < (nx ts k).size
      · have HN : Hid (¬ StoOk n ts rs) := fun h => by have := h.1.2.1 k hlt; omega
        generalize nx ts k = x at *
        have d3 : decide ((2002 : Int) < (x.size : Int)) = true := by simp; omega
        unfold maxLen at hsk
        go_wp2_with fail
        go_ret
        exact ⟨hbr, false, rfl, iff_no HN.out⟩
      · have HK1 : Hid (∀ i, i < k + 1 → (nx ts i).size ≤ 2002) := ext_succ HK.out (by omega)
        generalize nx ts k = x at *
        have d3 : decide ((2002 : Int) < (x.size : Int)) = false := by simp; omega
        have hx0 : x.size ≤ 1048576 := by omega
        unfold maxLen at hsk
        obtain ⟨q, eq⟩ : ∃ q, sumB n x = q := ⟨_, rfl⟩
        have HSUM : Hid (∀ W : World, Calls Tryz.prog 17 #[.string x, .int .i64 n] W fun e w' => e = .returned (.string q) ∧ Below W.heap.size W w') := fun W => by rw [← eq]; exact specSum_yes x n W hx0 h1 h8
        have HQ : Hid (nx ss k = q) := by show nx ss k = q; rw [HX.out, eq]
        clear eq
        go_wp2_with fail
        go_region_held3 (fun w' => (w'.cell? ⟨w.heap.size, 0, none⟩ = some (.int .i64 n) ∧ w'.cell? ⟨w.heap.size, 1, none⟩ = some (.slice (some ⟨b, off, none⟩) ts.length tc) ∧ w'.cell? ⟨w.heap.size, 2, none⟩ = some (.slice ra rs.length rc)) ∧ w'.cell? ⟨b, off + k, none⟩ = some (.string x))
          (first | assumption | (simp [*]; done) | exact ⟨⟨cell_below hb2 (by simp [*]), cell_below hb2 (by simp [*]), cell_below hb2 (by simp [*])⟩, cell_below hb2 (by simp [*])⟩)
          (first | (go_at_call 17; refine (HSUM.out _).mono ?_; rintro e w2 ⟨rfl, hb2⟩))
        all_goals
          have z0 := cell_below hb2 (cell_below hbA y0)
          have z1 := cell_below hb2 (cell_below hbA y1)
          have z2 := cell_below hb2 (cell_below hbA y2)
          have hB2 := bt hbr (bt hbA hb2)
          clear y0 y1 y2 c1
          by_cases hk1 : k = 0
          · have dk : decide (0 < k) = false := by simp; omega
            have HA1 : Hid (∀ j, 1 ≤ j → j < k + 1 → lessB (nx ss (j - 1)) (nx ss j) = true) := asc_step HA.out (Or.inl hk1)
            clear hk1
            go_wp2_with fail
            go_roundw
            case rel => exact ⟨k + 1, q, by omega, by go_num, rfl, Or.inr (by rw [Nat.add_sub_cancel]; exact HQ.out.symm), HK1.out, HA1.out, z0, z1, z2, hB2⟩
            case measure => simp [intOf]; omega
          · have dk : decide (0 < k) = true := by simp; omega
            have HBE : Hid (nx ss (k - 1) = bf) := by rcases HBF.out with h | h; exact absurd h hk1; exact h.symm
            obtain ⟨v, hv⟩ : ∃ v, lessB bf q = v := ⟨_, rfl⟩
            have HV : Hid (lessB (nx ss (k - 1)) (nx ss k) = v) := by show lessB (nx ss (k - 1)) (nx ss k) = v; rw [HBE.out, HQ.out]; exact hv
            unfold lessB at hv
            have HK1' : Hid (k ≠ 0) := hk1
            clear hk1
            cases v
            · have HN : Hid (¬ StoOk n ts rs) := fun h => by
                have h3 := (HAS.out.mpr h.1.2.2) k (by have := HK1'.out; omega) (by have := HSL.out; omega)
                rw [HV.out] at h3
                cases h3
              go_wp2_with fail
              go_ret
              exact ⟨hB2, false, rfl, iff_no HN.out⟩
            · have HA1 : Hid (∀ j, 1 ≤ j → j < k + 1 → lessB (nx ss (j - 1)) (nx ss j) = true) := asc_step HA.out (Or.inr HV.out)
              go_wp2_with fail
              go_roundw
              case rel => exact ⟨k + 1, q, by omega, by go_num, rfl, Or.inr (by rw [Nat.add_sub_cancel]; exact HQ.out.symm), HK1.out, HA1.out, z0, z1, z2, hB2⟩
              case measure => simp [intOf]; omega
    · have HTX : Hid (TxOk n ts) := ⟨hl5, fun i hi => HK.out i (by omega), HAS.out.mp (fun j hj1 hj2 => HA.out j hj1 (by have := HSL.out; omega))⟩
      clear HK HA HBF
      go_wp2_with fail
      go_loopw [6] (fun i wq => ∃ (m : Nat), m ≤ rs.length ∧ i = .int .i64 m ∧ Hid (∀ i, i < m → RcOk n (qx rs i)) ∧ wq.cell? ⟨w.heap.size, 0, none⟩ = some (.int .i64 n) ∧ wq.cell? ⟨w.heap.size, 2, none⟩ = some (.slice ra rs.length rc) ∧ Below w.heap.size w wq) (fun i _ => rs.length - (intOf i).toNat)
      case atStart => exact ⟨0, Nat.zero_le _, rfl, (fun i hi => by omega : ∀ i, i < 0 → RcOk n (qx rs i)), y0, y2, hbr⟩
      case round =>
        clear y0 y1 y2 hbr hbA
        obtain ⟨m, hm, rfl, HK, y0, y2, hbr⟩ := hrel
        by_cases hlt2 : m < rs.length
        · have hq := HI.out.qs.below hbr
          obtain ⟨b, off, rfl, ca, cc, la, lc, c1, c2, c3, c4, c5⟩ := hq.rq m hlt2
          have hin : RcIn _ ca (qx rs m).code la (qx rs m).looks := ⟨c4, c5, (hq.sm.2 m hlt2).1, (hq.sm.2 m hlt2).2, hq.ok.xc m, hq.ok.ng m, hq.ok.sg m⟩
          have hou := hq.ok.so m
          have HG1 : Hid (RcOk n (qx rs m) → ∀ i, i < m + 1 → RcOk n (qx rs i)) := fun hg => ext_succ HK.out hg
          have HG0 : Hid (¬ RcOk n (qx rs m) → ¬ StoOk n ts rs) := fun hg h => hg (h.2.2 m hlt2)
          clear hq c4 c5
          generalize qx rs m = x at *
          obtain ⟨xc, xl, xo⟩ := x
          simp only at *
          have hkI : (m : Int) < (rs.length : Int) := by omega
          have hk0 : (0 : Int) ≤ (m : Int) := by omega
          have HRC : Hid (∀ W : World, Below wr.heap.size wr W → Calls Tryz.prog 37 #[.agg #[.slice ca xc.length cc, .slice la xl.length lc, .string xo], .int .i64 n] W fun e w' => Below W.heap.size W w' ∧ ∃ b, e = .returned (.bool b) ∧ (b = true ↔ RcOk n ⟨xc, xl, xo⟩)) := fun W hW => l4RecordOk_any ca la cc lc xc xl xo n W h8 ⟨hin.rc.below hW, hin.rg.below hW, hin.lc, hin.lg, hin.xc, hin.ng, hin.sg⟩ hou
          clear hin
          by_cases hx : RcOk n ⟨xc, xl, xo⟩
          · have HO : Hid (∀ i, i < m + 1 → RcOk n (qx rs i)) := HG1.out hx
            have HRX : Hid (∀ W : World, Below wr.heap.size wr W → Calls Tryz.prog 37 #[.agg #[.slice ca xc.length cc, .slice la xl.length lc, .string xo], .int .i64 n] W fun e w' => Below W.heap.size W w' ∧ e = .returned (.bool true)) := fun W hW => (HRC.out W hW).mono (fun e w' ⟨h1, b, h2, h3⟩ => ⟨h1, by rw [h2]; rcases b_iff h3 with ⟨hg, rfl⟩ | ⟨hg, rfl⟩ <;> first | rfl | exact absurd hx hg | exact absurd hg hx⟩)
            clear HRC
            have hbA : Below wr.heap.size wr wr.drew := (Below.refl _ _).drew
            go_wp2_with fail
            go_region_held3 (fun w' => (w'.cell? ⟨w.heap.size, 0, none⟩ = some (.int .i64 n) ∧ w'.cell? ⟨w.heap.size, 2, none⟩ = some (.slice (some ⟨b, off, none⟩) rs.length rc)) ∧ (w'.cell? ⟨b, off + m * 3, none⟩ = some (.slice ca xc.length cc) ∧ w'.cell? ⟨b, off + m * 3 + 1, none⟩ = some (.slice la xl.length lc) ∧ w'.cell? ⟨b, off + m * 3 + 2, none⟩ = some (.string xo)))
              (first | assumption | (simp [*]; done) | exact ⟨⟨cell_below hb2 (by simp [*]), cell_below hb2 (by simp [*])⟩, cell_below hb2 (by simp [*]), cell_below hb2 (by simp [*]), cell_below hb2 (by simp [*])⟩)
              (first | (go_at_call 37; refine (HRX.out _ hbA).mono ?_; rintro e w2 ⟨hb2, rfl⟩))
            all_goals
              have z0 := cell_below hb2 (cell_below hbA y0)
              have z2 := cell_below hb2 (cell_below hbA y2)
              have hB2 := bt hbr (bt hbA hb2)
              clear y0 y2 c1 c2 c3
              go_wp2_with fail
              go_roundw
              case rel => exact ⟨m + 1, by omega, by go_num, HO.out, z0, z2, hB2⟩
              case measure => simp [intOf]; omega
          · have HO : Hid (¬ StoOk n ts rs) := HG0.out hx
            have HRX : Hid (∀ W : World, Below wr.heap.size wr W → Calls Tryz.prog 37 #[.agg #[.slice ca xc.length cc, .slice la xl.length lc, .string xo], .int .i64 n] W fun e w' => Below W.heap.size W w' ∧ e = .returned (.bool false)) := fun W hW => (HRC.out W hW).mono (fun e w' ⟨h1, b, h2, h3⟩ => ⟨h1, by rw [h2]; rcases b_iff h3 with ⟨hg, rfl⟩ | ⟨hg, rfl⟩ <;> first | rfl | exact absurd hx hg | exact absurd hg hx⟩)
            clear HRC
            have hbA : Below wr.heap.size wr wr.drew := (Below.refl _ _).drew
            go_wp2_with fail
            go_region_held3 (fun w' => (w'.cell? ⟨w.heap.size, 0, none⟩ = some (.int .i64 n) ∧ w'.cell? ⟨w.heap.size, 2, none⟩ = some (.slice (some ⟨b, off, none⟩) rs.length rc)) ∧ (w'.cell? ⟨b, off + m * 3, none⟩ = some (.slice ca xc.length cc) ∧ w'.cell? ⟨b, off + m * 3 + 1, none⟩ = some (.slice la xl.length lc) ∧ w'.cell? ⟨b, off + m * 3 + 2, none⟩ = some (.string xo)))
              (first | assumption | (simp [*]; done) | exact ⟨⟨cell_below hb2 (by simp [*]), cell_below hb2 (by simp [*])⟩, cell_below hb2 (by simp [*]), cell_below hb2 (by simp [*]), cell_below hb2 (by simp [*])⟩)
              (first | (go_at_call 37; refine (HRX.out _ hbA).mono ?_; rintro e w2 ⟨hb2, rfl⟩))
            all_goals
              have z0 := cell_below hb2 (cell_below hbA y0)
              have z2 := cell_below hb2 (cell_below hbA y2)
              have hB2 := bt hbr (bt hbA hb2)
              clear y0 y2 c1 c2 c3
              go_wp2_with fail
              go_ret
              exact ⟨hB2, false, rfl, iff_no HO.out⟩
        · have HO : Hid (StoOk n ts rs) := ⟨HTX.out, hl2, fun i hi => HK.out i (by omega)⟩
          go_wp2_with fail
          go_ret
          exact ⟨hbr, true, rfl, iff_yes HO.out⟩

end Go.Proofs.YtllhbgmadiclcaaGreatDoor
