import Derived.Test.YtllhbgmadiclcaaGreatDoorStSp
namespace Go.Proofs.YtllhbgmadiclcaaGreatDoor
open Go.RowKit
set_option linter.unusedVariables false

/-- The hypotheses on a store that its reading gives. -/
structure SoOk (w : World) (ta : Option Addr) (ts : List ByteArray) (ra : Option Addr) (rs : List T3) : Prop where
  st : Strs w ta ts
  lt : ts.length ≤ maxLen
  xt : ∀ s ∈ ts, s.size ≤ maxLen
  rq : RowQ w ra rs
  ok : QsOk rs
theorem SoOk.below {w w' : World} {ta ra : Option Addr} {ts : List ByteArray} {rs : List T3} (h : SoOk w ta ts ra rs) (hb : Below w.heap.size w w') : SoOk w' ta ts ra rs := ⟨h.st.below hb, h.lt, h.xt, h.rq.below hb, h.ok⟩

set_option maxHeartbeats 1000000 in
theorem szStore_any (n : Int) (ta ra : Option Addr) (tc rc : Nat) (ts : List ByteArray) (rs : List T3) (w : World) (h : SoOk w ta ts ra rs) :
    Calls Tryz.prog 4 #[.agg #[.int .i64 n, .slice ta ts.length tc, .slice ra rs.length rc], .int .i64 1048576] w fun e w' => Below w.heap.size w w' ∧ ∃ r : Int, e = .returned (.int .i64 r) ∧ (r < 0 ∨ (0 ≤ r ∧ ts.length ≤ 1048576 ∧ QsSmall rs)) := by
  have hb0 : Below w.heap.size w (w.alloc (.cells #[.int .i64 n, .slice ta ts.length tc, .slice ra rs.length rc] 25)) := (Below.refl _ _).alloc (Nat.le_refl _) _
  have k2 : (w.alloc (.cells #[.int .i64 n, .slice ta ts.length tc, .slice ra rs.length rc] 25)).cell? ⟨w.heap.size, 2, none⟩ = some (.slice ra rs.length rc) := by simp [go_sem]
  have HO : Hid (SoOk w ta ts ra rs) := h
  clear h
  go_enter Tryz.func4, Tryz.ntmps4
  go_wp2_with fail
  refine (szStringS_any ta tc ts _ (HO.out.st.below hb0) HO.out.lt HO.out.xt 1048576 (by omega) (by omega)).mono ?_
  rintro e w1 ⟨rfl, r, rfl, hr⟩
  rcases hr with hr | ⟨h1, hr0, hr1⟩
  · go_wp2
    go_ret
    exact ⟨hb0, -1, rfl, Or.inl (by omega)⟩
  · have hlt : ts.length ≤ 1048576 := by omega
    go_wp2_with fail
    refine (szRecordS_any ra rc rs r _ hr0 hr1 (HO.out.rq.below hb0) HO.out.ok).mono ?_
    rintro e w2 ⟨hb2, r2, rfl, hr2⟩
    have hB2 := bt hb0 hb2
    clear hb0 hb2 k2
    rcases hr2 with hr2 | ⟨hr2, hq⟩
    · go_wp2
      go_ret
      exact ⟨hB2, -1, rfl, Or.inl (by omega)⟩
    · have HQ : Hid (QsSmall rs) := hq
      clear hq
      go_wp2
      go_ret
      exact ⟨hB2, r2, rfl, Or.inr ⟨by omega, hlt, HQ.out⟩⟩

set_option maxHeartbeats 2000000 in
theorem toStore_any (n : Int) (ta ra : Option Addr) (tc rc : Nat) (ts : List ByteArray) (rs : List T3) (w : World) (st : Strs w ta ts) (rq : RowQ w ra rs) (hl : ts.length ≤ 1048576) (hq : QsSmall rs) :
    Calls Tryz.prog 6 #[.agg #[.int .i64 n, .slice ta ts.length tc, .slice ra rs.length rc]] w fun e w' => Below w.heap.size w w' ∧ ∃ g1 g2 : Nat, e = .returned (.agg #[.int .i64 n, .slice (some ⟨g1, 0, none⟩) ts.length ts.length, .slice (some ⟨g2, 0, none⟩) rs.length rs.length]) ∧ Strs w' (some ⟨g1, 0, none⟩) ts ∧ RowQ w' (some ⟨g2, 0, none⟩) rs := by
  have HST : Hid (Strs w ta ts) := st
  have HRQ : Hid (RowQ w ra rs) := rq
  have HQS : Hid (QsSmall rs) := hq
  clear st rq hq
  go_enter Tryz.func6, Tryz.ntmps6
  go_wp2_with fail
  have hb0 : Below w.heap.size w (((w.alloc (.cells #[.int .i64 n, .slice ta ts.length tc, .slice ra rs.length rc] 25)).alloc (.cells #[.int .i64 0, .slice none 0 0, .slice none 0 0] 29)).alloc (.cells #[.int .i64 n, .slice none 0 0, .slice none 0 0] 29)) := (((Below.refl _ _).alloc (Nat.le_refl _) _).alloc (by simp) _).alloc (by simp; omega) _
  refine (toStringS_any ta tc ts _ (HST.out.below hb0) hl).mono ?_
  rintro e w1 ⟨hb1, g, rfl, hg, hr⟩
  simp at hg
  have hb : Below w.heap.size w w1 := hb0.trans (hb1.mono hb0.size)
  have hz := hb1.size
  simp at hz
  have c02 : w1.cell? ⟨w.heap.size, 2, none⟩ = some (.slice ra rs.length rc) := cell_below hb1 (by simp [go_sem])
  have c10 : w1.cell? ⟨w.heap.size + 1, 0, none⟩ = some (.int .i64 0) := cell_below hb1 (by simp [go_sem])
  have c11 : w1.cell? ⟨w.heap.size + 1, 1, none⟩ = some (.slice none 0 0) := cell_below hb1 (by simp [go_sem])
  have c12 : w1.cell? ⟨w.heap.size + 1, 2, none⟩ = some (.slice none 0 0) := cell_below hb1 (by simp [go_sem])
  have c20 : w1.cell? ⟨w.heap.size + 1 + 1, 0, none⟩ = some (.int .i64 n) := cell_below hb1 (by simp [go_sem])
  have c21 : w1.cell? ⟨w.heap.size + 1 + 1, 1, none⟩ = some (.slice none 0 0) := cell_below hb1 (by simp [go_sem])
  have c22 : w1.cell? ⟨w.heap.size + 1 + 1, 2, none⟩ = some (.slice none 0 0) := cell_below hb1 (by simp [go_sem])
  have f1 : ∀ j, w1.frozen? ⟨w.heap.size + 1, j, none⟩ = false := fun j => by rw [hb1.frozen (p := ⟨w.heap.size + 1, j, none⟩) (by simp)]; simp [go_sem]
  have f2 : ∀ j, w1.frozen? ⟨w.heap.size + 1 + 1, j, none⟩ = false := fun j => by rw [hb1.frozen (p := ⟨w.heap.size + 1 + 1, j, none⟩) (by simp)]; simp [go_sem]
  clear hb0 hb1
  go_wp2_with fail
  have hbs : Below w.heap.size w (w1.setCell ⟨w.heap.size + 1 + 1, 1, none⟩ (.slice (some ⟨g, 0, none⟩) ts.length ts.length)) := hb.setCell (p := ⟨w.heap.size + 1 + 1, 1, none⟩) (by simp; omega) _
  refine (toRecordS_any ra rc rs _ (HRQ.out.below hbs) HQS.out).mono ?_
  rintro e w2 ⟨hb2, g2, rfl, hr2⟩
  have hb3 : Below w.heap.size w w2 := hbs.trans (hb2.mono hbs.size)
  have hrs := (hr.setCell (b := w.heap.size + 1 + 1) (j := 1) (by omega) (.slice (some ⟨g, 0, none⟩) ts.length ts.length)).below hb2
  have hz2 := hb2.size
  simp at hz2
  simp at hr2
  have d10 : w2.cell? ⟨w.heap.size + 1, 0, none⟩ = some (.int .i64 0) := cell_below hb2 (by simp [go_sem, c10])
  have d11 : w2.cell? ⟨w.heap.size + 1, 1, none⟩ = some (.slice none 0 0) := cell_below hb2 (by simp [go_sem, c11])
  have d12 : w2.cell? ⟨w.heap.size + 1, 2, none⟩ = some (.slice none 0 0) := cell_below hb2 (by simp [go_sem, c12])
  have d20 : w2.cell? ⟨w.heap.size + 1 + 1, 0, none⟩ = some (.int .i64 n) := cell_below hb2 (by simp [go_sem, c20])
  have d21 : w2.cell? ⟨w.heap.size + 1 + 1, 1, none⟩ = some (.slice (some ⟨g, 0, none⟩) ts.length ts.length) := cell_below hb2 (by simp [go_sem, c21])
  have d22 : w2.cell? ⟨w.heap.size + 1 + 1, 2, none⟩ = some (.slice none 0 0) := cell_below hb2 (by simp [go_sem, c22])
  have e1 : ∀ j, w2.frozen? ⟨w.heap.size + 1, j, none⟩ = false := fun j => by rw [hb2.frozen (p := ⟨w.heap.size + 1, j, none⟩) (by simp; omega)]; simp [go_sem, f1]
  have e2 : ∀ j, w2.frozen? ⟨w.heap.size + 1 + 1, j, none⟩ = false := fun j => by rw [hb2.frozen (p := ⟨w.heap.size + 1 + 1, j, none⟩) (by simp; omega)]; simp [go_sem, f2]
  clear hb2 hbs hb c02 c10 c11 c12 c20 c21 c22 f1 f2 hr
  go_wp2
  refine bodyPost_ret (v := .agg #[.int .i64 n, .slice (some ⟨g, 0, none⟩) ts.length ts.length, .slice (some ⟨g2, 0, none⟩) rs.length rs.length]) (by simp [results, Tryz.results6, go_sem, d10, d11, d12]) rfl ⟨?_, g, g2, rfl, ?_, ?_⟩
  · exact (((hb3.setCell (p := ⟨w.heap.size + 1 + 1, 2, none⟩) (by simp; omega) _).setCell (p := ⟨w.heap.size + 1, 0, none⟩) (by simp) _).setCell (p := ⟨w.heap.size + 1, 1, none⟩) (by simp) _).setCell (p := ⟨w.heap.size + 1, 2, none⟩) (by simp) _
  · exact (((hrs.setCell (by omega) _).setCell (by omega) _).setCell (by omega) _).setCell (by omega) _
  · exact ((((hr2.setCell (by omega) _).setCell (by omega) _).setCell (by omega) _).setCell (by omega) _).row

set_option maxHeartbeats 1000000 in
theorem eqStore_same (n : Int) (ta ra ta' ra' : Option Addr) (tc rc tc' rc' : Nat) (ts : List ByteArray) (rs : List T3) (w : World) (st : Strs w ta ts) (st' : Strs w ta' ts) (rq : RowQ w ra rs) (rq' : RowQ w ra' rs) (hl : ts.length ≤ 1048576) (hq : QsSmall rs) :
    Calls Tryz.prog 9 #[.agg #[.int .i64 n, .slice ta ts.length tc, .slice ra rs.length rc], .agg #[.int .i64 n, .slice ta' ts.length tc', .slice ra' rs.length rc']] w fun e w' => Below w.heap.size w w' ∧ e = .returned (.bool true) := by
  have HST : Hid (Strs w ta ts) := st
  have HRQ : Hid (RowQ w ra rs) := rq
  have HST' : Hid (Strs w ta' ts) := st'
  have HRQ' : Hid (RowQ w ra' rs) := rq'
  have HQS : Hid (QsSmall rs) := hq
  clear st rq st' rq' hq
  have hb0 : Below w.heap.size w ((w.alloc (.cells #[.int .i64 n, .slice ta ts.length tc, .slice ra rs.length rc] 29)).alloc (.cells #[.int .i64 n, .slice ta' ts.length tc', .slice ra' rs.length rc'] 29)) := ((Below.refl _ _).alloc (Nat.le_refl _) _).alloc (by simp) _
  have k1 : ((w.alloc (.cells #[.int .i64 n, .slice ta ts.length tc, .slice ra rs.length rc] 29)).alloc (.cells #[.int .i64 n, .slice ta' ts.length tc', .slice ra' rs.length rc'] 29)).cell? ⟨w.heap.size, 2, none⟩ = some (.slice ra rs.length rc) := by simp [go_sem]
  have k2 : ((w.alloc (.cells #[.int .i64 n, .slice ta ts.length tc, .slice ra rs.length rc] 29)).alloc (.cells #[.int .i64 n, .slice ta' ts.length tc', .slice ra' rs.length rc'] 29)).cell? ⟨w.heap.size + 1, 2, none⟩ = some (.slice ra' rs.length rc') := by simp [go_sem]
  go_enter Tryz.func9, Tryz.ntmps9
  go_wp2_with fail
  refine (eqStringS_same ta ta' tc tc' ts _ (HST.out.below hb0) (HST'.out.below hb0) hl).mono ?_
  rintro e w1 ⟨hb1, rfl⟩
  have hB1 := bt hb0 hb1
  have k11 := cell_below hb1 k1
  have k12 := cell_below hb1 k2
  clear hb0 hb1 k1 k2
  go_wp2_with fail
  refine (eqRecordS_same ra ra' rc rc' rs _ (HRQ.out.below hB1) (HRQ'.out.below hB1) HQS.out).mono ?_
  rintro e w2 ⟨hb2, rfl⟩
  go_wp2
  go_ret
  exact ⟨bt hB1 hb2, rfl⟩

theorem specValidStore_any (n : Int) (ta ra : Option Addr) (tc rc : Nat) (ts : List ByteArray) (rs : List T3) (w : World) (h : StIn w ta ts ra rs) :
    Calls Tryz.prog 15 #[.agg #[.int .i64 n, .slice ta ts.length tc, .slice ra rs.length rc]] w fun e w' => Below w.heap.size w w' ∧ ∃ b, e = .returned (.bool b) ∧ (b = true ↔ WdOk n ts rs) := by
  by_cases hc : (1 ≤ n ∧ n ≤ 8) ∧ ts.length ≤ 5000 ∧ rs.length ≤ 2000
  · obtain ⟨m, rfl⟩ := Int.eq_ofNat_of_zero_le (show 0 ≤ n by omega)
    refine (specValidStore_yes m ta ra tc rc ts rs w (by omega) (by omega) hc.2.1 hc.2.2 h).mono fun e w' ⟨h1, b, h2, h3⟩ => ⟨h1, b, h2, ?_⟩
    rw [h3]
    exact ⟨fun k => ⟨hc.1.1, hc.1.2, k⟩, fun k => k.2.2⟩
  · refine (specValidStore_no n ta ra tc rc ts rs w h.lt h.qs.sm.1 (by omega)).mono fun e w' ⟨h1, h2⟩ => ⟨h1, false, h2, iff_no (fun k => hc ⟨⟨k.1, k.2.1⟩, k.2.2.1.1, k.2.2.2.1⟩)⟩

theorem SoOk.xn {w : World} {ta ra : Option Addr} {ts : List ByteArray} {rs : List T3} (h : SoOk w ta ts ra rs) (i : Nat) : (nx ts i).size ≤ maxLen := getD_le h.xt i

end Go.Proofs.YtllhbgmadiclcaaGreatDoor
