/-
  FnExactValidStore: stores' sz, to, eq; the walk of the law.
-/
import Derived.Test.YtmeojnaoljgieacDoorStSp
namespace Go.Proofs.YtmeojnaoljgieacDoor
open Go.RowKit
set_option linter.unusedVariables false

/-- The hypotheses on a store that its reading gives. -/
structure SoOk (w : World) (ta : Option Addr) (ts : List ByteArray) (ra : Option Addr) (rs : List T3) : Prop where
  st : Strs w ta ts
  lt : ts.length ≤ maxLen
  xt : ∀ s ∈ ts, s.size ≤ maxLen
  rq : RowQ w ra rs
  ok : QsOk rs
theorem SoOk.below {w w' : World} {ta ra : Option Addr} {ts : List ByteArray} {rs : List T3} (h : SoOk w ta ts ra rs) (hb : Below w.heap.size w w') : SoOk w' ta ts ra rs := ⟨h.st.below hb, h.lt, h.xt, h.rq.below hb, h.ok⟩

set_option maxHeartbeats 1000000 in
theorem szStore_any (n : Int) (ta ra : Option Addr) (tc rc : Nat) (ts : List ByteArray) (rs : List T3) (w : World) (h : SoOk w ta ts ra rs) :
    Calls Tryd.prog 9 #[.agg #[.int .i64 n, .slice ta ts.length tc, .slice ra rs.length rc], .int .i64 1048576] w fun e w' => Below w.heap.size w w' ∧ ∃ r : Int, e = .returned (.int .i64 r) ∧ (r < 0 ∨ (0 ≤ r ∧ ts.length ≤ 1048576 ∧ QsSmall rs)) := by
  have hb0 : Below w.heap.size w (w.alloc (.cells #[.int .i64 n, .slice ta ts.length tc, .slice ra rs.length rc] 25)) := (Below.refl _ _).alloc (Nat.le_refl _) _
  have k2 : (w.alloc (.cells #[.int .i64 n, .slice ta ts.length tc, .slice ra rs.length rc] 25)).cell? ⟨w.heap.size, 2, none⟩ = some (.slice ra rs.length rc) := by simp [go_sem]
  have HO : Hid (SoOk w ta ts ra rs) := h
  clear h
  go_enter Tryd.func9, Tryd.ntmps9
  go_wp2_with fail
  refine (szStringS_any ta tc ts _ (HO.out.st.below hb0) HO.out.lt HO.out.xt 1048576 (by omega) (by omega)).mono ?_
  rintro e w1 ⟨rfl, r, rfl, hr⟩
  rcases hr with hr | ⟨h1, hr0, hr1⟩
  · go_wp2
    go_ret
    exact ⟨hb0, -1, rfl, Or.inl (by omega)⟩
  · have hlt : ts.length ≤ 1048576 := by omega
    go_wp2_with fail
    refine (szRecordS_any ra rc rs r _ hr0 hr1 (HO.out.rq.below hb0) HO.out.ok).mono ?_
    rintro e w2 ⟨hb2, r2, rfl, hr2⟩
    have hB2 := bt hb0 hb2
    clear hb0 hb2 k2
    rcases hr2 with hr2 | ⟨hr2, hq⟩
    · go_wp2
      go_ret
      exact ⟨hB2, -1, rfl, Or.inl (by omega)⟩
    · have HQ : Hid (QsSmall rs) := hq
      clear hq
      go_wp2
      go_ret
      exact ⟨hB2, r2, rfl, Or.inr ⟨by omega, hlt, HQ.out⟩⟩

set_option maxHeartbeats 2000000 in
theorem toStore_any (n : Int) (ta ra : Option Addr) (tc rc : Nat) (ts : List ByteArray) (rs : List T3) (w : World) (st : Strs w ta ts) (rq : RowQ w ra rs) (hl : ts.length ≤ 1048576) (hq : QsSmall rs) :
    Calls Tryd.prog 11 #[.agg #[.int .i64 n, .slice ta ts.length tc, .slice ra rs.length rc]] w fun e w' => Below w.heap.size w w' ∧ ∃ g1 g2 : Nat, e = .returned (.agg #[.int .i64 n, .slice (some ⟨g1, 0, none⟩) ts.length ts.length, .slice (some ⟨g2, 0, none⟩) rs.length rs.length]) ∧ Strs w' (some ⟨g1, 0, none⟩) ts ∧ RowQ w' (some ⟨g2, 0, none⟩) rs := by
  have HST : Hid (Strs w ta ts) := st
  have HRQ : Hid (RowQ w ra rs) := rq
  have HQS : Hid (QsSmall rs) := hq
  clear st rq hq
  go_enter Tryd.func11, Tryd.ntmps11
  go_wp2_with fail
  have hb0 : Below w.heap.size w (((w.alloc (.cells #[.int .i64 n, .slice ta ts.length tc, .slice ra rs.length rc] 25)).alloc (.cells #[.int .i64 0, .slice none 0 0, .slice none 0 0] 30)).alloc (.cells #[.int .i64 n, .slice none 0 0, .slice none 0 0] 30)) := (((Below.refl _ _).alloc (Nat.le_refl _) _).alloc (by simp) _).alloc (by simp; omega) _
  refine (toStringS_any ta tc ts _ (HST.out.below hb0) hl).mono ?_
  rintro e w1 ⟨hb1, g, rfl, hg, hr⟩
  simp at hg
  have hb : Below w.heap.size w w1 := hb0.trans (hb1.mono hb0.size)
  have hz := hb1.size
  simp at hz
  have c02 : w1.cell? ⟨w.heap.size, 2, none⟩ = some (.slice ra rs.length rc) := cell_below hb1 (by simp [go_sem])
  have c10 : w1.cell? ⟨w.heap.size + 1, 0, none⟩ = some (.int .i64 0) := cell_below hb1 (by simp [go_sem])
  have c11 : w1.cell? ⟨w.heap.size + 1, 1, none⟩ = some (.slice none 0 0) := cell_below hb1 (by simp [go_sem])
  have c12 : w1.cell? ⟨w.heap.size + 1, 2, none⟩ = some (.slice none 0 0) := cell_below hb1 (by simp [go_sem])
  have c20 : w1.cell? ⟨w.heap.size + 1 + 1, 0, none⟩ = some (.int .i64 n) := cell_below hb1 (by simp [go_sem])
  have c21 : w1.cell? ⟨w.heap.size + 1 + 1, 1, none⟩ = some (.slice none 0 0) := cell_below hb1 (by simp [go_sem])
  have c22 : w1.cell? ⟨w.heap.size + 1 + 1, 2, none⟩ = some (.slice none 0 0) := cell_below hb1 (by simp [go_sem])
  have f1 : ∀ j, w1.frozen? ⟨w.heap.size + 1, j, none⟩ = false := fun j => by rw [hb1.frozen (p := ⟨w.heap.size + 1, j, none⟩) (by simp)]; simp [go_sem]
  have f2 : ∀ j, w1.frozen? ⟨w.heap.size + 1 + 1, j, none⟩ = false := fun j => by rw [hb1.frozen (p := ⟨w.heap.size + 1 + 1, j, none⟩) (by simp)]; simp [go_sem]
  clear hb0 hb1
  go_wp2_with fail
  have hbs : Below w.heap.size w (w1.setCell ⟨w.heap.size + 1 + 1, 1, none⟩ (.slice (some ⟨g, 0, none⟩) ts.length ts.length)) := hb.setCell (p := ⟨w.heap.size + 1 + 1, 1, none⟩) (by simp; omega) _
  refine (toRecordS_any ra rc rs _ (HRQ.out.below hbs) HQS.out).mono ?_
  rintro e w2 ⟨hb2, g2, rfl, hr2⟩
  have hb3 : Below w.heap.size w w2 := hbs.trans (hb2.mono hbs.size)
  have hrs := (hr.setCell (b := w.heap.size + 1 + 1) (j := 1) (by omega) (.slice (some ⟨g, 0, none⟩) ts.length ts.length)).below hb2
  have hz2 := hb2.size
  simp at hz2
  simp at hr2
  have d10 : w2.cell? ⟨w.heap.size + 1, 0, none⟩ = some (.int .i64 0) := cell_below hb2 (by simp [go_sem, c10])
  have d11 : w2.cell? ⟨w.heap.size + 1, 1, none⟩ = some (.slice none 0 0) := cell_below hb2 (by simp [go_sem, c11])
  have d12 : w2.cell? ⟨w.heap.size + 1, 2, none⟩ = some (.slice none 0 0) := cell_below hb2 (by simp [go_sem, c12])
  have d20 : w2.cell? ⟨w.heap.size + 1 + 1, 0, none⟩ = some (.int .i64 n) := cell_below hb2 (by simp [go_sem, c20])
  have d21 : w2.cell? ⟨w.heap.size + 1 + 1, 1, none⟩ = some (.slice (some ⟨g, 0, none⟩) ts.length ts.length) := cell_below hb2 (by simp [go_sem, c21])
  have d22 : w2.cell? ⟨w.heap.size + 1 + 1, 2, none⟩ = some (.slice none 0 0) := cell_below hb2 (by simp [go_sem, c22])
  have e1 : ∀ j, w2.frozen? ⟨w.heap.size + 1, j, none⟩ = false := fun j => by rw [hb2.frozen (p := ⟨w.heap.size + 1, j, none⟩) (by simp; omega)]; simp [go_sem, f1]
  have e2 : ∀ j, w2.frozen? ⟨w.heap.size + 1 + 1, j, none⟩ = false := fun j => by rw [hb2.frozen (p := ⟨w.heap.size + 1 + 1, j, none⟩) (by simp; omega)]; simp [go_sem, f2]
  clear hb2 hbs hb c02 c10 c11 c12 c20 c21 c22 f1 f2 hr
  go_wp2
  refine bodyPost_ret (v := .agg #[.int .i64 n, .slice (some ⟨g, 0, none⟩) ts.length ts.length, .slice (some ⟨g2, 0, none⟩) rs.length rs.length]) (by simp [results, Tryd.results11, go_sem, d10, d11, d12]) rfl ⟨?_, g, g2, rfl, ?_, ?_⟩
  · exact (((hb3.setCell (p := ⟨w.heap.size + 1 + 1, 2, none⟩) (by simp; omega) _).setCell (p := ⟨w.heap.size + 1, 0, none⟩) (by simp) _).setCell (p := ⟨w.heap.size + 1, 1, none⟩) (by simp) _).setCell (p := ⟨w.heap.size + 1, 2, none⟩) (by simp) _
  · exact (((hrs.setCell (by omega) _).setCell (by omega) _).setCell (by omega) _).setCell (by omega) _
  · exact ((((hr2.setCell (by omega) _).setCell (by omega) _).setCell (by omega) _).setCell (by omega) _).row

set_option maxHeartbeats 1000000 in
theorem eqStore_same (n : Int) (ta ra ta' ra' : Option Addr) (tc rc tc' rc' : Nat) (ts : List ByteArray) (rs : List T3) (w : World) (st : Strs w ta ts) (st' : Strs w ta' ts) (rq : RowQ w ra rs) (rq' : RowQ w ra' rs) (hl : ts.length ≤ 1048576) (hq : QsSmall rs) :
    Calls Tryd.prog 13 #[.agg #[.int .i64 n, .slice ta ts.length tc, .slice ra rs.length rc], .agg #[.int .i64 n, .slice ta' ts.length tc', .slice ra' rs.length rc']] w fun e w' => Below w.heap.size w w' ∧ e = .returned (.bool true) := by
  have HST : Hid (Strs w ta ts) := st
  have HRQ : Hid (RowQ w ra rs) := rq
  have HST' : Hid (Strs w ta' ts) := st'
  have HRQ' : Hid (RowQ w ra' rs) := rq'
  have HQS : Hid (QsSmall rs) := hq
  clear st rq st' rq' hq
  have hb0 : Below w.heap.size w ((w.alloc (.cells #[.int .i64 n, .slice ta ts.length tc, .slice ra rs.length rc] 30)).alloc (.cells #[.int .i64 n, .slice ta' ts.length tc', .slice ra' rs.length rc'] 30)) := ((Below.refl _ _).alloc (Nat.le_refl _) _).alloc (by simp) _
  have k1 : ((w.alloc (.cells #[.int .i64 n, .slice ta ts.length tc, .slice ra rs.length rc] 30)).alloc (.cells #[.int .i64 n, .slice ta' ts.length tc', .slice ra' rs.length rc'] 30)).cell? ⟨w.heap.size, 2, none⟩ = some (.slice ra rs.length rc) := by simp [go_sem]
  have k2 : ((w.alloc (.cells #[.int .i64 n, .slice ta ts.length tc, .slice ra rs.length rc] 30)).alloc (.cells #[.int .i64 n, .slice ta' ts.length tc', .slice ra' rs.length rc'] 30)).cell? ⟨w.heap.size + 1, 2, none⟩ = some (.slice ra' rs.length rc') := by simp [go_sem]
  go_enter Tryd.func13, Tryd.ntmps13
  go_wp2_with fail
  refine (eqStringS_same ta ta' tc tc' ts _ (HST.out.below hb0) (HST'.out.below hb0) hl).mono ?_
  rintro e w1 ⟨hb1, rfl⟩
  have hB1 := bt hb0 hb1
  have k11 := cell_below hb1 k1
  have k12 := cell_below hb1 k2
  clear hb0 hb1 k1 k2
  go_wp2_with fail
  refine (eqRecordS_same ra ra' rc rc' rs _ (HRQ.out.below hB1) (HRQ'.out.below hB1) HQS.out).mono ?_
  rintro e w2 ⟨hb2, rfl⟩
  go_wp2
  go_ret
  exact ⟨bt hB1 hb2, rfl⟩

theorem specValidStore_any (n : Int) (ta ra : Option Addr) (tc rc : Nat) (ts : List ByteArray) (rs : List T3) (w : World) (h : StIn w ta ts ra rs) :
    Calls Tryd.prog 10 #[.agg #[.int .i64 n, .slice ta ts.length tc, .slice ra rs.length rc]] w fun e w' => Below w.heap.size w w' ∧ ∃ b, e = .returned (.bool b) ∧ (b = true ↔ WdOk n ts rs) := by
  by_cases hc : (1 ≤ n ∧ n ≤ 8) ∧ ts.length ≤ 5000 ∧ rs.length ≤ 2000
  · obtain ⟨m, rfl⟩ := Int.eq_ofNat_of_zero_le (show 0 ≤ n by omega)
    refine (specValidStore_yes m ta ra tc rc ts rs w (by omega) (by omega) hc.2.1 hc.2.2 h).mono fun e w' ⟨h1, b, h2, h3⟩ => ⟨h1, b, h2, ?_⟩
    rw [h3]
    exact ⟨fun k => ⟨hc.1.1, hc.1.2, k⟩, fun k => k.2.2⟩
  · refine (specValidStore_no n ta ra tc rc ts rs w h.lt h.qs.sm.1 (by omega)).mono fun e w' ⟨h1, h2⟩ => ⟨h1, false, h2, iff_no (fun k => hc ⟨⟨k.1, k.2.1⟩, k.2.2.1.1, k.2.2.2.1⟩)⟩

theorem SoOk.xn {w : World} {ta ra : Option Addr} {ts : List ByteArray} {rs : List T3} (h : SoOk w ta ts ra rs) (i : Nat) : (nx ts i).size ≤ maxLen := getD_le h.xt i

set_option maxRecDepth 100000 in
set_option maxHeartbeats 2000000 in
theorem validStoreLaw (n : Int) (ta ra : Option Addr) (tc rc : Nat) (ts : List ByteArray) (rs : List T3) (w : World) (hT : Tab w) (h : SoOk w ta ts ra rs) :
    Calls Tryd.prog 3 #[.agg #[.int .i64 n, .slice ta ts.length tc, .slice ra rs.length rc]] w fun e w' => e = .returned (.bool true) ∧ Below w.heap.size w w' := by
  have hb0 : Below w.heap.size w (w.alloc (.cells #[.int .i64 n, .slice ta ts.length tc, .slice ra rs.length rc] 25)) := (Below.refl _ _).alloc (Nat.le_refl _) _
  have c0 : (w.alloc (.cells #[.int .i64 n, .slice ta ts.length tc, .slice ra rs.length rc] 25)).cell? ⟨w.heap.size, 0, none⟩ = some (.int .i64 n) := by simp [go_sem]
  have c1 : (w.alloc (.cells #[.int .i64 n, .slice ta ts.length tc, .slice ra rs.length rc] 25)).cell? ⟨w.heap.size, 1, none⟩ = some (.slice ta ts.length tc) := by simp [go_sem]
  have c2 : (w.alloc (.cells #[.int .i64 n, .slice ta ts.length tc, .slice ra rs.length rc] 25)).cell? ⟨w.heap.size, 2, none⟩ = some (.slice ra rs.length rc) := by simp [go_sem]
  have HO : Hid (SoOk w ta ts ra rs) := h
  have HT : Hid (Tab w) := hT
  clear h hT
  go_enter Tryd.func3, Tryd.ntmps3
  go_wp2_with fail
  refine (szStore_any n ta ra tc rc ts rs _ (HO.out.below hb0)).mono ?_
  rintro e w1 ⟨hb1, r, rfl, hr⟩
  have hB1 := bt hb0 hb1
  have c10 := cell_below hb1 c0
  have c11 := cell_below hb1 c1
  have c12 := cell_below hb1 c2
  clear hb0 hb1 c0 c1 c2
  rcases hr with hr | ⟨hr0, hl, hq⟩
  · go_wp2
    go_ret
    exact ⟨rfl, hB1⟩
  · have HQ : Hid (QsSmall rs) := hq
    have HIN : Hid (∀ (W : World) (a a' : Option Addr), Strs W a ts → RowQ W a' rs → StIn W a ts a' rs) := fun W a a' h1 h2 => ⟨h1, hl, fun i => HO.out.xn i, h2, HO.out.ok, hq⟩
    clear hq
    go_wp2_with fail
    refine (toStore_any n ta ra tc rc ts rs _ (HO.out.st.below hB1) (HO.out.rq.below hB1) hl HQ.out).mono ?_
    rintro e w3 ⟨hb3, g1, g2, rfl, hs3, hq3⟩
    have hB3 := bt hB1 hb3
    have c30 := cell_below hb3 c10
    have c31 := cell_below hb3 c11
    have c32 := cell_below hb3 c12
    go_wp2_with fail
    refine (specValidStore_any n _ _ _ _ ts rs _ (HIN.out _ _ _ hs3 hq3)).mono ?_
    rintro e w4 ⟨hb4, b, rfl, hbb⟩
    have HB : Hid (b = true ↔ WdOk n ts rs) := hbb
    have hB4 := bt hB3 hb4
    have c40 := cell_below hb4 c30
    have c41 := cell_below hb4 c31
    have c42 := cell_below hb4 c32
    clear hb3 hb4 hB1 hB3 c10 c11 c12 c30 c31 c32 hs3 hq3 hbb
    go_wp2_with fail
    refine (toStore_any n ta ra tc rc ts rs _ (HO.out.st.below hB4) (HO.out.rq.below hB4) hl HQ.out).mono ?_
    rintro e w5 ⟨hb5, g3, g4, rfl, hs5, hq5⟩
    have hB5 := bt hB4 hb5
    have c50 := cell_below hb5 c40
    have c51 := cell_below hb5 c41
    have c52 := cell_below hb5 c42
    have hb6 : Below w5.heap.size w5 (w5.alloc (.cells #[.int .i64 n, .slice (some ⟨g3, 0, none⟩) ts.length ts.length, .slice (some ⟨g4, 0, none⟩) rs.length rs.length] 30)) := (Below.refl _ _).alloc (Nat.le_refl _) _
    have d60 : (w5.alloc (.cells #[.int .i64 n, .slice (some ⟨g3, 0, none⟩) ts.length ts.length, .slice (some ⟨g4, 0, none⟩) rs.length rs.length] 30)).cell? ⟨w5.heap.size, 0, none⟩ = some (.int .i64 n) := by simp [go_sem]
    have d61 : (w5.alloc (.cells #[.int .i64 n, .slice (some ⟨g3, 0, none⟩) ts.length ts.length, .slice (some ⟨g4, 0, none⟩) rs.length rs.length] 30)).cell? ⟨w5.heap.size, 1, none⟩ = some (.slice (some ⟨g3, 0, none⟩) ts.length ts.length) := by simp [go_sem]
    have d62 : (w5.alloc (.cells #[.int .i64 n, .slice (some ⟨g3, 0, none⟩) ts.length ts.length, .slice (some ⟨g4, 0, none⟩) rs.length rs.length] 30)).cell? ⟨w5.heap.size, 2, none⟩ = some (.slice (some ⟨g4, 0, none⟩) rs.length rs.length) := by simp [go_sem]
    have hB6 := bt hB5 hb6
    have c60 := cell_below hb6 c50
    have c61 := cell_below hb6 c51
    have c62 := cell_below hb6 c52
    have hs6 := hs5.below hb6
    have hq6 := hq5.below hb6
    clear hB4 c40 c41 c42 hb5 hB5 c50 c51 c52 hb6 hs5 hq5
    go_wp2_with fail
    refine (implValidStore_any n _ _ _ _ ts rs _ (HT.out.below hB6) (HIN.out _ _ _ hs6 hq6)).mono ?_
    rintro e w7 ⟨hb7, b', rfl, hbb⟩
    obtain rfl : b' = b := Bool.eq_iff_iff.mpr (hbb.trans HB.out.symm)
    have hB7 := bt hB6 hb7
    have c70 := cell_below hb7 c60
    have c71 := cell_below hb7 c61
    have c72 := cell_below hb7 c62
    have d70 := cell_below hb7 d60
    have d71 := cell_below hb7 d61
    have d72 := cell_below hb7 d62
    have hs7 := hs6.below hb7
    have hq7 := hq6.below hb7
    clear hB6 c60 c61 c62 d60 d61 d62 hb7 hs6 hq6 hbb
    have HS7 : Hid (Strs w7 (some ⟨g3, 0, none⟩) ts) := hs7
    have HQ7 : Hid (RowQ w7 (some ⟨g4, 0, none⟩) rs) := hq7
    clear hs7 hq7
    have hb8 : Below w7.heap.size w7 w7.drew := (Below.refl _ _).drew
    go_wp2_with fail
    go_region_held3 (fun w' => (w'.cell? ⟨w5.heap.size, 0, none⟩ = some (.int .i64 n) ∧ w'.cell? ⟨w5.heap.size, 1, none⟩ = some (.slice (some ⟨g3, 0, none⟩) ts.length ts.length) ∧ w'.cell? ⟨w5.heap.size, 2, none⟩ = some (.slice (some ⟨g4, 0, none⟩) rs.length rs.length)) ∧ (w'.cell? ⟨w.heap.size, 0, none⟩ = some (.int .i64 n) ∧ w'.cell? ⟨w.heap.size, 1, none⟩ = some (.slice ta ts.length tc) ∧ w'.cell? ⟨w.heap.size, 2, none⟩ = some (.slice ra rs.length rc)))
      (first | assumption | exact ⟨⟨cell_below hb9 d70, cell_below hb9 d71, cell_below hb9 d72⟩, cell_below hb9 c70, cell_below hb9 c71, cell_below hb9 c72⟩ | exact ⟨⟨cell_below hb10 (cell_below hb9 d70), cell_below hb10 (cell_below hb9 d71), cell_below hb10 (cell_below hb9 d72)⟩, cell_below hb10 (cell_below hb9 c70), cell_below hb10 (cell_below hb9 c71), cell_below hb10 (cell_below hb9 c72)⟩ | (simp [*]; done))
      (first | (go_at_call 11; refine (toStore_any n ta ra tc rc ts rs _ ((HO.out.st.below hB7).below hb8) ((HO.out.rq.below hB7).below hb8) hl HQ.out).mono ?_; rintro e w9 ⟨hb9, g5, g6, rfl, hs9, hq9⟩) | (go_at_call 13; refine (eqStore_same n _ _ _ _ _ _ _ _ ts rs _ (HS7.out.below (bt hb8 hb9)) hs9 (HQ7.out.below (bt hb8 hb9)) hq9 hl HQ.out).mono ?_; rintro e w10 ⟨hb10, rfl⟩))
    all_goals
      go_wp2
      go_ret
      exact ⟨rfl, bt (bt (bt hB7 hb8) hb9) hb10⟩

end Go.Proofs.YtmeojnaoljgieacDoor
