/-
  FnExactFits: the walk of the law, and the statement.
-/
import Derived.Test.YtmeojnaoljgieabFSpec
import Derived.Test.YtmeojnaoljgieabFOpen
import Derived.ChangeOld
namespace Go.Proofs.Ytmeojnaoljgieab
open Go.RowKit Go.Maps
set_option linter.unusedVariables false

open Classical in
/-- What Fits answers. -/
noncomputable def fitsI (n : Int) (gs ss : List G3) : Int := if 1 ≤ n ∧ n ≤ 8 ∧ gs.length ≤ 200 ∧ ss.length ≤ 200 then (fitP n.toNat gs ss : Nat) else 0

section
variable (a la sa : Option Addr) (cap lc sc : Nat) (is : List I3) (gs ss : List G3) (out : ByteArray) (n : Int) (w : World)
theorem specFits_any (hg : RowG w la gs) (hss : RowG w sa ss) (hlg : gs.length ≤ 1048576) (hls : ss.length ≤ 1048576) (hsz : ∀ i, i < ss.length → (gx ss i).sum.size ≤ 1048576) :
    Calls Try.prog 6 #[.agg #[.slice a is.length cap, .slice la gs.length lc, .string out], .slice sa ss.length sc, .int .i64 n] w fun e w' => Below w.heap.size w w' ∧ e = .returned (.int .i64 (fitsI n gs ss)) := by
  unfold fitsI
  by_cases h : 1 ≤ n ∧ n ≤ 8 ∧ gs.length ≤ 200 ∧ ss.length ≤ 200
  · rw [if_pos h]
    obtain ⟨m, rfl⟩ := Int.eq_ofNat_of_zero_le (show 0 ≤ n by omega)
    exact specFits_yes a la sa cap lc sc is gs ss out m w hg hss (by omega) (by omega) h.2.2.1 h.2.2.2 hsz
  · rw [if_neg h]
    exact specFits_no a la sa cap lc sc is gs ss out n w hlg hls (by omega)
theorem implFits_any (hg : RowG w la gs) (hss : RowG w sa ss) (hlg : gs.length ≤ 1048576) (hls : ss.length ≤ 1048576) (hsg : ∀ i, (gx gs i).sum.size ≤ maxLen) (hsz : ∀ i, i < ss.length → (gx ss i).sum.size ≤ 1048576) :
    Calls Try.prog 9 #[.agg #[.slice a is.length cap, .slice la gs.length lc, .string out], .slice sa ss.length sc, .int .i64 n] w fun e w' => Below w.heap.size w w' ∧ e = .returned (.int .i64 (fitsI n gs ss)) := by
  unfold fitsI
  by_cases h : 1 ≤ n ∧ n ≤ 8 ∧ gs.length ≤ 200 ∧ ss.length ≤ 200
  · rw [if_pos h]
    obtain ⟨m, rfl⟩ := Int.eq_ofNat_of_zero_le (show 0 ≤ n by omega)
    exact implFits_yes a la sa cap lc sc is gs ss out m w hg hss (by omega) (by omega) h.2.2.1 h.2.2.2 hsg hsz
  · rw [if_neg h]
    exact implFits_no a la sa cap lc sc is gs ss out n w hlg hls (by omega)
end

set_option maxRecDepth 10000 in
set_option maxHeartbeats 2000000 in
theorem fitsLaw (a la sa : Option Addr) (cap lc sc : Nat) (is : List I3) (gs ss : List G3) (out : ByteArray) (n : Int) (w : World) (h : RecOk w a is la gs out) (hss : RowG w sa ss) (hls : ss.length ≤ maxLen) (hns : ∀ i, (gx ss i).name.size ≤ maxLen) (hsz : ∀ i, (gx ss i).sum.size ≤ maxLen) :
    Calls Try.prog 3 #[.agg #[.slice a is.length cap, .slice la gs.length lc, .string out], .slice sa ss.length sc, .int .i64 n] w fun e w' => e = .returned (.bool true) ∧ Below w.heap.size w w' := by
  have hb0 : Below w.heap.size w (w.alloc (.cells #[.slice a is.length cap, .slice la gs.length lc, .string out] 27)) := (Below.refl _ _).alloc (Nat.le_refl _) _
  have c0 : (w.alloc (.cells #[.slice a is.length cap, .slice la gs.length lc, .string out] 27)).cell? ⟨w.heap.size, 0, none⟩ = some (.slice a is.length cap) := by simp [go_sem]
  have c1 : (w.alloc (.cells #[.slice a is.length cap, .slice la gs.length lc, .string out] 27)).cell? ⟨w.heap.size, 1, none⟩ = some (.slice la gs.length lc) := by simp [go_sem]
  have c2 : (w.alloc (.cells #[.slice a is.length cap, .slice la gs.length lc, .string out] 27)).cell? ⟨w.heap.size, 2, none⟩ = some (.string out) := by simp [go_sem]
  have hok0 : RecOk (w.alloc (.cells #[.slice a is.length cap, .slice la gs.length lc, .string out] 27)) a is la gs out := ⟨h.rc.below hb0, h.rg.below hb0, h.lc, h.lg, h.xc, h.ng, h.sg, h.so⟩
  have HRC : Hid (Row3 w a is) := h.rc
  have HRG : Hid (RowG w la gs) := h.rg
  have hsg := h.sg
  obtain ⟨F, HF⟩ : ∃ F, Hid (fitsI n gs ss = F) := ⟨_, rfl⟩
  clear h
  go_enter Try.func3, Try.ntmps3
  go_wp2_with fail
  refine (szRecord_any a la cap lc is gs out _ hok0).mono ?_
  rintro e w1 ⟨hb1, r, rfl, hr⟩
  have hB1 := bt hb0 hb1
  have c10 := cell_below hb1 c0
  have c11 := cell_below hb1 c1
  have c12 := cell_below hb1 c2
  clear hb0 hb1 c0 c1 c2 hok0
  rcases hr with hr | ⟨hl1, hl2, hr0, hr1⟩
  · go_wp2
    go_ret
    exact ⟨rfl, hB1⟩
  · go_wp2_with fail
    refine (szSeenS_any sa sc ss r _ hr0 hr1 (hss.below hB1) hls hns hsz).mono ?_
    rintro e w2 ⟨hb2, r2, rfl, hr2⟩
    have hB2 := bt hB1 hb2
    have c20 := cell_below hb2 c10
    have c21 := cell_below hb2 c11
    have c22 := cell_below hb2 c12
    clear hb2 hB1 c10 c11 c12
    rcases hr2 with hr2 | ⟨hl3, hr2, hr3, hz⟩
    · go_wp2
      go_ret
      exact ⟨rfl, hB2⟩
    · have hl4 : ss.length ≤ 1048576 := by omega
      have HZ : Hid (∀ i, i < ss.length → (gx ss i).sum.size ≤ 1048576) := hz
      clear hz
      go_wp2_with fail
      refine (toRecord_any a la cap lc is gs out _ (HRC.out.below hB2) (HRG.out.below hB2) hl1 hl2).mono ?_
      rintro e w3 ⟨hb3, g1, g2, rfl, hrc3, hrg3⟩
      have hB3 := bt hB2 hb3
      have c30 := cell_below hb3 c20
      have c31 := cell_below hb3 c21
      have c32 := cell_below hb3 c22
      go_wp2_with fail
      refine (toSeenS_any sa sc ss _ (hss.below hB3) hl4).mono ?_
      rintro e w4 ⟨hb4, g3, rfl, _, _, hs4⟩
      have hB4 := bt hB3 hb4
      have c40 := cell_below hb4 c30
      have c41 := cell_below hb4 c31
      have c42 := cell_below hb4 c32
      have hrg4 := hrg3.below hb4
      go_wp2_with fail
      refine (specFits_any _ _ _ _ _ _ is gs ss out n _ hrg4 hs4 hl2 hl4 HZ.out).mono ?_
      rintro e w5 ⟨hb5, rfl⟩
      rw [HF.out]
      have hB5 := bt hB4 hb5
      have c50 := cell_below hb5 c40
      have c51 := cell_below hb5 c41
      have c52 := cell_below hb5 c42
      clear hb3 hb4 hb5 hB2 hB3 hB4 c20 c21 c22 c30 c31 c32 c40 c41 c42 hrc3 hrg3 hrg4 hs4
      go_wp2_with fail
      refine (toRecord_any a la cap lc is gs out _ (HRC.out.below hB5) (HRG.out.below hB5) hl1 hl2).mono ?_
      rintro e w6 ⟨hb6, g4, g5, rfl, hrc6, hrg6⟩
      have hB6 := bt hB5 hb6
      have c60 := cell_below hb6 c50
      have c61 := cell_below hb6 c51
      have c62 := cell_below hb6 c52
      have hb7 : Below w6.heap.size w6 (w6.alloc (.cells #[.slice (some ⟨g4, 0, none⟩) is.length is.length, .slice (some ⟨g5, 0, none⟩) gs.length gs.length, .string out] 37)) := (Below.refl _ _).alloc (Nat.le_refl _) _
      have d70 : (w6.alloc (.cells #[.slice (some ⟨g4, 0, none⟩) is.length is.length, .slice (some ⟨g5, 0, none⟩) gs.length gs.length, .string out] 37)).cell? ⟨w6.heap.size, 0, none⟩ = some (.slice (some ⟨g4, 0, none⟩) is.length is.length) := by simp [go_sem]
      have d71 : (w6.alloc (.cells #[.slice (some ⟨g4, 0, none⟩) is.length is.length, .slice (some ⟨g5, 0, none⟩) gs.length gs.length, .string out] 37)).cell? ⟨w6.heap.size, 1, none⟩ = some (.slice (some ⟨g5, 0, none⟩) gs.length gs.length) := by simp [go_sem]
      have d72 : (w6.alloc (.cells #[.slice (some ⟨g4, 0, none⟩) is.length is.length, .slice (some ⟨g5, 0, none⟩) gs.length gs.length, .string out] 37)).cell? ⟨w6.heap.size, 2, none⟩ = some (.string out) := by simp [go_sem]
      have hB7 := bt hB6 hb7
      have c70 := cell_below hb7 c60
      have c71 := cell_below hb7 c61
      have c72 := cell_below hb7 c62
      have hrc7 := hrc6.below hb7
      have hrg7 := hrg6.below hb7
      clear hB5 c50 c51 c52 hb6 hB6 c60 c61 c62 hb7 hrc6 hrg6
      go_wp2_with fail
      refine (toSeenS_any sa sc ss _ (hss.below hB7) hl4).mono ?_
      rintro e w8 ⟨hb8, g6, rfl, _, _, hs8⟩
      have hB8 := bt hB7 hb8
      have c80 := cell_below hb8 c70
      have c81 := cell_below hb8 c71
      have c82 := cell_below hb8 c72
      have d80 := cell_below hb8 d70
      have d81 := cell_below hb8 d71
      have d82 := cell_below hb8 d72
      have hrc8 := hrc7.below hb8
      have hrg8 := hrg7.below hb8
      clear hB7 c70 c71 c72 d70 d71 d72 hb8 hrc7 hrg7
      go_wp2_with fail
      refine (implFits_any _ _ _ _ _ _ is gs ss out n _ hrg8 hs8 hl2 hl4 hsg HZ.out).mono ?_
      rintro e w9 ⟨hb9, rfl⟩
      rw [HF.out]
      have hB9 := bt hB8 hb9
      have c90 := cell_below hb9 c80
      have c91 := cell_below hb9 c81
      have c92 := cell_below hb9 c82
      have d90 := cell_below hb9 d80
      have d91 := cell_below hb9 d81
      have d92 := cell_below hb9 d82
      have hrc9 := hrc8.below hb9
      have hrg9 := hrg8.below hb9
      have hs9 := hs8.below hb9
      clear hB8 c80 c81 c82 d80 d81 d82 hb9 hrc8 hrg8 hs8
      have hb10 : Below w9.heap.size w9 w9.drew := (Below.refl _ _).drew
      go_wp2_with fail
      go_region_held3 (fun w' => (w'.cell? ⟨w6.heap.size, 0, none⟩ = some (.slice (some ⟨g4, 0, none⟩) is.length is.length) ∧ w'.cell? ⟨w6.heap.size, 1, none⟩ = some (.slice (some ⟨g5, 0, none⟩) gs.length gs.length) ∧ w'.cell? ⟨w6.heap.size, 2, none⟩ = some (.string out)) ∧ (w'.cell? ⟨w.heap.size, 0, none⟩ = some (.slice a is.length cap) ∧ w'.cell? ⟨w.heap.size, 1, none⟩ = some (.slice la gs.length lc) ∧ w'.cell? ⟨w.heap.size, 2, none⟩ = some (.string out)))
        (first | assumption | exact ⟨⟨cell_below hb11 d90, cell_below hb11 d91, cell_below hb11 d92⟩, cell_below hb11 c90, cell_below hb11 c91, cell_below hb11 c92⟩ | exact ⟨⟨cell_below hb12 (cell_below hb11 d90), cell_below hb12 (cell_below hb11 d91), cell_below hb12 (cell_below hb11 d92)⟩, cell_below hb12 (cell_below hb11 c90), cell_below hb12 (cell_below hb11 c91), cell_below hb12 (cell_below hb11 c92)⟩ | (simp [*]; done))
        (first | (go_at_call 7; refine (toRecord_any a la cap lc is gs out _ ((HRC.out.below hB9).below hb10) ((HRG.out.below hB9).below hb10) hl1 hl2).mono ?_; rintro e w11 ⟨hb11, g7, g8, rfl, hrc11, hrg11⟩) | (go_at_call 10; refine (eqRecord_same _ _ _ _ _ _ _ _ is gs out _ (hrc9.below (bt hb10 hb11)) hrc11 (hrg9.below (bt hb10 hb11)) hrg11 hl1 hl2).mono ?_; rintro e w12 ⟨hb12, rfl⟩))
      all_goals
        have hB12 := bt (bt (bt hB9 hb10) hb11) hb12
        have hs12 := hs9.below (bt (bt hb10 hb11) hb12)
        clear hb10 hb11 hb12 hrc11 hrg11 hrc9 hrg9 hs9 hB9 c90 c91 c92 d90 d91 d92
        go_wp2_with fail
        refine (toSeenS_any sa sc ss _ (hss.below hB12) hl4).mono ?_
        rintro e w13 ⟨hb13, g9, rfl, _, _, hs13⟩
        have hB13 := bt hB12 hb13
        have hs14 := hs12.below hb13
        clear hb13 hB12 hs12
        go_wp2_with fail
        refine (eqSeenS_same _ _ _ _ ss _ hs14 hs13 hl4).mono ?_
        rintro e w15 ⟨hb15, rfl⟩
        have hB15 := bt hB13 hb15
        clear hb15 hB13 hs13 hs14
        go_wp2
        go_ret
        exact ⟨rfl, hB15⟩

end Go.Proofs.Ytmeojnaoljgieab
