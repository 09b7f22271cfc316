import Derived.Test.YtllhbgmadiclcaaGreatDoorGRow
namespace Go.Proofs.YtllhbgmadiclcaaGreatDoor
open Go.RowKit
set_option linter.unusedVariables false

set_option maxHeartbeats 400000 in
theorem szInsS_left (a : Option Addr) (cap : Nat) (is : List I3) (lft : Int) (w : World) (hf0 : 0 ≤ lft) (hf1 : lft ≤ 1048576) (hc : Row3 w a is) (hl : is.length ≤ maxLen) (hs : ∀ i, (ix is i).text.size ≤ maxLen) :
    Calls Tryz.prog 81 #[.slice a is.length cap, .int .i64 lft] w fun e w' => Below w.heap.size w w' ∧ ∃ r : Int, e = .returned (.int .i64 r) ∧ (r < 0 ∨ ((is.length : Int) ≤ lft ∧ 0 ≤ r ∧ r ≤ lft)) := by
  unfold maxLen at hl hs
  by_cases h0 : (is.length : Int) ≤ lft
  · go_enter Tryz.func81, Tryz.ntmps81
    go_wp2
    go_loopw [1, 5] (fun l i wr => ∃ k : Nat, ∃ q : Int, k ≤ is.length ∧ i = .int .i64 k ∧ l = .int .i64 q ∧ 0 ≤ q ∧ q ≤ lft ∧ Below w.heap.size w wr) (fun _ i _ => is.length - (intOf i).toNat)
    case atStart => exact ⟨0, _, Nat.zero_le _, rfl, rfl, by omega, by omega, Below.refl _ _⟩
    case round =>
      obtain ⟨k, q, hk, rfl, rfl, hq0, hq1, hbr⟩ := hrel
      by_cases hlt : k < is.length
      · obtain ⟨b, off, rfl, c1, c2, c3⟩ := (hc.below hbr) k hlt
        have hsk := hs k
        clear hs hc
        generalize ix is k = i at *
        go_wp2_with fail
        refine (szIns_any i _ _ (by omega) (by omega) hsk).mono ?_
        rintro e w1 ⟨hb1, ⟨hneg, rfl⟩ | ⟨hpos, rfl⟩⟩
        · go_wp2
          go_ret
          exact ⟨hbr.trans (hb1.mono hbr.size), -1, rfl, by omega⟩
        · go_wp2
          go_roundw
          case rel => exact ⟨k + 1, _, by omega, by go_num, rfl, by omega, by omega, hbr.trans (hb1.mono hbr.size)⟩
          case measure => simp [intOf]; omega
      · go_wp2
        go_ret
        exact ⟨hbr, _, rfl, by omega⟩
  · go_enter Tryz.func81, Tryz.ntmps81
    go_wp2
    go_ret
    exact ⟨Below.refl _ _, -1, rfl, by omega⟩

set_option maxHeartbeats 400000 in
theorem szProgram_left (a : Option Addr) (cap : Nat) (is : List I3) (lft : Int) (w : World) (hf0 : 0 ≤ lft) (hf1 : lft ≤ 1048576) (hc : Row3 w a is) (hl : is.length ≤ maxLen) (hs : ∀ i, (ix is i).text.size ≤ maxLen) :
    Calls Tryz.prog 57 #[.agg #[.slice a is.length cap], .int .i64 lft] w fun e w' => Below w.heap.size w w' ∧ ∃ r : Int, e = .returned (.int .i64 r) ∧ (r < 0 ∨ ((is.length : Int) ≤ lft ∧ 0 ≤ r ∧ r ≤ lft)) := by
  have hb0 : Below w.heap.size w (w.alloc (.cells #[.slice a is.length cap] 80)) := (Below.refl _ _).alloc (Nat.le_refl _) _
  go_enter Tryz.func57, Tryz.ntmps57
  go_wp2_with fail
  refine (szInsS_left a cap is lft _ hf0 hf1 (hc.below hb0) hl hs).mono ?_
  rintro e w1 ⟨hb1, r, rfl, hr⟩
  have hB1 := bt hb0 hb1
  clear hb0 hb1
  go_wp2
  all_goals go_ret
  · exact ⟨hB1, -1, rfl, by omega⟩
  · exact ⟨hB1, r, rfl, by omega⟩

/-- The hypotheses on a record that its reading gives. -/
structure RecOk (w : World) (a : Option Addr) (is : List I3) (la : Option Addr) (gs : List G3) (out : ByteArray) : Prop where
  rc : Row3 w a is
  rg : RowG w la gs
  lc : is.length ≤ maxLen
  lg : gs.length ≤ maxLen
  xc : ∀ i, (ix is i).text.size ≤ maxLen
  ng : ∀ i, (gx gs i).name.size ≤ maxLen
  sg : ∀ i, (gx gs i).sum.size ≤ maxLen
  so : out.size ≤ maxLen

set_option maxHeartbeats 400000 in
theorem szRecord_any (a la : Option Addr) (cap lc : Nat) (is : List I3) (gs : List G3) (out : ByteArray) (w : World) (h : RecOk w a is la gs out) :
    Calls Tryz.prog 35 #[.agg #[.slice a is.length cap, .slice la gs.length lc, .string out], .int .i64 1048576] w fun e w' => Below w.heap.size w w' ∧ ∃ r : Int, e = .returned (.int .i64 r) ∧ (r < 0 ∨ (is.length ≤ 1048576 ∧ gs.length ≤ 1048576 ∧ 0 ≤ r ∧ r ≤ 1048576)) := by
  obtain ⟨rc, rg, hlc, hlg, xc, ng, sg, so⟩ := h
  unfold maxLen at so
  have hb0 : Below w.heap.size w (w.alloc (.cells #[.slice a is.length cap, .slice la gs.length lc, .string out] 83)) := (Below.refl _ _).alloc (Nat.le_refl _) _
  have k1 : (w.alloc (.cells #[.slice a is.length cap, .slice la gs.length lc, .string out] 83)).cell? ⟨w.heap.size, 1, none⟩ = some (.slice la gs.length lc) := by simp [go_sem]
  have k2 : (w.alloc (.cells #[.slice a is.length cap, .slice la gs.length lc, .string out] 83)).cell? ⟨w.heap.size, 2, none⟩ = some (.string out) := by simp [go_sem]
  go_enter Tryz.func35, Tryz.ntmps35
  go_wp2_with fail
  refine (szProgram_left a cap is 1048576 _ (by omega) (by omega) (rc.below hb0) hlc xc).mono ?_
  rintro e w1 ⟨hb1, r, rfl, hr⟩
  have hB1 := bt hb0 hb1
  have k11 := cell_below hb1 k1
  have k12 := cell_below hb1 k2
  clear hb0 hb1 k1 k2
  rcases hr with hr | ⟨h1, hr0, hr1⟩
  · go_wp2
    go_ret
    exact ⟨hB1, -1, rfl, Or.inl (by omega)⟩
  · go_wp2_with fail
    refine (szGlanceS_any la lc gs r _ (by omega) (by omega) (rg.below hB1) hlg ng sg).mono ?_
    rintro e w2 ⟨hb2, r2, rfl, hr2⟩
    have hB2 := bt hB1 hb2
    have k22 := cell_below hb2 k12
    clear hb2 hB1 k11 k12
    rcases hr2 with hr2 | ⟨h2, hr2, hr3, h3⟩
    · go_wp2
      go_ret
      exact ⟨hB2, -1, rfl, Or.inl (by omega)⟩
    · by_cases h4 : r2 - out.size < 0
      · go_wp2
        go_ret
        exact ⟨hB2, -1, rfl, Or.inl (by omega)⟩
      · go_wp2
        go_ret
        exact ⟨hB2, r2 - out.size, rfl, Or.inr (by omega)⟩

set_option maxHeartbeats 400000 in
theorem toProgram_fresh (a : Option Addr) (cap : Nat) (is : List I3) (w : World) (hc : Row3 w a is) (hl : is.length ≤ 1048576) :
    Calls Tryz.prog 61 #[.agg #[.slice a is.length cap]] w fun e w' => Below w.heap.size w w' ∧ ∃ g : Nat, e = .returned (.agg #[.slice (some ⟨g, 0, none⟩) is.length is.length]) ∧ w.heap.size ≤ g ∧ Row3 w' (some ⟨g, 0, none⟩) is := by
  go_enter Tryz.func61, Tryz.ntmps61
  go_wp2_with fail
  have hb0 : Below w.heap.size w (((w.alloc (.cells #[.slice a is.length cap] 80)).alloc (.cells #[.slice none 0 0] 47)).alloc (.cells #[.slice none 0 0] 47)) := (((Below.refl _ _).alloc (Nat.le_refl _) _).alloc (by simp) _).alloc (by simp; omega) _
  refine (toInsS_any a cap is _ (hc.below hb0) hl).mono ?_
  rintro e w1 ⟨hb1, g, rfl, hg, hr⟩
  simp at hg
  have hb : Below w.heap.size w w1 := hb0.trans (hb1.mono hb0.size)
  have hz := hb1.size
  simp at hz
  have c1 : w1.cell? ⟨w.heap.size + 1, 0, none⟩ = some (.slice none 0 0) := cell_below hb1 (by simp [go_sem])
  have c2 : w1.cell? ⟨w.heap.size + 1 + 1, 0, none⟩ = some (.slice none 0 0) := cell_below hb1 (by simp [go_sem])
  have f1 : w1.frozen? ⟨w.heap.size + 1, 0, none⟩ = false := by rw [hb1.frozen (p := ⟨w.heap.size + 1, 0, none⟩) (by simp)]; simp [go_sem]
  have f2 : w1.frozen? ⟨w.heap.size + 1 + 1, 0, none⟩ = false := by rw [hb1.frozen (p := ⟨w.heap.size + 1 + 1, 0, none⟩) (by simp)]; simp [go_sem]
  clear hb0 hb1
  go_wp2
  exact bodyPost_ret (v := .agg #[.slice (some ⟨g, 0, none⟩) is.length is.length]) (by simp [results, Tryz.results61, go_sem, c1]) rfl ⟨setCell_below (setCell_below hb (by omega) _) (by omega) _, g, rfl, by omega, (hr.setCell (by omega) _).setCell (by omega) _⟩

set_option maxHeartbeats 1000000 in
theorem toRecord_any (a la : Option Addr) (cap lc : Nat) (is : List I3) (gs : List G3) (out : ByteArray) (w : World) (rc : Row3 w a is) (rg : RowG w la gs) (h1 : is.length ≤ 1048576) (h2 : gs.length ≤ 1048576) :
    Calls Tryz.prog 40 #[.agg #[.slice a is.length cap, .slice la gs.length lc, .string out]] w fun e w' => Below w.heap.size w w' ∧ ∃ g1 g2 : Nat, e = .returned (.agg #[.slice (some ⟨g1, 0, none⟩) is.length is.length, .slice (some ⟨g2, 0, none⟩) gs.length gs.length, .string out]) ∧ Row3 w' (some ⟨g1, 0, none⟩) is ∧ RowG w' (some ⟨g2, 0, none⟩) gs := by
  go_enter Tryz.func40, Tryz.ntmps40
  go_wp2_with fail
  have hb0 : Below w.heap.size w (((w.alloc (.cells #[.slice a is.length cap, .slice la gs.length lc, .string out] 83)).alloc (.cells #[.slice none 0 0, .slice none 0 0, .string ⟨#[]⟩] 50)).alloc (.cells #[.slice none 0 0, .slice none 0 0, .string ⟨#[]⟩] 50)) := (((Below.refl _ _).alloc (Nat.le_refl _) _).alloc (by simp) _).alloc (by simp; omega) _
  refine (toProgram_fresh a cap is _ (rc.below hb0) h1).mono ?_
  rintro e w1 ⟨hb1, g, rfl, hg, hr⟩
  simp at hg
  have hb : Below w.heap.size w w1 := hb0.trans (hb1.mono hb0.size)
  have hz := hb1.size
  simp at hz
  have c01 : w1.cell? ⟨w.heap.size, 1, none⟩ = some (.slice la gs.length lc) := cell_below hb1 (by simp [go_sem])
  have c02 : w1.cell? ⟨w.heap.size, 2, none⟩ = some (.string out) := cell_below hb1 (by simp [go_sem])
  have c10 : w1.cell? ⟨w.heap.size + 1, 0, none⟩ = some (.slice none 0 0) := cell_below hb1 (by simp [go_sem])
  have c11 : w1.cell? ⟨w.heap.size + 1, 1, none⟩ = some (.slice none 0 0) := cell_below hb1 (by simp [go_sem])
  have c12 : w1.cell? ⟨w.heap.size + 1, 2, none⟩ = some (.string ⟨#[]⟩) := cell_below hb1 (by simp [go_sem])
  have c20 : w1.cell? ⟨w.heap.size + 1 + 1, 0, none⟩ = some (.slice none 0 0) := cell_below hb1 (by simp [go_sem])
  have c21 : w1.cell? ⟨w.heap.size + 1 + 1, 1, none⟩ = some (.slice none 0 0) := cell_below hb1 (by simp [go_sem])
  have c22 : w1.cell? ⟨w.heap.size + 1 + 1, 2, none⟩ = some (.string ⟨#[]⟩) := cell_below hb1 (by simp [go_sem])
  have f1 : ∀ j, w1.frozen? ⟨w.heap.size + 1, j, none⟩ = false := fun j => by rw [hb1.frozen (p := ⟨w.heap.size + 1, j, none⟩) (by simp)]; simp [go_sem]
  have f2 : ∀ j, w1.frozen? ⟨w.heap.size + 1 + 1, j, none⟩ = false := fun j => by rw [hb1.frozen (p := ⟨w.heap.size + 1 + 1, j, none⟩) (by simp)]; simp [go_sem]
  clear hb0 hb1
  go_wp2_with fail
  have hbs : Below w.heap.size w (w1.setCell ⟨w.heap.size + 1 + 1, 0, none⟩ (.slice (some ⟨g, 0, none⟩) is.length is.length)) := hb.setCell (p := ⟨w.heap.size + 1 + 1, 0, none⟩) (by simp; omega) _
  refine (toGlanceS_any la lc gs _ (rg.below hbs) h2).mono ?_
  rintro e w2 ⟨hb2, g2, rfl, hg2, hg2', hr2⟩
  have hb3 : Below w.heap.size w w2 := hbs.trans (hb2.mono hbs.size)
  have hrs := (hr.setCell (b := w.heap.size + 1 + 1) (j := 0) (by omega) (.slice (some ⟨g, 0, none⟩) is.length is.length)).below hb2
  have hz2 := hb2.size
  simp at hz2
  simp at hg2
  have d02 : w2.cell? ⟨w.heap.size, 2, none⟩ = some (.string out) := cell_below hb2 (by simp [go_sem, c02])
  have d10 : w2.cell? ⟨w.heap.size + 1, 0, none⟩ = some (.slice none 0 0) := cell_below hb2 (by simp [go_sem, c10])
  have d11 : w2.cell? ⟨w.heap.size + 1, 1, none⟩ = some (.slice none 0 0) := cell_below hb2 (by simp [go_sem, c11])
  have d12 : w2.cell? ⟨w.heap.size + 1, 2, none⟩ = some (.string ⟨#[]⟩) := cell_below hb2 (by simp [go_sem, c12])
  have d20 : w2.cell? ⟨w.heap.size + 1 + 1, 0, none⟩ = some (.slice (some ⟨g, 0, none⟩) is.length is.length) := cell_below hb2 (by simp [go_sem, c20])
  have d21 : w2.cell? ⟨w.heap.size + 1 + 1, 1, none⟩ = some (.slice none 0 0) := cell_below hb2 (by simp [go_sem, c21])
  have d22 : w2.cell? ⟨w.heap.size + 1 + 1, 2, none⟩ = some (.string ⟨#[]⟩) := cell_below hb2 (by simp [go_sem, c22])
  have e1 : ∀ j, w2.frozen? ⟨w.heap.size + 1, j, none⟩ = false := fun j => by rw [hb2.frozen (p := ⟨w.heap.size + 1, j, none⟩) (by simp; omega)]; simp [go_sem, f1]
  have e2 : ∀ j, w2.frozen? ⟨w.heap.size + 1 + 1, j, none⟩ = false := fun j => by rw [hb2.frozen (p := ⟨w.heap.size + 1 + 1, j, none⟩) (by simp; omega)]; simp [go_sem, f2]
  clear hb2 hbs hb c01 c02 c10 c11 c12 c20 c21 c22 f1 f2 hr
  go_wp2
  refine bodyPost_ret (v := .agg #[.slice (some ⟨g, 0, none⟩) is.length is.length, .slice (some ⟨g2, 0, none⟩) gs.length gs.length, .string out]) (by simp [results, Tryz.results40, go_sem, d10, d11, d12]) rfl ⟨?_, g, g2, rfl, ?_, ?_⟩
  · exact ((((hb3.setCell (p := ⟨w.heap.size + 1 + 1, 1, none⟩) (by simp; omega) _).setCell (p := ⟨w.heap.size + 1 + 1, 2, none⟩) (by simp; omega) _).setCell (p := ⟨w.heap.size + 1, 0, none⟩) (by simp) _).setCell (p := ⟨w.heap.size + 1, 1, none⟩) (by simp) _).setCell (p := ⟨w.heap.size + 1, 2, none⟩) (by simp) _
  · exact ((((hrs.setCell (by omega) _).setCell (by omega) _).setCell (by omega) _).setCell (by omega) _).setCell (by omega) _
  · exact ((((hr2.setCell (by omega) _).setCell (by omega) _).setCell (by omega) _).setCell (by omega) _).setCell (by omega) _

set_option maxHeartbeats 400000 in
theorem eqRecord_same (a a' la la' : Option Addr) (cap cap' lc lc' : Nat) (is : List I3) (gs : List G3) (out : ByteArray) (w : World) (rc : Row3 w a is) (rc' : Row3 w a' is) (rg : RowG w la gs) (rg' : RowG w la' gs) (h1 : is.length ≤ 1048576) (h2 : gs.length ≤ 1048576) :
    Calls Tryz.prog 51 #[.agg #[.slice a is.length cap, .slice la gs.length lc, .string out], .agg #[.slice a' is.length cap', .slice la' gs.length lc', .string out]] w fun e w' => Below w.heap.size w w' ∧ e = .returned (.bool true) := by
  have hb0 : Below w.heap.size w ((w.alloc (.cells #[.slice a is.length cap, .slice la gs.length lc, .string out] 50)).alloc (.cells #[.slice a' is.length cap', .slice la' gs.length lc', .string out] 50)) := ((Below.refl _ _).alloc (Nat.le_refl _) _).alloc (by simp) _
  have k1 : ((w.alloc (.cells #[.slice a is.length cap, .slice la gs.length lc, .string out] 50)).alloc (.cells #[.slice a' is.length cap', .slice la' gs.length lc', .string out] 50)).cell? ⟨w.heap.size, 1, none⟩ = some (.slice la gs.length lc) := by simp [go_sem]
  have k2 : ((w.alloc (.cells #[.slice a is.length cap, .slice la gs.length lc, .string out] 50)).alloc (.cells #[.slice a' is.length cap', .slice la' gs.length lc', .string out] 50)).cell? ⟨w.heap.size, 2, none⟩ = some (.string out) := by simp [go_sem]
  have k3 : ((w.alloc (.cells #[.slice a is.length cap, .slice la gs.length lc, .string out] 50)).alloc (.cells #[.slice a' is.length cap', .slice la' gs.length lc', .string out] 50)).cell? ⟨w.heap.size + 1, 1, none⟩ = some (.slice la' gs.length lc') := by simp [go_sem]
  have k4 : ((w.alloc (.cells #[.slice a is.length cap, .slice la gs.length lc, .string out] 50)).alloc (.cells #[.slice a' is.length cap', .slice la' gs.length lc', .string out] 50)).cell? ⟨w.heap.size + 1, 2, none⟩ = some (.string out) := by simp [go_sem]
  have e1 := str_eq (rfl : out = out)
  go_enter Tryz.func51, Tryz.ntmps51
  go_wp2_with fail
  refine (eqProgram_same a a' cap cap' is _ (rc.below hb0) (rc'.below hb0) h1).mono ?_
  rintro e w1 ⟨hb1, rfl⟩
  have hB1 := bt hb0 hb1
  have c1 := cell_below hb1 k1
  have c2 := cell_below hb1 k2
  have c3 := cell_below hb1 k3
  have c4 := cell_below hb1 k4
  clear hb0 hb1 k1 k2 k3 k4
  go_wp2_with fail
  refine (eqGlanceS_same la la' lc lc' gs _ (rg.below hB1) (rg'.below hB1) h2).mono ?_
  rintro e w2 ⟨hb2, rfl⟩
  have hB2 := bt hB1 hb2
  have d2 := cell_below hb2 c2
  have d4 := cell_below hb2 c4
  clear hb2 hB1 c1 c2 c3 c4
  go_wp2
  go_ret
  exact ⟨hB2, rfl⟩

end Go.Proofs.YtllhbgmadiclcaaGreatDoor
