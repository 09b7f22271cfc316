/-
  The walk of spec.Fits; Fits where it answers 0.
-/
import Derived.Test.YtmeojnaoljgieabFFit
import Derived.BigQuiet
namespace Go.Proofs.Ytmeojnaoljgieab
open Go.RowKit Go.Maps
set_option linter.unusedVariables false

set_option maxRecDepth 10000 in
set_option maxHeartbeats 8000000 in
theorem specFits_yes (a la sa : Option Addr) (cap lc sc : Nat) (is : List I3) (gs ss : List G3) (out : ByteArray) (n : Nat) (w : World) (hg : RowG w la gs) (hss : RowG w sa ss) (h1 : 1 ≤ n) (h2 : n ≤ 8) (hlg : gs.length ≤ 200) (hls : ss.length ≤ 200) (hsz : ∀ i, i < ss.length → (gx ss i).sum.size ≤ 1048576) :
    Calls Try.prog 6 #[.agg #[.slice a is.length cap, .slice la gs.length lc, .string out], .slice sa ss.length sc, .int .i64 n] w fun e w' => Below w.heap.size w w' ∧ e = .returned (.int .i64 (fitP n gs ss : Nat)) := by
  have hb0 : Below w.heap.size w (w.alloc (.cells #[.slice a is.length cap, .slice la gs.length lc, .string out] 37)) := (Below.refl _ _).alloc (Nat.le_refl _) _
  have hx0 : (w.alloc (.cells #[.slice a is.length cap, .slice la gs.length lc, .string out] 37)).cell? ⟨w.heap.size, 1, none⟩ = some (.slice la gs.length lc) := by simp [go_sem]
  have d1 : decide ((200 : Int) < (gs.length : Int)) = false := by simp; omega
  have d2 : decide ((200 : Int) < (ss.length : Int)) = false := by simp; omega
  have HG : Hid (RowG w la gs) := hg
  have HS : Hid (RowG w sa ss) := hss
  have HZ : Hid (∀ i, i < ss.length → (gx ss i).sum.size ≤ 1048576) := hsz
  clear hg hss hsz
  go_enter Try.func6, Try.ntmps6
  go_wp2_with (first | (go_at_call 15; refine (l1Width_yes _ _ (by omega) (by omega)).mono ?_; rintro e w9 ⟨rfl, rfl⟩))
  go_loopw [7] (fun v wr => ∃ k : Nat, k ≤ gs.length ∧ k ≤ ss.length ∧ v = .int .i64 k ∧ Hid (k + fitP n (gs.drop k) (ss.drop k) = fitP n gs ss) ∧ wr.cell? ⟨w.heap.size, 1, none⟩ = some (.slice la gs.length lc) ∧ Below w.heap.size w wr) (fun v _ => ss.length - (intOf v).toNat)
  case atStart => exact ⟨0, Nat.zero_le _, Nat.zero_le _, rfl, (show 0 + fitP n gs ss = fitP n gs ss by omega), hx0, hb0⟩
  case round =>
    obtain ⟨k, hkg, hks, rfl, HF, hxr, hbr⟩ := hrel
    clear hx0 hb0
    have hbA : Below wr.heap.size wr wr.drew := (Below.refl _ _).drew
    by_cases hlt : k < ss.length
    · have e1 : decide ((k : Int) < (ss.length : Int)) = true := by simp; omega
      have hkI : (k : Int) < (ss.length : Int) := by omega
      have hk0 : (0 : Int) ≤ (k : Int) := by omega
      by_cases hlt2 : k < gs.length
      · have hkI2 : (k : Int) < (gs.length : Int) := by omega
        have e2 : decide ((k : Int) < (gs.length : Int)) = true := by simp; omega
        obtain ⟨b, off, rfl, c1, c2, c3⟩ := (HS.out.below hbr) k hlt
        obtain ⟨b', off', rfl, f1, f2, f3⟩ := (HG.out.below hbr) k hlt2
        have hzk := HZ.out k hlt
        have HGO : Hid (same n (gx gs k) (gx ss k) → k + 1 + fitP n (gs.drop (k + 1)) (ss.drop (k + 1)) = fitP n gs ss) := fun h => fit_go HF.out hlt2 hlt h
        have HNO : Hid (¬ same n (gx gs k) (gx ss k) → fitP n gs ss = k) := fun h => fit_no HF.out hlt2 hlt h
        generalize gx ss k = y at *
        generalize gx gs k = x at *
        obtain ⟨yn, ya, ys⟩ := y
        obtain ⟨xn, xa, xs⟩ := x
        unfold same at HGO HNO
        simp only at *
        obtain ⟨q, eq⟩ : ∃ q, sumB n ys = q := ⟨_, rfl⟩
        rw [eq] at HGO HNO
        have HSUM : Hid (∀ W : World, Calls Try.prog 16 #[.string ys, .int .i64 n] W fun e w' => e = .returned (.string q) ∧ Below W.heap.size W w') := fun W => by rw [← eq]; exact specSum_yes ys n W hzk h1 h2
        clear eq
        by_cases hn : xn = yn
        · subst hn
          by_cases ha : xa = ya
          · subst ha
            by_cases hq : xs = q
            · subst hq
              have HR : Hid (k + 1 + fitP n (gs.drop (k + 1)) (ss.drop (k + 1)) = fitP n gs ss) := HGO.out ⟨rfl, rfl, rfl⟩
              clear HGO HNO
              go_wp2_with fail
              go_region_held3 (fun w' => w'.cell? ⟨w.heap.size, 1, none⟩ = some (.slice (some ⟨b', off', none⟩) gs.length lc) ∧ (w'.cell? ⟨b, off + k * 3, none⟩ = some (.string xn) ∧ w'.cell? ⟨b, off + k * 3 + 1, none⟩ = some (.bool xa) ∧ w'.cell? ⟨b, off + k * 3 + 2, none⟩ = some (.string ys)) ∧ (w'.cell? ⟨b', off' + k * 3, none⟩ = some (.string xn) ∧ w'.cell? ⟨b', off' + k * 3 + 1, none⟩ = some (.bool xa) ∧ w'.cell? ⟨b', off' + k * 3 + 2, none⟩ = some (.string xs)))
                (first | assumption | (simp [*]; done) | exact ⟨cell_below hb2 (by simp [*]), ⟨cell_below hb2 (by simp [*]), cell_below hb2 (by simp [*]), cell_below hb2 (by simp [*])⟩, cell_below hb2 (by simp [*]), cell_below hb2 (by simp [*]), cell_below hb2 (by simp [*])⟩)
                (first | (go_at_call 16; refine (HSUM.out _).mono ?_; rintro e w2 ⟨rfl, hb2⟩))
              all_goals
                have hxr2 := cell_below hb2 (cell_below hbA hxr)
                go_wp2
                go_roundw
                case rel => exact ⟨k + 1, by omega, by omega, by go_num, HR.out, hxr2, bt hbr (bt hbA hb2)⟩
                case measure => simp [intOf]; omega
            · have hq2 : ¬ xs.toList = q.toList := by have := str_ne hq; simpa using this
              have HR : Hid (fitP n gs ss = k) := HNO.out (fun h => hq h.2.2)
              clear HGO HNO hq
              go_wp2_with fail
              go_region_held3 (fun w' => w'.cell? ⟨w.heap.size, 1, none⟩ = some (.slice (some ⟨b', off', none⟩) gs.length lc) ∧ (w'.cell? ⟨b, off + k * 3, none⟩ = some (.string xn) ∧ w'.cell? ⟨b, off + k * 3 + 1, none⟩ = some (.bool xa) ∧ w'.cell? ⟨b, off + k * 3 + 2, none⟩ = some (.string ys)) ∧ (w'.cell? ⟨b', off' + k * 3, none⟩ = some (.string xn) ∧ w'.cell? ⟨b', off' + k * 3 + 1, none⟩ = some (.bool xa) ∧ w'.cell? ⟨b', off' + k * 3 + 2, none⟩ = some (.string xs)))
                (first | assumption | (simp [*]; done) | exact ⟨cell_below hb2 (by simp [*]), ⟨cell_below hb2 (by simp [*]), cell_below hb2 (by simp [*]), cell_below hb2 (by simp [*])⟩, cell_below hb2 (by simp [*]), cell_below hb2 (by simp [*]), cell_below hb2 (by simp [*])⟩)
                (first | (go_at_call 16; refine (HSUM.out _).mono ?_; rintro e w2 ⟨rfl, hb2⟩))
              all_goals
                go_wp2
                go_ret
                exact ⟨bt hbr (bt hbA hb2), by rw [HR.out]; rfl⟩
          · have HR : Hid (fitP n gs ss = k) := HNO.out (fun h => ha h.2.1)
            clear HGO HNO
            go_wp2_with fail
            go_region_held3 (fun w' => w'.cell? ⟨w.heap.size, 1, none⟩ = some (.slice (some ⟨b', off', none⟩) gs.length lc) ∧ (w'.cell? ⟨b, off + k * 3, none⟩ = some (.string xn) ∧ w'.cell? ⟨b, off + k * 3 + 1, none⟩ = some (.bool ya) ∧ w'.cell? ⟨b, off + k * 3 + 2, none⟩ = some (.string ys)) ∧ (w'.cell? ⟨b', off' + k * 3, none⟩ = some (.string xn) ∧ w'.cell? ⟨b', off' + k * 3 + 1, none⟩ = some (.bool xa) ∧ w'.cell? ⟨b', off' + k * 3 + 2, none⟩ = some (.string xs)))
              (first | assumption | (simp [*]; done) | exact ⟨cell_below hb2 (by simp [*]), ⟨cell_below hb2 (by simp [*]), cell_below hb2 (by simp [*]), cell_below hb2 (by simp [*])⟩, cell_below hb2 (by simp [*]), cell_below hb2 (by simp [*]), cell_below hb2 (by simp [*])⟩)
              (first | (go_at_call 16; refine (HSUM.out _).mono ?_; rintro e w2 ⟨rfl, hb2⟩))
            all_goals
              go_wp2
              go_ret
              exact ⟨bt hbr (bt hbA hb2), by rw [HR.out]; rfl⟩
        · have hn2 : ¬ xn.toList = yn.toList := by have := str_ne hn; simpa using this
          have HR : Hid (fitP n gs ss = k) := HNO.out (fun h => hn h.1)
          clear HGO HNO hn
          go_wp2_with fail
          go_region_held3 (fun w' => w'.cell? ⟨w.heap.size, 1, none⟩ = some (.slice (some ⟨b', off', none⟩) gs.length lc) ∧ (w'.cell? ⟨b, off + k * 3, none⟩ = some (.string yn) ∧ w'.cell? ⟨b, off + k * 3 + 1, none⟩ = some (.bool ya) ∧ w'.cell? ⟨b, off + k * 3 + 2, none⟩ = some (.string ys)) ∧ (w'.cell? ⟨b', off' + k * 3, none⟩ = some (.string xn) ∧ w'.cell? ⟨b', off' + k * 3 + 1, none⟩ = some (.bool xa) ∧ w'.cell? ⟨b', off' + k * 3 + 2, none⟩ = some (.string xs)))
            (first | assumption | (simp [*]; done) | exact ⟨cell_below hb2 (by simp [*]), ⟨cell_below hb2 (by simp [*]), cell_below hb2 (by simp [*]), cell_below hb2 (by simp [*])⟩, cell_below hb2 (by simp [*]), cell_below hb2 (by simp [*]), cell_below hb2 (by simp [*])⟩)
            (first | (go_at_call 16; refine (HSUM.out _).mono ?_; rintro e w2 ⟨rfl, hb2⟩))
          all_goals
            go_wp2
            go_ret
            exact ⟨bt hbr (bt hbA hb2), by rw [HR.out]; rfl⟩
      · have e2 : decide ((k : Int) < (gs.length : Int)) = false := by simp; omega
        have HR : Hid (fitP n gs ss = k) := fit_end1 HF.out (by omega)
        go_wp2_with fail
        go_quiet (fail)
        go_wp2
        go_ret
        exact ⟨below_drewN hbr _, by rw [HR.out]; rfl⟩
    · have e1 : decide ((k : Int) < (ss.length : Int)) = false := by simp; omega
      have HR : Hid (fitP n gs ss = k) := fit_end2 HF.out (by omega)
      go_wp2_with fail
      go_quiet (fail)
      go_wp2
      go_ret
      exact ⟨below_drewN hbr _, by rw [HR.out]; rfl⟩

set_option maxHeartbeats 1000000 in
theorem specFits_no (a la sa : Option Addr) (cap lc sc : Nat) (is : List I3) (gs ss : List G3) (out : ByteArray) (n : Int) (w : World) (hlg : gs.length ≤ 1048576) (hls : ss.length ≤ 1048576) (hn : (n < 1 ∨ 8 < n) ∨ 200 < gs.length ∨ 200 < ss.length) :
    Calls Try.prog 6 #[.agg #[.slice a is.length cap, .slice la gs.length lc, .string out], .slice sa ss.length sc, .int .i64 n] w fun e w' => Below w.heap.size w w' ∧ e = .returned (.int .i64 0) := by
  have hb0 : Below w.heap.size w (w.alloc (.cells #[.slice a is.length cap, .slice la gs.length lc, .string out] 37)) := (Below.refl _ _).alloc (Nat.le_refl _) _
  by_cases h1 : n < 1 ∨ 8 < n
  · go_enter Try.func6, Try.ntmps6
    go_wp2_with (first | (go_at_call 15; refine (l1Width_no _ _ h1).mono ?_; rintro e w9 ⟨rfl, rfl⟩))
    go_ret
    exact ⟨hb0, rfl⟩
  · by_cases h2 : 200 < gs.length
    · have d1 : decide ((200 : Int) < (gs.length : Int)) = true := by simp; omega
      go_enter Try.func6, Try.ntmps6
      go_wp2_with (first | (go_at_call 15; refine (l1Width_yes _ _ (by omega) (by omega)).mono ?_; rintro e w9 ⟨rfl, rfl⟩))
      go_ret
      exact ⟨hb0, rfl⟩
    · have d1 : decide ((200 : Int) < (gs.length : Int)) = false := by simp; omega
      have d2 : decide ((200 : Int) < (ss.length : Int)) = true := by simp; omega
      go_enter Try.func6, Try.ntmps6
      go_wp2_with (first | (go_at_call 15; refine (l1Width_yes _ _ (by omega) (by omega)).mono ?_; rintro e w9 ⟨rfl, rfl⟩))
      go_ret
      exact ⟨hb0, rfl⟩

set_option maxHeartbeats 1000000 in
theorem implFits_no (a la sa : Option Addr) (cap lc sc : Nat) (is : List I3) (gs ss : List G3) (out : ByteArray) (n : Int) (w : World) (hlg : gs.length ≤ 1048576) (hls : ss.length ≤ 1048576) (hn : (n < 1 ∨ 8 < n) ∨ 200 < gs.length ∨ 200 < ss.length) :
    Calls Try.prog 9 #[.agg #[.slice a is.length cap, .slice la gs.length lc, .string out], .slice sa ss.length sc, .int .i64 n] w fun e w' => Below w.heap.size w w' ∧ e = .returned (.int .i64 0) := by
  have hb0 : Below w.heap.size w (w.alloc (.cells #[.slice a is.length cap, .slice la gs.length lc, .string out] 37)) := (Below.refl _ _).alloc (Nat.le_refl _) _
  by_cases h1 : n < 1 ∨ 8 < n
  · go_enter Try.func9, Try.ntmps9
    go_wp2_with (first | (go_at_call 20; refine (validWidth_no _ _ h1).mono ?_; rintro e w9 ⟨rfl, rfl⟩))
    go_ret
    exact ⟨hb0, rfl⟩
  · by_cases h2 : 200 < gs.length
    · have d1 : decide ((200 : Int) < (gs.length : Int)) = true := by simp; omega
      go_enter Try.func9, Try.ntmps9
      go_wp2_with (first | (go_at_call 20; refine (validWidth_yes _ _ (by omega) (by omega)).mono ?_; rintro e w9 ⟨rfl, rfl⟩))
      go_ret
      exact ⟨hb0, rfl⟩
    · have d1 : decide ((200 : Int) < (gs.length : Int)) = false := by simp; omega
      have d2 : decide ((200 : Int) < (ss.length : Int)) = true := by simp; omega
      go_enter Try.func9, Try.ntmps9
      go_wp2_with (first | (go_at_call 20; refine (validWidth_yes _ _ (by omega) (by omega)).mono ?_; rintro e w9 ⟨rfl, rfl⟩))
      go_ret
      exact ⟨hb0, rfl⟩

end Go.Proofs.Ytmeojnaoljgieab
