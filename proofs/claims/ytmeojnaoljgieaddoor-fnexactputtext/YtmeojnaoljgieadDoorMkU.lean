/-
  laws.heldRecordS.
-/
import Derived.Test.YtmeojnaoljgieadDoorMkQ
import Derived.Deep.RegionHeld3
namespace Go.Proofs.YtmeojnaoljgieadDoor
open Go.RowKit
set_option linter.unusedVariables false

set_option maxRecDepth 100000 in
set_option maxHeartbeats 4000000 in
theorem heldRecordS_any (lo hi g n cap K : Nat) (cl gl : Nat → Nat) (ys : List Value) (cv lv : Nat → Value) (w : World) (hr : RowsQ w lo hi (.slice (some ⟨g, 0, none⟩) n cap) n cl gl ys cv lv) (hm : MkQm w lo hi K cl gl cv lv n ys) (hn : n ≤ 1048576) (hcl : ∀ i, i < n → cl i ≤ 1048576 ∧ gl i ≤ 1048576) (h1 : 1 ≤ K) (h2 : kR cl gl K n ≤ 800000000000000) :
    Calls Tryd.prog 44 #[(.slice (some ⟨g, 0, none⟩) n cap), .int .i64 K] w fun e w' => e = .returned (.int .i64 ((kR cl gl K n : Nat) : Int)) ∧ Below w.heap.size w w' := by
  have HR : Hid (RowsQ w lo hi (.slice (some ⟨g, 0, none⟩) n cap) n cl gl ys cv lv) := hr
  have HM : Hid (MkQm w lo hi K cl gl cv lv n ys) := hm
  have HCL : Hid (∀ i, i < n → cl i ≤ 1048576 ∧ gl i ≤ 1048576) := hcl
  have HKT : Hid (∀ i, i ≤ n → K ≤ kR cl gl K i ∧ kR cl gl K i ≤ 800000000000000) := fun i hi => ⟨kR_le cl gl K 0 i (Nat.zero_le _), Nat.le_trans (kR_le cl gl K i n hi) h2⟩
  clear hr hm hcl h2
  go_enter Tryd.func44, Tryd.ntmps44
  go_wp2
  go_loopw [1, 5] (fun k i wr => ∃ (m : Nat), m ≤ n ∧ i = .int .i64 m ∧ k = .int .i64 ((kR cl gl K m : Nat) : Int) ∧ Below w.heap.size w wr) (fun _ i _ => n - (intOf i).toNat)
  case atStart => exact ⟨0, Nat.zero_le _, rfl, rfl, Below.refl _ _⟩
  case round =>
    obtain ⟨m, hm, rfl, rfl, hbr⟩ := hrel
    by_cases hlt : m < n
    · obtain ⟨hk1, hk2⟩ := HKT.out m hm
      obtain ⟨hcm, hgm⟩ := HCL.out m hlt
      have HS : Hid (kR cl gl K (m + 1) = kR cl gl K m + 3 * cl m + 3 * gl m + 1) := rfl
      obtain ⟨x1, ⟨zs, x2, x3⟩, us, x4, x5⟩ := (HM.out.below hbr) m hlt
      have hrr := HR.out.below hbr
      obtain ⟨c, ec⟩ : ∃ c, kR cl gl K m = c := ⟨_, rfl⟩
      rw [ec] at hk1 hk2 HS x1 x3 x5 ⊢
      obtain ⟨va, vc, ev⟩ := row_slice x2
      obtain ⟨ua, uc, eu⟩ := row_slice x4
      have c0 : wr.cell? ⟨g, m * 3, none⟩ = some (.slice va (cl m) vc) := by rw [hrr.row.own.cellAt _ (by omega), hrr.fst m hlt, ev]
      have c1 : wr.cell? ⟨g, m * 3 + 1, none⟩ = some (.slice ua (gl m) uc) := by rw [hrr.row.own.cellAt _ (by omega), hrr.snd m hlt, eu]
      have c2 : wr.cell? ⟨g, m * 3 + 2, none⟩ = some (.string (mt (c + 3 * cl m + 3 * gl m))) := by rw [hrr.row.own.cellAt _ (by omega)]; exact x1
      have HI : Hid (∀ (W : World), Below wr.heap.size wr W → Calls Tryd.prog 66 #[.slice va (cl m) vc, .int .i64 (c : Int)] W fun e w' => e = .returned (.int .i64 ((c + 3 * cl m : Nat) : Int)) ∧ Below W.heap.size W w') := fun W h3 => by
        have h := heldInsS_own lo (cl m) c (cv m) zs W (x2.below h3).own x3 hcm (by omega) (by omega)
        rw [ev] at h
        exact h
      have HG : Hid (∀ (W : World), Below wr.heap.size wr W → Calls Tryd.prog 67 #[.slice ua (gl m) uc, .int .i64 ((c + 3 * cl m : Nat) : Int)] W fun e w' => e = .returned (.int .i64 ((c + 3 * cl m + 3 * gl m : Nat) : Int)) ∧ Below W.heap.size W w') := fun W h3 => by
        have h := heldGlanceS_own lo (gl m) (c + 3 * cl m) (lv m) us W (x4.below h3).own x5 hgm (by omega) (by omega)
        rw [eu] at h
        exact h
      have HT : Hid (∀ W : World, Calls Tryd.prog 40 #[.int .i64 ((c + 3 * cl m + 3 * gl m : Nat) : Int)] W fun e w' => Below W.heap.size W w' ∧ e = .returned (.string (mt (c + 3 * cl m + 3 * gl m)))) := fun W => markText_any (c + 3 * cl m + 3 * gl m) W (by omega) (by omega)
      clear x1 x2 x3 x4 x5 hrr ev eu ec
      have hqb : c + 3 * cl m + 3 * gl m + 1 < 1000000000000000 := by omega
      obtain ⟨p, ep⟩ : ∃ p, c + 3 * cl m = p := ⟨_, rfl⟩
      obtain ⟨q, eq⟩ : ∃ q, p + 3 * gl m = q := ⟨_, rfl⟩
      rw [ep] at HI HG HT HS hqb c2
      rw [eq] at HG HT HS hqb c2
      clear ep eq
      generalize mt q = t at *
      have et := str_eq (rfl : t = t)
      have hmI : (m : Int) < (n : Int) := by omega
      have hm0 : (0 : Int) ≤ (m : Int) := by omega
      have hlp : decide (((p : Nat) : Int) < 0) = false := by simp
      have hlq : decide (((q : Nat) : Int) < 0) = false := by simp
      go_wp2_with fail
      refine (HI.out wr (Below.refl _ _)).mono ?_
      rintro e w2 ⟨rfl, hb2⟩
      have e1 := cell_below hb2 c1
      have e2 := cell_below hb2 c2
      clear c0 c1 c2
      go_wp2_with fail
      refine (HG.out w2 hb2).mono ?_
      rintro e w3 ⟨rfl, hb3⟩
      have g2 := cell_below hb3 e2
      have hB3 := bt hbr (bt hb2 hb3)
      clear e1 e2 hb2 hb3
      have hbA : Below w3.heap.size w3 w3.drew := (Below.refl _ _).drew
      go_wp2_with fail
      go_region_held3 (fun w' => w'.cell? ⟨g, m * 3 + 2, none⟩ = some (.string t))
        (first | assumption | (simp [*]; done) | exact cell_below hb4 (by simp [*]))
        (first | (go_at_call 40; refine (HT.out _).mono ?_; rintro e w4 ⟨hb4, rfl⟩))
      all_goals
        have hB4 := bt hB3 (bt hbA hb4)
        clear g2 hb4 hbA
        go_wp2
        go_roundw
        case rel => exact ⟨m + 1, by omega, by go_num, congrArg (Value.int .i64) (by rw [HS.out]; omega), hB4⟩
        case measure => simp [intOf]; omega
    · have em : m = n := by omega
      subst em
      go_wp2
      go_ret
      exact ⟨rfl, hbr⟩

set_option maxHeartbeats 400000 in
theorem heldRecordS_nil (K : Nat) (w : World) (h2 : K ≤ 900000000000000) :
    Calls Tryd.prog 44 #[.slice none 0 0, .int .i64 K] w fun e w' => e = .returned (.int .i64 (K : Int)) ∧ w = w' := by
  go_enter Tryd.func44, Tryd.ntmps44
  go_wp2
  go_loopw [1, 5] (fun k i wr => i = .int .i64 0 ∧ k = .int .i64 (K : Int) ∧ w = wr) (fun _ i _ => 0)
  case atStart => exact ⟨rfl, rfl, rfl⟩
  case round =>
    obtain ⟨rfl, rfl, rfl⟩ := hrel
    go_wp2
    go_ret
    exact ⟨rfl, rfl⟩
theorem heldRecordS_row (lo hi n K : Nat) (v : Value) (cl gl : Nat → Nat) (ys : List Value) (cv lv : Nat → Value) (w : World) (hr : RowsQ w lo hi v n cl gl ys cv lv) (hm : MkQm w lo hi K cl gl cv lv n ys) (hn : n ≤ 1048576) (hcl : ∀ i, i < n → cl i ≤ 1048576 ∧ gl i ≤ 1048576) (h1 : 1 ≤ K) (h2 : kR cl gl K n ≤ 800000000000000) :
    Calls Tryd.prog 44 #[v, .int .i64 K] w fun e w' => e = .returned (.int .i64 ((kR cl gl K n : Nat) : Int)) ∧ Below w.heap.size w w' := by
  rcases own_casesM hr.row.own with ⟨rfl, rfl⟩ | ⟨g, cap, rfl⟩
  · refine (heldRecordS_nil K w (by simp only [kR] at h2; omega)).mono ?_
    rintro e w' ⟨rfl, rfl⟩
    exact ⟨rfl, Below.refl _ _⟩
  · exact heldRecordS_any lo hi g n cap K cl gl ys cv lv w hr hm hn hcl h1 h2

end Go.Proofs.YtmeojnaoljgieadDoor
