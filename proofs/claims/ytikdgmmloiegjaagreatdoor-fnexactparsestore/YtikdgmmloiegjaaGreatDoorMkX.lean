import Derived.Test.YtikdgmmloiegjaaGreatDoorSoA
import Derived.Deep.RegionHeld3
namespace Go.Proofs.YtikdgmmloiegjaaGreatDoor
open Go.RowKit
set_option linter.unusedVariables false

/-- The first n texts of the row bear the marks from K on. -/
def MkX (K n : Nat) (ys : List Value) : Prop := ∀ i, i < n → ys[i]? = some (.string (mt (K + i)))
theorem mkX_set {K k : Nat} {ys : List Value} (h : MkX K k ys) (hx : k < ys.length) : MkX K (k + 1) (ys.set k (.string (mt (K + k)))) := by
  intro i hi
  rw [List.getElem?_set]
  rcases Nat.lt_or_ge i k with hl | hl
  · rw [if_neg (by omega)]; exact h i hl
  · obtain rfl : i = k := by omega
    rw [if_pos rfl, if_pos hx]

set_option maxRecDepth 100000 in
set_option maxHeartbeats 2000000 in
theorem markStringS_mk (B g n cap K : Nat) (xs : List Value) (w : World) (hown : w.ownsRow B 9 1 (.slice (some ⟨g, 0, none⟩) n cap) n xs) (hB : B ≤ w.heap.size) (hn : n ≤ 1048576) (h1 : 1 ≤ K) (h2 : K ≤ 900000000000000) :
    Calls Tryz.prog 16 #[.slice (some ⟨g, 0, none⟩) n cap, .int .i64 K] w fun e w' => e = .returned (.int .i64 ((K + n : Nat) : Int)) ∧ Below B w w' ∧ KeepB g w w' ∧ ∃ ys, w'.ownsRow B 9 1 (.slice (some ⟨g, 0, none⟩) n cap) n ys ∧ MkX K n ys := by
  have hBg : B ≤ g := (hown.lt g rfl).1
  go_enter Tryz.func16, Tryz.ntmps16
  go_wp2
  go_loopw [1, 5] (fun k i wr => ∃ (m : Nat) (ys : List Value), m ≤ n ∧ i = .int .i64 m ∧ k = .int .i64 ((K + m : Nat) : Int) ∧ Hid (wr.ownsRow B 9 1 (.slice (some ⟨g, 0, none⟩) n cap) n ys) ∧ Hid (MkX K m ys) ∧ Hid (KeepB g w wr) ∧ w.heap.size ≤ wr.heap.size ∧ Below B w wr) (fun _ i _ => n - (intOf i).toNat)
  case atStart => exact ⟨0, xs, Nat.zero_le _, rfl, rfl, hown, (fun i hi => by omega : MkX K 0 xs), (fun b _ _ => rfl : KeepB g w w), Nat.le_refl _, Below.refl _ _⟩
  case round =>
    obtain ⟨m, ys, hm, rfl, rfl, HO, HM, HK, hsz, hbr⟩ := hrel
    clear hown
    by_cases hlt : m < n
    · have hlx : m < ys.length := by rw [HO.out.1]; omega
      have HM2 : Hid (MkX K (m + 1) (ys.set m (.string (mt (K + m))))) := mkX_set HM.out hlx
      have hKb : K + m < 1000000000000000 := by omega
      have HT : Hid (∀ W : World, Calls Tryz.prog 34 #[.int .i64 ((K + m : Nat) : Int)] W fun e w' => Below W.heap.size W w' ∧ e = .returned (.string (mt (K + m)))) := fun W => markText_any (K + m) W (by omega) (by omega)
      generalize mt (K + m) = t at *
      obtain ⟨c, ec⟩ : ∃ c, K + m = c := ⟨_, rfl⟩
      rw [ec] at HT hKb ⊢
      have HE : Hid (K + m = c) := ec
      clear ec
      have hmI : (m : Int) < (n : Int) := by omega
      go_wp2_with fail
      refine (HT.out _).mono ?_
      rintro e w2 ⟨hb2, rfl⟩
      have hown2 := ownsRow_below HO.out hb2
      have hbw : Below B w w2 := hbr.trans (hb2.mono (by omega))
      have hfr2 := hown2.frozenAt
      obtain ⟨o1, d1⟩ := cell_of_length1 hown2 (j := m) hlt
      have HO2 : Hid (w2.ownsRow B 9 1 (.slice (some ⟨g, 0, none⟩) n cap) n ys) := hown2
      have HK2 : Hid (KeepB g w w2) := HK.out.below hsz hb2
      have hs2 : w.heap.size ≤ w2.heap.size := by have := hb2.size; omega
      clear hown2 hb2 hbr HO
      go_wp2
      go_roundw
      case rel => exact ⟨m + 1, _, by omega, by go_num, congrArg (Value.int .i64) (by have := HE.out; omega), (HO2.out.stored _ _).1, HM2.out, HK2.out.set _ _, by simpa using hs2, hbw.setCell (p := ⟨g, m, none⟩) hBg _⟩
      case measure => simp [intOf]; omega
    · have em : m = n := by omega
      subst em
      go_wp2
      go_ret
      exact ⟨rfl, hbr, HK.out, ys, HO.out, HM.out⟩

theorem markStringS_row (lo hi n K : Nat) (v : Value) (xs : List Value) (w : World) (hr : RowO w lo hi 9 1 v n xs) (hB : lo ≤ w.heap.size) (hn : n ≤ 1048576) (h1 : 1 ≤ K) (h2 : K ≤ 900000000000000) :
    Calls Tryz.prog 16 #[v, .int .i64 K] w fun e w' => e = .returned (.int .i64 ((K + n : Nat) : Int)) ∧ Below lo w w' ∧ KeepO v.ownBlock w w' ∧ ∃ ys, RowO w' lo hi 9 1 v n ys ∧ MkX K n ys := by
  rcases own_casesM hr.own with ⟨rfl, rfl⟩ | ⟨g, cap, rfl⟩
  · refine (markStringS_nil K w h2).mono ?_
    rintro e w' ⟨rfl, rfl⟩
    exact ⟨rfl, Below.refl _ _, fun _ _ _ => rfl, xs, hr, fun i hi => by omega⟩
  · refine (markStringS_mk lo g n cap K xs w hr.own hB hn h1 h2).mono ?_
    rintro e w' ⟨he, hb, hk, ys, ho, hm⟩
    exact ⟨he, hb, fun b hl hne => hk b hl (fun e => hne (by subst e; rfl)), ys, ⟨ho, hr.top⟩, hm⟩

/-- The marks are read back. -/
def RdX (K n : Nat) (w : World) (g : Nat) : Prop := ∀ i, i < n → w.cell? ⟨g, i, none⟩ = some (.string (mt (K + i)))
theorem MkX.read {w : World} {B g n cap K : Nat} {ys : List Value} (h : w.ownsRow B 9 1 (.slice (some ⟨g, 0, none⟩) n cap) n ys) (hm : MkX K n ys) : RdX K n w g := by
  intro i hi
  rw [h.cellAt _ (by omega)]; exact hm i hi
theorem RdX.below {w w' : World} {g n K : Nat} (h : RdX K n w g) (hb : Below w.heap.size w w') : RdX K n w' g := fun i hi => cell_below hb (h i hi)

set_option maxRecDepth 100000 in
set_option maxHeartbeats 4000000 in
theorem heldStringS_any (g n cap K : Nat) (w : World) (hr : RdX K n w g) (hn : n ≤ 1048576) (h1 : 1 ≤ K) (h2 : K ≤ 900000000000000) :
    Calls Tryz.prog 18 #[.slice (some ⟨g, 0, none⟩) n cap, .int .i64 K] w fun e w' => e = .returned (.int .i64 ((K + n : Nat) : Int)) ∧ Below w.heap.size w w' := by
  have HR : Hid (RdX K n w g) := hr
  clear hr
  go_enter Tryz.func18, Tryz.ntmps18
  go_wp2
  go_loopw [1, 5] (fun k i wr => ∃ (m : Nat), m ≤ n ∧ i = .int .i64 m ∧ k = .int .i64 ((K + m : Nat) : Int) ∧ Below w.heap.size w wr) (fun _ i _ => n - (intOf i).toNat)
  case atStart => exact ⟨0, Nat.zero_le _, rfl, rfl, Below.refl _ _⟩
  case round =>
    obtain ⟨m, hm, rfl, rfl, hbr⟩ := hrel
    by_cases hlt : m < n
    · have c1 := (HR.out.below hbr) m hlt
      have hKb : K + m < 1000000000000000 := by omega
      have HT : Hid (∀ W : World, Calls Tryz.prog 34 #[.int .i64 ((K + m : Nat) : Int)] W fun e w' => Below W.heap.size W w' ∧ e = .returned (.string (mt (K + m)))) := fun W => markText_any (K + m) W (by omega) (by omega)
      generalize mt (K + m) = t at *
      obtain ⟨c, ec⟩ : ∃ c, K + m = c := ⟨_, rfl⟩
      rw [ec] at HT hKb ⊢
      have HE : Hid (K + m = c) := ec
      clear ec
      have et := str_eq (rfl : t = t)
      have hmI : (m : Int) < (n : Int) := by omega
      have hm0 : (0 : Int) ≤ (m : Int) := by omega
      have hbA : Below wr.heap.size wr wr.drew := (Below.refl _ _).drew
      go_wp2_with fail
      go_region_held3 (fun w' => w'.cell? ⟨g, m, none⟩ = some (.string t))
        (first | assumption | (simp [*]; done) | exact cell_below hb2 (by simp [*]))
        (first | (go_at_call 34; refine (HT.out _).mono ?_; rintro e w2 ⟨hb2, rfl⟩))
      all_goals
        have hB2 := bt hbr (bt hbA hb2)
        clear c1 hb2 hbA
        go_wp2
        go_roundw
        case rel => exact ⟨m + 1, by omega, by go_num, congrArg (Value.int .i64) (by have := HE.out; omega), hB2⟩
        case measure => simp [intOf]; omega
    · have em : m = n := by omega
      subst em
      go_wp2
      go_ret
      exact ⟨rfl, hbr⟩

set_option maxHeartbeats 400000 in
theorem heldStringS_nil (K : Nat) (w : World) (h2 : K ≤ 900000000000000) :
    Calls Tryz.prog 18 #[.slice none 0 0, .int .i64 K] w fun e w' => e = .returned (.int .i64 (K : Int)) ∧ w = w' := by
  go_enter Tryz.func18, Tryz.ntmps18
  go_wp2
  go_loopw [1, 5] (fun k i wr => i = .int .i64 0 ∧ k = .int .i64 (K : Int) ∧ w = wr) (fun _ i _ => 0)
  case atStart => exact ⟨rfl, rfl, rfl⟩
  case round =>
    obtain ⟨rfl, rfl, rfl⟩ := hrel
    go_wp2
    go_ret
    exact ⟨rfl, rfl⟩
theorem heldStringS_row (lo hi n K : Nat) (v : Value) (ys : List Value) (w : World) (hr : RowO w lo hi 9 1 v n ys) (hm : MkX K n ys) (hn : n ≤ 1048576) (h1 : 1 ≤ K) (h2 : K ≤ 900000000000000) :
    Calls Tryz.prog 18 #[v, .int .i64 K] w fun e w' => e = .returned (.int .i64 ((K + n : Nat) : Int)) ∧ Below w.heap.size w w' := by
  rcases own_casesM hr.own with ⟨rfl, rfl⟩ | ⟨g, cap, rfl⟩
  · refine (heldStringS_nil K w h2).mono ?_
    rintro e w' ⟨rfl, rfl⟩
    exact ⟨rfl, Below.refl _ _⟩
  · exact heldStringS_any g n cap K w (MkX.read hr.own hm) hn h1 h2

end Go.Proofs.YtikdgmmloiegjaaGreatDoor
