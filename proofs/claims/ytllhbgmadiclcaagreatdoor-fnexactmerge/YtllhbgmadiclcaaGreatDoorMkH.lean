import Derived.Test.YtllhbgmadiclcaaGreatDoorMkT
import Derived.Test.YtllhbgmadiclcaaGreatDoorStrs
namespace Go.Proofs.YtllhbgmadiclcaaGreatDoor
open Go.RowKit
set_option linter.unusedVariables false

/-- All blocks but g stay. -/
def KeepB (g : Nat) (w w' : World) : Prop := ∀ b, b < w.heap.size → b ≠ g → w'.heap[b]? = w.heap[b]?
theorem KeepB.set {g : Nat} {w w' : World} (h : KeepB g w w') (j : Nat) (v : Value) : KeepB g w (w'.setCell ⟨g, j, none⟩ v) := fun b hb hne => by
  rw [Below.heap_setCell w' ⟨g, j, none⟩ v b hne]; exact h b hb hne
theorem KeepB.below {g : Nat} {w w' w2 : World} (h : KeepB g w w') (hs : w.heap.size ≤ w'.heap.size) (hb : Below w'.heap.size w' w2) : KeepB g w w2 := fun b hl hne => by
  rw [hb.block b (by omega)]; exact h b hl hne

/-- The first n instructions of the row bear the marks from K on. -/
def MkI (K n : Nat) (ys : List Value) : Prop := ∀ i, i < n → ys[i * 3]? = some (.int .i64 ((K + 3 * i : Nat) : Int)) ∧ ys[i * 3 + 1]? = some (.string (mt (K + 3 * i + 1))) ∧ ys[i * 3 + 2]? = some (.int .i64 ((K + 3 * i + 2 : Nat) : Int))
theorem mkI_set {K k : Nat} {ys : List Value} (h : MkI K k ys) (hx : k * 3 + 2 < ys.length) :
    MkI K (k + 1) (((ys.set (k * 3) (.int .i64 ((K + 3 * k : Nat) : Int))).set (k * 3 + 1) (.string (mt (K + 3 * k + 1)))).set (k * 3 + 2) (.int .i64 ((K + 3 * k + 2 : Nat) : Int))) := by
  intro i hi
  rcases Nat.lt_or_ge i k with hl | hl
  · obtain ⟨h1, h2, h3⟩ := h i hl
    simp only [List.getElem?_set]
    rw [if_neg (by omega), if_neg (by omega), if_neg (by omega), if_neg (by omega), if_neg (by omega), if_neg (by omega), if_neg (by omega), if_neg (by omega), if_neg (by omega)]
    exact ⟨h1, h2, h3⟩
  · obtain rfl : i = k := by omega
    refine ⟨?_, ?_, ?_⟩ <;> simp [List.getElem?_set] <;> omega

set_option maxRecDepth 100000 in
set_option maxHeartbeats 2000000 in
theorem markInsS_any (B g n cap K : Nat) (xs : List Value) (w : World) (hown : w.ownsRow B 98 3 (.slice (some ⟨g, 0, none⟩) n cap) n xs) (hB : B ≤ w.heap.size) (hn : n ≤ 1048576) (h1 : 1 ≤ K) (h2 : K ≤ 900000000000000) :
    Calls Tryz.prog 53 #[.slice (some ⟨g, 0, none⟩) n cap, .int .i64 K] w fun e w' => e = .returned (.int .i64 ((K + 3 * n : Nat) : Int)) ∧ Below B w w' ∧ KeepB g w w' ∧ ∃ ys, w'.ownsRow B 98 3 (.slice (some ⟨g, 0, none⟩) n cap) n ys ∧ MkI K n ys := by
  have hBg : B ≤ g := (hown.lt g rfl).1
  go_enter Tryz.func53, Tryz.ntmps53
  go_wp2
  go_loopw [1, 5] (fun k i wr => ∃ (m : Nat) (ys : List Value), m ≤ n ∧ i = .int .i64 m ∧ k = .int .i64 ((K + 3 * m : Nat) : Int) ∧ Hid (wr.ownsRow B 98 3 (.slice (some ⟨g, 0, none⟩) n cap) n ys) ∧ Hid (MkI K m ys) ∧ Hid (KeepB g w wr) ∧ w.heap.size ≤ wr.heap.size ∧ Below B w wr) (fun _ i _ => n - (intOf i).toNat)
  case atStart => exact ⟨0, xs, Nat.zero_le _, rfl, rfl, hown, (fun i hi => by omega : MkI K 0 xs), (fun b _ _ => rfl : KeepB g w w), Nat.le_refl _, Below.refl _ _⟩
  case round =>
    obtain ⟨m, ys, hm, rfl, rfl, HO, HM, HK, hsz, hbr⟩ := hrel
    clear hown
    by_cases hlt : m < n
    · have hlx : m * 3 + 2 < ys.length := by rw [HO.out.1]; omega
      have HM2 : Hid (MkI K (m + 1) (((ys.set (m * 3) (.int .i64 ((K + 3 * m : Nat) : Int))).set (m * 3 + 1) (.string (mt (K + 3 * m + 1)))).set (m * 3 + 2) (.int .i64 ((K + 3 * m + 2 : Nat) : Int)))) := mkI_set HM.out hlx
      have hKb : K + 3 * m + 1 < 1000000000000000 := by omega
      have HT : Hid (∀ W : World, Calls Tryz.prog 52 #[.int .i64 ((K + 3 * m + 1 : Nat) : Int)] W fun e w' => Below W.heap.size W w' ∧ e = .returned (.string (mt (K + 3 * m + 1)))) := fun W => markText_any (K + 3 * m + 1) W (by omega) hKb
      generalize mt (K + 3 * m + 1) = t at *
      obtain ⟨c, ec⟩ : ∃ c, K + 3 * m = c := ⟨_, rfl⟩
      rw [ec] at HM2 HT hKb ⊢
      have HE : Hid (K + 3 * m = c) := ec
      clear ec
      obtain ⟨o1, d1⟩ := cell_of_length3 HO.out (j := m * 3) (by omega)
      have hfr := HO.out.frozenAt
      have hown1 := (HO.out.stored (m * 3) (.int .i64 (c : Int))).1
      have hmI : (m : Int) < (n : Int) := by omega
      go_wp2_with fail
      refine (HT.out _).mono ?_
      rintro e w2 ⟨hb2, rfl⟩
      have hown2 := ownsRow_below hown1 hb2
      have hbw : Below B w w2 := (hbr.setCell (p := ⟨g, m * 3, none⟩) hBg _).trans (hb2.mono (by simp; omega))
      have hfr2 := hown2.frozenAt
      obtain ⟨o2, d2⟩ := cell_of_length3 hown2 (j := m * 3 + 1) (by omega)
      obtain ⟨o3, d3⟩ := cell_of_length3 hown2 (j := m * 3 + 2) (by omega)
      have HO2 : Hid (w2.ownsRow B 98 3 (.slice (some ⟨g, 0, none⟩) n cap) n (ys.set (m * 3) (.int .i64 (c : Int)))) := hown2
      have HK2 : Hid (KeepB g w w2) := (HK.out.set (m * 3) (.int .i64 (c : Int))).below (by simpa using hsz) hb2
      have hs2 : w.heap.size ≤ w2.heap.size := by have := hb2.size; simp at this; omega
      clear hown1 hown2 hb2 hfr d1 hbr
      go_wp2
      go_roundw
      case rel => exact ⟨m + 1, _, by omega, by go_num, congrArg (Value.int .i64) (by have := HE.out; omega), ((HO2.out.stored _ _).1.stored _ _).1, HM2.out, (HK2.out.set _ _).set _ _, by simpa using hs2, (hbw.setCell (p := ⟨g, m * 3 + 1, none⟩) hBg _).setCell (p := ⟨g, m * 3 + 2, none⟩) hBg _⟩
      case measure => simp [intOf]; omega
    · have em : m = n := by omega
      subst em
      go_wp2
      go_ret
      exact ⟨rfl, hbr, HK.out, ys, HO.out, HM.out⟩

/-- The marks are read back. -/
def RdI (K n : Nat) (w : World) (g : Nat) : Prop := ∀ i, i < n → w.cell? ⟨g, i * 3, none⟩ = some (.int .i64 ((K + 3 * i : Nat) : Int)) ∧ w.cell? ⟨g, i * 3 + 1, none⟩ = some (.string (mt (K + 3 * i + 1))) ∧ w.cell? ⟨g, i * 3 + 2, none⟩ = some (.int .i64 ((K + 3 * i + 2 : Nat) : Int))
theorem MkI.read {w : World} {B g n cap K : Nat} {ys : List Value} (h : w.ownsRow B 98 3 (.slice (some ⟨g, 0, none⟩) n cap) n ys) (hm : MkI K n ys) : RdI K n w g := by
  intro i hi
  obtain ⟨h1, h2, h3⟩ := hm i hi
  exact ⟨by rw [h.cellAt _ (by omega)]; exact h1, by rw [h.cellAt _ (by omega)]; exact h2, by rw [h.cellAt _ (by omega)]; exact h3⟩
theorem RdI.below {w w' : World} {g n K : Nat} (h : RdI K n w g) (hb : Below w.heap.size w w') : RdI K n w' g := fun i hi =>
  ⟨cell_below hb (h i hi).1, cell_below hb (h i hi).2.1, cell_below hb (h i hi).2.2⟩

set_option maxRecDepth 100000 in
set_option maxHeartbeats 2000000 in
theorem heldInsS_any (g n cap K : Nat) (w : World) (hr : RdI K n w g) (hn : n ≤ 1048576) (h1 : 1 ≤ K) (h2 : K ≤ 900000000000000) :
    Calls Tryz.prog 79 #[.slice (some ⟨g, 0, none⟩) n cap, .int .i64 K] w fun e w' => e = .returned (.int .i64 ((K + 3 * n : Nat) : Int)) ∧ Below w.heap.size w w' := by
  have HR : Hid (RdI K n w g) := hr
  clear hr
  go_enter Tryz.func79, Tryz.ntmps79
  go_wp2
  go_loopw [1, 5] (fun k i wr => ∃ (m : Nat), m ≤ n ∧ i = .int .i64 m ∧ k = .int .i64 ((K + 3 * m : Nat) : Int) ∧ Below w.heap.size w wr) (fun _ i _ => n - (intOf i).toNat)
  case atStart => exact ⟨0, Nat.zero_le _, rfl, rfl, Below.refl _ _⟩
  case round =>
    obtain ⟨m, hm, rfl, rfl, hbr⟩ := hrel
    by_cases hlt : m < n
    · obtain ⟨c1, c2, c3⟩ := (HR.out.below hbr) m hlt
      have hKb : K + 3 * m + 1 < 1000000000000000 := by omega
      have HT : Hid (∀ W : World, Calls Tryz.prog 52 #[.int .i64 ((K + 3 * m + 1 : Nat) : Int)] W fun e w' => Below W.heap.size W w' ∧ e = .returned (.string (mt (K + 3 * m + 1)))) := fun W => markText_any (K + 3 * m + 1) W (by omega) hKb
      generalize mt (K + 3 * m + 1) = t at *
      obtain ⟨c, ec⟩ : ∃ c, K + 3 * m = c := ⟨_, rfl⟩
      rw [ec] at c1 c3 HT hKb ⊢
      have HE : Hid (K + 3 * m = c) := ec
      clear ec
      have et := str_eq (rfl : t = t)
      have hmI : (m : Int) < (n : Int) := by omega
      have hm0 : (0 : Int) ≤ (m : Int) := by omega
      have e1 : (((c + 1 : Nat) : Int)) = (c : Int) + 1 := by omega
      have e2 : (((c + 2 : Nat) : Int)) = (c : Int) + 1 + 1 := by omega
      rw [e2] at c3
      have hbA : Below wr.heap.size wr wr.drew := (Below.refl _ _).drew
      clear e1 e2
      go_wp2_with fail
      go_region_held3 (fun w' => w'.cell? ⟨g, m * 3, none⟩ = some (.int .i64 (c : Int)) ∧ w'.cell? ⟨g, m * 3 + 1, none⟩ = some (.string t) ∧ w'.cell? ⟨g, m * 3 + 2, none⟩ = some (.int .i64 ((c : Int) + 1 + 1)))
        (first | assumption | (simp [*]; done) | exact ⟨cell_below hb2 (by simp [*]), cell_below hb2 (by simp [*]), cell_below hb2 (by simp [*])⟩)
        (first | (go_at_call 52; refine (HT.out _).mono ?_; rintro e w2 ⟨hb2, rfl⟩))
      all_goals
        have d3 := cell_below hb2 (cell_below hbA c3)
        have hB2 := bt hbr (bt hbA hb2)
        clear c1 c2 c3 hb2 hbA
        go_wp2
        go_roundw
        case rel => exact ⟨m + 1, by omega, by go_num, congrArg (Value.int .i64) (by have := HE.out; omega), hB2⟩
        case measure => simp [intOf]; omega
    · have em : m = n := by omega
      subst em
      go_wp2
      go_ret
      exact ⟨rfl, hbr⟩

end Go.Proofs.YtllhbgmadiclcaaGreatDoor
namespace Go.Proofs.YtllhbgmadiclcaaGreatDoor
open Go.RowKit
set_option linter.unusedVariables false

def mb (k : Nat) : Bool := decide (k % 3 = 0)
/-- The first n looks of the row bear the marks from K on. -/
def MkG (K n : Nat) (ys : List Value) : Prop := ∀ i, i < n → ys[i * 3]? = some (.string (mt (K + 3 * i))) ∧ ys[i * 3 + 1]? = some (.bool (mb (K + 3 * i + 1))) ∧ ys[i * 3 + 2]? = some (.string (mt (K + 3 * i + 2)))
theorem mkG_set {K k : Nat} {ys : List Value} (h : MkG K k ys) (hx : k * 3 + 2 < ys.length) :
    MkG K (k + 1) (((ys.set (k * 3) (.string (mt (K + 3 * k)))).set (k * 3 + 1) (.bool (mb (K + 3 * k + 1)))).set (k * 3 + 2) (.string (mt (K + 3 * k + 2)))) := by
  intro i hi
  rcases Nat.lt_or_ge i k with hl | hl
  · obtain ⟨h1, h2, h3⟩ := h i hl
    simp only [List.getElem?_set]
    rw [if_neg (by omega), if_neg (by omega), if_neg (by omega), if_neg (by omega), if_neg (by omega), if_neg (by omega), if_neg (by omega), if_neg (by omega), if_neg (by omega)]
    exact ⟨h1, h2, h3⟩
  · obtain rfl : i = k := by omega
    refine ⟨?_, ?_, ?_⟩ <;> simp [List.getElem?_set] <;> omega
theorem rem3 (c : Nat) : (((c : Int) + 1) % 3 == 0) = mb (c + 1) := by
  unfold mb
  rw [Bool.eq_iff_iff]
  simp
  omega

set_option maxRecDepth 100000 in
set_option maxHeartbeats 2000000 in
theorem markGlanceS_any (B g n cap K : Nat) (xs : List Value) (w : World) (hown : w.ownsRow B 90 3 (.slice (some ⟨g, 0, none⟩) n cap) n xs) (hB : B ≤ w.heap.size) (hn : n ≤ 1048576) (h1 : 1 ≤ K) (h2 : K ≤ 900000000000000) :
    Calls Tryz.prog 54 #[.slice (some ⟨g, 0, none⟩) n cap, .int .i64 K] w fun e w' => e = .returned (.int .i64 ((K + 3 * n : Nat) : Int)) ∧ Below B w w' ∧ KeepB g w w' ∧ ∃ ys, w'.ownsRow B 90 3 (.slice (some ⟨g, 0, none⟩) n cap) n ys ∧ MkG K n ys := by
  have hBg : B ≤ g := (hown.lt g rfl).1
  go_enter Tryz.func54, Tryz.ntmps54
  go_wp2
  go_loopw [1, 5] (fun k i wr => ∃ (m : Nat) (ys : List Value), m ≤ n ∧ i = .int .i64 m ∧ k = .int .i64 ((K + 3 * m : Nat) : Int) ∧ Hid (wr.ownsRow B 90 3 (.slice (some ⟨g, 0, none⟩) n cap) n ys) ∧ Hid (MkG K m ys) ∧ Hid (KeepB g w wr) ∧ w.heap.size ≤ wr.heap.size ∧ Below B w wr) (fun _ i _ => n - (intOf i).toNat)
  case atStart => exact ⟨0, xs, Nat.zero_le _, rfl, rfl, hown, (fun i hi => by omega : MkG K 0 xs), (fun b _ _ => rfl : KeepB g w w), Nat.le_refl _, Below.refl _ _⟩
  case round =>
    obtain ⟨m, ys, hm, rfl, rfl, HO, HM, HK, hsz, hbr⟩ := hrel
    clear hown
    by_cases hlt : m < n
    · have hlx : m * 3 + 2 < ys.length := by rw [HO.out.1]; omega
      have HM2 : Hid (MkG K (m + 1) (((ys.set (m * 3) (.string (mt (K + 3 * m)))).set (m * 3 + 1) (.bool (mb (K + 3 * m + 1)))).set (m * 3 + 2) (.string (mt (K + 3 * m + 2))))) := mkG_set HM.out hlx
      have hKb : K + 3 * m + 2 < 1000000000000000 := by omega
      have HT : Hid (∀ W : World, Calls Tryz.prog 52 #[.int .i64 ((K + 3 * m : Nat) : Int)] W fun e w' => Below W.heap.size W w' ∧ e = .returned (.string (mt (K + 3 * m)))) := fun W => markText_any (K + 3 * m) W (by omega) (by omega)
      have HU : Hid (∀ W : World, Calls Tryz.prog 52 #[.int .i64 ((K + 3 * m : Nat) + 1 + 1 : Int)] W fun e w' => Below W.heap.size W w' ∧ e = .returned (.string (mt (K + 3 * m + 2)))) := fun W => by
        have h := markText_any (K + 3 * m + 2) W (by omega) hKb
        rw [show ((K + 3 * m + 2 : Nat) : Int) = ((K + 3 * m : Nat) : Int) + 1 + 1 by omega] at h
        exact h
      have r1 := rem3 (K + 3 * m)
      generalize mt (K + 3 * m) = t at *
      generalize mt (K + 3 * m + 2) = u at *
      generalize mb (K + 3 * m + 1) = q at *
      obtain ⟨c, ec⟩ : ∃ c, K + 3 * m = c := ⟨_, rfl⟩
      rw [ec] at HT HU hKb r1 ⊢
      have HE : Hid (K + 3 * m = c) := ec
      clear ec
      have hmI : (m : Int) < (n : Int) := by omega
      go_wp2_with fail
      refine (HT.out _).mono ?_
      rintro e w2 ⟨hb2, rfl⟩
      have hown2 := ownsRow_below HO.out hb2
      have hbw : Below B w w2 := hbr.trans (hb2.mono (by omega))
      have hfr2 := hown2.frozenAt
      obtain ⟨o1, d1⟩ := cell_of_length3 hown2 (j := m * 3) (by omega)
      obtain ⟨o2, d2⟩ := cell_of_length3 hown2 (j := m * 3 + 1) (by omega)
      have HO2 : Hid (w2.ownsRow B 90 3 (.slice (some ⟨g, 0, none⟩) n cap) n ys) := hown2
      have HK2 : Hid (KeepB g w w2) := HK.out.below hsz hb2
      have hs2 : w.heap.size ≤ w2.heap.size := by have := hb2.size; omega
      clear hown2 hb2 hbr HO
      go_wp2_with fail
      refine (HU.out _).mono ?_
      rintro e w3 ⟨hb3, rfl⟩
      have hown3 := ownsRow_below ((HO2.out.stored (m * 3) (.string t)).1.stored (m * 3 + 1) (.bool q)).1 hb3
      have hbw3 : Below B w w3 := ((hbw.setCell (p := ⟨g, m * 3, none⟩) hBg _).setCell (p := ⟨g, m * 3 + 1, none⟩) hBg _).trans (hb3.mono (by simp; omega))
      have HK3 : Hid (KeepB g w w3) := ((HK2.out.set (m * 3) _).set (m * 3 + 1) _).below (by simpa using hs2) hb3
      have hs3 : w.heap.size ≤ w3.heap.size := by have := hb3.size; simp at this; omega
      have hfr3 := hown3.frozenAt
      obtain ⟨o3, d3⟩ := cell_of_length3 hown3 (j := m * 3 + 2) (by omega)
      have HO3 : Hid (w3.ownsRow B 90 3 (.slice (some ⟨g, 0, none⟩) n cap) n ((ys.set (m * 3) (.string t)).set (m * 3 + 1) (.bool q))) := hown3
      clear hown3 hb3 d1 d2 hbw hfr2 HO2
      go_wp2
      go_roundw
      case rel => exact ⟨m + 1, _, by omega, by go_num, congrArg (Value.int .i64) (by have := HE.out; omega), (HO3.out.stored _ _).1, HM2.out, HK3.out.set _ _, by simpa using hs3, hbw3.setCell (p := ⟨g, m * 3 + 2, none⟩) hBg _⟩
      case measure => simp [intOf]; omega
    · have em : m = n := by omega
      subst em
      go_wp2
      go_ret
      exact ⟨rfl, hbr, HK.out, ys, HO.out, HM.out⟩

end Go.Proofs.YtllhbgmadiclcaaGreatDoor
namespace Go.Proofs.YtllhbgmadiclcaaGreatDoor
open Go.RowKit
set_option linter.unusedVariables false

theorem cell_of_length1 {w : World} {B g n cap j T : Nat} {xs : List Value} (h : w.ownsRow B T 1 (.slice (some ⟨g, 0, none⟩) n cap) n xs) (hj : j < n) : ∃ v, w.cell? ⟨g, j, none⟩ = some v := by
  have hl := h.1
  exact ⟨xs[j]'(by omega), by rw [h.cellAt j (by omega)]; exact List.getElem?_eq_getElem _⟩

set_option maxRecDepth 100000 in
set_option maxHeartbeats 2000000 in
theorem markStringS_any (B g n cap K : Nat) (xs : List Value) (w : World) (hown : w.ownsRow B 9 1 (.slice (some ⟨g, 0, none⟩) n cap) n xs) (hB : B ≤ w.heap.size) (hn : n ≤ 1048576) (h1 : 1 ≤ K) (h2 : K ≤ 900000000000000) :
    Calls Tryz.prog 32 #[.slice (some ⟨g, 0, none⟩) n cap, .int .i64 K] w fun e w' => e = .returned (.int .i64 ((K + n : Nat) : Int)) ∧ Below B w w' ∧ KeepB g w w' := by
  have hBg : B ≤ g := (hown.lt g rfl).1
  go_enter Tryz.func32, Tryz.ntmps32
  go_wp2
  go_loopw [1, 5] (fun k i wr => ∃ (m : Nat) (ys : List Value), m ≤ n ∧ i = .int .i64 m ∧ k = .int .i64 ((K + m : Nat) : Int) ∧ Hid (wr.ownsRow B 9 1 (.slice (some ⟨g, 0, none⟩) n cap) n ys) ∧ Hid (KeepB g w wr) ∧ w.heap.size ≤ wr.heap.size ∧ Below B w wr) (fun _ i _ => n - (intOf i).toNat)
  case atStart => exact ⟨0, xs, Nat.zero_le _, rfl, rfl, hown, (fun b _ _ => rfl : KeepB g w w), Nat.le_refl _, Below.refl _ _⟩
  case round =>
    obtain ⟨m, ys, hm, rfl, rfl, HO, HK, hsz, hbr⟩ := hrel
    clear hown
    by_cases hlt : m < n
    · have hKb : K + m < 1000000000000000 := by omega
      have HT : Hid (∀ W : World, Calls Tryz.prog 52 #[.int .i64 ((K + m : Nat) : Int)] W fun e w' => Below W.heap.size W w' ∧ e = .returned (.string (mt (K + m)))) := fun W => markText_any (K + m) W (by omega) (by omega)
      generalize mt (K + m) = t at *
      obtain ⟨c, ec⟩ : ∃ c, K + m = c := ⟨_, rfl⟩
      rw [ec] at HT hKb ⊢
      have HE : Hid (K + m = c) := ec
      clear ec
      have hmI : (m : Int) < (n : Int) := by omega
      go_wp2_with fail
      refine (HT.out _).mono ?_
      rintro e w2 ⟨hb2, rfl⟩
      have hown2 := ownsRow_below HO.out hb2
      have hbw : Below B w w2 := hbr.trans (hb2.mono (by omega))
      have hfr2 := hown2.frozenAt
      obtain ⟨o1, d1⟩ := cell_of_length1 hown2 (j := m) hlt
      have HO2 : Hid (w2.ownsRow B 9 1 (.slice (some ⟨g, 0, none⟩) n cap) n ys) := hown2
      have HK2 : Hid (KeepB g w w2) := HK.out.below hsz hb2
      have hs2 : w.heap.size ≤ w2.heap.size := by have := hb2.size; omega
      clear hown2 hb2 hbr HO
      go_wp2
      go_roundw
      case rel => exact ⟨m + 1, _, by omega, by go_num, congrArg (Value.int .i64) (by have := HE.out; omega), (HO2.out.stored _ _).1, HK2.out.set _ _, by simpa using hs2, hbw.setCell (p := ⟨g, m, none⟩) hBg _⟩
      case measure => simp [intOf]; omega
    · have em : m = n := by omega
      subst em
      go_wp2
      go_ret
      exact ⟨rfl, hbr, HK.out⟩

/-- The marks are read back. -/
def RdG (K n : Nat) (w : World) (g : Nat) : Prop := ∀ i, i < n → w.cell? ⟨g, i * 3, none⟩ = some (.string (mt (K + 3 * i))) ∧ w.cell? ⟨g, i * 3 + 1, none⟩ = some (.bool (mb (K + 3 * i + 1))) ∧ w.cell? ⟨g, i * 3 + 2, none⟩ = some (.string (mt (K + 3 * i + 2)))
theorem MkG.read {w : World} {B g n cap K T : Nat} {ys : List Value} (h : w.ownsRow B T 3 (.slice (some ⟨g, 0, none⟩) n cap) n ys) (hm : MkG K n ys) : RdG K n w g := by
  intro i hi
  obtain ⟨h1, h2, h3⟩ := hm i hi
  exact ⟨by rw [h.cellAt _ (by omega)]; exact h1, by rw [h.cellAt _ (by omega)]; exact h2, by rw [h.cellAt _ (by omega)]; exact h3⟩
theorem RdG.below {w w' : World} {g n K : Nat} (h : RdG K n w g) (hb : Below w.heap.size w w') : RdG K n w' g := fun i hi =>
  ⟨cell_below hb (h i hi).1, cell_below hb (h i hi).2.1, cell_below hb (h i hi).2.2⟩

set_option maxRecDepth 100000 in
set_option maxHeartbeats 4000000 in
theorem heldGlanceS_any (g n cap K : Nat) (w : World) (hr : RdG K n w g) (hn : n ≤ 1048576) (h1 : 1 ≤ K) (h2 : K ≤ 900000000000000) :
    Calls Tryz.prog 80 #[.slice (some ⟨g, 0, none⟩) n cap, .int .i64 K] w fun e w' => e = .returned (.int .i64 ((K + 3 * n : Nat) : Int)) ∧ Below w.heap.size w w' := by
  have HR : Hid (RdG K n w g) := hr
  clear hr
  go_enter Tryz.func80, Tryz.ntmps80
  go_wp2
  go_loopw [1, 5] (fun k i wr => ∃ (m : Nat), m ≤ n ∧ i = .int .i64 m ∧ k = .int .i64 ((K + 3 * m : Nat) : Int) ∧ Below w.heap.size w wr) (fun _ i _ => n - (intOf i).toNat)
  case atStart => exact ⟨0, Nat.zero_le _, rfl, rfl, Below.refl _ _⟩
  case round =>
    obtain ⟨m, hm, rfl, rfl, hbr⟩ := hrel
    by_cases hlt : m < n
    · obtain ⟨c1, c2, c3⟩ := (HR.out.below hbr) m hlt
      have hKb : K + 3 * m + 2 < 1000000000000000 := by omega
      have HT : Hid (∀ W : World, Calls Tryz.prog 52 #[.int .i64 ((K + 3 * m : Nat) : Int)] W fun e w' => Below W.heap.size W w' ∧ e = .returned (.string (mt (K + 3 * m)))) := fun W => markText_any (K + 3 * m) W (by omega) (by omega)
      have HU : Hid (∀ W : World, Calls Tryz.prog 52 #[.int .i64 ((K + 3 * m : Nat) + 1 + 1 : Int)] W fun e w' => Below W.heap.size W w' ∧ e = .returned (.string (mt (K + 3 * m + 2)))) := fun W => by
        have h := markText_any (K + 3 * m + 2) W (by omega) hKb
        rw [show ((K + 3 * m + 2 : Nat) : Int) = ((K + 3 * m : Nat) : Int) + 1 + 1 by omega] at h
        exact h
      have r1 := rem3 (K + 3 * m)
      generalize mt (K + 3 * m) = t at *
      generalize mt (K + 3 * m + 2) = u at *
      generalize mb (K + 3 * m + 1) = q at *
      obtain ⟨c, ec⟩ : ∃ c, K + 3 * m = c := ⟨_, rfl⟩
      rw [ec] at HT HU hKb r1 ⊢
      have HE : Hid (K + 3 * m = c) := ec
      clear ec
      have et := str_eq (rfl : t = t)
      have eu := str_eq (rfl : u = u)
      have hmI : (m : Int) < (n : Int) := by omega
      have hm0 : (0 : Int) ≤ (m : Int) := by omega
      have hbA : Below wr.heap.size wr wr.drew := (Below.refl _ _).drew
      go_wp2_with fail
      go_region_held3 (fun w' => w'.cell? ⟨g, m * 3, none⟩ = some (.string t) ∧ w'.cell? ⟨g, m * 3 + 1, none⟩ = some (.bool q) ∧ w'.cell? ⟨g, m * 3 + 2, none⟩ = some (.string u))
        (first | assumption | (simp [*]; done) | exact ⟨cell_below hb2 (by simp [*]), cell_below hb2 (by simp [*]), cell_below hb2 (by simp [*])⟩)
        (first | (go_at_call 52; refine (HT.out _).mono ?_; rintro e w2 ⟨hb2, rfl⟩))
      all_goals
        have d2 := cell_below hb2 (cell_below hbA c2)
        have d3 := cell_below hb2 (cell_below hbA c3)
        have hB2 := bt hbr (bt hbA hb2)
        clear c1 c2 c3 hb2 hbA
        have hbC : Below w2.heap.size w2 w2.drew := (Below.refl _ _).drew
        go_wp2_with fail
        go_region_held3 (fun w' => w'.cell? ⟨g, m * 3 + 2, none⟩ = some (.string u))
          (first | assumption | (simp [*]; done) | exact cell_below hb3 (by simp [*]))
          (first | (go_at_call 52; refine (HU.out _).mono ?_; rintro e w3 ⟨hb3, rfl⟩))
        all_goals
          have hB3 := bt hB2 (bt hbC hb3)
          clear d2 d3 hb3 hbC
          go_wp2
          go_roundw
          case rel => exact ⟨m + 1, by omega, by go_num, congrArg (Value.int .i64) (by have := HE.out; omega), hB3⟩
          case measure => simp [intOf]; omega
    · have em : m = n := by omega
      subst em
      go_wp2
      go_ret
      exact ⟨rfl, hbr⟩

end Go.Proofs.YtllhbgmadiclcaaGreatDoor
