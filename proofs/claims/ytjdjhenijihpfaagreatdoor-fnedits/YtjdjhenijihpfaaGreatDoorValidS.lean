import Derived.Test.YtjdjhenijihpfaaGreatDoorValid
namespace Go.Proofs.YtjdjhenijihpfaaGreatDoor
open Go.RowKit
set_option linter.unusedVariables false

set_option maxHeartbeats 800000 in
theorem l2InsOk_0 (o : Nat) (wd t : ByteArray) (n : Int) (w : World) (Hw : Hid (∀ w, Calls Tryz.prog 90 #[.int .i64 o] w fun e w' => e = .returned (.tuple #[.string wd, .int .i64 0]) ∧ w = w')) (hwe : wd.toList.isEmpty = false) (ht : t.size ≤ 9223372036854775807) :
    Calls Tryz.prog 75 #[.agg #[.int .i64 o, .string t, .int .i64 n]] w fun e w' => Below w.heap.size w w' ∧ e = .returned (.bool (decide ((t.size : Int) ≤ 0) && decide (0 ≤ n) && decide (n ≤ 0))) := by
  have he := empty_iff t
  by_cases hz : t.size = 0
  · have he1 : t.toList.isEmpty = true := by rw [he, decide_eq_true_eq]; exact hz
    clear he
    have hd0 : decide ((2000 : Int) < t.size) = false := by rw [decide_eq_false_iff_not]; omega
    by_cases hn : n = 0
    · have hd : (n == 0) = true := by simpa using hn
      rw [show (decide ((t.size : Int) ≤ 0) && decide (0 ≤ n) && decide (n ≤ 0)) = true from by simp only [Bool.and_eq_true, decide_eq_true_eq]; omega]
      clear hz
      clear hn
      go_enter Tryz.func75, Tryz.ntmps75
      go_wp2_with (first | (go_at_call 90; refine ((Hw.out) _).mono ?_; rintro e w' ⟨rfl, rfl⟩))
      go_ret
      exact ⟨(Below.refl _ _).alloc (Nat.le_refl _) _, rfl⟩
    · have hd : (n == 0) = false := by simpa using hn
      rw [show (decide ((t.size : Int) ≤ 0) && decide (0 ≤ n) && decide (n ≤ 0)) = false from by rw [Bool.eq_false_iff]; simp only [ne_eq, Bool.and_eq_true, decide_eq_true_eq]; omega]
      clear hz
      go_enter Tryz.func75, Tryz.ntmps75
      go_wp2_with (first | (go_at_call 90; refine ((Hw.out) _).mono ?_; rintro e w' ⟨rfl, rfl⟩))
      go_ret
      exact ⟨(Below.refl _ _).alloc (Nat.le_refl _) _, rfl⟩
  · have he1 : t.toList.isEmpty = false := by rw [he, decide_eq_false_iff_not]; exact hz
    clear he
    rw [show (decide ((t.size : Int) ≤ 0) && decide (0 ≤ n) && decide (n ≤ 0)) = false from by rw [Bool.eq_false_iff]; simp only [ne_eq, Bool.and_eq_true, decide_eq_true_eq]; omega]
    clear hz
    go_enter Tryz.func75, Tryz.ntmps75
    go_wp2_with (first | (go_at_call 90; refine ((Hw.out) _).mono ?_; rintro e w' ⟨rfl, rfl⟩))
    go_ret
    exact ⟨(Below.refl _ _).alloc (Nat.le_refl _) _, rfl⟩

set_option maxHeartbeats 800000 in
theorem l2InsOk_1 (o : Nat) (wd t : ByteArray) (n : Int) (w : World) (Hw : Hid (∀ w, Calls Tryz.prog 90 #[.int .i64 o] w fun e w' => e = .returned (.tuple #[.string wd, .int .i64 1]) ∧ w = w')) (hwe : wd.toList.isEmpty = false) (ht : t.size ≤ 9223372036854775807) :
    Calls Tryz.prog 75 #[.agg #[.int .i64 o, .string t, .int .i64 n]] w fun e w' => Below w.heap.size w w' ∧ e = .returned (.bool (decide ((t.size : Int) ≤ 2000) && decide (0 ≤ n) && decide (n ≤ 0))) := by
  by_cases hz : t.size ≤ 2000
  · have hd0 : decide ((2000 : Int) < t.size) = false := by simp; omega
    by_cases hn : n = 0
    · have hd : (n == 0) = true := by simpa using hn
      rw [show (decide ((t.size : Int) ≤ 2000) && decide (0 ≤ n) && decide (n ≤ 0)) = true from by simp only [Bool.and_eq_true, decide_eq_true_eq]; omega]
      clear hn
      go_enter Tryz.func75, Tryz.ntmps75
      go_wp2_with (first | (go_at_call 90; refine ((Hw.out) _).mono ?_; rintro e w' ⟨rfl, rfl⟩))
      go_ret
      exact ⟨(Below.refl _ _).alloc (Nat.le_refl _) _, rfl⟩
    · have hd : (n == 0) = false := by simpa using hn
      rw [show (decide ((t.size : Int) ≤ 2000) && decide (0 ≤ n) && decide (n ≤ 0)) = false from by rw [Bool.eq_false_iff]; simp only [ne_eq, Bool.and_eq_true, decide_eq_true_eq]; omega]
      go_enter Tryz.func75, Tryz.ntmps75
      go_wp2_with (first | (go_at_call 90; refine ((Hw.out) _).mono ?_; rintro e w' ⟨rfl, rfl⟩))
      go_ret
      exact ⟨(Below.refl _ _).alloc (Nat.le_refl _) _, rfl⟩
  · have hd0 : decide ((2000 : Int) < t.size) = true := by simp; omega
    rw [show (decide ((t.size : Int) ≤ 2000) && decide (0 ≤ n) && decide (n ≤ 0)) = false from by rw [Bool.eq_false_iff]; simp only [ne_eq, Bool.and_eq_true, decide_eq_true_eq]; omega]
    go_enter Tryz.func75, Tryz.ntmps75
    go_wp2_with (first | (go_at_call 90; refine ((Hw.out) _).mono ?_; rintro e w' ⟨rfl, rfl⟩))
    go_ret
    exact ⟨(Below.refl _ _).alloc (Nat.le_refl _) _, rfl⟩

set_option maxHeartbeats 800000 in
theorem l2InsOk_2 (o : Nat) (wd t : ByteArray) (n : Int) (w : World) (Hw : Hid (∀ w, Calls Tryz.prog 90 #[.int .i64 o] w fun e w' => e = .returned (.tuple #[.string wd, .int .i64 2]) ∧ w = w')) (hwe : wd.toList.isEmpty = false) (ht : t.size ≤ 9223372036854775807) :
    Calls Tryz.prog 75 #[.agg #[.int .i64 o, .string t, .int .i64 n]] w fun e w' => Below w.heap.size w w' ∧ e = .returned (.bool (decide ((t.size : Int) ≤ 0) && decide (0 ≤ n) && decide (n ≤ 2000))) := by
  have he := empty_iff t
  by_cases hz : t.size = 0
  · have he1 : t.toList.isEmpty = true := by rw [he, decide_eq_true_eq]; exact hz
    clear he
    have hd0 : decide ((2000 : Int) < t.size) = false := by rw [decide_eq_false_iff_not]; omega
    by_cases hn : 0 ≤ n
    · have hd : decide (0 ≤ n) = true := by simpa using hn
      by_cases hm : n ≤ 2000
      · have hd2 : decide (n ≤ 2000) = true := by simpa using hm
        rw [show (decide ((t.size : Int) ≤ 0) && decide (0 ≤ n) && decide (n ≤ 2000)) = true from by simp only [Bool.and_eq_true, decide_eq_true_eq]; omega]
        clear hz
        go_enter Tryz.func75, Tryz.ntmps75
        go_wp2_with (first | (go_at_call 90; refine ((Hw.out) _).mono ?_; rintro e w' ⟨rfl, rfl⟩))
        go_ret
        exact ⟨(Below.refl _ _).alloc (Nat.le_refl _) _, rfl⟩
      · have hd2 : decide (n ≤ 2000) = false := by simpa using hm
        rw [show (decide ((t.size : Int) ≤ 0) && decide (0 ≤ n) && decide (n ≤ 2000)) = false from by rw [Bool.eq_false_iff]; simp only [ne_eq, Bool.and_eq_true, decide_eq_true_eq]; omega]
        clear hz
        go_enter Tryz.func75, Tryz.ntmps75
        go_wp2_with (first | (go_at_call 90; refine ((Hw.out) _).mono ?_; rintro e w' ⟨rfl, rfl⟩))
        go_ret
        exact ⟨(Below.refl _ _).alloc (Nat.le_refl _) _, rfl⟩
    · have hd : decide (0 ≤ n) = false := by simpa using hn
      rw [show (decide ((t.size : Int) ≤ 0) && decide (0 ≤ n) && decide (n ≤ 2000)) = false from by rw [Bool.eq_false_iff]; simp only [ne_eq, Bool.and_eq_true, decide_eq_true_eq]; omega]
      clear hz
      go_enter Tryz.func75, Tryz.ntmps75
      go_wp2_with (first | (go_at_call 90; refine ((Hw.out) _).mono ?_; rintro e w' ⟨rfl, rfl⟩))
      go_ret
      exact ⟨(Below.refl _ _).alloc (Nat.le_refl _) _, rfl⟩
  · have he1 : t.toList.isEmpty = false := by rw [he, decide_eq_false_iff_not]; exact hz
    clear he
    rw [show (decide ((t.size : Int) ≤ 0) && decide (0 ≤ n) && decide (n ≤ 2000)) = false from by rw [Bool.eq_false_iff]; simp only [ne_eq, Bool.and_eq_true, decide_eq_true_eq]; omega]
    clear hz
    go_enter Tryz.func75, Tryz.ntmps75
    go_wp2_with (first | (go_at_call 90; refine ((Hw.out) _).mono ?_; rintro e w' ⟨rfl, rfl⟩))
    go_ret
    exact ⟨(Below.refl _ _).alloc (Nat.le_refl _) _, rfl⟩

set_option maxHeartbeats 800000 in
theorem l2InsOk_3 (o : Nat) (wd t : ByteArray) (n : Int) (w : World) (Hw : Hid (∀ w, Calls Tryz.prog 90 #[.int .i64 o] w fun e w' => e = .returned (.tuple #[.string wd, .int .i64 3]) ∧ w = w')) (hwe : wd.toList.isEmpty = false) (ht : t.size ≤ 9223372036854775807) :
    Calls Tryz.prog 75 #[.agg #[.int .i64 o, .string t, .int .i64 n]] w fun e w' => Below w.heap.size w w' ∧ e = .returned (.bool (decide ((t.size : Int) ≤ 0) && decide (0 ≤ n) && decide (n ≤ 200))) := by
  have he := empty_iff t
  by_cases hz : t.size = 0
  · have he1 : t.toList.isEmpty = true := by rw [he, decide_eq_true_eq]; exact hz
    clear he
    have hd0 : decide ((2000 : Int) < t.size) = false := by rw [decide_eq_false_iff_not]; omega
    by_cases hn : 0 ≤ n
    · have hd : decide (0 ≤ n) = true := by simpa using hn
      by_cases hm : n ≤ 200
      · have hd2 : decide (n ≤ 200) = true := by simpa using hm
        rw [show (decide ((t.size : Int) ≤ 0) && decide (0 ≤ n) && decide (n ≤ 200)) = true from by simp only [Bool.and_eq_true, decide_eq_true_eq]; omega]
        clear hz
        go_enter Tryz.func75, Tryz.ntmps75
        go_wp2_with (first | (go_at_call 90; refine ((Hw.out) _).mono ?_; rintro e w' ⟨rfl, rfl⟩))
        go_ret
        exact ⟨(Below.refl _ _).alloc (Nat.le_refl _) _, rfl⟩
      · have hd2 : decide (n ≤ 200) = false := by simpa using hm
        rw [show (decide ((t.size : Int) ≤ 0) && decide (0 ≤ n) && decide (n ≤ 200)) = false from by rw [Bool.eq_false_iff]; simp only [ne_eq, Bool.and_eq_true, decide_eq_true_eq]; omega]
        clear hz
        go_enter Tryz.func75, Tryz.ntmps75
        go_wp2_with (first | (go_at_call 90; refine ((Hw.out) _).mono ?_; rintro e w' ⟨rfl, rfl⟩))
        go_ret
        exact ⟨(Below.refl _ _).alloc (Nat.le_refl _) _, rfl⟩
    · have hd : decide (0 ≤ n) = false := by simpa using hn
      rw [show (decide ((t.size : Int) ≤ 0) && decide (0 ≤ n) && decide (n ≤ 200)) = false from by rw [Bool.eq_false_iff]; simp only [ne_eq, Bool.and_eq_true, decide_eq_true_eq]; omega]
      clear hz
      go_enter Tryz.func75, Tryz.ntmps75
      go_wp2_with (first | (go_at_call 90; refine ((Hw.out) _).mono ?_; rintro e w' ⟨rfl, rfl⟩))
      go_ret
      exact ⟨(Below.refl _ _).alloc (Nat.le_refl _) _, rfl⟩
  · have he1 : t.toList.isEmpty = false := by rw [he, decide_eq_false_iff_not]; exact hz
    clear he
    rw [show (decide ((t.size : Int) ≤ 0) && decide (0 ≤ n) && decide (n ≤ 200)) = false from by rw [Bool.eq_false_iff]; simp only [ne_eq, Bool.and_eq_true, decide_eq_true_eq]; omega]
    clear hz
    go_enter Tryz.func75, Tryz.ntmps75
    go_wp2_with (first | (go_at_call 90; refine ((Hw.out) _).mono ?_; rintro e w' ⟨rfl, rfl⟩))
    go_ret
    exact ⟨(Below.refl _ _).alloc (Nat.le_refl _) _, rfl⟩

theorem l2InsOk_in (o : Nat) (t : ByteArray) (n : Int) (w : World) (h1 : 1 ≤ o) (h2 : o ≤ 15) (ht : t.size ≤ 9223372036854775807) :
    Calls Tryz.prog 75 #[.agg #[.int .i64 o, .string t, .int .i64 n]] w fun e w' => Below w.heap.size w w' ∧ e = .returned (.bool (decide ((t.size : Int) ≤ mostT (kindOf o)) && decide (0 ≤ n) && decide (n ≤ mostN (kindOf o)))) := by
  have hwe := word_nonempty o h1 h2
  have hw := fun w => l2Word_in o w h1 h2
  rcases kind_cases o with hk | hk | hk | hk
  · rw [hk] at hw ⊢; exact l2InsOk_0 o _ t n w hw hwe ht
  · rw [hk] at hw ⊢; exact l2InsOk_1 o _ t n w hw hwe ht
  · rw [hk] at hw ⊢; exact l2InsOk_2 o _ t n w hw hwe ht
  · rw [hk] at hw ⊢; exact l2InsOk_3 o _ t n w hw hwe ht

end Go.Proofs.YtjdjhenijihpfaaGreatDoor
