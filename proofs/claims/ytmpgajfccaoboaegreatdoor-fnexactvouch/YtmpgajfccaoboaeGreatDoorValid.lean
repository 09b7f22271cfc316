/-
  Validity: what it is; the walks of spec.l2Word, l2InsOk, ValidProgram and of impl.mostText, mostNumber, validIns, ValidProgram.
-/
import Derived.Test.YtmpgajfccaoboaeGreatDoorPlain
import Derived.Deep.QuietTactic
import Derived.BigQuiet
namespace Go.Proofs.YtmpgajfccaoboaeGreatDoor
open Go.RowKit
set_option linter.unusedVariables false

def kindOf (op : Int) : Int := if op = 1 then 1 else if op = 3 ∨ op = 4 ∨ op = 5 then 2 else if op = 10 ∨ op = 11 then 3 else 0
def mostT (k : Int) : Int := if k = 1 then 2000 else 0
def mostN (k : Int) : Int := if k = 2 then 2000 else if k = 3 then 200 else 0
def insOk (i : I3) : Bool := decide (1 ≤ i.op) && decide (i.op ≤ 15) && decide ((i.text.size : Int) ≤ mostT (kindOf i.op)) && decide (0 ≤ i.n) && decide (i.n ≤ mostN (kindOf i.op))
def words : List (List UInt8) := [[], [108, 105, 116], [99, 97, 116], [99, 117, 116], [114, 101, 115, 116], [119, 111, 114, 100], [115, 97, 109, 101], [100, 117, 112], [115, 119, 97, 112], [100, 114, 111, 112], [106, 117, 109, 112], [117, 110, 108, 101, 115, 115], [97, 115, 107], [104, 97, 115], [102, 97, 105, 108], [101, 110, 100]]
def takesOf : List Int := [0, 0, 2, 1, 1, 1, 2, 1, 2, 1, 0, 1, 1, 1, 1, 1]
def wordB (o : Nat) : ByteArray := ⟨(words.getD o []).toArray⟩

/-- The table of instructions, as start-up lays it. -/
def Tab (w : World) : Prop := ∀ o : Nat, o < 16 → w.cell? ⟨0, o * 3, none⟩ = some (.string (wordB o)) ∧ w.cell? ⟨0, o * 3 + 1, none⟩ = some (.int .i64 (kindOf o)) ∧ w.cell? ⟨0, o * 3 + 2, none⟩ = some (.int .i64 (takesOf.getD o 0))
theorem Tab.below {w w' : World} (h : Tab w) (hb : Below w.heap.size w w') : Tab w' := fun o ho => ⟨cell_below hb (h o ho).1, cell_below hb (h o ho).2.1, cell_below hb (h o ho).2.2⟩

theorem kind_cases (o : Int) : kindOf o = 0 ∨ kindOf o = 1 ∨ kindOf o = 2 ∨ kindOf o = 3 := by
  unfold kindOf
  split
  · simp
  · split
    · simp
    · split <;> simp

set_option maxHeartbeats 400000 in
theorem mostText_any (k : Int) (w : World) : Calls Tryz.prog 187 #[.int .i64 k] w fun e w' => e = .returned (.int .i64 (mostT k)) ∧ w' = w := by
  by_cases h : k = 1
  · subst h
    go_enter Tryz.func187, Tryz.ntmps187
    go_wp2
    go_ret
    exact ⟨rfl, rfl⟩
  · have h1 : (k == 1) = false := by simpa using h
    have e : mostT k = 0 := by simp [mostT, h]
    rw [e]
    clear h e
    go_enter Tryz.func187, Tryz.ntmps187
    go_wp2
    go_ret
    exact ⟨rfl, rfl⟩

set_option maxHeartbeats 400000 in
theorem mostNumber_any (k : Int) (w : World) : Calls Tryz.prog 188 #[.int .i64 k] w fun e w' => e = .returned (.int .i64 (mostN k)) ∧ w' = w := by
  by_cases h : k = 2
  · subst h
    go_enter Tryz.func188, Tryz.ntmps188
    go_wp2
    go_ret
    exact ⟨rfl, rfl⟩
  · by_cases h' : k = 3
    · subst h'
      go_enter Tryz.func188, Tryz.ntmps188
      go_wp2
      go_ret
      exact ⟨rfl, rfl⟩
    · have h1 : (k == 2) = false := by simpa using h
      have h2 : (k == 3) = false := by simpa using h'
      have e : mostN k = 0 := by simp [mostN, h, h']
      rw [e]
      clear h h' e
      go_enter Tryz.func188, Tryz.ntmps188
      go_wp2
      go_ret
      exact ⟨rfl, rfl⟩

set_option maxHeartbeats 400000 in
theorem validIns_out (i : I3) (w : World) (h : i.op < 1 ∨ 15 < i.op) :
    Calls Tryz.prog 157 #[.agg #[.int .i64 i.op, .string i.text, .int .i64 i.n]] w fun e w' => Below w.heap.size w w' ∧ e = .returned (.bool false) := by
  rcases h with h | h
  · have h1 : decide (i.op < 1) = true := by simpa using h
    go_enter Tryz.func157, Tryz.ntmps157
    go_wp2
    go_ret
    exact ⟨(Below.refl _ _).alloc (Nat.le_refl _) _, rfl⟩
  · have h1 : decide (i.op < 1) = false := by simp; omega
    have h2 : decide (15 < i.op) = true := by simpa using h
    go_enter Tryz.func157, Tryz.ntmps157
    go_wp2
    go_ret
    exact ⟨(Below.refl _ _).alloc (Nat.le_refl _) _, rfl⟩

set_option maxHeartbeats 400000 in
theorem validIns_in (o : Nat) (t : ByteArray) (n : Int) (w : World) (k : Int) (h1 : 1 ≤ o) (h2 : o ≤ 15) (ht : t.size ≤ 9223372036854775807) (hk : w.cell? ⟨0, o * 3 + 1, none⟩ = some (.int .i64 k)) :
    Calls Tryz.prog 157 #[.agg #[.int .i64 o, .string t, .int .i64 n]] w fun e w' => Below w.heap.size w w' ∧ e = .returned (.bool (decide ((t.size : Int) ≤ mostT k) && decide (0 ≤ n) && decide (n ≤ mostN k))) := by
  have d1 : decide ((o : Int) < 1) = false := by simp; omega
  have d2 : decide (15 < (o : Int)) = false := by simp; omega
  have h0 : 0 < w.heap.size := World.block_lt_of_cell? w _ hk
  have hka : ∀ x, (w.alloc x).cell? ⟨0, o * 3 + 1, none⟩ = some (.int .i64 k) := fun x => by rw [World.cell?_alloc_lt _ _ _ h0]; exact hk
  by_cases c1 : (t.size : Int) ≤ mostT k
  · have e1 : decide ((t.size : Int) ≤ mostT k) = true := by simpa using c1
    by_cases c2 : 0 ≤ n
    · have e2 : decide (0 ≤ n) = true := by simpa using c2
      go_enter Tryz.func157, Tryz.ntmps157
      go_wp2_with fail
      go_quiet (first | (go_at_call 187; exact Calls.quiet_of_same (mostText_any _ _)) | (go_at_call 188; exact Calls.quiet_of_same (mostNumber_any _ _)))
      go_wp2
      go_ret
      exact ⟨below_drewN ((Below.refl _ _).alloc (Nat.le_refl _) _) _, by simp [e1, e2]; try rfl⟩
    · have e2 : decide (0 ≤ n) = false := by simpa using c2
      go_enter Tryz.func157, Tryz.ntmps157
      go_wp2_with fail
      go_quiet (first | (go_at_call 187; exact Calls.quiet_of_same (mostText_any _ _)) | (go_at_call 188; exact Calls.quiet_of_same (mostNumber_any _ _)))
      go_wp2
      go_ret
      exact ⟨below_drewN ((Below.refl _ _).alloc (Nat.le_refl _) _) _, by simp [e1, e2]; try rfl⟩
  · have e1 : decide ((t.size : Int) ≤ mostT k) = false := by simpa using c1
    go_enter Tryz.func157, Tryz.ntmps157
    go_wp2_with fail
    go_quiet (first | (go_at_call 187; exact Calls.quiet_of_same (mostText_any _ _)) | (go_at_call 188; exact Calls.quiet_of_same (mostNumber_any _ _)))
    go_wp2
    go_ret
    exact ⟨below_drewN ((Below.refl _ _).alloc (Nat.le_refl _) _) _, by simp [e1]; try rfl⟩

set_option maxHeartbeats 400000 in
theorem l2Word_1 (w : World) : Calls Tryz.prog 171 #[.int .i64 1] w fun e w' => e = .returned (.tuple #[.string ⟨#[108, 105, 116]⟩, .int .i64 1]) ∧ w = w' := by
  go_enter Tryz.func171, Tryz.ntmps171
  go_wp2
  go_ret2
  exact ⟨rfl, rfl⟩

set_option maxHeartbeats 400000 in
theorem l2Word_2 (w : World) : Calls Tryz.prog 171 #[.int .i64 2] w fun e w' => e = .returned (.tuple #[.string ⟨#[99, 97, 116]⟩, .int .i64 0]) ∧ w = w' := by
  go_enter Tryz.func171, Tryz.ntmps171
  go_wp2
  go_ret2
  exact ⟨rfl, rfl⟩

set_option maxHeartbeats 400000 in
theorem l2Word_3 (w : World) : Calls Tryz.prog 171 #[.int .i64 3] w fun e w' => e = .returned (.tuple #[.string ⟨#[99, 117, 116]⟩, .int .i64 2]) ∧ w = w' := by
  go_enter Tryz.func171, Tryz.ntmps171
  go_wp2
  go_ret2
  exact ⟨rfl, rfl⟩

set_option maxHeartbeats 400000 in
theorem l2Word_4 (w : World) : Calls Tryz.prog 171 #[.int .i64 4] w fun e w' => e = .returned (.tuple #[.string ⟨#[114, 101, 115, 116]⟩, .int .i64 2]) ∧ w = w' := by
  go_enter Tryz.func171, Tryz.ntmps171
  go_wp2
  go_ret2
  exact ⟨rfl, rfl⟩

set_option maxHeartbeats 400000 in
theorem l2Word_5 (w : World) : Calls Tryz.prog 171 #[.int .i64 5] w fun e w' => e = .returned (.tuple #[.string ⟨#[119, 111, 114, 100]⟩, .int .i64 2]) ∧ w = w' := by
  go_enter Tryz.func171, Tryz.ntmps171
  go_wp2
  go_ret2
  exact ⟨rfl, rfl⟩

set_option maxHeartbeats 400000 in
theorem l2Word_6 (w : World) : Calls Tryz.prog 171 #[.int .i64 6] w fun e w' => e = .returned (.tuple #[.string ⟨#[115, 97, 109, 101]⟩, .int .i64 0]) ∧ w = w' := by
  go_enter Tryz.func171, Tryz.ntmps171
  go_wp2
  go_ret2
  exact ⟨rfl, rfl⟩

set_option maxHeartbeats 400000 in
theorem l2Word_7 (w : World) : Calls Tryz.prog 171 #[.int .i64 7] w fun e w' => e = .returned (.tuple #[.string ⟨#[100, 117, 112]⟩, .int .i64 0]) ∧ w = w' := by
  go_enter Tryz.func171, Tryz.ntmps171
  go_wp2
  go_ret2
  exact ⟨rfl, rfl⟩

set_option maxHeartbeats 400000 in
theorem l2Word_8 (w : World) : Calls Tryz.prog 171 #[.int .i64 8] w fun e w' => e = .returned (.tuple #[.string ⟨#[115, 119, 97, 112]⟩, .int .i64 0]) ∧ w = w' := by
  go_enter Tryz.func171, Tryz.ntmps171
  go_wp2
  go_ret2
  exact ⟨rfl, rfl⟩

set_option maxHeartbeats 400000 in
theorem l2Word_9 (w : World) : Calls Tryz.prog 171 #[.int .i64 9] w fun e w' => e = .returned (.tuple #[.string ⟨#[100, 114, 111, 112]⟩, .int .i64 0]) ∧ w = w' := by
  go_enter Tryz.func171, Tryz.ntmps171
  go_wp2
  go_ret2
  exact ⟨rfl, rfl⟩

set_option maxHeartbeats 400000 in
theorem l2Word_10 (w : World) : Calls Tryz.prog 171 #[.int .i64 10] w fun e w' => e = .returned (.tuple #[.string ⟨#[106, 117, 109, 112]⟩, .int .i64 3]) ∧ w = w' := by
  go_enter Tryz.func171, Tryz.ntmps171
  go_wp2
  go_ret2
  exact ⟨rfl, rfl⟩

set_option maxHeartbeats 400000 in
theorem l2Word_11 (w : World) : Calls Tryz.prog 171 #[.int .i64 11] w fun e w' => e = .returned (.tuple #[.string ⟨#[117, 110, 108, 101, 115, 115]⟩, .int .i64 3]) ∧ w = w' := by
  go_enter Tryz.func171, Tryz.ntmps171
  go_wp2
  go_ret2
  exact ⟨rfl, rfl⟩

set_option maxHeartbeats 400000 in
theorem l2Word_12 (w : World) : Calls Tryz.prog 171 #[.int .i64 12] w fun e w' => e = .returned (.tuple #[.string ⟨#[97, 115, 107]⟩, .int .i64 0]) ∧ w = w' := by
  go_enter Tryz.func171, Tryz.ntmps171
  go_wp2
  go_ret2
  exact ⟨rfl, rfl⟩

set_option maxHeartbeats 400000 in
theorem l2Word_13 (w : World) : Calls Tryz.prog 171 #[.int .i64 13] w fun e w' => e = .returned (.tuple #[.string ⟨#[104, 97, 115]⟩, .int .i64 0]) ∧ w = w' := by
  go_enter Tryz.func171, Tryz.ntmps171
  go_wp2
  go_ret2
  exact ⟨rfl, rfl⟩

set_option maxHeartbeats 400000 in
theorem l2Word_14 (w : World) : Calls Tryz.prog 171 #[.int .i64 14] w fun e w' => e = .returned (.tuple #[.string ⟨#[102, 97, 105, 108]⟩, .int .i64 0]) ∧ w = w' := by
  go_enter Tryz.func171, Tryz.ntmps171
  go_wp2
  go_ret2
  exact ⟨rfl, rfl⟩

set_option maxHeartbeats 400000 in
theorem l2Word_15 (w : World) : Calls Tryz.prog 171 #[.int .i64 15] w fun e w' => e = .returned (.tuple #[.string ⟨#[101, 110, 100]⟩, .int .i64 0]) ∧ w = w' := by
  go_enter Tryz.func171, Tryz.ntmps171
  go_wp2
  go_ret2
  exact ⟨rfl, rfl⟩

set_option maxHeartbeats 400000 in
theorem l2Word_out (op : Int) (w : World) (h : op < 1 ∨ 15 < op) : Calls Tryz.prog 171 #[.int .i64 op] w fun e w' => e = .returned (.tuple #[.string ⟨#[]⟩, .int .i64 0]) ∧ w = w' := by
  rcases h with h | h
  · go_enter Tryz.func171, Tryz.ntmps171
    go_wp2
    go_ret2
    exact ⟨rfl, rfl⟩
  · go_enter Tryz.func171, Tryz.ntmps171
    go_wp2
    go_ret2
    exact ⟨rfl, rfl⟩

theorem l2Word_in (o : Nat) (w : World) (h1 : 1 ≤ o) (h2 : o ≤ 15) : Calls Tryz.prog 171 #[.int .i64 o] w fun e w' => e = .returned (.tuple #[.string (wordB o), .int .i64 (kindOf o)]) ∧ w = w' := by
  rcases (show o = 1 ∨ o = 2 ∨ o = 3 ∨ o = 4 ∨ o = 5 ∨ o = 6 ∨ o = 7 ∨ o = 8 ∨ o = 9 ∨ o = 10 ∨ o = 11 ∨ o = 12 ∨ o = 13 ∨ o = 14 ∨ o = 15 from by omega) with rfl | rfl | rfl | rfl | rfl | rfl | rfl | rfl | rfl | rfl | rfl | rfl | rfl | rfl | rfl
  · exact l2Word_1 w
  · exact l2Word_2 w
  · exact l2Word_3 w
  · exact l2Word_4 w
  · exact l2Word_5 w
  · exact l2Word_6 w
  · exact l2Word_7 w
  · exact l2Word_8 w
  · exact l2Word_9 w
  · exact l2Word_10 w
  · exact l2Word_11 w
  · exact l2Word_12 w
  · exact l2Word_13 w
  · exact l2Word_14 w
  · exact l2Word_15 w

theorem word_nonempty (o : Nat) (h1 : 1 ≤ o) (h2 : o ≤ 15) : (wordB o).toList.isEmpty = false := by
  rw [ByteArray.toList_eq]
  rcases (show o = 1 ∨ o = 2 ∨ o = 3 ∨ o = 4 ∨ o = 5 ∨ o = 6 ∨ o = 7 ∨ o = 8 ∨ o = 9 ∨ o = 10 ∨ o = 11 ∨ o = 12 ∨ o = 13 ∨ o = 14 ∨ o = 15 from by omega) with rfl | rfl | rfl | rfl | rfl | rfl | rfl | rfl | rfl | rfl | rfl | rfl | rfl | rfl | rfl <;> rfl

theorem empty_iff (t : ByteArray) : t.toList.isEmpty = decide (t.size = 0) := by
  rw [ByteArray.toList_eq, Bool.eq_iff_iff]
  simp only [List.isEmpty_iff, decide_eq_true_eq]
  constructor
  · intro h; show t.data.size = 0; rw [← Array.length_toList, h]; rfl
  · intro h; apply List.eq_nil_of_length_eq_zero; rw [Array.length_toList]; exact h

theorem ret_bool {a b : Bool} (h : a = b) : Ending.returned (.bool a) = .returned (.bool b) := by rw [h]

set_option maxHeartbeats 400000 in
theorem l2InsOk_out (i : I3) (w : World) (h : i.op < 1 ∨ 15 < i.op) :
    Calls Tryz.prog 136 #[.agg #[.int .i64 i.op, .string i.text, .int .i64 i.n]] w fun e w' => Below w.heap.size w w' ∧ e = .returned (.bool false) := by
  go_enter Tryz.func136, Tryz.ntmps136
  go_wp2_with (first | (go_at_call 171; refine (l2Word_out _ _ h).mono ?_; rintro e w' ⟨rfl, rfl⟩))
  go_ret
  exact ⟨(Below.refl _ _).alloc (Nat.le_refl _) _, rfl⟩

open Go.RowKit
set_option linter.unusedVariables false

set_option maxHeartbeats 800000 in
theorem l2InsOk_0 (o : Nat) (wd t : ByteArray) (n : Int) (w : World) (Hw : Hid (∀ w, Calls Tryz.prog 171 #[.int .i64 o] w fun e w' => e = .returned (.tuple #[.string wd, .int .i64 0]) ∧ w = w')) (hwe : wd.toList.isEmpty = false) (ht : t.size ≤ 9223372036854775807) :
    Calls Tryz.prog 136 #[.agg #[.int .i64 o, .string t, .int .i64 n]] w fun e w' => Below w.heap.size w w' ∧ e = .returned (.bool (decide ((t.size : Int) ≤ 0) && decide (0 ≤ n) && decide (n ≤ 0))) := by
  have he := empty_iff t
  by_cases hz : t.size = 0
  · have he1 : t.toList.isEmpty = true := by rw [he, decide_eq_true_eq]; exact hz
    clear he
    have hd0 : decide ((2000 : Int) < t.size) = false := by rw [decide_eq_false_iff_not]; omega
    by_cases hn : n = 0
    · have hd : (n == 0) = true := by simpa using hn
      rw [show (decide ((t.size : Int) ≤ 0) && decide (0 ≤ n) && decide (n ≤ 0)) = true from by simp only [Bool.and_eq_true, decide_eq_true_eq]; omega]
      clear hz
      clear hn
      go_enter Tryz.func136, Tryz.ntmps136
      go_wp2_with (first | (go_at_call 171; refine ((Hw.out) _).mono ?_; rintro e w' ⟨rfl, rfl⟩))
      go_ret
      exact ⟨(Below.refl _ _).alloc (Nat.le_refl _) _, rfl⟩
    · have hd : (n == 0) = false := by simpa using hn
      rw [show (decide ((t.size : Int) ≤ 0) && decide (0 ≤ n) && decide (n ≤ 0)) = false from by rw [Bool.eq_false_iff]; simp only [ne_eq, Bool.and_eq_true, decide_eq_true_eq]; omega]
      clear hz
      go_enter Tryz.func136, Tryz.ntmps136
      go_wp2_with (first | (go_at_call 171; refine ((Hw.out) _).mono ?_; rintro e w' ⟨rfl, rfl⟩))
      go_ret
      exact ⟨(Below.refl _ _).alloc (Nat.le_refl _) _, rfl⟩
  · have he1 : t.toList.isEmpty = false := by rw [he, decide_eq_false_iff_not]; exact hz
    clear he
    rw [show (decide ((t.size : Int) ≤ 0) && decide (0 ≤ n) && decide (n ≤ 0)) = false from by rw [Bool.eq_false_iff]; simp only [ne_eq, Bool.and_eq_true, decide_eq_true_eq]; omega]
    clear hz
    go_enter Tryz.func136, Tryz.ntmps136
    go_wp2_with (first | (go_at_call 171; refine ((Hw.out) _).mono ?_; rintro e w' ⟨rfl, rfl⟩))
    go_ret
    exact ⟨(Below.refl _ _).alloc (Nat.le_refl _) _, rfl⟩

set_option maxHeartbeats 800000 in
theorem l2InsOk_1 (o : Nat) (wd t : ByteArray) (n : Int) (w : World) (Hw : Hid (∀ w, Calls Tryz.prog 171 #[.int .i64 o] w fun e w' => e = .returned (.tuple #[.string wd, .int .i64 1]) ∧ w = w')) (hwe : wd.toList.isEmpty = false) (ht : t.size ≤ 9223372036854775807) :
    Calls Tryz.prog 136 #[.agg #[.int .i64 o, .string t, .int .i64 n]] w fun e w' => Below w.heap.size w w' ∧ e = .returned (.bool (decide ((t.size : Int) ≤ 2000) && decide (0 ≤ n) && decide (n ≤ 0))) := by
  by_cases hz : t.size ≤ 2000
  · have hd0 : decide ((2000 : Int) < t.size) = false := by simp; omega
    by_cases hn : n = 0
    · have hd : (n == 0) = true := by simpa using hn
      rw [show (decide ((t.size : Int) ≤ 2000) && decide (0 ≤ n) && decide (n ≤ 0)) = true from by simp only [Bool.and_eq_true, decide_eq_true_eq]; omega]
      clear hn
      go_enter Tryz.func136, Tryz.ntmps136
      go_wp2_with (first | (go_at_call 171; refine ((Hw.out) _).mono ?_; rintro e w' ⟨rfl, rfl⟩))
      go_ret
      exact ⟨(Below.refl _ _).alloc (Nat.le_refl _) _, rfl⟩
    · have hd : (n == 0) = false := by simpa using hn
      rw [show (decide ((t.size : Int) ≤ 2000) && decide (0 ≤ n) && decide (n ≤ 0)) = false from by rw [Bool.eq_false_iff]; simp only [ne_eq, Bool.and_eq_true, decide_eq_true_eq]; omega]
      go_enter Tryz.func136, Tryz.ntmps136
      go_wp2_with (first | (go_at_call 171; refine ((Hw.out) _).mono ?_; rintro e w' ⟨rfl, rfl⟩))
      go_ret
      exact ⟨(Below.refl _ _).alloc (Nat.le_refl _) _, rfl⟩
  · have hd0 : decide ((2000 : Int) < t.size) = true := by simp; omega
    rw [show (decide ((t.size : Int) ≤ 2000) && decide (0 ≤ n) && decide (n ≤ 0)) = false from by rw [Bool.eq_false_iff]; simp only [ne_eq, Bool.and_eq_true, decide_eq_true_eq]; omega]
    go_enter Tryz.func136, Tryz.ntmps136
    go_wp2_with (first | (go_at_call 171; refine ((Hw.out) _).mono ?_; rintro e w' ⟨rfl, rfl⟩))
    go_ret
    exact ⟨(Below.refl _ _).alloc (Nat.le_refl _) _, rfl⟩

set_option maxHeartbeats 800000 in
theorem l2InsOk_2 (o : Nat) (wd t : ByteArray) (n : Int) (w : World) (Hw : Hid (∀ w, Calls Tryz.prog 171 #[.int .i64 o] w fun e w' => e = .returned (.tuple #[.string wd, .int .i64 2]) ∧ w = w')) (hwe : wd.toList.isEmpty = false) (ht : t.size ≤ 9223372036854775807) :
    Calls Tryz.prog 136 #[.agg #[.int .i64 o, .string t, .int .i64 n]] w fun e w' => Below w.heap.size w w' ∧ e = .returned (.bool (decide ((t.size : Int) ≤ 0) && decide (0 ≤ n) && decide (n ≤ 2000))) := by
  have he := empty_iff t
  by_cases hz : t.size = 0
  · have he1 : t.toList.isEmpty = true := by rw [he, decide_eq_true_eq]; exact hz
    clear he
    have hd0 : decide ((2000 : Int) < t.size) = false := by rw [decide_eq_false_iff_not]; omega
    by_cases hn : 0 ≤ n
    · have hd : decide (0 ≤ n) = true := by simpa using hn
      by_cases hm : n ≤ 2000
      · have hd2 : decide (n ≤ 2000) = true := by simpa using hm
        rw [show (decide ((t.size : Int) ≤ 0) && decide (0 ≤ n) && decide (n ≤ 2000)) = true from by simp only [Bool.and_eq_true, decide_eq_true_eq]; omega]
        clear hz
        go_enter Tryz.func136, Tryz.ntmps136
        go_wp2_with (first | (go_at_call 171; refine ((Hw.out) _).mono ?_; rintro e w' ⟨rfl, rfl⟩))
        go_ret
        exact ⟨(Below.refl _ _).alloc (Nat.le_refl _) _, rfl⟩
      · have hd2 : decide (n ≤ 2000) = false := by simpa using hm
        rw [show (decide ((t.size : Int) ≤ 0) && decide (0 ≤ n) && decide (n ≤ 2000)) = false from by rw [Bool.eq_false_iff]; simp only [ne_eq, Bool.and_eq_true, decide_eq_true_eq]; omega]
        clear hz
        go_enter Tryz.func136, Tryz.ntmps136
        go_wp2_with (first | (go_at_call 171; refine ((Hw.out) _).mono ?_; rintro e w' ⟨rfl, rfl⟩))
        go_ret
        exact ⟨(Below.refl _ _).alloc (Nat.le_refl _) _, rfl⟩
    · have hd : decide (0 ≤ n) = false := by simpa using hn
      rw [show (decide ((t.size : Int) ≤ 0) && decide (0 ≤ n) && decide (n ≤ 2000)) = false from by rw [Bool.eq_false_iff]; simp only [ne_eq, Bool.and_eq_true, decide_eq_true_eq]; omega]
      clear hz
      go_enter Tryz.func136, Tryz.ntmps136
      go_wp2_with (first | (go_at_call 171; refine ((Hw.out) _).mono ?_; rintro e w' ⟨rfl, rfl⟩))
      go_ret
      exact ⟨(Below.refl _ _).alloc (Nat.le_refl _) _, rfl⟩
  · have he1 : t.toList.isEmpty = false := by rw [he, decide_eq_false_iff_not]; exact hz
    clear he
    rw [show (decide ((t.size : Int) ≤ 0) && decide (0 ≤ n) && decide (n ≤ 2000)) = false from by rw [Bool.eq_false_iff]; simp only [ne_eq, Bool.and_eq_true, decide_eq_true_eq]; omega]
    clear hz
    go_enter Tryz.func136, Tryz.ntmps136
    go_wp2_with (first | (go_at_call 171; refine ((Hw.out) _).mono ?_; rintro e w' ⟨rfl, rfl⟩))
    go_ret
    exact ⟨(Below.refl _ _).alloc (Nat.le_refl _) _, rfl⟩

set_option maxHeartbeats 800000 in
theorem l2InsOk_3 (o : Nat) (wd t : ByteArray) (n : Int) (w : World) (Hw : Hid (∀ w, Calls Tryz.prog 171 #[.int .i64 o] w fun e w' => e = .returned (.tuple #[.string wd, .int .i64 3]) ∧ w = w')) (hwe : wd.toList.isEmpty = false) (ht : t.size ≤ 9223372036854775807) :
    Calls Tryz.prog 136 #[.agg #[.int .i64 o, .string t, .int .i64 n]] w fun e w' => Below w.heap.size w w' ∧ e = .returned (.bool (decide ((t.size : Int) ≤ 0) && decide (0 ≤ n) && decide (n ≤ 200))) := by
  have he := empty_iff t
  by_cases hz : t.size = 0
  · have he1 : t.toList.isEmpty = true := by rw [he, decide_eq_true_eq]; exact hz
    clear he
    have hd0 : decide ((2000 : Int) < t.size) = false := by rw [decide_eq_false_iff_not]; omega
    by_cases hn : 0 ≤ n
    · have hd : decide (0 ≤ n) = true := by simpa using hn
      by_cases hm : n ≤ 200
      · have hd2 : decide (n ≤ 200) = true := by simpa using hm
        rw [show (decide ((t.size : Int) ≤ 0) && decide (0 ≤ n) && decide (n ≤ 200)) = true from by simp only [Bool.and_eq_true, decide_eq_true_eq]; omega]
        clear hz
        go_enter Tryz.func136, Tryz.ntmps136
        go_wp2_with (first | (go_at_call 171; refine ((Hw.out) _).mono ?_; rintro e w' ⟨rfl, rfl⟩))
        go_ret
        exact ⟨(Below.refl _ _).alloc (Nat.le_refl _) _, rfl⟩
      · have hd2 : decide (n ≤ 200) = false := by simpa using hm
        rw [show (decide ((t.size : Int) ≤ 0) && decide (0 ≤ n) && decide (n ≤ 200)) = false from by rw [Bool.eq_false_iff]; simp only [ne_eq, Bool.and_eq_true, decide_eq_true_eq]; omega]
        clear hz
        go_enter Tryz.func136, Tryz.ntmps136
        go_wp2_with (first | (go_at_call 171; refine ((Hw.out) _).mono ?_; rintro e w' ⟨rfl, rfl⟩))
        go_ret
        exact ⟨(Below.refl _ _).alloc (Nat.le_refl _) _, rfl⟩
    · have hd : decide (0 ≤ n) = false := by simpa using hn
      rw [show (decide ((t.size : Int) ≤ 0) && decide (0 ≤ n) && decide (n ≤ 200)) = false from by rw [Bool.eq_false_iff]; simp only [ne_eq, Bool.and_eq_true, decide_eq_true_eq]; omega]
      clear hz
      go_enter Tryz.func136, Tryz.ntmps136
      go_wp2_with (first | (go_at_call 171; refine ((Hw.out) _).mono ?_; rintro e w' ⟨rfl, rfl⟩))
      go_ret
      exact ⟨(Below.refl _ _).alloc (Nat.le_refl _) _, rfl⟩
  · have he1 : t.toList.isEmpty = false := by rw [he, decide_eq_false_iff_not]; exact hz
    clear he
    rw [show (decide ((t.size : Int) ≤ 0) && decide (0 ≤ n) && decide (n ≤ 200)) = false from by rw [Bool.eq_false_iff]; simp only [ne_eq, Bool.and_eq_true, decide_eq_true_eq]; omega]
    clear hz
    go_enter Tryz.func136, Tryz.ntmps136
    go_wp2_with (first | (go_at_call 171; refine ((Hw.out) _).mono ?_; rintro e w' ⟨rfl, rfl⟩))
    go_ret
    exact ⟨(Below.refl _ _).alloc (Nat.le_refl _) _, rfl⟩

theorem l2InsOk_in (o : Nat) (t : ByteArray) (n : Int) (w : World) (h1 : 1 ≤ o) (h2 : o ≤ 15) (ht : t.size ≤ 9223372036854775807) :
    Calls Tryz.prog 136 #[.agg #[.int .i64 o, .string t, .int .i64 n]] w fun e w' => Below w.heap.size w w' ∧ e = .returned (.bool (decide ((t.size : Int) ≤ mostT (kindOf o)) && decide (0 ≤ n) && decide (n ≤ mostN (kindOf o)))) := by
  have hwe := word_nonempty o h1 h2
  have hw := fun w => l2Word_in o w h1 h2
  rcases kind_cases o with hk | hk | hk | hk
  · rw [hk] at hw ⊢; exact l2InsOk_0 o _ t n w hw hwe ht
  · rw [hk] at hw ⊢; exact l2InsOk_1 o _ t n w hw hwe ht
  · rw [hk] at hw ⊢; exact l2InsOk_2 o _ t n w hw hwe ht
  · rw [hk] at hw ⊢; exact l2InsOk_3 o _ t n w hw hwe ht

open Go.RowKit
set_option linter.unusedVariables false

def progOk (is : List I3) : Bool := decide (1 ≤ is.length) && decide (is.length ≤ 200) && decide (∀ i, i < is.length → insOk (ix is i) = true)

theorem insOk_out {i : I3} (h : i.op < 1 ∨ 15 < i.op) : insOk i = false := by
  rw [Bool.eq_false_iff]
  simp only [insOk, ne_eq, Bool.and_eq_true, decide_eq_true_eq]
  omega
theorem insOk_in (o : Nat) (t : ByteArray) (n : Int) (h1 : 1 ≤ o) (h2 : o ≤ 15) : insOk ⟨o, t, n⟩ = (decide ((t.size : Int) ≤ mostT (kindOf o)) && decide (0 ≤ n) && decide (n ≤ mostN (kindOf o))) := by
  have d1 : decide (1 ≤ (o : Int)) = true := by simp; omega
  have d2 : decide ((o : Int) ≤ 15) = true := by simp; omega
  simp only [insOk, d1, d2, Bool.true_and]

theorem validIns_any (i : I3) (w : World) (hT : Tab w) (ht : i.text.size ≤ 9223372036854775807) :
    Calls Tryz.prog 157 #[.agg #[.int .i64 i.op, .string i.text, .int .i64 i.n]] w fun e w' => Below w.heap.size w w' ∧ e = .returned (.bool (insOk i)) := by
  by_cases h : i.op < 1 ∨ 15 < i.op
  · rw [insOk_out h]; exact validIns_out i w h
  · obtain ⟨op, t, n⟩ := i
    obtain ⟨o, rfl⟩ := Int.eq_ofNat_of_zero_le (show 0 ≤ op by simp at h; omega)
    have h1 : 1 ≤ o := by simp at h; omega
    have h2 : o ≤ 15 := by simp at h; omega
    rw [insOk_in o t n h1 h2]
    exact validIns_in o t n w _ h1 h2 ht (hT o (by omega)).2.1

theorem l2InsOk_any (i : I3) (w : World) (ht : i.text.size ≤ 9223372036854775807) :
    Calls Tryz.prog 136 #[.agg #[.int .i64 i.op, .string i.text, .int .i64 i.n]] w fun e w' => Below w.heap.size w w' ∧ e = .returned (.bool (insOk i)) := by
  by_cases h : i.op < 1 ∨ 15 < i.op
  · rw [insOk_out h]; exact l2InsOk_out i w h
  · obtain ⟨op, t, n⟩ := i
    obtain ⟨o, rfl⟩ := Int.eq_ofNat_of_zero_le (show 0 ≤ op by simp at h; omega)
    have h1 : 1 ≤ o := by simp at h; omega
    have h2 : o ≤ 15 := by simp at h; omega
    rw [insOk_in o t n h1 h2]
    exact l2InsOk_in o t n w h1 h2 ht

theorem progOk_bad {is : List I3} {k : Nat} (hk : k < is.length) (h : insOk (ix is k) = false) : progOk is = false := by
  rw [Bool.eq_false_iff]
  simp only [progOk, ne_eq, Bool.and_eq_true, decide_eq_true_eq]
  intro hh
  have := hh.2 k hk
  rw [h] at this; cases this
theorem progOk_good {is : List I3} (h : ∀ i, i < is.length → insOk (ix is i) = true) : progOk is = (decide (1 ≤ is.length) && decide (is.length ≤ 200)) := by
  simp only [progOk, decide_eq_true h, Bool.and_true]

set_option maxHeartbeats 800000 in
theorem specValid_any (a : Option Addr) (cap : Nat) (is : List I3) (w : World) (hc : Row3 w a is) (hl : is.length ≤ 1048576) (hs : ∀ i, (ix is i).text.size ≤ 9223372036854775807) :
    Calls Tryz.prog 87 #[.agg #[.slice a is.length cap]] w fun e w' => Below w.heap.size w w' ∧ e = .returned (.bool (progOk is)) := by
  have hb0 : Below w.heap.size w (w.alloc (.cells #[.slice a is.length cap] 60)) := (Below.refl _ _).alloc (Nat.le_refl _) _
  go_enter Tryz.func87, Tryz.ntmps87
  go_wp2
  go_loopw [3] (fun i wr => ∃ k : Nat, k ≤ is.length ∧ i = .int .i64 k ∧ (∀ i, i < k → insOk (ix is i) = true) ∧ Below w.heap.size w wr ∧ wr.cell? ⟨w.heap.size, 0, none⟩ = some (.slice a is.length cap)) (fun i _ => is.length - (intOf i).toNat)
  case atStart => exact ⟨0, Nat.zero_le _, rfl, fun i hi => by omega, hb0, by simp [go_sem]⟩
  case round =>
    obtain ⟨k, hk, rfl, hok, hbr, hcs⟩ := hrel
    have HK : Hid (∀ i, i < k → insOk (ix is i) = true) := hok
    clear hok
    by_cases hlt : k < is.length
    · obtain ⟨b, off, rfl, c1, c2, c3⟩ := (hc.below hbr) k hlt
      have hsk := hs k
      obtain ⟨i, hi⟩ : ∃ i, i = ix is k := ⟨_, rfl⟩
      rw [← hi] at c1 c2 c3 hsk
      have HI : Hid (i = ix is k) := hi
      clear hi hs hc hb0
      go_wp2_with fail
      refine (l2InsOk_any i _ hsk).mono ?_
      rintro e w1 ⟨hb1, rfl⟩
      have hbw : Below w.heap.size w w1 := hbr.trans (hb1.mono hbr.size)
      have hcs1 := cell_below hb1 hcs
      by_cases hb : insOk i = true
      · go_wp2
        go_roundw
        case rel =>
          refine ⟨k + 1, by omega, by go_num, fun i' hi' => ?_, hbw, hcs1⟩
          rcases Nat.lt_or_ge i' k with h | h
          · exact HK.out i' h
          · obtain rfl : i' = k := by omega
            rw [← HI.out]; exact hb
        case measure => simp [intOf]; omega
      · have hb' : insOk i = false := by simpa using hb
        have hf : progOk is = false := progOk_bad hlt (by rw [← HI.out]; exact hb')
        have HF : Hid (progOk is = false) := hf
        clear hf hb
        go_wp2
        go_ret
        exact ⟨hbw, by rw [HF.out]; rfl⟩
    · have hall : ∀ i, i < is.length → insOk (ix is i) = true := fun i hi => HK.out i (by omega)
      have HG : Hid (progOk is = (decide (1 ≤ is.length) && decide (is.length ≤ 200))) := progOk_good hall
      clear hall hs
      by_cases h1 : 1 ≤ is.length
      · have d1 : decide ((1 : Int) ≤ is.length) = true := by simp; omega
        have d1' : decide (1 ≤ is.length) = true := by simpa using h1
        go_wp2
        go_ret
        exact ⟨hbr, by rw [HG.out, d1', Bool.true_and]; show Ending.returned (.bool (decide ((is.length : Int) ≤ 200))) = _; exact congrArg (fun b => Ending.returned (.bool b)) (by rw [Bool.eq_iff_iff, decide_eq_true_eq, decide_eq_true_eq]; omega)⟩
      · have d1 : decide ((1 : Int) ≤ is.length) = false := by simp; omega
        have d1' : decide (1 ≤ is.length) = false := by rw [decide_eq_false_iff_not]; exact h1
        go_wp2
        go_ret
        exact ⟨hbr, by rw [HG.out, d1', Bool.false_and]; rfl⟩

theorem progOk_len {is : List I3} (h : is.length < 1 ∨ 200 < is.length) : progOk is = false := by
  rw [Bool.eq_false_iff]
  simp only [progOk, ne_eq, Bool.and_eq_true, decide_eq_true_eq]
  omega

set_option maxHeartbeats 800000 in
theorem implValid_any (a : Option Addr) (cap : Nat) (is : List I3) (w : World) (hT : Tab w) (hc : Row3 w a is) (hl : is.length ≤ 1048576) (hs : ∀ i, (ix is i).text.size ≤ 9223372036854775807) :
    Calls Tryz.prog 112 #[.agg #[.slice a is.length cap]] w fun e w' => Below w.heap.size w w' ∧ e = .returned (.bool (progOk is)) := by
  have hb0 : Below w.heap.size w (w.alloc (.cells #[.slice a is.length cap] 60)) := (Below.refl _ _).alloc (Nat.le_refl _) _
  by_cases hlen : is.length < 1 ∨ 200 < is.length
  · rw [progOk_len hlen]
    by_cases h1 : is.length < 1
    · have d1 : decide ((is.length : Int) < 1) = true := by simp; omega
      go_enter Tryz.func112, Tryz.ntmps112
      go_wp2
      go_ret
      exact ⟨hb0, rfl⟩
    · have d1 : decide ((is.length : Int) < 1) = false := by simp; omega
      have d2 : decide (200 < (is.length : Int)) = true := by simp; omega
      go_enter Tryz.func112, Tryz.ntmps112
      go_wp2
      go_ret
      exact ⟨hb0, rfl⟩
  · have d1 : decide ((is.length : Int) < 1) = false := by simp; omega
    have d2 : decide (200 < (is.length : Int)) = false := by simp; omega
    have l1 : 1 ≤ is.length := by omega
    have l2 : is.length ≤ 200 := by omega
    clear hlen
    go_enter Tryz.func112, Tryz.ntmps112
    go_wp2
    go_loopw [18] (fun i wr => ∃ k : Nat, k ≤ is.length ∧ i = .int .i64 k ∧ (∀ i, i < k → insOk (ix is i) = true) ∧ Below w.heap.size w wr) (fun i _ => is.length - (intOf i).toNat)
    case atStart => exact ⟨0, Nat.zero_le _, rfl, fun i hi => by omega, hb0⟩
    case round =>
      obtain ⟨k, hk, rfl, hok, hbr⟩ := hrel
      have HK : Hid (∀ i, i < k → insOk (ix is i) = true) := hok
      clear hok
      by_cases hlt : k < is.length
      · obtain ⟨b, off, rfl, c1, c2, c3⟩ := (hc.below hbr) k hlt
        have hsk := hs k
        obtain ⟨i, hi⟩ : ∃ i, i = ix is k := ⟨_, rfl⟩
        rw [← hi] at c1 c2 c3 hsk
        have HI : Hid (i = ix is k) := hi
        have hTr := hT.below hbr
        have HTr : Hid (Tab wr) := hTr
        clear hi hs hc hb0 hT hTr
        go_wp2_with fail
        have hba : Below wr.heap.size wr (wr.alloc (.cells #[.int .i64 i.op, .string i.text, .int .i64 i.n] 190)) := (Below.refl _ _).alloc (Nat.le_refl _) _
        refine (validIns_any i _ (HTr.out.below hba) hsk).mono ?_
        rintro e w1 ⟨hb1, rfl⟩
        have hbw : Below w.heap.size w w1 := (hbr.trans (hba.mono hbr.size)).trans (hb1.mono (by simp; have := hbr.size; omega))
        clear hba hb1
        by_cases hb : insOk i = true
        · go_wp2
          go_roundw
          case rel =>
            refine ⟨k + 1, by omega, by go_num, fun i' hi' => ?_, hbw⟩
            rcases Nat.lt_or_ge i' k with h | h
            · exact HK.out i' h
            · obtain rfl : i' = k := by omega
              rw [← HI.out]; exact hb
          case measure => simp [intOf]; omega
        · have hb' : insOk i = false := by simpa using hb
          have HF : Hid (progOk is = false) := progOk_bad hlt (by rw [← HI.out]; exact hb')
          clear hb
          go_wp2
          go_ret
          exact ⟨hbw, by rw [HF.out]; rfl⟩
      · have hall : ∀ i, i < is.length → insOk (ix is i) = true := fun i hi => HK.out i (by omega)
        have HG : Hid (progOk is = true) := by
          show progOk is = true
          rw [progOk_good hall, decide_eq_true l1, decide_eq_true l2]; rfl
        clear hall hs
        go_wp2
        go_ret
        exact ⟨hbr, by rw [HG.out]; rfl⟩

end Go.Proofs.YtmpgajfccaoboaeGreatDoor
