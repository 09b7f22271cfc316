import Derived.Test.YtjdjhenijihpfaaGreatDoorSpSize
import Derived.Deep.QuietTactic
import Derived.BigQuiet
namespace Go.Proofs.YtjdjhenijihpfaaGreatDoor
open Go.RowKit
set_option linter.unusedVariables false

def kindOf (op : Int) : Int := if op = 1 then 1 else if op = 3 ∨ op = 4 ∨ op = 5 then 2 else if op = 10 ∨ op = 11 then 3 else 0
def mostT (k : Int) : Int := if k = 1 then 2000 else 0
def mostN (k : Int) : Int := if k = 2 then 2000 else if k = 3 then 200 else 0
def insOk (i : I3) : Bool := decide (1 ≤ i.op) && decide (i.op ≤ 15) && decide ((i.text.size : Int) ≤ mostT (kindOf i.op)) && decide (0 ≤ i.n) && decide (i.n ≤ mostN (kindOf i.op))
def words : List (List UInt8) := [[], [108, 105, 116], [99, 97, 116], [99, 117, 116], [114, 101, 115, 116], [119, 111, 114, 100], [115, 97, 109, 101], [100, 117, 112], [115, 119, 97, 112], [100, 114, 111, 112], [106, 117, 109, 112], [117, 110, 108, 101, 115, 115], [97, 115, 107], [104, 97, 115], [102, 97, 105, 108], [101, 110, 100]]
def takesOf : List Int := [0, 0, 2, 1, 1, 1, 2, 1, 2, 1, 0, 1, 1, 1, 1, 1]
def wordB (o : Nat) : ByteArray := ⟨(words.getD o []).toArray⟩

/-- The table of instructions, as start-up lays it. -/
def Tab (w : World) : Prop := ∀ o : Nat, o < 16 → w.cell? ⟨0, o * 3, none⟩ = some (.string (wordB o)) ∧ w.cell? ⟨0, o * 3 + 1, none⟩ = some (.int .i64 (kindOf o)) ∧ w.cell? ⟨0, o * 3 + 2, none⟩ = some (.int .i64 (takesOf.getD o 0))
theorem Tab.below {w w' : World} (h : Tab w) (hb : Below w.heap.size w w') : Tab w' := fun o ho => ⟨cell_below hb (h o ho).1, cell_below hb (h o ho).2.1, cell_below hb (h o ho).2.2⟩

theorem kind_cases (o : Int) : kindOf o = 0 ∨ kindOf o = 1 ∨ kindOf o = 2 ∨ kindOf o = 3 := by
  unfold kindOf
  split
  · simp
  · split
    · simp
    · split <;> simp

set_option maxHeartbeats 400000 in
theorem mostText_any (k : Int) (w : World) : Calls Tryz.prog 87 #[.int .i64 k] w fun e w' => e = .returned (.int .i64 (mostT k)) ∧ w' = w := by
  by_cases h : k = 1
  · subst h
    go_enter Tryz.func87, Tryz.ntmps87
    go_wp2
    go_ret
    exact ⟨rfl, rfl⟩
  · have h1 : (k == 1) = false := by simpa using h
    have e : mostT k = 0 := by simp [mostT, h]
    rw [e]
    clear h e
    go_enter Tryz.func87, Tryz.ntmps87
    go_wp2
    go_ret
    exact ⟨rfl, rfl⟩

set_option maxHeartbeats 400000 in
theorem mostNumber_any (k : Int) (w : World) : Calls Tryz.prog 88 #[.int .i64 k] w fun e w' => e = .returned (.int .i64 (mostN k)) ∧ w' = w := by
  by_cases h : k = 2
  · subst h
    go_enter Tryz.func88, Tryz.ntmps88
    go_wp2
    go_ret
    exact ⟨rfl, rfl⟩
  · by_cases h' : k = 3
    · subst h'
      go_enter Tryz.func88, Tryz.ntmps88
      go_wp2
      go_ret
      exact ⟨rfl, rfl⟩
    · have h1 : (k == 2) = false := by simpa using h
      have h2 : (k == 3) = false := by simpa using h'
      have e : mostN k = 0 := by simp [mostN, h, h']
      rw [e]
      clear h h' e
      go_enter Tryz.func88, Tryz.ntmps88
      go_wp2
      go_ret
      exact ⟨rfl, rfl⟩

set_option maxHeartbeats 400000 in
theorem validIns_out (i : I3) (w : World) (h : i.op < 1 ∨ 15 < i.op) :
    Calls Tryz.prog 69 #[.agg #[.int .i64 i.op, .string i.text, .int .i64 i.n]] w fun e w' => Below w.heap.size w w' ∧ e = .returned (.bool false) := by
  rcases h with h | h
  · have h1 : decide (i.op < 1) = true := by simpa using h
    go_enter Tryz.func69, Tryz.ntmps69
    go_wp2
    go_ret
    exact ⟨(Below.refl _ _).alloc (Nat.le_refl _) _, rfl⟩
  · have h1 : decide (i.op < 1) = false := by simp; omega
    have h2 : decide (15 < i.op) = true := by simpa using h
    go_enter Tryz.func69, Tryz.ntmps69
    go_wp2
    go_ret
    exact ⟨(Below.refl _ _).alloc (Nat.le_refl _) _, rfl⟩

set_option maxHeartbeats 400000 in
theorem validIns_in (o : Nat) (t : ByteArray) (n : Int) (w : World) (k : Int) (h1 : 1 ≤ o) (h2 : o ≤ 15) (ht : t.size ≤ 9223372036854775807) (hk : w.cell? ⟨0, o * 3 + 1, none⟩ = some (.int .i64 k)) :
    Calls Tryz.prog 69 #[.agg #[.int .i64 o, .string t, .int .i64 n]] w fun e w' => Below w.heap.size w w' ∧ e = .returned (.bool (decide ((t.size : Int) ≤ mostT k) && decide (0 ≤ n) && decide (n ≤ mostN k))) := by
  have d1 : decide ((o : Int) < 1) = false := by simp; omega
  have d2 : decide (15 < (o : Int)) = false := by simp; omega
  have h0 : 0 < w.heap.size := World.block_lt_of_cell? w _ hk
  have hka : ∀ x, (w.alloc x).cell? ⟨0, o * 3 + 1, none⟩ = some (.int .i64 k) := fun x => by rw [World.cell?_alloc_lt _ _ _ h0]; exact hk
  by_cases c1 : (t.size : Int) ≤ mostT k
  · have e1 : decide ((t.size : Int) ≤ mostT k) = true := by simpa using c1
    by_cases c2 : 0 ≤ n
    · have e2 : decide (0 ≤ n) = true := by simpa using c2
      go_enter Tryz.func69, Tryz.ntmps69
      go_wp2_with fail
      go_quiet (first | (go_at_call 87; exact Calls.quiet_of_same (mostText_any _ _)) | (go_at_call 88; exact Calls.quiet_of_same (mostNumber_any _ _)))
      go_wp2
      go_ret
      exact ⟨below_drewN ((Below.refl _ _).alloc (Nat.le_refl _) _) _, by simp [e1, e2]; try rfl⟩
    · have e2 : decide (0 ≤ n) = false := by simpa using c2
      go_enter Tryz.func69, Tryz.ntmps69
      go_wp2_with fail
      go_quiet (first | (go_at_call 87; exact Calls.quiet_of_same (mostText_any _ _)) | (go_at_call 88; exact Calls.quiet_of_same (mostNumber_any _ _)))
      go_wp2
      go_ret
      exact ⟨below_drewN ((Below.refl _ _).alloc (Nat.le_refl _) _) _, by simp [e1, e2]; try rfl⟩
  · have e1 : decide ((t.size : Int) ≤ mostT k) = false := by simpa using c1
    go_enter Tryz.func69, Tryz.ntmps69
    go_wp2_with fail
    go_quiet (first | (go_at_call 87; exact Calls.quiet_of_same (mostText_any _ _)) | (go_at_call 88; exact Calls.quiet_of_same (mostNumber_any _ _)))
    go_wp2
    go_ret
    exact ⟨below_drewN ((Below.refl _ _).alloc (Nat.le_refl _) _) _, by simp [e1]; try rfl⟩

set_option maxHeartbeats 400000 in
theorem l2Word_1 (w : World) : Calls Tryz.prog 90 #[.int .i64 1] w fun e w' => e = .returned (.tuple #[.string ⟨#[108, 105, 116]⟩, .int .i64 1]) ∧ w = w' := by
  go_enter Tryz.func90, Tryz.ntmps90
  go_wp2
  go_ret2
  exact ⟨rfl, rfl⟩

set_option maxHeartbeats 400000 in
theorem l2Word_2 (w : World) : Calls Tryz.prog 90 #[.int .i64 2] w fun e w' => e = .returned (.tuple #[.string ⟨#[99, 97, 116]⟩, .int .i64 0]) ∧ w = w' := by
  go_enter Tryz.func90, Tryz.ntmps90
  go_wp2
  go_ret2
  exact ⟨rfl, rfl⟩

set_option maxHeartbeats 400000 in
theorem l2Word_3 (w : World) : Calls Tryz.prog 90 #[.int .i64 3] w fun e w' => e = .returned (.tuple #[.string ⟨#[99, 117, 116]⟩, .int .i64 2]) ∧ w = w' := by
  go_enter Tryz.func90, Tryz.ntmps90
  go_wp2
  go_ret2
  exact ⟨rfl, rfl⟩

set_option maxHeartbeats 400000 in
theorem l2Word_4 (w : World) : Calls Tryz.prog 90 #[.int .i64 4] w fun e w' => e = .returned (.tuple #[.string ⟨#[114, 101, 115, 116]⟩, .int .i64 2]) ∧ w = w' := by
  go_enter Tryz.func90, Tryz.ntmps90
  go_wp2
  go_ret2
  exact ⟨rfl, rfl⟩

set_option maxHeartbeats 400000 in
theorem l2Word_5 (w : World) : Calls Tryz.prog 90 #[.int .i64 5] w fun e w' => e = .returned (.tuple #[.string ⟨#[119, 111, 114, 100]⟩, .int .i64 2]) ∧ w = w' := by
  go_enter Tryz.func90, Tryz.ntmps90
  go_wp2
  go_ret2
  exact ⟨rfl, rfl⟩

set_option maxHeartbeats 400000 in
theorem l2Word_6 (w : World) : Calls Tryz.prog 90 #[.int .i64 6] w fun e w' => e = .returned (.tuple #[.string ⟨#[115, 97, 109, 101]⟩, .int .i64 0]) ∧ w = w' := by
  go_enter Tryz.func90, Tryz.ntmps90
  go_wp2
  go_ret2
  exact ⟨rfl, rfl⟩

set_option maxHeartbeats 400000 in
theorem l2Word_7 (w : World) : Calls Tryz.prog 90 #[.int .i64 7] w fun e w' => e = .returned (.tuple #[.string ⟨#[100, 117, 112]⟩, .int .i64 0]) ∧ w = w' := by
  go_enter Tryz.func90, Tryz.ntmps90
  go_wp2
  go_ret2
  exact ⟨rfl, rfl⟩

set_option maxHeartbeats 400000 in
theorem l2Word_8 (w : World) : Calls Tryz.prog 90 #[.int .i64 8] w fun e w' => e = .returned (.tuple #[.string ⟨#[115, 119, 97, 112]⟩, .int .i64 0]) ∧ w = w' := by
  go_enter Tryz.func90, Tryz.ntmps90
  go_wp2
  go_ret2
  exact ⟨rfl, rfl⟩

set_option maxHeartbeats 400000 in
theorem l2Word_9 (w : World) : Calls Tryz.prog 90 #[.int .i64 9] w fun e w' => e = .returned (.tuple #[.string ⟨#[100, 114, 111, 112]⟩, .int .i64 0]) ∧ w = w' := by
  go_enter Tryz.func90, Tryz.ntmps90
  go_wp2
  go_ret2
  exact ⟨rfl, rfl⟩

set_option maxHeartbeats 400000 in
theorem l2Word_10 (w : World) : Calls Tryz.prog 90 #[.int .i64 10] w fun e w' => e = .returned (.tuple #[.string ⟨#[106, 117, 109, 112]⟩, .int .i64 3]) ∧ w = w' := by
  go_enter Tryz.func90, Tryz.ntmps90
  go_wp2
  go_ret2
  exact ⟨rfl, rfl⟩

set_option maxHeartbeats 400000 in
theorem l2Word_11 (w : World) : Calls Tryz.prog 90 #[.int .i64 11] w fun e w' => e = .returned (.tuple #[.string ⟨#[117, 110, 108, 101, 115, 115]⟩, .int .i64 3]) ∧ w = w' := by
  go_enter Tryz.func90, Tryz.ntmps90
  go_wp2
  go_ret2
  exact ⟨rfl, rfl⟩

set_option maxHeartbeats 400000 in
theorem l2Word_12 (w : World) : Calls Tryz.prog 90 #[.int .i64 12] w fun e w' => e = .returned (.tuple #[.string ⟨#[97, 115, 107]⟩, .int .i64 0]) ∧ w = w' := by
  go_enter Tryz.func90, Tryz.ntmps90
  go_wp2
  go_ret2
  exact ⟨rfl, rfl⟩

set_option maxHeartbeats 400000 in
theorem l2Word_13 (w : World) : Calls Tryz.prog 90 #[.int .i64 13] w fun e w' => e = .returned (.tuple #[.string ⟨#[104, 97, 115]⟩, .int .i64 0]) ∧ w = w' := by
  go_enter Tryz.func90, Tryz.ntmps90
  go_wp2
  go_ret2
  exact ⟨rfl, rfl⟩

set_option maxHeartbeats 400000 in
theorem l2Word_14 (w : World) : Calls Tryz.prog 90 #[.int .i64 14] w fun e w' => e = .returned (.tuple #[.string ⟨#[102, 97, 105, 108]⟩, .int .i64 0]) ∧ w = w' := by
  go_enter Tryz.func90, Tryz.ntmps90
  go_wp2
  go_ret2
  exact ⟨rfl, rfl⟩

set_option maxHeartbeats 400000 in
theorem l2Word_15 (w : World) : Calls Tryz.prog 90 #[.int .i64 15] w fun e w' => e = .returned (.tuple #[.string ⟨#[101, 110, 100]⟩, .int .i64 0]) ∧ w = w' := by
  go_enter Tryz.func90, Tryz.ntmps90
  go_wp2
  go_ret2
  exact ⟨rfl, rfl⟩

set_option maxHeartbeats 400000 in
theorem l2Word_out (op : Int) (w : World) (h : op < 1 ∨ 15 < op) : Calls Tryz.prog 90 #[.int .i64 op] w fun e w' => e = .returned (.tuple #[.string ⟨#[]⟩, .int .i64 0]) ∧ w = w' := by
  rcases h with h | h
  · go_enter Tryz.func90, Tryz.ntmps90
    go_wp2
    go_ret2
    exact ⟨rfl, rfl⟩
  · go_enter Tryz.func90, Tryz.ntmps90
    go_wp2
    go_ret2
    exact ⟨rfl, rfl⟩

theorem l2Word_in (o : Nat) (w : World) (h1 : 1 ≤ o) (h2 : o ≤ 15) : Calls Tryz.prog 90 #[.int .i64 o] w fun e w' => e = .returned (.tuple #[.string (wordB o), .int .i64 (kindOf o)]) ∧ w = w' := by
  rcases (show o = 1 ∨ o = 2 ∨ o = 3 ∨ o = 4 ∨ o = 5 ∨ o = 6 ∨ o = 7 ∨ o = 8 ∨ o = 9 ∨ o = 10 ∨ o = 11 ∨ o = 12 ∨ o = 13 ∨ o = 14 ∨ o = 15 from by omega) with rfl | rfl | rfl | rfl | rfl | rfl | rfl | rfl | rfl | rfl | rfl | rfl | rfl | rfl | rfl
  · exact l2Word_1 w
  · exact l2Word_2 w
  · exact l2Word_3 w
  · exact l2Word_4 w
  · exact l2Word_5 w
  · exact l2Word_6 w
  · exact l2Word_7 w
  · exact l2Word_8 w
  · exact l2Word_9 w
  · exact l2Word_10 w
  · exact l2Word_11 w
  · exact l2Word_12 w
  · exact l2Word_13 w
  · exact l2Word_14 w
  · exact l2Word_15 w

theorem word_nonempty (o : Nat) (h1 : 1 ≤ o) (h2 : o ≤ 15) : (wordB o).toList.isEmpty = false := by
  rw [ByteArray.toList_eq]
  rcases (show o = 1 ∨ o = 2 ∨ o = 3 ∨ o = 4 ∨ o = 5 ∨ o = 6 ∨ o = 7 ∨ o = 8 ∨ o = 9 ∨ o = 10 ∨ o = 11 ∨ o = 12 ∨ o = 13 ∨ o = 14 ∨ o = 15 from by omega) with rfl | rfl | rfl | rfl | rfl | rfl | rfl | rfl | rfl | rfl | rfl | rfl | rfl | rfl | rfl <;> rfl

theorem empty_iff (t : ByteArray) : t.toList.isEmpty = decide (t.size = 0) := by
  rw [ByteArray.toList_eq, Bool.eq_iff_iff]
  simp only [List.isEmpty_iff, decide_eq_true_eq]
  constructor
  · intro h; show t.data.size = 0; rw [← Array.length_toList, h]; rfl
  · intro h; apply List.eq_nil_of_length_eq_zero; rw [Array.length_toList]; exact h

theorem ret_bool {a b : Bool} (h : a = b) : Ending.returned (.bool a) = .returned (.bool b) := by rw [h]

set_option maxHeartbeats 400000 in
theorem l2InsOk_out (i : I3) (w : World) (h : i.op < 1 ∨ 15 < i.op) :
    Calls Tryz.prog 75 #[.agg #[.int .i64 i.op, .string i.text, .int .i64 i.n]] w fun e w' => Below w.heap.size w w' ∧ e = .returned (.bool false) := by
  go_enter Tryz.func75, Tryz.ntmps75
  go_wp2_with (first | (go_at_call 90; refine (l2Word_out _ _ h).mono ?_; rintro e w' ⟨rfl, rfl⟩))
  go_ret
  exact ⟨(Below.refl _ _).alloc (Nat.le_refl _) _, rfl⟩

end Go.Proofs.YtjdjhenijihpfaaGreatDoor
