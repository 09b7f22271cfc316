import Derived.Test.YtllhbgmadiclcaaGreatDoorBytes
import Derived.Test.YtllhbgmadiclcaaGreatDoorCopy
import Derived.Deep.QuietTactic
import Derived.BigQuiet
namespace Go.Proofs.YtllhbgmadiclcaaGreatDoor
open Go.RowKit

theorem slice8 (n : Nat) (h2 : n ≤ 8) (a : Addr) (w : World) : (Instr.sliceAt 113 (.pointer (some a)) none (some (.int .i64 n)) none).run Tryz.prog w = .ok (.slice (some a) n 8) w := by
  have hl : Tryz.prog.arrayLen 113 = 8 := by kernel_rfl
  rw [run_sliceAt_array_h w 113 a (by kernel_rfl) .i64 n (by omega) (by rw [hl]; omega), hl]
  simp [go_sem]

theorem sumBytes_lit (s : ByteArray) (n : Nat) (V : Int) (w : World) (HV : Hid (hash s.data.toList = V)) (hs : s.size ≤ 1048576) (h1 : 1 ≤ n) (h2 : n ≤ 8) :
    Calls Tryz.prog 69 #[.string s, .int .i64 n] w fun e w' => e = .returned (.agg #[.int .u8 (cell8 V n 0), .int .u8 (cell8 V n 1), .int .u8 (cell8 V n 2), .int .u8 (cell8 V n 3), .int .u8 (cell8 V n 4), .int .u8 (cell8 V n 5), .int .u8 (cell8 V n 6), .int .u8 (cell8 V n 7)]) ∧
      (w.alloc (.cells #[.int .u8 (cell8 V n 0), .int .u8 (cell8 V n 1), .int .u8 (cell8 V n 2), .int .u8 (cell8 V n 3), .int .u8 (cell8 V n 4), .int .u8 (cell8 V n 5), .int .u8 (cell8 V n 6), .int .u8 (cell8 V n 7)] 113)).alloc (.cells #[.int .u8 (cell8 V n 0), .int .u8 (cell8 V n 1), .int .u8 (cell8 V n 2), .int .u8 (cell8 V n 3), .int .u8 (cell8 V n 4), .int .u8 (cell8 V n 5), .int .u8 (cell8 V n 6), .int .u8 (cell8 V n 7)] 113) = w' := by
  have h := sumBytes_any s n w hs h1 h2
  rw [HV.out] at h
  exact h

set_option maxHeartbeats 400000 in
theorem implSum_yes (s : ByteArray) (n : Nat) (w : World) (hs : s.size ≤ 1048576) (h1 : 1 ≤ n) (h2 : n ≤ 8) :
    Calls Tryz.prog 43 #[.string s, .int .i64 n] w fun e w' => e = .returned (.string ⟨(digs (hash s.data.toList) n).toArray⟩) ∧ Below w.heap.size w w' := by
  obtain ⟨hV1, hV2⟩ := hash_bd s.data.toList
  generalize hV : hash s.data.toList = V at *
  have HV : Hid (hash s.data.toList = V) := hV
  clear hV
  have hcv : (convert 87 9 (.slice (some ⟨w.heap.size + 1 + 1, 0, none⟩) n 8)).run Tryz.prog (((w.alloc (.cells (cells8 V n) 113)).alloc (.cells (cells8 V n) 113)).alloc (.cells (cells8 V n) 113)) = .ok (.string ⟨(digs V n).toArray⟩) (((w.alloc (.cells (cells8 V n) 113)).alloc (.cells (cells8 V n) 113)).alloc (.cells (cells8 V n) 113)) := by
    have := run_convert_bytes_back (P := Tryz.prog) (((w.alloc (.cells (cells8 V n) 113)).alloc (.cells (cells8 V n) 113)).alloc (.cells (cells8 V n) 113)) 87 9 5 ⟨w.heap.size + 1 + 1, 0, none⟩ 8 (digs V n) Tryz.underlying87 Tryz.underlying5 Tryz.underlying9 (fun t ht => by
      rw [← cell8_digs V hV1 n t ht]
      have hn : t < n := by simpa [digs_length] using ht
      rcases (show t = 0 ∨ t = 1 ∨ t = 2 ∨ t = 3 ∨ t = 4 ∨ t = 5 ∨ t = 6 ∨ t = 7 from by omega) with rfl | rfl | rfl | rfl | rfl | rfl | rfl | rfl <;> simp [cells8, Addr.add, go_sem])
    rwa [digs_length] at this
  simp only [cells8] at hcv
  have hsl := slice8 n h2
  go_enter Tryz.func43, Tryz.ntmps43
  go_wp2_with (first | (go_at_call 63; refine (validWidth_yes _ _ (by omega) (by omega)).mono ?_; rintro e w' ⟨rfl, rfl⟩) | (go_at_call 69; refine (sumBytes_lit s n V _ HV hs h1 h2).mono ?_; rintro e w' ⟨rfl, rfl⟩))
  go_ret
  exact ⟨rfl, (((Below.refl _ _).alloc (Nat.le_refl _) _).alloc (by simp) _).alloc (by simp; omega) _⟩

set_option maxHeartbeats 400000 in
theorem implSum_no (s : ByteArray) (n : Int) (w : World) (h : n < 1 ∨ 8 < n) :
    Calls Tryz.prog 43 #[.string s, .int .i64 n] w fun e w' => e = .returned (.string ⟨#[]⟩) ∧ w = w' := by
  go_enter Tryz.func43, Tryz.ntmps43
  go_wp2_with (first | (go_at_call 63; refine (validWidth_no _ _ h).mono ?_; rintro e w' ⟨rfl, rfl⟩))
  go_ret
  exact ⟨rfl, rfl⟩

set_option maxHeartbeats 400000 in
theorem specSum_no (s : ByteArray) (n : Int) (w : World) (h : n < 1 ∨ 8 < n) :
    Calls Tryz.prog 17 #[.string s, .int .i64 n] w fun e w' => e = .returned (.string ⟨#[]⟩) ∧ w = w' := by
  go_enter Tryz.func17, Tryz.ntmps17
  go_wp2_with (first | (go_at_call 36; refine (l1Width_no _ _ h).mono ?_; rintro e w' ⟨rfl, rfl⟩))
  go_ret
  exact ⟨rfl, rfl⟩

end Go.Proofs.YtllhbgmadiclcaaGreatDoor
namespace Go.Proofs.YtllhbgmadiclcaaGreatDoor
open Go.RowKit
set_option linter.unusedVariables false

def kindOf (op : Int) : Int := if op = 1 then 1 else if op = 3 ∨ op = 4 ∨ op = 5 then 2 else if op = 10 ∨ op = 11 then 3 else 0
def mostT (k : Int) : Int := if k = 1 then 2000 else 0
def mostN (k : Int) : Int := if k = 2 then 2000 else if k = 3 then 200 else 0
def insOk (i : I3) : Bool := decide (1 ≤ i.op) && decide (i.op ≤ 15) && decide ((i.text.size : Int) ≤ mostT (kindOf i.op)) && decide (0 ≤ i.n) && decide (i.n ≤ mostN (kindOf i.op))
def words : List (List UInt8) := [[], [108, 105, 116], [99, 97, 116], [99, 117, 116], [114, 101, 115, 116], [119, 111, 114, 100], [115, 97, 109, 101], [100, 117, 112], [115, 119, 97, 112], [100, 114, 111, 112], [106, 117, 109, 112], [117, 110, 108, 101, 115, 115], [97, 115, 107], [104, 97, 115], [102, 97, 105, 108], [101, 110, 100]]
def takesOf : List Int := [0, 0, 2, 1, 1, 1, 2, 1, 2, 1, 0, 1, 1, 1, 1, 1]
def wordB (o : Nat) : ByteArray := ⟨(words.getD o []).toArray⟩

/-- The table of instructions, as start-up lays it. -/
def Tab (w : World) : Prop := ∀ o : Nat, o < 16 → w.cell? ⟨0, o * 3, none⟩ = some (.string (wordB o)) ∧ w.cell? ⟨0, o * 3 + 1, none⟩ = some (.int .i64 (kindOf o)) ∧ w.cell? ⟨0, o * 3 + 2, none⟩ = some (.int .i64 (takesOf.getD o 0))
theorem Tab.below {w w' : World} (h : Tab w) (hb : Below w.heap.size w w') : Tab w' := fun o ho => ⟨cell_below hb (h o ho).1, cell_below hb (h o ho).2.1, cell_below hb (h o ho).2.2⟩

theorem kind_cases (o : Int) : kindOf o = 0 ∨ kindOf o = 1 ∨ kindOf o = 2 ∨ kindOf o = 3 := by
  unfold kindOf
  split
  · simp
  · split
    · simp
    · split <;> simp

set_option maxHeartbeats 400000 in
theorem mostText_any (k : Int) (w : World) : Calls Tryz.prog 102 #[.int .i64 k] w fun e w' => e = .returned (.int .i64 (mostT k)) ∧ w' = w := by
  by_cases h : k = 1
  · subst h
    go_enter Tryz.func102, Tryz.ntmps102
    go_wp2
    go_ret
    exact ⟨rfl, rfl⟩
  · have h1 : (k == 1) = false := by simpa using h
    have e : mostT k = 0 := by simp [mostT, h]
    rw [e]
    clear h e
    go_enter Tryz.func102, Tryz.ntmps102
    go_wp2
    go_ret
    exact ⟨rfl, rfl⟩

set_option maxHeartbeats 400000 in
theorem mostNumber_any (k : Int) (w : World) : Calls Tryz.prog 103 #[.int .i64 k] w fun e w' => e = .returned (.int .i64 (mostN k)) ∧ w' = w := by
  by_cases h : k = 2
  · subst h
    go_enter Tryz.func103, Tryz.ntmps103
    go_wp2
    go_ret
    exact ⟨rfl, rfl⟩
  · by_cases h' : k = 3
    · subst h'
      go_enter Tryz.func103, Tryz.ntmps103
      go_wp2
      go_ret
      exact ⟨rfl, rfl⟩
    · have h1 : (k == 2) = false := by simpa using h
      have h2 : (k == 3) = false := by simpa using h'
      have e : mostN k = 0 := by simp [mostN, h, h']
      rw [e]
      clear h h' e
      go_enter Tryz.func103, Tryz.ntmps103
      go_wp2
      go_ret
      exact ⟨rfl, rfl⟩

set_option maxHeartbeats 400000 in
theorem validIns_out (i : I3) (w : World) (h : i.op < 1 ∨ 15 < i.op) :
    Calls Tryz.prog 101 #[.agg #[.int .i64 i.op, .string i.text, .int .i64 i.n]] w fun e w' => Below w.heap.size w w' ∧ e = .returned (.bool false) := by
  rcases h with h | h
  · have h1 : decide (i.op < 1) = true := by simpa using h
    go_enter Tryz.func101, Tryz.ntmps101
    go_wp2
    go_ret
    exact ⟨(Below.refl _ _).alloc (Nat.le_refl _) _, rfl⟩
  · have h1 : decide (i.op < 1) = false := by simp; omega
    have h2 : decide (15 < i.op) = true := by simpa using h
    go_enter Tryz.func101, Tryz.ntmps101
    go_wp2
    go_ret
    exact ⟨(Below.refl _ _).alloc (Nat.le_refl _) _, rfl⟩

set_option maxHeartbeats 400000 in
theorem validIns_in (o : Nat) (t : ByteArray) (n : Int) (w : World) (k : Int) (h1 : 1 ≤ o) (h2 : o ≤ 15) (ht : t.size ≤ 9223372036854775807) (hk : w.cell? ⟨0, o * 3 + 1, none⟩ = some (.int .i64 k)) :
    Calls Tryz.prog 101 #[.agg #[.int .i64 o, .string t, .int .i64 n]] w fun e w' => Below w.heap.size w w' ∧ e = .returned (.bool (decide ((t.size : Int) ≤ mostT k) && decide (0 ≤ n) && decide (n ≤ mostN k))) := by
  have d1 : decide ((o : Int) < 1) = false := by simp; omega
  have d2 : decide (15 < (o : Int)) = false := by simp; omega
  have h0 : 0 < w.heap.size := World.block_lt_of_cell? w _ hk
  have hka : ∀ x, (w.alloc x).cell? ⟨0, o * 3 + 1, none⟩ = some (.int .i64 k) := fun x => by rw [World.cell?_alloc_lt _ _ _ h0]; exact hk
  by_cases c1 : (t.size : Int) ≤ mostT k
  · have e1 : decide ((t.size : Int) ≤ mostT k) = true := by simpa using c1
    by_cases c2 : 0 ≤ n
    · have e2 : decide (0 ≤ n) = true := by simpa using c2
      go_enter Tryz.func101, Tryz.ntmps101
      go_wp2_with fail
      go_quiet (first | (go_at_call 102; exact Calls.quiet_of_same (mostText_any _ _)) | (go_at_call 103; exact Calls.quiet_of_same (mostNumber_any _ _)))
      go_wp2
      go_ret
      exact ⟨below_drewN ((Below.refl _ _).alloc (Nat.le_refl _) _) _, by simp [e1, e2]; try rfl⟩
    · have e2 : decide (0 ≤ n) = false := by simpa using c2
      go_enter Tryz.func101, Tryz.ntmps101
      go_wp2_with fail
      go_quiet (first | (go_at_call 102; exact Calls.quiet_of_same (mostText_any _ _)) | (go_at_call 103; exact Calls.quiet_of_same (mostNumber_any _ _)))
      go_wp2
      go_ret
      exact ⟨below_drewN ((Below.refl _ _).alloc (Nat.le_refl _) _) _, by simp [e1, e2]; try rfl⟩
  · have e1 : decide ((t.size : Int) ≤ mostT k) = false := by simpa using c1
    go_enter Tryz.func101, Tryz.ntmps101
    go_wp2_with fail
    go_quiet (first | (go_at_call 102; exact Calls.quiet_of_same (mostText_any _ _)) | (go_at_call 103; exact Calls.quiet_of_same (mostNumber_any _ _)))
    go_wp2
    go_ret
    exact ⟨below_drewN ((Below.refl _ _).alloc (Nat.le_refl _) _) _, by simp [e1]; try rfl⟩

set_option maxHeartbeats 400000 in
theorem l2Word_1 (w : World) : Calls Tryz.prog 95 #[.int .i64 1] w fun e w' => e = .returned (.tuple #[.string ⟨#[108, 105, 116]⟩, .int .i64 1]) ∧ w = w' := by
  go_enter Tryz.func95, Tryz.ntmps95
  go_wp2
  go_ret2
  exact ⟨rfl, rfl⟩

set_option maxHeartbeats 400000 in
theorem l2Word_2 (w : World) : Calls Tryz.prog 95 #[.int .i64 2] w fun e w' => e = .returned (.tuple #[.string ⟨#[99, 97, 116]⟩, .int .i64 0]) ∧ w = w' := by
  go_enter Tryz.func95, Tryz.ntmps95
  go_wp2
  go_ret2
  exact ⟨rfl, rfl⟩

set_option maxHeartbeats 400000 in
theorem l2Word_3 (w : World) : Calls Tryz.prog 95 #[.int .i64 3] w fun e w' => e = .returned (.tuple #[.string ⟨#[99, 117, 116]⟩, .int .i64 2]) ∧ w = w' := by
  go_enter Tryz.func95, Tryz.ntmps95
  go_wp2
  go_ret2
  exact ⟨rfl, rfl⟩

set_option maxHeartbeats 400000 in
theorem l2Word_4 (w : World) : Calls Tryz.prog 95 #[.int .i64 4] w fun e w' => e = .returned (.tuple #[.string ⟨#[114, 101, 115, 116]⟩, .int .i64 2]) ∧ w = w' := by
  go_enter Tryz.func95, Tryz.ntmps95
  go_wp2
  go_ret2
  exact ⟨rfl, rfl⟩

set_option maxHeartbeats 400000 in
theorem l2Word_5 (w : World) : Calls Tryz.prog 95 #[.int .i64 5] w fun e w' => e = .returned (.tuple #[.string ⟨#[119, 111, 114, 100]⟩, .int .i64 2]) ∧ w = w' := by
  go_enter Tryz.func95, Tryz.ntmps95
  go_wp2
  go_ret2
  exact ⟨rfl, rfl⟩

set_option maxHeartbeats 400000 in
theorem l2Word_6 (w : World) : Calls Tryz.prog 95 #[.int .i64 6] w fun e w' => e = .returned (.tuple #[.string ⟨#[115, 97, 109, 101]⟩, .int .i64 0]) ∧ w = w' := by
  go_enter Tryz.func95, Tryz.ntmps95
  go_wp2
  go_ret2
  exact ⟨rfl, rfl⟩

set_option maxHeartbeats 400000 in
theorem l2Word_7 (w : World) : Calls Tryz.prog 95 #[.int .i64 7] w fun e w' => e = .returned (.tuple #[.string ⟨#[100, 117, 112]⟩, .int .i64 0]) ∧ w = w' := by
  go_enter Tryz.func95, Tryz.ntmps95
  go_wp2
  go_ret2
  exact ⟨rfl, rfl⟩

set_option maxHeartbeats 400000 in
theorem l2Word_8 (w : World) : Calls Tryz.prog 95 #[.int .i64 8] w fun e w' => e = .returned (.tuple #[.string ⟨#[115, 119, 97, 112]⟩, .int .i64 0]) ∧ w = w' := by
  go_enter Tryz.func95, Tryz.ntmps95
  go_wp2
  go_ret2
  exact ⟨rfl, rfl⟩

set_option maxHeartbeats 400000 in
theorem l2Word_9 (w : World) : Calls Tryz.prog 95 #[.int .i64 9] w fun e w' => e = .returned (.tuple #[.string ⟨#[100, 114, 111, 112]⟩, .int .i64 0]) ∧ w = w' := by
  go_enter Tryz.func95, Tryz.ntmps95
  go_wp2
  go_ret2
  exact ⟨rfl, rfl⟩

set_option maxHeartbeats 400000 in
theorem l2Word_10 (w : World) : Calls Tryz.prog 95 #[.int .i64 10] w fun e w' => e = .returned (.tuple #[.string ⟨#[106, 117, 109, 112]⟩, .int .i64 3]) ∧ w = w' := by
  go_enter Tryz.func95, Tryz.ntmps95
  go_wp2
  go_ret2
  exact ⟨rfl, rfl⟩

set_option maxHeartbeats 400000 in
theorem l2Word_11 (w : World) : Calls Tryz.prog 95 #[.int .i64 11] w fun e w' => e = .returned (.tuple #[.string ⟨#[117, 110, 108, 101, 115, 115]⟩, .int .i64 3]) ∧ w = w' := by
  go_enter Tryz.func95, Tryz.ntmps95
  go_wp2
  go_ret2
  exact ⟨rfl, rfl⟩

set_option maxHeartbeats 400000 in
theorem l2Word_12 (w : World) : Calls Tryz.prog 95 #[.int .i64 12] w fun e w' => e = .returned (.tuple #[.string ⟨#[97, 115, 107]⟩, .int .i64 0]) ∧ w = w' := by
  go_enter Tryz.func95, Tryz.ntmps95
  go_wp2
  go_ret2
  exact ⟨rfl, rfl⟩

set_option maxHeartbeats 400000 in
theorem l2Word_13 (w : World) : Calls Tryz.prog 95 #[.int .i64 13] w fun e w' => e = .returned (.tuple #[.string ⟨#[104, 97, 115]⟩, .int .i64 0]) ∧ w = w' := by
  go_enter Tryz.func95, Tryz.ntmps95
  go_wp2
  go_ret2
  exact ⟨rfl, rfl⟩

set_option maxHeartbeats 400000 in
theorem l2Word_14 (w : World) : Calls Tryz.prog 95 #[.int .i64 14] w fun e w' => e = .returned (.tuple #[.string ⟨#[102, 97, 105, 108]⟩, .int .i64 0]) ∧ w = w' := by
  go_enter Tryz.func95, Tryz.ntmps95
  go_wp2
  go_ret2
  exact ⟨rfl, rfl⟩

set_option maxHeartbeats 400000 in
theorem l2Word_15 (w : World) : Calls Tryz.prog 95 #[.int .i64 15] w fun e w' => e = .returned (.tuple #[.string ⟨#[101, 110, 100]⟩, .int .i64 0]) ∧ w = w' := by
  go_enter Tryz.func95, Tryz.ntmps95
  go_wp2
  go_ret2
  exact ⟨rfl, rfl⟩

set_option maxHeartbeats 400000 in
theorem l2Word_out (op : Int) (w : World) (h : op < 1 ∨ 15 < op) : Calls Tryz.prog 95 #[.int .i64 op] w fun e w' => e = .returned (.tuple #[.string ⟨#[]⟩, .int .i64 0]) ∧ w = w' := by
  rcases h with h | h
  · go_enter Tryz.func95, Tryz.ntmps95
    go_wp2
    go_ret2
    exact ⟨rfl, rfl⟩
  · go_enter Tryz.func95, Tryz.ntmps95
    go_wp2
    go_ret2
    exact ⟨rfl, rfl⟩

theorem l2Word_in (o : Nat) (w : World) (h1 : 1 ≤ o) (h2 : o ≤ 15) : Calls Tryz.prog 95 #[.int .i64 o] w fun e w' => e = .returned (.tuple #[.string (wordB o), .int .i64 (kindOf o)]) ∧ w = w' := by
  rcases (show o = 1 ∨ o = 2 ∨ o = 3 ∨ o = 4 ∨ o = 5 ∨ o = 6 ∨ o = 7 ∨ o = 8 ∨ o = 9 ∨ o = 10 ∨ o = 11 ∨ o = 12 ∨ o = 13 ∨ o = 14 ∨ o = 15 from by omega) with rfl | rfl | rfl | rfl | rfl | rfl | rfl | rfl | rfl | rfl | rfl | rfl | rfl | rfl | rfl
  · exact l2Word_1 w
  · exact l2Word_2 w
  · exact l2Word_3 w
  · exact l2Word_4 w
  · exact l2Word_5 w
  · exact l2Word_6 w
  · exact l2Word_7 w
  · exact l2Word_8 w
  · exact l2Word_9 w
  · exact l2Word_10 w
  · exact l2Word_11 w
  · exact l2Word_12 w
  · exact l2Word_13 w
  · exact l2Word_14 w
  · exact l2Word_15 w

theorem word_nonempty (o : Nat) (h1 : 1 ≤ o) (h2 : o ≤ 15) : (wordB o).toList.isEmpty = false := by
  rw [ByteArray.toList_eq]
  rcases (show o = 1 ∨ o = 2 ∨ o = 3 ∨ o = 4 ∨ o = 5 ∨ o = 6 ∨ o = 7 ∨ o = 8 ∨ o = 9 ∨ o = 10 ∨ o = 11 ∨ o = 12 ∨ o = 13 ∨ o = 14 ∨ o = 15 from by omega) with rfl | rfl | rfl | rfl | rfl | rfl | rfl | rfl | rfl | rfl | rfl | rfl | rfl | rfl | rfl <;> rfl

theorem empty_iff (t : ByteArray) : t.toList.isEmpty = decide (t.size = 0) := by
  rw [ByteArray.toList_eq, Bool.eq_iff_iff]
  simp only [List.isEmpty_iff, decide_eq_true_eq]
  constructor
  · intro h; show t.data.size = 0; rw [← Array.length_toList, h]; rfl
  · intro h; apply List.eq_nil_of_length_eq_zero; rw [Array.length_toList]; exact h

theorem ret_bool {a b : Bool} (h : a = b) : Ending.returned (.bool a) = .returned (.bool b) := by rw [h]

set_option maxHeartbeats 400000 in
theorem l2InsOk_out (i : I3) (w : World) (h : i.op < 1 ∨ 15 < i.op) :
    Calls Tryz.prog 83 #[.agg #[.int .i64 i.op, .string i.text, .int .i64 i.n]] w fun e w' => Below w.heap.size w w' ∧ e = .returned (.bool false) := by
  go_enter Tryz.func83, Tryz.ntmps83
  go_wp2_with (first | (go_at_call 95; refine (l2Word_out _ _ h).mono ?_; rintro e w' ⟨rfl, rfl⟩))
  go_ret
  exact ⟨(Below.refl _ _).alloc (Nat.le_refl _) _, rfl⟩

end Go.Proofs.YtllhbgmadiclcaaGreatDoor
