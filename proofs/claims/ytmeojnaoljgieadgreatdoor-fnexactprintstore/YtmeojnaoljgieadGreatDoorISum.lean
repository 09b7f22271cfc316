/-
  THE WALK of impl.Sum.
-/
import Derived.Test.YtmeojnaoljgieadGreatDoorBytes
namespace Go.Proofs.YtmeojnaoljgieadGreatDoor
open Go.RowKit

theorem slice8 (n : Nat) (h2 : n ≤ 8) (a : Addr) (w : World) : (Instr.sliceAt 290 (.pointer (some a)) none (some (.int .i64 n)) none).run Tryz.prog w = .ok (.slice (some a) n 8) w := by
  have hl : Tryz.prog.arrayLen 290 = 8 := by kernel_rfl
  rw [run_sliceAt_array_h w 290 a (by kernel_rfl) .i64 n (by omega) (by rw [hl]; omega), hl]
  simp [go_sem]

theorem sumBytes_lit (s : ByteArray) (n : Nat) (V : Int) (w : World) (HV : Hid (hash s.data.toList = V)) (hs : s.size ≤ 1048576) (h1 : 1 ≤ n) (h2 : n ≤ 8) :
    Calls Tryz.prog 231 #[.string s, .int .i64 n] w fun e w' => e = .returned (.agg #[.int .u8 (cell8 V n 0), .int .u8 (cell8 V n 1), .int .u8 (cell8 V n 2), .int .u8 (cell8 V n 3), .int .u8 (cell8 V n 4), .int .u8 (cell8 V n 5), .int .u8 (cell8 V n 6), .int .u8 (cell8 V n 7)]) ∧
      (w.alloc (.cells #[.int .u8 (cell8 V n 0), .int .u8 (cell8 V n 1), .int .u8 (cell8 V n 2), .int .u8 (cell8 V n 3), .int .u8 (cell8 V n 4), .int .u8 (cell8 V n 5), .int .u8 (cell8 V n 6), .int .u8 (cell8 V n 7)] 290)).alloc (.cells #[.int .u8 (cell8 V n 0), .int .u8 (cell8 V n 1), .int .u8 (cell8 V n 2), .int .u8 (cell8 V n 3), .int .u8 (cell8 V n 4), .int .u8 (cell8 V n 5), .int .u8 (cell8 V n 6), .int .u8 (cell8 V n 7)] 290) = w' := by
  have h := sumBytes_any s n w hs h1 h2
  rw [HV.out] at h
  exact h

set_option maxHeartbeats 400000 in
theorem implSum_yes (s : ByteArray) (n : Nat) (w : World) (hs : s.size ≤ 1048576) (h1 : 1 ≤ n) (h2 : n ≤ 8) :
    Calls Tryz.prog 162 #[.string s, .int .i64 n] w fun e w' => e = .returned (.string ⟨(digs (hash s.data.toList) n).toArray⟩) ∧ Below w.heap.size w w' := by
  obtain ⟨hV1, hV2⟩ := hash_bd s.data.toList
  generalize hV : hash s.data.toList = V at *
  have HV : Hid (hash s.data.toList = V) := hV
  clear hV
  have hcv : (convert 34 9 (.slice (some ⟨w.heap.size + 1 + 1, 0, none⟩) n 8)).run Tryz.prog (((w.alloc (.cells (cells8 V n) 290)).alloc (.cells (cells8 V n) 290)).alloc (.cells (cells8 V n) 290)) = .ok (.string ⟨(digs V n).toArray⟩) (((w.alloc (.cells (cells8 V n) 290)).alloc (.cells (cells8 V n) 290)).alloc (.cells (cells8 V n) 290)) := by
    have := run_convert_bytes_back (P := Tryz.prog) (((w.alloc (.cells (cells8 V n) 290)).alloc (.cells (cells8 V n) 290)).alloc (.cells (cells8 V n) 290)) 34 9 5 ⟨w.heap.size + 1 + 1, 0, none⟩ 8 (digs V n) Tryz.underlying34 Tryz.underlying5 Tryz.underlying9 (fun t ht => by
      rw [← cell8_digs V hV1 n t ht]
      have hn : t < n := by simpa [digs_length] using ht
      rcases (show t = 0 ∨ t = 1 ∨ t = 2 ∨ t = 3 ∨ t = 4 ∨ t = 5 ∨ t = 6 ∨ t = 7 from by omega) with rfl | rfl | rfl | rfl | rfl | rfl | rfl | rfl <;> simp [cells8, Addr.add, go_sem])
    rwa [digs_length] at this
  simp only [cells8] at hcv
  have hsl := slice8 n h2
  go_enter Tryz.func162, Tryz.ntmps162
  go_wp2_with (first | (go_at_call 203; refine (validWidth_yes _ _ (by omega) (by omega)).mono ?_; rintro e w' ⟨rfl, rfl⟩) | (go_at_call 231; refine (sumBytes_lit s n V _ HV hs h1 h2).mono ?_; rintro e w' ⟨rfl, rfl⟩))
  go_ret
  exact ⟨rfl, (((Below.refl _ _).alloc (Nat.le_refl _) _).alloc (by simp) _).alloc (by simp; omega) _⟩

set_option maxHeartbeats 400000 in
theorem implSum_no (s : ByteArray) (n : Int) (w : World) (h : n < 1 ∨ 8 < n) :
    Calls Tryz.prog 162 #[.string s, .int .i64 n] w fun e w' => e = .returned (.string ⟨#[]⟩) ∧ w = w' := by
  go_enter Tryz.func162, Tryz.ntmps162
  go_wp2_with (first | (go_at_call 203; refine (validWidth_no _ _ h).mono ?_; rintro e w' ⟨rfl, rfl⟩))
  go_ret
  exact ⟨rfl, rfl⟩

set_option maxHeartbeats 400000 in
theorem specSum_no (s : ByteArray) (n : Int) (w : World) (h : n < 1 ∨ 8 < n) :
    Calls Tryz.prog 93 #[.string s, .int .i64 n] w fun e w' => e = .returned (.string ⟨#[]⟩) ∧ w = w' := by
  go_enter Tryz.func93, Tryz.ntmps93
  go_wp2_with (first | (go_at_call 119; refine (l1Width_no _ _ h).mono ?_; rintro e w' ⟨rfl, rfl⟩))
  go_ret
  exact ⟨rfl, rfl⟩

end Go.Proofs.YtmeojnaoljgieadGreatDoor
