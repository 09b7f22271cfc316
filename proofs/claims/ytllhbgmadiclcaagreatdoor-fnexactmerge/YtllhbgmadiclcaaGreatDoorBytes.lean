import Derived.Test.YtllhbgmadiclcaaGreatDoorSum
namespace Go.Proofs.YtllhbgmadiclcaaGreatDoor
open Go.RowKit

theorem cells8_1 (V : Int) : cells8 V 1 = #[.int .u8 (V % 256), .int .u8 (0), .int .u8 (0), .int .u8 (0), .int .u8 (0), .int .u8 (0), .int .u8 (0), .int .u8 (0)] := by
  simp [cells8, cell8]

set_option maxHeartbeats 400000 in
theorem sumBytes_1 (s : ByteArray) (w : World) (hs : s.size ≤ 1048576) :
    Calls Tryz.prog 69 #[.string s, .int .i64 1] w fun e w' => e = .returned (.agg (cells8 (hash s.data.toList) 1)) ∧
      (w.alloc (.cells (cells8 (hash s.data.toList) 1) 113)).alloc (.cells (cells8 (hash s.data.toList) 1) 113) = w' := by
  obtain ⟨hV1, hV2⟩ := hash_bd s.data.toList
  generalize hV : hash s.data.toList = V at *
  have HV : Hid (hash s.data.toList = V) := hV
  clear hV
  rw [cells8_1]
  go_enter Tryz.func69, Tryz.ntmps69
  go_wp2
  go_loop [5, 6, 11] (fun v _ i => ∃ k : Nat, k ≤ s.size ∧ i = .int .i64 k ∧ v = .int .u64 (hash (s.data.toList.take k))) (fun _ _ i => s.size - (intOf i).toNat)
  case atStart => exact ⟨0, Nat.zero_le _, rfl, rfl⟩
  case round =>
    obtain ⟨k, hk, rfl, rfl⟩ := hrel
    by_cases hlt : k < s.size
    · have HS : Hid (hash (s.data.toList.take (k + 1)) = hstep (hash (s.data.toList.take k)) s[k].toNat) := by rw [take_snoc s k hlt]; exact hash_snoc _ _
      go_wp2
      go_round
      case rel => exact ⟨k + 1, by omega, by go_num, by rw [HS.out]; rfl⟩
      case measure => simp [intOf]; omega
    · rw [show s.data.toList.take k = s.data.toList from List.take_of_length_le (by simp; omega)]
      rw [HV.out]
      go_wp2
      refine wp_loop_rounds 2 ?_
      iterate 2 (rw [rounds_succ]; go_wp2)
      exact bodyPost_ret (v := .agg #[.int .u8 (V % 256), .int .u8 (0), .int .u8 (0), .int .u8 (0), .int .u8 (0), .int .u8 (0), .int .u8 (0), .int .u8 (0)]) (by simp [results, Tryz.results69, go_sem]) rfl ⟨rfl, rfl⟩

theorem cells8_2 (V : Int) : cells8 V 2 = #[.int .u8 (V / 256 % 256), .int .u8 (V % 256), .int .u8 (0), .int .u8 (0), .int .u8 (0), .int .u8 (0), .int .u8 (0), .int .u8 (0)] := by
  simp [cells8, cell8]

set_option maxHeartbeats 400000 in
theorem sumBytes_2 (s : ByteArray) (w : World) (hs : s.size ≤ 1048576) :
    Calls Tryz.prog 69 #[.string s, .int .i64 2] w fun e w' => e = .returned (.agg (cells8 (hash s.data.toList) 2)) ∧
      (w.alloc (.cells (cells8 (hash s.data.toList) 2) 113)).alloc (.cells (cells8 (hash s.data.toList) 2) 113) = w' := by
  obtain ⟨hV1, hV2⟩ := hash_bd s.data.toList
  generalize hV : hash s.data.toList = V at *
  have HV : Hid (hash s.data.toList = V) := hV
  clear hV
  rw [cells8_2]
  go_enter Tryz.func69, Tryz.ntmps69
  go_wp2
  go_loop [5, 6, 11] (fun v _ i => ∃ k : Nat, k ≤ s.size ∧ i = .int .i64 k ∧ v = .int .u64 (hash (s.data.toList.take k))) (fun _ _ i => s.size - (intOf i).toNat)
  case atStart => exact ⟨0, Nat.zero_le _, rfl, rfl⟩
  case round =>
    obtain ⟨k, hk, rfl, rfl⟩ := hrel
    by_cases hlt : k < s.size
    · have HS : Hid (hash (s.data.toList.take (k + 1)) = hstep (hash (s.data.toList.take k)) s[k].toNat) := by rw [take_snoc s k hlt]; exact hash_snoc _ _
      go_wp2
      go_round
      case rel => exact ⟨k + 1, by omega, by go_num, by rw [HS.out]; rfl⟩
      case measure => simp [intOf]; omega
    · rw [show s.data.toList.take k = s.data.toList from List.take_of_length_le (by simp; omega)]
      rw [HV.out]
      go_wp2
      refine wp_loop_rounds 3 ?_
      iterate 3 (rw [rounds_succ]; go_wp2)
      exact bodyPost_ret (v := .agg #[.int .u8 (V / 256 % 256), .int .u8 (V % 256), .int .u8 (0), .int .u8 (0), .int .u8 (0), .int .u8 (0), .int .u8 (0), .int .u8 (0)]) (by simp [results, Tryz.results69, go_sem]) rfl ⟨rfl, rfl⟩

theorem cells8_3 (V : Int) : cells8 V 3 = #[.int .u8 (V / 256 / 256 % 256), .int .u8 (V / 256 % 256), .int .u8 (V % 256), .int .u8 (0), .int .u8 (0), .int .u8 (0), .int .u8 (0), .int .u8 (0)] := by
  simp [cells8, cell8]
  omega

set_option maxHeartbeats 400000 in
theorem sumBytes_3 (s : ByteArray) (w : World) (hs : s.size ≤ 1048576) :
    Calls Tryz.prog 69 #[.string s, .int .i64 3] w fun e w' => e = .returned (.agg (cells8 (hash s.data.toList) 3)) ∧
      (w.alloc (.cells (cells8 (hash s.data.toList) 3) 113)).alloc (.cells (cells8 (hash s.data.toList) 3) 113) = w' := by
  obtain ⟨hV1, hV2⟩ := hash_bd s.data.toList
  generalize hV : hash s.data.toList = V at *
  have HV : Hid (hash s.data.toList = V) := hV
  clear hV
  rw [cells8_3]
  go_enter Tryz.func69, Tryz.ntmps69
  go_wp2
  go_loop [5, 6, 11] (fun v _ i => ∃ k : Nat, k ≤ s.size ∧ i = .int .i64 k ∧ v = .int .u64 (hash (s.data.toList.take k))) (fun _ _ i => s.size - (intOf i).toNat)
  case atStart => exact ⟨0, Nat.zero_le _, rfl, rfl⟩
  case round =>
    obtain ⟨k, hk, rfl, rfl⟩ := hrel
    by_cases hlt : k < s.size
    · have HS : Hid (hash (s.data.toList.take (k + 1)) = hstep (hash (s.data.toList.take k)) s[k].toNat) := by rw [take_snoc s k hlt]; exact hash_snoc _ _
      go_wp2
      go_round
      case rel => exact ⟨k + 1, by omega, by go_num, by rw [HS.out]; rfl⟩
      case measure => simp [intOf]; omega
    · rw [show s.data.toList.take k = s.data.toList from List.take_of_length_le (by simp; omega)]
      rw [HV.out]
      go_wp2
      refine wp_loop_rounds 4 ?_
      iterate 4 (rw [rounds_succ]; go_wp2)
      exact bodyPost_ret (v := .agg #[.int .u8 (V / 256 / 256 % 256), .int .u8 (V / 256 % 256), .int .u8 (V % 256), .int .u8 (0), .int .u8 (0), .int .u8 (0), .int .u8 (0), .int .u8 (0)]) (by simp [results, Tryz.results69, go_sem]) rfl ⟨rfl, rfl⟩

theorem cells8_4 (V : Int) : cells8 V 4 = #[.int .u8 (V / 256 / 256 / 256 % 256), .int .u8 (V / 256 / 256 % 256), .int .u8 (V / 256 % 256), .int .u8 (V % 256), .int .u8 (0), .int .u8 (0), .int .u8 (0), .int .u8 (0)] := by
  simp [cells8, cell8]
  omega

set_option maxHeartbeats 400000 in
theorem sumBytes_4 (s : ByteArray) (w : World) (hs : s.size ≤ 1048576) :
    Calls Tryz.prog 69 #[.string s, .int .i64 4] w fun e w' => e = .returned (.agg (cells8 (hash s.data.toList) 4)) ∧
      (w.alloc (.cells (cells8 (hash s.data.toList) 4) 113)).alloc (.cells (cells8 (hash s.data.toList) 4) 113) = w' := by
  obtain ⟨hV1, hV2⟩ := hash_bd s.data.toList
  generalize hV : hash s.data.toList = V at *
  have HV : Hid (hash s.data.toList = V) := hV
  clear hV
  rw [cells8_4]
  go_enter Tryz.func69, Tryz.ntmps69
  go_wp2
  go_loop [5, 6, 11] (fun v _ i => ∃ k : Nat, k ≤ s.size ∧ i = .int .i64 k ∧ v = .int .u64 (hash (s.data.toList.take k))) (fun _ _ i => s.size - (intOf i).toNat)
  case atStart => exact ⟨0, Nat.zero_le _, rfl, rfl⟩
  case round =>
    obtain ⟨k, hk, rfl, rfl⟩ := hrel
    by_cases hlt : k < s.size
    · have HS : Hid (hash (s.data.toList.take (k + 1)) = hstep (hash (s.data.toList.take k)) s[k].toNat) := by rw [take_snoc s k hlt]; exact hash_snoc _ _
      go_wp2
      go_round
      case rel => exact ⟨k + 1, by omega, by go_num, by rw [HS.out]; rfl⟩
      case measure => simp [intOf]; omega
    · rw [show s.data.toList.take k = s.data.toList from List.take_of_length_le (by simp; omega)]
      rw [HV.out]
      go_wp2
      refine wp_loop_rounds 5 ?_
      iterate 5 (rw [rounds_succ]; go_wp2)
      exact bodyPost_ret (v := .agg #[.int .u8 (V / 256 / 256 / 256 % 256), .int .u8 (V / 256 / 256 % 256), .int .u8 (V / 256 % 256), .int .u8 (V % 256), .int .u8 (0), .int .u8 (0), .int .u8 (0), .int .u8 (0)]) (by simp [results, Tryz.results69, go_sem]) rfl ⟨rfl, rfl⟩

theorem cells8_5 (V : Int) : cells8 V 5 = #[.int .u8 (V / 256 / 256 / 256 / 256 % 256), .int .u8 (V / 256 / 256 / 256 % 256), .int .u8 (V / 256 / 256 % 256), .int .u8 (V / 256 % 256), .int .u8 (V % 256), .int .u8 (0), .int .u8 (0), .int .u8 (0)] := by
  simp [cells8, cell8]
  omega

set_option maxHeartbeats 400000 in
theorem sumBytes_5 (s : ByteArray) (w : World) (hs : s.size ≤ 1048576) :
    Calls Tryz.prog 69 #[.string s, .int .i64 5] w fun e w' => e = .returned (.agg (cells8 (hash s.data.toList) 5)) ∧
      (w.alloc (.cells (cells8 (hash s.data.toList) 5) 113)).alloc (.cells (cells8 (hash s.data.toList) 5) 113) = w' := by
  obtain ⟨hV1, hV2⟩ := hash_bd s.data.toList
  generalize hV : hash s.data.toList = V at *
  have HV : Hid (hash s.data.toList = V) := hV
  clear hV
  rw [cells8_5]
  go_enter Tryz.func69, Tryz.ntmps69
  go_wp2
  go_loop [5, 6, 11] (fun v _ i => ∃ k : Nat, k ≤ s.size ∧ i = .int .i64 k ∧ v = .int .u64 (hash (s.data.toList.take k))) (fun _ _ i => s.size - (intOf i).toNat)
  case atStart => exact ⟨0, Nat.zero_le _, rfl, rfl⟩
  case round =>
    obtain ⟨k, hk, rfl, rfl⟩ := hrel
    by_cases hlt : k < s.size
    · have HS : Hid (hash (s.data.toList.take (k + 1)) = hstep (hash (s.data.toList.take k)) s[k].toNat) := by rw [take_snoc s k hlt]; exact hash_snoc _ _
      go_wp2
      go_round
      case rel => exact ⟨k + 1, by omega, by go_num, by rw [HS.out]; rfl⟩
      case measure => simp [intOf]; omega
    · rw [show s.data.toList.take k = s.data.toList from List.take_of_length_le (by simp; omega)]
      rw [HV.out]
      go_wp2
      refine wp_loop_rounds 6 ?_
      iterate 6 (rw [rounds_succ]; go_wp2)
      exact bodyPost_ret (v := .agg #[.int .u8 (V / 256 / 256 / 256 / 256 % 256), .int .u8 (V / 256 / 256 / 256 % 256), .int .u8 (V / 256 / 256 % 256), .int .u8 (V / 256 % 256), .int .u8 (V % 256), .int .u8 (0), .int .u8 (0), .int .u8 (0)]) (by simp [results, Tryz.results69, go_sem]) rfl ⟨rfl, rfl⟩

theorem cells8_6 (V : Int) : cells8 V 6 = #[.int .u8 (V / 256 / 256 / 256 / 256 / 256 % 256), .int .u8 (V / 256 / 256 / 256 / 256 % 256), .int .u8 (V / 256 / 256 / 256 % 256), .int .u8 (V / 256 / 256 % 256), .int .u8 (V / 256 % 256), .int .u8 (V % 256), .int .u8 (0), .int .u8 (0)] := by
  simp [cells8, cell8]
  omega

set_option maxHeartbeats 400000 in
theorem sumBytes_6 (s : ByteArray) (w : World) (hs : s.size ≤ 1048576) :
    Calls Tryz.prog 69 #[.string s, .int .i64 6] w fun e w' => e = .returned (.agg (cells8 (hash s.data.toList) 6)) ∧
      (w.alloc (.cells (cells8 (hash s.data.toList) 6) 113)).alloc (.cells (cells8 (hash s.data.toList) 6) 113) = w' := by
  obtain ⟨hV1, hV2⟩ := hash_bd s.data.toList
  generalize hV : hash s.data.toList = V at *
  have HV : Hid (hash s.data.toList = V) := hV
  clear hV
  rw [cells8_6]
  go_enter Tryz.func69, Tryz.ntmps69
  go_wp2
  go_loop [5, 6, 11] (fun v _ i => ∃ k : Nat, k ≤ s.size ∧ i = .int .i64 k ∧ v = .int .u64 (hash (s.data.toList.take k))) (fun _ _ i => s.size - (intOf i).toNat)
  case atStart => exact ⟨0, Nat.zero_le _, rfl, rfl⟩
  case round =>
    obtain ⟨k, hk, rfl, rfl⟩ := hrel
    by_cases hlt : k < s.size
    · have HS : Hid (hash (s.data.toList.take (k + 1)) = hstep (hash (s.data.toList.take k)) s[k].toNat) := by rw [take_snoc s k hlt]; exact hash_snoc _ _
      go_wp2
      go_round
      case rel => exact ⟨k + 1, by omega, by go_num, by rw [HS.out]; rfl⟩
      case measure => simp [intOf]; omega
    · rw [show s.data.toList.take k = s.data.toList from List.take_of_length_le (by simp; omega)]
      rw [HV.out]
      go_wp2
      refine wp_loop_rounds 7 ?_
      iterate 7 (rw [rounds_succ]; go_wp2)
      exact bodyPost_ret (v := .agg #[.int .u8 (V / 256 / 256 / 256 / 256 / 256 % 256), .int .u8 (V / 256 / 256 / 256 / 256 % 256), .int .u8 (V / 256 / 256 / 256 % 256), .int .u8 (V / 256 / 256 % 256), .int .u8 (V / 256 % 256), .int .u8 (V % 256), .int .u8 (0), .int .u8 (0)]) (by simp [results, Tryz.results69, go_sem]) rfl ⟨rfl, rfl⟩

theorem cells8_7 (V : Int) : cells8 V 7 = #[.int .u8 (V / 256 / 256 / 256 / 256 / 256 / 256 % 256), .int .u8 (V / 256 / 256 / 256 / 256 / 256 % 256), .int .u8 (V / 256 / 256 / 256 / 256 % 256), .int .u8 (V / 256 / 256 / 256 % 256), .int .u8 (V / 256 / 256 % 256), .int .u8 (V / 256 % 256), .int .u8 (V % 256), .int .u8 (0)] := by
  simp [cells8, cell8]
  omega

set_option maxHeartbeats 400000 in
theorem sumBytes_7 (s : ByteArray) (w : World) (hs : s.size ≤ 1048576) :
    Calls Tryz.prog 69 #[.string s, .int .i64 7] w fun e w' => e = .returned (.agg (cells8 (hash s.data.toList) 7)) ∧
      (w.alloc (.cells (cells8 (hash s.data.toList) 7) 113)).alloc (.cells (cells8 (hash s.data.toList) 7) 113) = w' := by
  obtain ⟨hV1, hV2⟩ := hash_bd s.data.toList
  generalize hV : hash s.data.toList = V at *
  have HV : Hid (hash s.data.toList = V) := hV
  clear hV
  rw [cells8_7]
  go_enter Tryz.func69, Tryz.ntmps69
  go_wp2
  go_loop [5, 6, 11] (fun v _ i => ∃ k : Nat, k ≤ s.size ∧ i = .int .i64 k ∧ v = .int .u64 (hash (s.data.toList.take k))) (fun _ _ i => s.size - (intOf i).toNat)
  case atStart => exact ⟨0, Nat.zero_le _, rfl, rfl⟩
  case round =>
    obtain ⟨k, hk, rfl, rfl⟩ := hrel
    by_cases hlt : k < s.size
    · have HS : Hid (hash (s.data.toList.take (k + 1)) = hstep (hash (s.data.toList.take k)) s[k].toNat) := by rw [take_snoc s k hlt]; exact hash_snoc _ _
      go_wp2
      go_round
      case rel => exact ⟨k + 1, by omega, by go_num, by rw [HS.out]; rfl⟩
      case measure => simp [intOf]; omega
    · rw [show s.data.toList.take k = s.data.toList from List.take_of_length_le (by simp; omega)]
      rw [HV.out]
      go_wp2
      refine wp_loop_rounds 8 ?_
      iterate 8 (rw [rounds_succ]; go_wp2)
      exact bodyPost_ret (v := .agg #[.int .u8 (V / 256 / 256 / 256 / 256 / 256 / 256 % 256), .int .u8 (V / 256 / 256 / 256 / 256 / 256 % 256), .int .u8 (V / 256 / 256 / 256 / 256 % 256), .int .u8 (V / 256 / 256 / 256 % 256), .int .u8 (V / 256 / 256 % 256), .int .u8 (V / 256 % 256), .int .u8 (V % 256), .int .u8 (0)]) (by simp [results, Tryz.results69, go_sem]) rfl ⟨rfl, rfl⟩

theorem cells8_8 (V : Int) (h1 : 0 ≤ V) (h2 : V < 18446744073709551616) : cells8 V 8 = #[.int .u8 (V / 256 / 256 / 256 / 256 / 256 / 256 / 256), .int .u8 (V / 256 / 256 / 256 / 256 / 256 / 256 % 256), .int .u8 (V / 256 / 256 / 256 / 256 / 256 % 256), .int .u8 (V / 256 / 256 / 256 / 256 % 256), .int .u8 (V / 256 / 256 / 256 % 256), .int .u8 (V / 256 / 256 % 256), .int .u8 (V / 256 % 256), .int .u8 (V % 256)] := by
  simp [cells8, cell8]
  omega

set_option maxHeartbeats 400000 in
theorem sumBytes_8 (s : ByteArray) (w : World) (hs : s.size ≤ 1048576) :
    Calls Tryz.prog 69 #[.string s, .int .i64 8] w fun e w' => e = .returned (.agg (cells8 (hash s.data.toList) 8)) ∧
      (w.alloc (.cells (cells8 (hash s.data.toList) 8) 113)).alloc (.cells (cells8 (hash s.data.toList) 8) 113) = w' := by
  obtain ⟨hV1, hV2⟩ := hash_bd s.data.toList
  generalize hV : hash s.data.toList = V at *
  have HV : Hid (hash s.data.toList = V) := hV
  clear hV
  rw [cells8_8 V hV1 hV2]
  go_enter Tryz.func69, Tryz.ntmps69
  go_wp2
  go_loop [5, 6, 11] (fun v _ i => ∃ k : Nat, k ≤ s.size ∧ i = .int .i64 k ∧ v = .int .u64 (hash (s.data.toList.take k))) (fun _ _ i => s.size - (intOf i).toNat)
  case atStart => exact ⟨0, Nat.zero_le _, rfl, rfl⟩
  case round =>
    obtain ⟨k, hk, rfl, rfl⟩ := hrel
    by_cases hlt : k < s.size
    · have HS : Hid (hash (s.data.toList.take (k + 1)) = hstep (hash (s.data.toList.take k)) s[k].toNat) := by rw [take_snoc s k hlt]; exact hash_snoc _ _
      go_wp2
      go_round
      case rel => exact ⟨k + 1, by omega, by go_num, by rw [HS.out]; rfl⟩
      case measure => simp [intOf]; omega
    · rw [show s.data.toList.take k = s.data.toList from List.take_of_length_le (by simp; omega)]
      rw [HV.out]
      go_wp2
      refine wp_loop_rounds 9 ?_
      iterate 9 (rw [rounds_succ]; go_wp2)
      exact bodyPost_ret (v := .agg #[.int .u8 (V / 256 / 256 / 256 / 256 / 256 / 256 / 256), .int .u8 (V / 256 / 256 / 256 / 256 / 256 / 256 % 256), .int .u8 (V / 256 / 256 / 256 / 256 / 256 % 256), .int .u8 (V / 256 / 256 / 256 / 256 % 256), .int .u8 (V / 256 / 256 / 256 % 256), .int .u8 (V / 256 / 256 % 256), .int .u8 (V / 256 % 256), .int .u8 (V % 256)]) (by simp [results, Tryz.results69, go_sem]) rfl ⟨rfl, rfl⟩

theorem sumBytes_any (s : ByteArray) (n : Nat) (w : World) (hs : s.size ≤ 1048576) (h1 : 1 ≤ n) (h2 : n ≤ 8) :
    Calls Tryz.prog 69 #[.string s, .int .i64 n] w fun e w' => e = .returned (.agg (cells8 (hash s.data.toList) n)) ∧
      (w.alloc (.cells (cells8 (hash s.data.toList) n) 113)).alloc (.cells (cells8 (hash s.data.toList) n) 113) = w' := by
  rcases (show n = 1 ∨ n = 2 ∨ n = 3 ∨ n = 4 ∨ n = 5 ∨ n = 6 ∨ n = 7 ∨ n = 8 from by omega) with rfl | rfl | rfl | rfl | rfl | rfl | rfl | rfl
  · exact sumBytes_1 s w hs
  · exact sumBytes_2 s w hs
  · exact sumBytes_3 s w hs
  · exact sumBytes_4 s w hs
  · exact sumBytes_5 s w hs
  · exact sumBytes_6 s w hs
  · exact sumBytes_7 s w hs
  · exact sumBytes_8 s w hs

end Go.Proofs.YtllhbgmadiclcaaGreatDoor
