/-
  THE WALKS of spec.Sum, impl.sumBytes, impl.Sum.
-/
import Derived.Test.YtmeojnaoljgieadGreatDoorHPlain
namespace Go.Proofs.YtmeojnaoljgieadGreatDoor
open Go.RowKit

theorem Tryz.info5 : (Tryz.prog.info? 5).map (fun i => (i.zero, i.size, i.bytes)) = some (some (.int .u8 0), 1, 1) := by kernel_rfl

set_option maxHeartbeats 400000 in
theorem l1Width_yes (n : Int) (w : World) (h1 : 1 ≤ n) (h2 : n ≤ 8) :
    Calls Tryz.prog 119 #[.int .i64 n] w fun e w' => e = .returned (.bool true) ∧ w = w' := by
  go_enter Tryz.func119, Tryz.ntmps119
  go_wp2
  go_ret
  exact ⟨rfl, rfl⟩

set_option maxHeartbeats 400000 in
theorem l1Width_no (n : Int) (w : World) (h : n < 1 ∨ 8 < n) :
    Calls Tryz.prog 119 #[.int .i64 n] w fun e w' => e = .returned (.bool false) ∧ w = w' := by
  rcases h with h | h
  · have h' : decide (1 ≤ n) = false := by simp; omega
    go_enter Tryz.func119, Tryz.ntmps119
    go_wp2
    go_ret
    exact ⟨rfl, rfl⟩
  · have h' : 1 ≤ n := by omega
    have h'' : decide (n ≤ 8) = false := by simp; omega
    go_enter Tryz.func119, Tryz.ntmps119
    go_wp2
    go_ret
    exact ⟨rfl, rfl⟩

set_option maxHeartbeats 400000 in
theorem validWidth_yes (n : Int) (w : World) (h1 : 1 ≤ n) (h2 : n ≤ 8) :
    Calls Tryz.prog 203 #[.int .i64 n] w fun e w' => e = .returned (.bool true) ∧ w = w' := by
  go_enter Tryz.func203, Tryz.ntmps203
  go_wp2
  go_ret
  exact ⟨rfl, rfl⟩

set_option maxHeartbeats 400000 in
theorem validWidth_no (n : Int) (w : World) (h : n < 1 ∨ 8 < n) :
    Calls Tryz.prog 203 #[.int .i64 n] w fun e w' => e = .returned (.bool false) ∧ w = w' := by
  rcases h with h | h
  · have h' : decide (1 ≤ n) = false := by simp; omega
    go_enter Tryz.func203, Tryz.ntmps203
    go_wp2
    go_ret
    exact ⟨rfl, rfl⟩
  · have h' : 1 ≤ n := by omega
    have h'' : decide (n ≤ 8) = false := by simp; omega
    go_enter Tryz.func203, Tryz.ntmps203
    go_wp2
    go_ret
    exact ⟨rfl, rfl⟩

/-- What one round of spec.Sum's second loop leaves. -/
theorem specSum_step {w wr w1 : World} {V : Int} {j : Nat} {v' : Value} (hV : 0 ≤ V) (hsz : w.heap.size ≤ wr.heap.size) (hbel : Below w.heap.size w wr)
    (hown' : w1.ownsRow w.heap.size 5 1 v' (1 + j) ([Value.int .u8 (V / 256 ^ j % 256)] ++ dcells V j))
    (hgrow : (wr.alloc (.cells #[Value.int .u8 (V / 256 ^ j % 256)] 5)).grownBy w1 (Value.slice (some ⟨wr.heap.size, 0, none⟩) 1 1).ownBlock)
    (hnil : v' = .slice none 0 0 ↔ Value.slice (some ⟨wr.heap.size, 0, none⟩) 1 1 = .slice none 0 0 ∧ j = 0) :
    ∃ g cap : Nat, v' = .slice (some ⟨g, 0, none⟩) (j + 1) cap ∧ w1.ownsRow w.heap.size 5 1 (.slice (some ⟨g, 0, none⟩) (j + 1) cap) (j + 1) (dcells V (j + 1)) ∧ Below w.heap.size w w1 := by
  rw [← dcells_succ V hV, Nat.add_comm 1 j] at hown'
  have hb : Below w.heap.size w w1 := (hbel.alloc hsz _).grown hgrow (by simp; omega) (by intro k hk; simp [Value.ownBlock] at hk; omega)
  have h2 := hown'.2
  rcases h2 with ⟨h, _⟩ | ⟨g, cap, cur, hv, _⟩
  · have := hnil.1 h; simp at this
  · subst hv; exact ⟨g, cap, rfl, hown', hb⟩

set_option maxHeartbeats 400000 in
theorem specSum_yes (s : ByteArray) (n : Nat) (w : World) (hs : s.size ≤ 1048576) (h1 : 1 ≤ n) (h2 : n ≤ 8) :
    Calls Tryz.prog 93 #[.string s, .int .i64 n] w fun e w' => e = .returned (.string ⟨(digs (hash s.data.toList) n).toArray⟩) ∧ Below w.heap.size w w' := by
  obtain ⟨i0, hi, hz0, hz1, hz2⟩ := info_parts Tryz.info5
  obtain ⟨hV1, hV2⟩ := hash_bd s.data.toList
  generalize hV : hash s.data.toList = V at *
  have HV : Hid (hash s.data.toList = V) := hV
  clear hV
  go_enter Tryz.func93, Tryz.ntmps93
  go_wp2_with (first | (go_at_call 119; refine (l1Width_yes _ _ (by omega) (by omega)).mono ?_; rintro e w' ⟨rfl, rfl⟩))
  go_loop [5, 6] (fun v i => ∃ k : Nat, k ≤ s.size ∧ i = .int .i64 k ∧ v = .int .u64 (hash (s.data.toList.take k))) (fun _ i => s.size - (intOf i).toNat)
  case atStart => exact ⟨0, Nat.zero_le _, rfl, rfl⟩
  case round =>
    obtain ⟨k, hk, rfl, rfl⟩ := hrel
    by_cases hlt : k < s.size
    · have HS : Hid (hash (s.data.toList.take (k + 1)) = hstep (hash (s.data.toList.take k)) s[k].toNat) := by rw [take_snoc s k hlt]; exact hash_snoc _ _
      go_wp2
      go_round
      case rel => exact ⟨k + 1, by omega, by go_num, by rw [HS.out]; rfl⟩
      case measure => simp [intOf]; omega
    · rw [show s.data.toList.take k = s.data.toList from List.take_of_length_le (by simp; omega)]
      rw [HV.out]
      go_wp2
      go_loopw [5, 7, 8] (fun v o i wr => ∃ k : Nat, ∃ g cap : Nat, k ≤ n ∧ i = .int .i64 k ∧ v = .int .u64 (V / 256 ^ k) ∧ o = .slice (some ⟨g, 0, none⟩) k cap ∧
          wr.ownsRow w.heap.size 5 1 (.slice (some ⟨g, 0, none⟩) k cap) k (dcells V k) ∧ Below w.heap.size w wr)
        (fun _ _ i _ => n - (intOf i).toNat)
      case atStart =>
        refine ⟨0, w.heap.size, 0, Nat.zero_le _, rfl, by simp, rfl, ?_, (Below.refl _ _).alloc (Nat.le_refl _) _⟩
        exact World.ownsRow_lit w #[] 0 (Nat.le_refl _) (by unfold maxLen; omega) (by simp)
      case round =>
        obtain ⟨j, g, cap, hj, rfl, rfl, rfl, hown, hbel⟩ := hrel
        obtain ⟨hd1, hd2⟩ := div_bd V j hV1 hV2
        have hsz := hbel.size
        by_cases hjn : j < n
        · have hnew := World.ownsRow_lit (base := w.heap.size) (e := 5) (size := 1) wr #[Value.int .u8 (V / 256 ^ j % 256)] 1 hsz (by unfold maxLen; omega) (by simp)
          have hcs := (hown.alloc (.cells #[Value.int .u8 (V / 256 ^ j % 256)] 5)).cells (g := g) rfl
          go_wp2_with (first | (at_builtin; refine wpList_append_own _ rfl (.tmp 34) (.tmp 35) 34 rfl w.heap.size 5 i0 (.int .u8 0) 1 1 Tryz.underlying34 hi hz0 hz1 hz2 rfl (by decide) _ _ _ rfl hnew ⟨g, 0, none⟩ j cap (dcells V j) rfl (by simp [dcells_length]) hcs (dcells_one V j) (by unfold maxLen; omega) (by omega) (by simp; omega) ?_; intro v' w1 hown' hgrow hnil; obtain ⟨g', cap', hv', R⟩ := specSum_step hV1 hsz hbel hown' hgrow hnil; clear hown' hgrow hnil hnew hcs hown hbel; rw [hv']; clear hv'))
          go_roundw
          case rel => exact ⟨j + 1, g', cap', by omega, by go_num, by rw [div_succ], rfl, R.1, R.2⟩
          case measure => simp [intOf]; omega
        · have ej : j = n := by omega
          have hcv : (convert 34 9 (.slice (some ⟨g, 0, none⟩) j cap)).run Tryz.prog wr = .ok (.string ⟨(digs V j).toArray⟩) wr := by
            have := run_convert_bytes_back (P := Tryz.prog) wr 34 9 5 ⟨g, 0, none⟩ cap (digs V j) Tryz.underlying34 Tryz.underlying5 Tryz.underlying9 (fun t ht => hown.cells rfl t _ (by rw [dcells, List.getElem?_map, List.getElem?_eq_getElem ht]; rfl))
            rwa [digs_length] at this
          have Hej : Hid (j = n) := ej
          clear ej
          go_wp2
          go_ret
          exact ⟨by rw [Hej.out]; rfl, hbel⟩

end Go.Proofs.YtmeojnaoljgieadGreatDoor
