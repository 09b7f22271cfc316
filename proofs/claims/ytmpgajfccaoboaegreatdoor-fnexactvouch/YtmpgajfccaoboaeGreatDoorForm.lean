/-
  The contracts of spec.FormResult and impl.FormResult.
-/
import Derived.Test.YtmpgajfccaoboaeGreatDoorSDec
import Derived.Deep.RegionWith
import Derived.Deep.RegionHeld3
namespace Go.Proofs.YtmpgajfccaoboaeGreatDoor
open Go.RowKit
set_option linter.unusedVariables false

def digB (n : Nat) : ByteArray := ⟨#[UInt8.ofNat (48 + n)]⟩
theorem digB_size (n : Nat) : (digB n).size = 1 := rfl

theorem itoa_in (n : Nat) (hn : n ≤ 5) (w : World) : Calls Tryz.prog 47 #[.int .i64 n] w fun e w' => e = .returned (.string (digB n)) ∧ w = w' := by
  rcases (show n = 0 ∨ n = 1 ∨ n = 2 ∨ n = 3 ∨ n = 4 ∨ n = 5 by omega) with rfl | rfl | rfl | rfl | rfl | rfl
  all_goals
    go_enter Tryz.func47, Tryz.ntmps47
    go_wp2
    go_ret
    exact ⟨rfl, rfl⟩

set_option maxRecDepth 100000 in
theorem l2Dec_in (n : Nat) (hn : n ≤ 5) (w : World) : Calls Tryz.prog 132 #[.int .i64 n] w fun e w' => e = .returned (.string (digB n)) ∧ Below w.heap.size w w' := by
  have hu := dig_byte n (by omega)
  unfold digB
  generalize UInt8.ofNat (48 + n) = u at *
  have hcv := conv_one (w.alloc (.cells #[.int .u8 (48 + n)] 5)) w.heap.size (48 + n) u hu (by simp [go_sem])
  clear hu
  go_enter Tryz.func132, Tryz.ntmps132
  go_wp2
  go_ret
  exact ⟨rfl, (Below.refl _ _).alloc (Nat.le_refl _) _⟩

theorem below_trans {w a b : World} (h : Below w.heap.size w a) (k : Below a.heap.size a b) : Below w.heap.size w b := h.trans (k.mono h.size)

set_option maxHeartbeats 1000000 in
theorem specForm_no (c : Int) (t : ByteArray) (a : Option Addr) (n cap : Nat) (w : World) (ht : t.size ≤ 1048576) (hn : n ≤ 1048576) (h : c < 0 ∨ 5 < c ∨ 2000 < t.size ∨ 0 < n) :
    Calls Tryz.prog 105 #[.agg #[.int .i64 c, .string t, .slice a n cap]] w fun e w' => e = .returned (.string ⟨#[]⟩) ∧ Below w.heap.size w w' := by
  go_enter Tryz.func105, Tryz.ntmps105
  go_wp2
  all_goals first
    | (exfalso; omega)
    | (go_ret; exact ⟨rfl, (Below.refl _ _).alloc (Nat.le_refl _) _⟩)

set_option maxHeartbeats 1000000 in
theorem specForm_yes (m : Nat) (t : ByteArray) (a : Option Addr) (cap : Nat) (w : World) (hm : m ≤ 5) (ht : t.size ≤ 2000) :
    Calls Tryz.prog 105 #[.agg #[.int .i64 m, .string t, .slice a 0 cap]] w fun e w' => e = .returned (.string (digB m ++ (⟨#[58]⟩ : ByteArray) ++ t)) ∧ Below w.heap.size w w' := by
  have hd : (digB m).size ≤ 1 := Nat.le_of_eq (digB_size m)
  have HC : Hid (∀ W : World, Calls Tryz.prog 132 #[.int .i64 m] W fun e w' => e = .returned (.string (digB m)) ∧ Below W.heap.size W w') := fun W => l2Dec_in m hm W
  generalize digB m = d at *
  have HD : Hid (∀ W : World, W.cell? ⟨w.heap.size, 1, none⟩ = some (.string t) → Calls Tryz.prog 132 #[.int .i64 m] W fun e w' => e = .returned (.string d) ∧ Below W.heap.size W w' ∧ w'.cell? ⟨w.heap.size, 1, none⟩ = some (.string t)) := fun W hW => (HC.out W).mono fun e w' ⟨he, hb⟩ => ⟨he, hb, cell_below hb hW⟩
  have hx0 : (w.alloc (.cells #[.int .i64 m, .string t, .slice a 0 cap] 32)).cell? ⟨w.heap.size, 0, none⟩ = some (.int .i64 m) := by simp [go_sem]
  have hx1 : (w.alloc (.cells #[.int .i64 m, .string t, .slice a 0 cap] 32)).cell? ⟨w.heap.size, 1, none⟩ = some (.string t) := by simp [go_sem]
  go_enter Tryz.func105, Tryz.ntmps105
  go_wp2
  go_region_with (first | (go_at_call 132; refine (HD.out _ ?_).mono ?_; (focus (simp [go_sem]; done)); rintro e w1 ⟨rfl, hb1, hcc⟩))
  all_goals
    go_wp2
    go_ret
    exact ⟨rfl, (((Below.refl _ _).alloc (Nat.le_refl _) _).drew.trans (hb1.mono (by simp)))⟩

set_option maxHeartbeats 1000000 in
theorem implForm_no (c : Int) (t : ByteArray) (a : Option Addr) (n cap : Nat) (w : World) (ht : t.size ≤ 1048576) (hn : n ≤ 1048576) (h : c < 0 ∨ 5 < c ∨ 2000 < t.size ∨ 0 < n) :
    Calls Tryz.prog 14 #[.agg #[.int .i64 c, .string t, .slice a n cap]] w fun e w' => e = .returned (.string ⟨#[]⟩) ∧ Below w.heap.size w w' := by
  go_enter Tryz.func14, Tryz.ntmps14
  go_wp2
  all_goals first
    | (exfalso; omega)
    | (go_ret; exact ⟨rfl, (Below.refl _ _).alloc (Nat.le_refl _) _⟩)

set_option maxHeartbeats 1000000 in
theorem implForm_yes (m : Nat) (t : ByteArray) (a : Option Addr) (cap : Nat) (w : World) (hm : m ≤ 5) (ht : t.size ≤ 2000) :
    Calls Tryz.prog 14 #[.agg #[.int .i64 m, .string t, .slice a 0 cap]] w fun e w' => e = .returned (.string (digB m ++ (⟨#[58]⟩ : ByteArray) ++ t)) ∧ Below w.heap.size w w' := by
  have hd : (digB m).size ≤ 1 := Nat.le_of_eq (digB_size m)
  have HC : Hid (∀ W : World, Calls Tryz.prog 47 #[.int .i64 m] W fun e w' => e = .returned (.string (digB m)) ∧ W = w') := fun W => itoa_in m hm W
  generalize digB m = d at *
  have hx0 : (w.alloc (.cells #[.int .i64 m, .string t, .slice a 0 cap] 32)).cell? ⟨w.heap.size, 0, none⟩ = some (.int .i64 m) := by simp [go_sem]
  have hx1 : (w.alloc (.cells #[.int .i64 m, .string t, .slice a 0 cap] 32)).cell? ⟨w.heap.size, 1, none⟩ = some (.string t) := by simp [go_sem]
  go_enter Tryz.func14, Tryz.ntmps14
  go_wp2
  go_region_with (first | (go_at_call 47; refine (HC.out _).mono ?_; rintro e w1 ⟨rfl, rfl⟩))
  all_goals
    go_wp2
    go_ret
    exact ⟨rfl, ((Below.refl _ _).alloc (Nat.le_refl _) _).drew⟩

end Go.Proofs.YtmpgajfccaoboaeGreatDoor
