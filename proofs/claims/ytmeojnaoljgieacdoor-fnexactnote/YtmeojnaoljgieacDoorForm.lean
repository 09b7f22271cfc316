/-
  The contracts of spec.FormResult and impl.FormResult.
-/
import Derived.Test.YtmeojnaoljgieacDoorMkH
import Derived.Deep.RegionWith
import Derived.Deep.RegionHeld3
namespace Go.Proofs.YtmeojnaoljgieacDoor
open Go.RowKit
set_option linter.unusedVariables false

def digB (n : Nat) : ByteArray := ⟨#[UInt8.ofNat (48 + n)]⟩
theorem digB_size (n : Nat) : (digB n).size = 1 := rfl

theorem itoa_in (n : Nat) (hn : n ≤ 5) (w : World) : Calls Tryd.prog 139 #[.int .i64 n] w fun e w' => e = .returned (.string (digB n)) ∧ w = w' := by
  rcases (show n = 0 ∨ n = 1 ∨ n = 2 ∨ n = 3 ∨ n = 4 ∨ n = 5 by omega) with rfl | rfl | rfl | rfl | rfl | rfl
  all_goals
    go_enter Tryd.func139, Tryd.ntmps139
    go_wp2
    go_ret
    exact ⟨rfl, rfl⟩

theorem dig_byte (d : Nat) (h : d < 10) : ((UInt8.ofNat (48 + d)).toNat : Int) = 48 + d := by rw [UInt8.toNat_ofNat']; omega

set_option maxRecDepth 100000 in
theorem l2Dec_in (n : Nat) (hn : n ≤ 5) (w : World) : Calls Tryd.prog 138 #[.int .i64 n] w fun e w' => e = .returned (.string (digB n)) ∧ Below w.heap.size w w' := by
  have hu := dig_byte n (by omega)
  unfold digB
  generalize UInt8.ofNat (48 + n) = u at *
  have hcv := conv_one (w.alloc (.cells #[.int .u8 (48 + n)] 5)) w.heap.size (48 + n) u hu (by simp [go_sem])
  clear hu
  go_enter Tryd.func138, Tryd.ntmps138
  go_wp2
  go_ret
  exact ⟨rfl, (Below.refl _ _).alloc (Nat.le_refl _) _⟩

theorem below_trans {w a b : World} (h : Below w.heap.size w a) (k : Below a.heap.size a b) : Below w.heap.size w b := h.trans (k.mono h.size)

set_option maxHeartbeats 1000000 in
theorem specForm_no (c : Int) (t : ByteArray) (a : Option Addr) (n cap : Nat) (w : World) (ht : t.size ≤ 1048576) (hn : n ≤ 1048576) (h : c < 0 ∨ 5 < c ∨ 2000 < t.size ∨ 0 < n) :
    Calls Tryd.prog 89 #[.agg #[.int .i64 c, .string t, .slice a n cap]] w fun e w' => e = .returned (.string ⟨#[]⟩) ∧ Below w.heap.size w w' := by
  go_enter Tryd.func89, Tryd.ntmps89
  go_wp2
  all_goals first
    | (exfalso; omega)
    | (go_ret; exact ⟨rfl, (Below.refl _ _).alloc (Nat.le_refl _) _⟩)

set_option maxHeartbeats 1000000 in
theorem specForm_yes (m : Nat) (t : ByteArray) (a : Option Addr) (cap : Nat) (w : World) (hm : m ≤ 5) (ht : t.size ≤ 2000) :
    Calls Tryd.prog 89 #[.agg #[.int .i64 m, .string t, .slice a 0 cap]] w fun e w' => e = .returned (.string (digB m ++ (⟨#[58]⟩ : ByteArray) ++ t)) ∧ Below w.heap.size w w' := by
  have hd : (digB m).size ≤ 1 := Nat.le_of_eq (digB_size m)
  have HC : Hid (∀ W : World, Calls Tryd.prog 138 #[.int .i64 m] W fun e w' => e = .returned (.string (digB m)) ∧ Below W.heap.size W w') := fun W => l2Dec_in m hm W
  generalize digB m = d at *
  have HD : Hid (∀ W : World, W.cell? ⟨w.heap.size, 1, none⟩ = some (.string t) → Calls Tryd.prog 138 #[.int .i64 m] W fun e w' => e = .returned (.string d) ∧ Below W.heap.size W w' ∧ w'.cell? ⟨w.heap.size, 1, none⟩ = some (.string t)) := fun W hW => (HC.out W).mono fun e w' ⟨he, hb⟩ => ⟨he, hb, cell_below hb hW⟩
  have hx0 : (w.alloc (.cells #[.int .i64 m, .string t, .slice a 0 cap] 77)).cell? ⟨w.heap.size, 0, none⟩ = some (.int .i64 m) := by simp [go_sem]
  have hx1 : (w.alloc (.cells #[.int .i64 m, .string t, .slice a 0 cap] 77)).cell? ⟨w.heap.size, 1, none⟩ = some (.string t) := by simp [go_sem]
  go_enter Tryd.func89, Tryd.ntmps89
  go_wp2
  go_region_with (first | (go_at_call 138; refine (HD.out _ ?_).mono ?_; (focus (simp [go_sem]; done)); rintro e w1 ⟨rfl, hb1, hcc⟩))
  all_goals
    go_wp2
    go_ret
    exact ⟨rfl, (((Below.refl _ _).alloc (Nat.le_refl _) _).drew.trans (hb1.mono (by simp)))⟩

set_option maxHeartbeats 1000000 in
theorem implForm_no (c : Int) (t : ByteArray) (a : Option Addr) (n cap : Nat) (w : World) (ht : t.size ≤ 1048576) (hn : n ≤ 1048576) (h : c < 0 ∨ 5 < c ∨ 2000 < t.size ∨ 0 < n) :
    Calls Tryd.prog 91 #[.agg #[.int .i64 c, .string t, .slice a n cap]] w fun e w' => e = .returned (.string ⟨#[]⟩) ∧ Below w.heap.size w w' := by
  go_enter Tryd.func91, Tryd.ntmps91
  go_wp2
  all_goals first
    | (exfalso; omega)
    | (go_ret; exact ⟨rfl, (Below.refl _ _).alloc (Nat.le_refl _) _⟩)

set_option maxHeartbeats 1000000 in
theorem implForm_yes (m : Nat) (t : ByteArray) (a : Option Addr) (cap : Nat) (w : World) (hm : m ≤ 5) (ht : t.size ≤ 2000) :
    Calls Tryd.prog 91 #[.agg #[.int .i64 m, .string t, .slice a 0 cap]] w fun e w' => e = .returned (.string (digB m ++ (⟨#[58]⟩ : ByteArray) ++ t)) ∧ Below w.heap.size w w' := by
  have hd : (digB m).size ≤ 1 := Nat.le_of_eq (digB_size m)
  have HC : Hid (∀ W : World, Calls Tryd.prog 139 #[.int .i64 m] W fun e w' => e = .returned (.string (digB m)) ∧ W = w') := fun W => itoa_in m hm W
  generalize digB m = d at *
  have hx0 : (w.alloc (.cells #[.int .i64 m, .string t, .slice a 0 cap] 77)).cell? ⟨w.heap.size, 0, none⟩ = some (.int .i64 m) := by simp [go_sem]
  have hx1 : (w.alloc (.cells #[.int .i64 m, .string t, .slice a 0 cap] 77)).cell? ⟨w.heap.size, 1, none⟩ = some (.string t) := by simp [go_sem]
  go_enter Tryd.func91, Tryd.ntmps91
  go_wp2
  go_region_with (first | (go_at_call 139; refine (HC.out _).mono ?_; rintro e w1 ⟨rfl, rfl⟩))
  all_goals
    go_wp2
    go_ret
    exact ⟨rfl, ((Below.refl _ _).alloc (Nat.le_refl _) _).drew⟩

set_option maxHeartbeats 1000000 in
theorem szResult_left (L0 : Int) (hL0 : 0 ≤ L0) (hL1 : L0 ≤ 1048576) (c : Int) (t : ByteArray) (a : Option Addr) (cap : Nat) (ss : List ByteArray) (w : World) (ht : t.size ≤ maxLen) (hc : Strs w a ss) (hl : ss.length ≤ maxLen) (hs : ∀ s ∈ ss, s.size ≤ maxLen) :
    Calls Tryd.prog 32 #[.agg #[.int .i64 c, .string t, .slice a ss.length cap], .int .i64 L0] w fun e w' => Below w.heap.size w w' ∧ ∃ r : Int, e = .returned (.int .i64 r) ∧ (r < 0 ∨ (t.size ≤ 1048576 ∧ ss.length ≤ 1048576 ∧ 0 ≤ r ∧ r ≤ 1048576)) := by
  have hb0 : Below w.heap.size w (w.alloc (.cells #[.int .i64 c, .string t, .slice a ss.length cap] 68)) := (Below.refl _ _).alloc (Nat.le_refl _) _
  have ht' := ht
  unfold maxLen at ht'
  by_cases h0 : (t.size : Int) ≤ L0
  · have HZ : Hid (∀ L : Int, 0 ≤ L → L ≤ 1048576 → Calls Tryd.prog 44 #[.slice a ss.length cap, .int .i64 L] (w.alloc (.cells #[.int .i64 c, .string t, .slice a ss.length cap] 68)) fun e w' => (w.alloc (.cells #[.int .i64 c, .string t, .slice a ss.length cap] 68)) = w' ∧ ∃ r : Int, e = .returned (.int .i64 r) ∧ (r < 0 ∨ ((ss.length + total ss : Int) ≤ L ∧ 0 ≤ r ∧ r ≤ L))) := fun L h1 h2 => szStringS_any a cap ss _ (hc.below hb0) hl hs L h1 h2
    go_enter Tryd.func32, Tryd.ntmps32
    go_wp2_with (go_at_call 44; refine (HZ.out _ (by omega) (by omega)).mono ?_; rintro e w' ⟨rfl, r, rfl, hr⟩)
    all_goals go_ret
    · exact ⟨hb0, -1, rfl, by omega⟩
    · exact ⟨hb0, r, rfl, by omega⟩
  · go_enter Tryd.func32, Tryd.ntmps32
    go_wp2
    go_ret
    exact ⟨hb0, -1, rfl, by omega⟩

set_option maxHeartbeats 1000000 in
theorem eqResult_same (c : Int) (t : ByteArray) (a a' : Option Addr) (cap cap' : Nat) (ss : List ByteArray) (w : World) (hc : Strs w a ss) (hc' : Strs w a' ss) (hl : ss.length ≤ 1048576) :
    Calls Tryd.prog 39 #[.agg #[.int .i64 c, .string t, .slice a ss.length cap], .agg #[.int .i64 c, .string t, .slice a' ss.length cap']] w fun e w' => Below w.heap.size w w' ∧ e = .returned (.bool true) := by
  go_enter Tryd.func39, Tryd.ntmps39
  go_wp2_with fail
  have hb0 : Below w.heap.size w ((w.alloc (.cells #[.int .i64 c, .string t, .slice a ss.length cap] 77)).alloc (.cells #[.int .i64 c, .string t, .slice a' ss.length cap'] 77)) := ((Below.refl _ _).alloc (Nat.le_refl _) _).alloc (by simp) _
  refine (eqStringS_same a a' cap cap' ss _ (hc.below hb0) (hc'.below hb0) hl).mono ?_
  rintro e w1 ⟨hb1, rfl⟩
  go_wp2
  go_ret
  exact ⟨hb0.trans (hb1.mono hb0.size), rfl⟩

/-- What FormResult answers: the two agree. -/
theorem form_out (c : Int) (t : ByteArray) (n : Nat) (ht : t.size ≤ 1048576) (hn : n ≤ 1048576) : ∃ out : ByteArray, out.size ≤ 2002 ∧
    (∀ (a : Option Addr) (cap : Nat) (w : World), Calls Tryd.prog 89 #[.agg #[.int .i64 c, .string t, .slice a n cap]] w fun e w' => e = .returned (.string out) ∧ Below w.heap.size w w') ∧
    (∀ (a : Option Addr) (cap : Nat) (w : World), Calls Tryd.prog 91 #[.agg #[.int .i64 c, .string t, .slice a n cap]] w fun e w' => e = .returned (.string out) ∧ Below w.heap.size w w') := by
  by_cases h : c < 0 ∨ 5 < c ∨ 2000 < t.size ∨ 0 < n
  · exact ⟨⟨#[]⟩, by decide, fun a cap w => specForm_no c t a n cap w ht hn h, fun a cap w => implForm_no c t a n cap w ht hn h⟩
  · obtain ⟨m, rfl⟩ := Int.eq_ofNat_of_zero_le (show 0 ≤ c by omega)
    obtain rfl : n = 0 := by omega
    exact ⟨_, by rw [ByteArray.size_append, ByteArray.size_append, digB_size]; have : (⟨#[58]⟩ : ByteArray).size = 1 := rfl; omega, fun a cap w => specForm_yes m t a cap w (by omega) (by omega), fun a cap w => implForm_yes m t a cap w (by omega) (by omega)⟩


end Go.Proofs.YtmeojnaoljgieacDoor
