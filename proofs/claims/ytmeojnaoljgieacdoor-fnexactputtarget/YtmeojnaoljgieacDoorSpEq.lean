/-
  Spaces: laws.eqSpace and what it calls.
-/
import Derived.Test.YtmeojnaoljgieacDoorSpCopy
namespace Go.Proofs.YtmeojnaoljgieacDoor
open Go.RowKit
set_option linter.unusedVariables false

set_option maxHeartbeats 400000 in
theorem eqSource_same (i : S2) (w : World) :
    Calls Tryd.prog 117 #[.agg #[.string i.name, .string i.text], .agg #[.string i.name, .string i.text]] w fun e w' => Below w.heap.size w w' ∧ e = .returned (.bool true) := by
  have e1 := str_eq (rfl : i.text = i.text)
  have e2 := str_eq (rfl : i.name = i.name)
  go_enter Tryd.func117, Tryd.ntmps117
  go_wp2
  go_ret
  exact ⟨((Below.refl _ _).alloc (Nat.le_refl _) _).alloc (by simp) _, rfl⟩

set_option maxHeartbeats 1000000 in
theorem eqSourceS_same (a a' : Option Addr) (cap cap' : Nat) (is : List S2) (w : World) (hc : RowS w a is) (hc' : RowS w a' is) (hl : is.length ≤ 1048576) :
    Calls Tryd.prog 64 #[.slice a is.length cap, .slice a' is.length cap'] w fun e w' => Below w.heap.size w w' ∧ e = .returned (.bool true) := by
  go_enter Tryd.func64, Tryd.ntmps64
  go_wp2
  go_loopw [5] (fun i wr => ∃ k : Nat, k ≤ is.length ∧ i = .int .i64 k ∧ Below w.heap.size w wr) (fun i _ => is.length - (intOf i).toNat)
  case atStart => exact ⟨0, Nat.zero_le _, rfl, Below.refl _ _⟩
  case round =>
    obtain ⟨k, hk, rfl, hbel⟩ := hrel
    by_cases hlt : k < is.length
    · obtain ⟨b, off, rfl, c1, c2⟩ := (hc.below hbel) k hlt
      obtain ⟨b', off', rfl, d1, d2⟩ := (hc'.below hbel) k hlt
      generalize sx is k = i at *
      clear hc hc'
      have hkI : (k : Int) < (is.length : Int) := by omega
      have hk0 : (0 : Int) ≤ (k : Int) := by omega
      go_wp2_with fail
      go_region_held3 (fun w' => (w'.cell? ⟨b, off + k * 2, none⟩ = some (.string i.name) ∧ w'.cell? ⟨b, off + k * 2 + 1, none⟩ = some (.string i.text)) ∧ (w'.cell? ⟨b', off' + k * 2, none⟩ = some (.string i.name) ∧ w'.cell? ⟨b', off' + k * 2 + 1, none⟩ = some (.string i.text)))
        (first | assumption | (simp [*]; done) | exact ⟨⟨cell_below hb1 (by simp [*]), cell_below hb1 (by simp [*])⟩, cell_below hb1 (by simp [*]), cell_below hb1 (by simp [*])⟩)
        (first | (go_at_call 117; refine (eqSource_same i _).mono ?_; rintro e w1 ⟨hb1, rfl⟩))
      all_goals
        go_wp2
        go_roundw
        case rel => exact ⟨k + 1, by omega, by go_num, hbel.trans (Below.trans (Below.drew (Below.refl _ _)) (hb1.mono (by simpa using hbel.size)))⟩
        case measure => simp [intOf]; omega
    · go_wp2
      go_ret
      exact ⟨hbel, rfl⟩

set_option maxHeartbeats 400000 in
theorem eqTarget_same (n : ByteArray) (a a' : Option Addr) (cap cap' : Nat) (is : List I3) (w : World) (hc : Row3 w a is) (hc' : Row3 w a' is) (hl : is.length ≤ 1048576) :
    Calls Tryd.prog 118 #[.agg #[.string n, .slice a is.length cap], .agg #[.string n, .slice a' is.length cap']] w fun e w' => Below w.heap.size w w' ∧ e = .returned (.bool true) := by
  have e2 := str_eq (rfl : n = n)
  have hb0 : Below w.heap.size w ((w.alloc (.cells #[.string n, .slice a is.length cap] 120)).alloc (.cells #[.string n, .slice a' is.length cap'] 120)) := ((Below.refl _ _).alloc (Nat.le_refl _) _).alloc (by simp) _
  go_enter Tryd.func118, Tryd.ntmps118
  go_wp2_with fail
  refine (eqProgram_same a a' cap cap' is _ (hc.below hb0) (hc'.below hb0) hl).mono ?_
  rintro e w1 ⟨hb1, rfl⟩
  go_wp2
  go_ret
  exact ⟨bt hb0 hb1, rfl⟩

set_option maxHeartbeats 1000000 in
theorem eqTargetS_same (a a' : Option Addr) (cap cap' : Nat) (is : List T2) (w : World) (hc : RowT w a is) (hc' : RowT w a' is) (hl : is.length ≤ 1048576) (hkk : ∀ i, i < is.length → (tx is i).code.length ≤ 1048576) :
    Calls Tryd.prog 65 #[.slice a is.length cap, .slice a' is.length cap'] w fun e w' => Below w.heap.size w w' ∧ e = .returned (.bool true) := by
  have HK : Hid (∀ i, i < is.length → (tx is i).code.length ≤ 1048576) := hkk
  clear hkk
  go_enter Tryd.func65, Tryd.ntmps65
  go_wp2
  go_loopw [5] (fun i wr => ∃ k : Nat, k ≤ is.length ∧ i = .int .i64 k ∧ Below w.heap.size w wr) (fun i _ => is.length - (intOf i).toNat)
  case atStart => exact ⟨0, Nat.zero_le _, rfl, Below.refl _ _⟩
  case round =>
    obtain ⟨k, hk, rfl, hbel⟩ := hrel
    by_cases hlt : k < is.length
    · obtain ⟨b, off, rfl, c1, x, p, c2, c3⟩ := (hc.below hbel) k hlt
      obtain ⟨b', off', rfl, d1, x', p', d2, d3⟩ := (hc'.below hbel) k hlt
      have hck := HK.out k hlt
      generalize tx is k = i at *
      clear hc hc'
      have C3 : Hid (Row3 wr x i.code) := c3
      have D3 : Hid (Row3 wr x' i.code) := d3
      clear c3 d3
      have hkI : (k : Int) < (is.length : Int) := by omega
      have hk0 : (0 : Int) ≤ (k : Int) := by omega
      have hbd : Below wr.heap.size wr wr.drew := (Below.refl _ _).drew
      go_wp2_with fail
      go_region_held3 (fun w' => (w'.cell? ⟨b, off + k * 2, none⟩ = some (.string i.name) ∧ w'.cell? ⟨b, off + k * 2 + 1, none⟩ = some (.slice x i.code.length p)) ∧ (w'.cell? ⟨b', off' + k * 2, none⟩ = some (.string i.name) ∧ w'.cell? ⟨b', off' + k * 2 + 1, none⟩ = some (.slice x' i.code.length p')))
        (first | assumption | (simp [*]; done) | exact ⟨⟨cell_below hb1 (by simp [*]), cell_below hb1 (by simp [*])⟩, cell_below hb1 (by simp [*]), cell_below hb1 (by simp [*])⟩)
        (first | (go_at_call 118; refine (eqTarget_same i.name x x' p p' i.code _ (C3.out.below hbd) (D3.out.below hbd) hck).mono ?_; rintro e w1 ⟨hb1, rfl⟩))
      all_goals
        go_wp2
        go_roundw
        case rel => exact ⟨k + 1, by omega, by go_num, hbel.trans (Below.trans (Below.drew (Below.refl _ _)) (hb1.mono (by simpa using hbel.size)))⟩
        case measure => simp [intOf]; omega
    · go_wp2
      go_ret
      exact ⟨hbel, rfl⟩

set_option maxHeartbeats 400000 in
theorem eqSpace_same (sa ta sa' ta' : Option Addr) (c1 c2 c1' c2' : Nat) (ss : List S2) (ts : List T2) (w : World) (rs : RowS w sa ss) (rt : RowT w ta ts) (rs' : RowS w sa' ss) (rt' : RowT w ta' ts) (h : SpSmall ss ts) :
    Calls Tryd.prog 18 #[.agg #[.slice sa ss.length c1, .slice ta ts.length c2], .agg #[.slice sa' ss.length c1', .slice ta' ts.length c2']] w fun e w' => Below w.heap.size w w' ∧ e = .returned (.bool true) := by
  obtain ⟨h1, h2, h3⟩ := h
  have hb0 : Below w.heap.size w ((w.alloc (.cells #[.slice sa ss.length c1, .slice ta ts.length c2] 42)).alloc (.cells #[.slice sa' ss.length c1', .slice ta' ts.length c2'] 42)) := ((Below.refl _ _).alloc (Nat.le_refl _) _).alloc (by simp) _
  go_enter Tryd.func18, Tryd.ntmps18
  go_wp2_with fail
  refine (eqSourceS_same sa sa' c1 c1' ss _ (rs.below hb0) (rs'.below hb0) h1).mono ?_
  rintro e w1 ⟨hb1, rfl⟩
  have hB1 := bt hb0 hb1
  have k1 : w1.cell? ⟨w.heap.size, 1, none⟩ = some (.slice ta ts.length c2) := cell_below hb1 (by simp [go_sem])
  have k2 : w1.cell? ⟨w.heap.size + 1, 1, none⟩ = some (.slice ta' ts.length c2') := cell_below hb1 (by simp [go_sem])
  clear hb0 hb1
  go_wp2_with fail
  refine (eqTargetS_same ta ta' c2 c2' ts _ (rt.below hB1) (rt'.below hB1) h2 h3).mono ?_
  rintro e w2 ⟨hb2, rfl⟩
  go_wp2
  go_ret
  exact ⟨bt hB1 hb2, rfl⟩

end Go.Proofs.YtmeojnaoljgieacDoor
