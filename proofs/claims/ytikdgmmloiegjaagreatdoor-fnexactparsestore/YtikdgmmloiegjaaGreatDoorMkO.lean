import Derived.Test.YtikdgmmloiegjaaGreatDoorMkH
namespace Go.Proofs.YtikdgmmloiegjaaGreatDoor
open Go.RowKit
set_option linter.unusedVariables false

/-- All blocks but one stay. -/
def KeepO (ob : Option Nat) (w w' : World) : Prop := ∀ b, b < w.heap.size → some b ≠ ob → w'.heap[b]? = w.heap[b]?
theorem KeepO.below {ob : Option Nat} {w w' w2 : World} (h : KeepO ob w w') (hs : w.heap.size ≤ w'.heap.size) (hb : Below w'.heap.size w' w2) : KeepO ob w w2 := fun b hl hne => by
  rw [hb.block b (by omega)]; exact h b hl hne
theorem KeepO.after {ob : Option Nat} {w w1 w' : World} (h : KeepO ob w1 w') (hb : Below w.heap.size w w1) : KeepO ob w w' := fun b hl hne => by
  rw [h b (Nat.lt_of_lt_of_le hl hb.size) hne]; exact hb.block b hl
theorem own_ltM {w : World} {B e sz n : Nat} {v : Value} {xs : List Value} (h : w.ownsRow B e sz v n xs) {b : Nat} (hb : v.ownBlock = some b) : B ≤ b ∧ b < w.heap.size := h.lt b hb
theorem own_keep {w w' : World} {B e sz n : Nat} {v : Value} {xs : List Value} {ob : Option Nat} (h : w.ownsRow B e sz v n xs) (hk : KeepO ob w w') (hne : ∀ b, v.ownBlock = some b → some b ≠ ob) : w'.ownsRow B e sz v n xs := by
  refine ⟨h.1, ?_⟩
  rcases h.2 with h2 | ⟨g, cap, cur, hv, hg, hh, r⟩
  · exact Or.inl h2
  · refine Or.inr ⟨g, cap, cur, hv, hg, ?_, r⟩
    subst hv
    rw [hk g (h.lt g rfl).2 (hne g rfl)]; exact hh
theorem own_set {w : World} {B e sz n g cap : Nat} {xs : List Value} (h : w.ownsRow B e sz (.slice (some ⟨g, 0, none⟩) n cap) n xs) {b j : Nat} (hb : b ≠ g) (v : Value) : (w.setCell ⟨b, j, none⟩ v).ownsRow B e sz (.slice (some ⟨g, 0, none⟩) n cap) n xs := by
  refine ⟨h.1, ?_⟩
  rcases h.2 with ⟨h2, _⟩ | ⟨g', cap, cur, hv, hg, hh, r⟩
  · cases h2
  · cases hv
    refine Or.inr ⟨g, cap, cur, rfl, hg, ?_, r⟩
    rw [Below.heap_setCell w ⟨b, j, none⟩ v g (fun e => hb e.symm)]; exact hh
theorem own_base {w : World} {B B' e sz n : Nat} {v : Value} {xs : List Value} (h : w.ownsRow B e sz v n xs) (hB : B' ≤ B) : w.ownsRow B' e sz v n xs := by
  refine ⟨h.1, ?_⟩
  rcases h.2 with h | ⟨g, cap, cur, hv, hg, r⟩
  · exact Or.inl h
  · exact Or.inr ⟨g, cap, cur, hv, Nat.le_trans hB hg, r⟩
theorem own_casesM {w : World} {B e sz n : Nat} {v : Value} {xs : List Value} (h : w.ownsRow B e sz v n xs) : (v = .slice none 0 0 ∧ n = 0) ∨ ∃ g cap, v = .slice (some ⟨g, 0, none⟩) n cap := by
  rcases h.2 with h | ⟨g, cap, cur, hv, hg, r⟩
  · exact Or.inl h
  · exact Or.inr ⟨g, cap, hv⟩

set_option maxHeartbeats 400000 in
theorem markInsS_nil (K : Nat) (w : World) (h2 : K ≤ 900000000000000) :
    Calls Tryz.prog 35 #[.slice none 0 0, .int .i64 K] w fun e w' => e = .returned (.int .i64 (K : Int)) ∧ w = w' := by
  go_enter Tryz.func35, Tryz.ntmps35
  go_wp2
  go_loopw [1, 5] (fun k i wr => i = .int .i64 0 ∧ k = .int .i64 (K : Int) ∧ w = wr) (fun _ i _ => 0)
  case atStart => exact ⟨rfl, rfl, rfl⟩
  case round =>
    obtain ⟨rfl, rfl, rfl⟩ := hrel
    go_wp2
    go_ret
    exact ⟨rfl, rfl⟩

theorem markInsS_own (B n K : Nat) (v : Value) (xs : List Value) (w : World) (hown : w.ownsRow B 56 3 v n xs) (hB : B ≤ w.heap.size) (hn : n ≤ 1048576) (h1 : 1 ≤ K) (h2 : K ≤ 900000000000000) :
    Calls Tryz.prog 35 #[v, .int .i64 K] w fun e w' => e = .returned (.int .i64 ((K + 3 * n : Nat) : Int)) ∧ Below B w w' ∧ KeepO v.ownBlock w w' ∧ ∃ ys, w'.ownsRow B 56 3 v n ys ∧ MkI K n ys := by
  rcases own_casesM hown with ⟨rfl, rfl⟩ | ⟨g, cap, rfl⟩
  · refine (markInsS_nil K w h2).mono ?_
    rintro e w' ⟨rfl, rfl⟩
    exact ⟨rfl, Below.refl _ _, fun _ _ _ => rfl, xs, hown, fun i hi => by omega⟩
  · refine (markInsS_any B g n cap K xs w hown hB hn h1 h2).mono ?_
    rintro e w' ⟨he, hb, hk, ys, ho, hm⟩
    exact ⟨he, hb, fun b hl hne => hk b hl (fun e => hne (by subst e; rfl)), ys, ho, hm⟩

set_option maxHeartbeats 400000 in
theorem markGlanceS_nil (K : Nat) (w : World) (h2 : K ≤ 900000000000000) :
    Calls Tryz.prog 36 #[.slice none 0 0, .int .i64 K] w fun e w' => e = .returned (.int .i64 (K : Int)) ∧ w = w' := by
  go_enter Tryz.func36, Tryz.ntmps36
  go_wp2
  go_loopw [1, 5] (fun k i wr => i = .int .i64 0 ∧ k = .int .i64 (K : Int) ∧ w = wr) (fun _ i _ => 0)
  case atStart => exact ⟨rfl, rfl, rfl⟩
  case round =>
    obtain ⟨rfl, rfl, rfl⟩ := hrel
    go_wp2
    go_ret
    exact ⟨rfl, rfl⟩

theorem markGlanceS_own (B n K : Nat) (v : Value) (xs : List Value) (w : World) (hown : w.ownsRow B 60 3 v n xs) (hB : B ≤ w.heap.size) (hn : n ≤ 1048576) (h1 : 1 ≤ K) (h2 : K ≤ 900000000000000) :
    Calls Tryz.prog 36 #[v, .int .i64 K] w fun e w' => e = .returned (.int .i64 ((K + 3 * n : Nat) : Int)) ∧ Below B w w' ∧ KeepO v.ownBlock w w' ∧ ∃ ys, w'.ownsRow B 60 3 v n ys ∧ MkG K n ys := by
  rcases own_casesM hown with ⟨rfl, rfl⟩ | ⟨g, cap, rfl⟩
  · refine (markGlanceS_nil K w h2).mono ?_
    rintro e w' ⟨rfl, rfl⟩
    exact ⟨rfl, Below.refl _ _, fun _ _ _ => rfl, xs, hown, fun i hi => by omega⟩
  · refine (markGlanceS_any B g n cap K xs w hown hB hn h1 h2).mono ?_
    rintro e w' ⟨he, hb, hk, ys, ho, hm⟩
    exact ⟨he, hb, fun b hl hne => hk b hl (fun e => hne (by subst e; rfl)), ys, ho, hm⟩

set_option maxHeartbeats 400000 in
theorem markStringS_nil (K : Nat) (w : World) (h2 : K ≤ 900000000000000) :
    Calls Tryz.prog 16 #[.slice none 0 0, .int .i64 K] w fun e w' => e = .returned (.int .i64 (K : Int)) ∧ w = w' := by
  go_enter Tryz.func16, Tryz.ntmps16
  go_wp2
  go_loopw [1, 5] (fun k i wr => i = .int .i64 0 ∧ k = .int .i64 (K : Int) ∧ w = wr) (fun _ i _ => 0)
  case atStart => exact ⟨rfl, rfl, rfl⟩
  case round =>
    obtain ⟨rfl, rfl, rfl⟩ := hrel
    go_wp2
    go_ret
    exact ⟨rfl, rfl⟩

theorem markStringS_own (B n K : Nat) (v : Value) (xs : List Value) (w : World) (hown : w.ownsRow B 9 1 v n xs) (hB : B ≤ w.heap.size) (hn : n ≤ 1048576) (h1 : 1 ≤ K) (h2 : K ≤ 900000000000000) :
    Calls Tryz.prog 16 #[v, .int .i64 K] w fun e w' => e = .returned (.int .i64 ((K + n : Nat) : Int)) ∧ Below B w w' ∧ KeepO v.ownBlock w w' := by
  rcases own_casesM hown with ⟨rfl, rfl⟩ | ⟨g, cap, rfl⟩
  · refine (markStringS_nil K w h2).mono ?_
    rintro e w' ⟨rfl, rfl⟩
    exact ⟨rfl, Below.refl _ _, fun _ _ _ => rfl⟩
  · refine (markStringS_any B g n cap K xs w hown hB hn h1 h2).mono ?_
    rintro e w' ⟨he, hb, hk⟩
    exact ⟨he, hb, fun b hl hne => hk b hl (fun e => hne (by subst e; rfl))⟩

set_option maxHeartbeats 400000 in
theorem heldInsS_nil (K : Nat) (w : World) (h2 : K ≤ 900000000000000) :
    Calls Tryz.prog 37 #[.slice none 0 0, .int .i64 K] w fun e w' => e = .returned (.int .i64 (K : Int)) ∧ w = w' := by
  go_enter Tryz.func37, Tryz.ntmps37
  go_wp2
  go_loopw [1, 5] (fun k i wr => i = .int .i64 0 ∧ k = .int .i64 (K : Int) ∧ w = wr) (fun _ i _ => 0)
  case atStart => exact ⟨rfl, rfl, rfl⟩
  case round =>
    obtain ⟨rfl, rfl, rfl⟩ := hrel
    go_wp2
    go_ret
    exact ⟨rfl, rfl⟩

theorem heldInsS_own (B n K : Nat) (v : Value) (ys : List Value) (w : World) (hown : w.ownsRow B 56 3 v n ys) (hm : MkI K n ys) (hn : n ≤ 1048576) (h1 : 1 ≤ K) (h2 : K ≤ 900000000000000) :
    Calls Tryz.prog 37 #[v, .int .i64 K] w fun e w' => e = .returned (.int .i64 ((K + 3 * n : Nat) : Int)) ∧ Below w.heap.size w w' := by
  rcases own_casesM hown with ⟨rfl, rfl⟩ | ⟨g, cap, rfl⟩
  · refine (heldInsS_nil K w h2).mono ?_
    rintro e w' ⟨rfl, rfl⟩
    exact ⟨rfl, Below.refl _ _⟩
  · exact heldInsS_any g n cap K w (MkI.read hown hm) hn h1 h2

set_option maxHeartbeats 400000 in
theorem heldGlanceS_nil (K : Nat) (w : World) (h2 : K ≤ 900000000000000) :
    Calls Tryz.prog 38 #[.slice none 0 0, .int .i64 K] w fun e w' => e = .returned (.int .i64 (K : Int)) ∧ w = w' := by
  go_enter Tryz.func38, Tryz.ntmps38
  go_wp2
  go_loopw [1, 5] (fun k i wr => i = .int .i64 0 ∧ k = .int .i64 (K : Int) ∧ w = wr) (fun _ i _ => 0)
  case atStart => exact ⟨rfl, rfl, rfl⟩
  case round =>
    obtain ⟨rfl, rfl, rfl⟩ := hrel
    go_wp2
    go_ret
    exact ⟨rfl, rfl⟩

theorem heldGlanceS_own (B n K : Nat) (v : Value) (ys : List Value) (w : World) (hown : w.ownsRow B 60 3 v n ys) (hm : MkG K n ys) (hn : n ≤ 1048576) (h1 : 1 ≤ K) (h2 : K ≤ 900000000000000) :
    Calls Tryz.prog 38 #[v, .int .i64 K] w fun e w' => e = .returned (.int .i64 ((K + 3 * n : Nat) : Int)) ∧ Below w.heap.size w w' := by
  rcases own_casesM hown with ⟨rfl, rfl⟩ | ⟨g, cap, rfl⟩
  · refine (heldGlanceS_nil K w h2).mono ?_
    rintro e w' ⟨rfl, rfl⟩
    exact ⟨rfl, Below.refl _ _⟩
  · exact heldGlanceS_any g n cap K w (MkG.read hown hm) hn h1 h2

end Go.Proofs.YtikdgmmloiegjaaGreatDoor
