/-
  What a machine's work leaves: all below B, and every block of another kind than a row of texts but the machine's own.
-/
import Derived.Test.YtmeojnaoljgieabDoorNMach
namespace Go.Proofs.YtmeojnaoljgieabDoor
open Go.RowKit
set_option linter.unusedVariables false

theorem blk_lt {w : World} {b : Nat} {o : Obj} (h : w.heap[b]? = some o) : b < w.heap.size := by
  rcases Nat.lt_or_ge b w.heap.size with h' | h'
  · exact h'
  · rw [Array.getElem?_eq_none h'] at h; cases h
theorem cells_ne {w : World} {b B n T : Nat} {cs : Array Value} {v : Value} {xs : List Value} (hT : T ≠ 9) (h : w.heap[b]? = some (.cells cs T (0, 0))) (ho : w.ownsRow B 9 1 v n xs) : some b ≠ v.ownBlock := by
  intro e
  rcases ho.2 with ⟨rfl, _⟩ | ⟨g, cap, cur, rfl, hg, hh, _⟩
  · simp [Value.ownBlock] at e
  · simp [Value.ownBlock] at e
    subst e
    rw [h] at hh
    injection hh with hh
    injection hh with _ h2
    exact hT h2

structure KB (B m : Nat) (w w' : World) : Prop where
  below : Below B w w'
  keep : ∀ b cs T, T ≠ 9 → b ≠ m → w.heap[b]? = some (.cells cs T (0, 0)) → w'.heap[b]? = some (.cells cs T (0, 0))
theorem KB.size {B m : Nat} {w w' : World} (h : KB B m w w') : w.heap.size ≤ w'.heap.size := h.below.size
theorem KB.refl (B m : Nat) (w : World) : KB B m w w := ⟨Below.refl _ _, fun _ _ _ _ _ h => h⟩
theorem KB.trans {B m : Nat} {w w' w'' : World} (h : KB B m w w') (k : KB B m w' w'') : KB B m w w'' := ⟨h.below.trans k.below, fun b cs T h1 h2 h3 => k.keep b cs T h1 h2 (h.keep b cs T h1 h2 h3)⟩
theorem KB.drew {B m : Nat} {w w' : World} (h : KB B m w w') : KB B m w w'.drew := ⟨h.below.drew, h.keep⟩
theorem KB.old {B m : Nat} {w w' : World} (h : Below w.heap.size w w') (hB : B ≤ w.heap.size) : KB B m w w' := ⟨h.mono hB, fun b cs T h1 h2 h3 => by rw [h.block b (blk_lt h3)]; exact h3⟩
theorem KB.setM {B m : Nat} {w w' : World} (h : KB B m w w') (j : Nat) (hB : B ≤ m) (v : Value) : KB B m w (w'.setCell ⟨m, j, none⟩ v) := ⟨h.below.setCell (p := ⟨m, j, none⟩) hB _, fun b cs T h1 h2 h3 => by rw [Below.heap_setCell w' ⟨m, j, none⟩ _ b h2]; exact h.keep b cs T h1 h2 h3⟩
theorem KB.setN {B m : Nat} {w w' : World} (h : KB B m w w') (j : Nat) (hB : B ≤ w.heap.size) (v : Value) : KB B m w (w'.setCell ⟨w.heap.size, j, none⟩ v) := ⟨h.below.setCell (p := ⟨w.heap.size, j, none⟩) hB _, fun b cs T h1 h2 h3 => by rw [Below.heap_setCell w' ⟨w.heap.size, j, none⟩ _ b (by have := blk_lt h3; simp; omega)]; exact h.keep b cs T h1 h2 h3⟩

theorem keep_grown {w w2 : World} {o : Obj} {ob : Option Nat} (hgrow : (w.alloc o).grownBy w2 ob) (HO : ∀ (b : Nat) (cs : Array Value) (T : Nat), T ≠ 9 → w.heap[b]? = some (.cells cs T (0, 0)) → some b ≠ ob) : ∀ (b : Nat) (cs : Array Value) (T : Nat), T ≠ 9 → w.heap[b]? = some (.cells cs T (0, 0)) → w2.heap[b]? = some (.cells cs T (0, 0)) := by
  intro b cs T hT hb
  have hl := blk_lt hb
  rw [hgrow.block b (by simp; omega) (HO b cs T hT hb), Lib.alloc_old w _ b hl]
  exact hb

set_option maxRecDepth 100000 in
set_option maxHeartbeats 1000000 in
theorem put_okK (B m : Nat) (ss : List ByteArray) (cd : Value) (pl st lk : Int) (t : ByteArray) (w : World) (hM : MOk B w m ss cd pl st lk) (hB : B ≤ w.heap.size) (h1 : t.size ≤ 2000) (h2 : ss.length < 50) :
    Calls Tryd.prog 83 #[.pointer (some ⟨m, 0, none⟩), .string t] w fun e w' => e = .returned (.bool true) ∧ KB B m w w' ∧ MOk B w' m (ss ++ [t]) cd pl st lk := by
  obtain ⟨hBm, v, hm, hown⟩ := hM
  obtain ⟨ao, cap, rfl⟩ : ∃ ao cap, v = .slice ao ss.length cap := by
    rcases hown.2 with ⟨hv, h0⟩ | ⟨g, cap, cur, hv, _⟩
    · exact ⟨none, 0, by rw [hv, h0]⟩
    · exact ⟨_, _, hv⟩
  have c0 : w.cell? ⟨m, 0, none⟩ = some (.slice ao ss.length cap) := by rw [Lib.cell_of_heap hm]; rfl
  have hlt := hm.lt
  have HO : Hid (∀ (b : Nat) (cs : Array Value) (T : Nat), T ≠ 9 → w.heap[b]? = some (.cells cs T (0, 0)) → some b ≠ (Value.slice ao ss.length cap).ownBlock) := fun b cs T hT hb => cells_ne hT hb hown
  have d1 : decide ((2000 : Int) < t.size) = false := by simp; omega
  have d2 : ((ss.length : Int) == 50) = false := by simp; omega
  obtain ⟨i0, hi, hz0, hz1, hz2⟩ := info_parts Tryd.info9b
  go_enter Tryd.func83, Tryd.ntmps83
  go_wp2_with (first | (at_builtin; refine wpList_append_own _ rfl (.tmp 20) (.tmp 22) 83 rfl B 9 i0 (.string ⟨#[]⟩) 1 16 Tryd.underlying83 hi hz0 hz1 hz2 rfl (by decide) _ _ _ rfl (hown.alloc _) ⟨w.heap.size, 0, none⟩ 1 1 [.string t] rfl rfl (cell_one_new _ _ _) (by intro u hu; simp at hu; subst hu; rfl) (by unfold maxLen; omega) (by omega) (by simp; omega) ?_; intro v' w2 hown' hgrow hnil; have hK2 : Hid (∀ (b : Nat) (cs : Array Value) (T : Nat), T ≠ 9 → w.heap[b]? = some (.cells cs T (0, 0)) → w2.heap[b]? = some (.cells cs T (0, 0))) := keep_grown hgrow HO.out; have hm2 : Mach w2 m (.slice ao ss.length cap) cd pl st lk := (by have hne := hm.ne' hown; unfold Mach at *; rw [hgrow.block m (by simp; omega) hne, Lib.alloc_old w _ m hlt]; exact hm); have e0 : w2.cell? ⟨m, 0, none⟩ = some (.slice ao ss.length cap) := (by rw [Lib.cell_of_heap hm2]; rfl); have f0 : w2.frozen? ⟨m, 0, none⟩ = false := Lib.frozen_of_heap hm2 0; have hbB : Below B w w2 := ((Below.refl _ _).alloc (by omega) _).grown hgrow (by simp; omega) (fun k hk => (own_lt hown k hk).1); obtain ⟨g', cap2, hv'⟩ : ∃ g cap, v' = .slice (some ⟨g, 0, none⟩) (ss.length + 1) cap := (by rcases hown'.2 with ⟨_, h0⟩ | ⟨g, cap, cur, hv, _⟩; omega; exact ⟨g, cap, hv⟩); rw [hv'] at hown' ⊢))
  go_ret
  exact ⟨rfl, ⟨hbB.setCell (p := ⟨m, 0, none⟩) hBm _, fun b cs T hT hbm hb => by rw [Below.heap_setCell _ ⟨m, 0, none⟩ _ b hbm]; exact hK2.out b cs T hT hb⟩, MOk.put hBm hm2 (by simpa [strV] using hown')⟩

set_option maxHeartbeats 400000 in
theorem take_anyK (B m : Nat) (ss : List ByteArray) (x : ByteArray) (cd : Value) (pl st lk : Int) (w : World) (hM : MOk B w m (ss ++ [x]) cd pl st lk) (hB : B ≤ w.heap.size) (h2 : ss.length < 50) :
    Calls Tryd.prog 80 #[.pointer (some ⟨m, 0, none⟩)] w fun e w' => e = .returned (.string x) ∧ KB B m w w' ∧ MOk B w' m ss cd pl st lk ∧ ∀ b, b ≠ m → w'.heap[b]? = w.heap[b]? := by
  obtain ⟨hBm, v, hm, hown⟩ := hM
  rw [List.length_append, List.length_singleton] at hown
  obtain ⟨g, cap, rfl⟩ : ∃ g cap, v = .slice (some ⟨g, 0, none⟩) (ss.length + 1) cap := by
    rcases hown.2 with ⟨_, h0⟩ | ⟨g, cap, cur, hv, _⟩
    · omega
    · exact ⟨_, _, hv⟩
  have c0 : w.cell? ⟨m, 0, none⟩ = some (.slice (some ⟨g, 0, none⟩) (ss.length + 1) cap) := by rw [Lib.cell_of_heap hm]; rfl
  have f0 : w.frozen? ⟨m, 0, none⟩ = false := Lib.frozen_of_heap hm 0
  have cx : w.cell? ⟨g, ss.length, none⟩ = some (.string x) := by rw [hown.cellAt ss.length (by omega)]; simp [strV]
  have hcap : ss.length + 1 ≤ cap := by
    rcases hown.2 with ⟨h0, _⟩ | ⟨g', cap', cur, hv, hg, hh, h1, _⟩
    · simp at h0
    · simp only [Value.slice.injEq, Option.some.injEq, Addr.mk.injEq, and_true, true_and] at hv
      omega
  have HS : Hid (MOk B (w.setCell ⟨m, 0, none⟩ (.slice (some ⟨g, 0, none⟩) ss.length cap)) m ss cd pl st lk) := MOk.put hBm hm (own_shrink hown)
  clear hown hm
  go_enter Tryd.func80, Tryd.ntmps80
  go_wp2
  go_ret
  exact ⟨rfl, ⟨(Below.refl _ _).setCell (p := ⟨m, 0, none⟩) hBm _, fun b cs T hT hbm hb => by rw [Below.heap_setCell w ⟨m, 0, none⟩ _ b hbm]; exact hb⟩, HS.out, fun b hb => Below.heap_setCell w ⟨m, 0, none⟩ _ b hb⟩

end Go.Proofs.YtmeojnaoljgieabDoor
