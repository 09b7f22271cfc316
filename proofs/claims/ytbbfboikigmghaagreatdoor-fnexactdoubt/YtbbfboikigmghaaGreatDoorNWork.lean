import Derived.Test.YtbbfboikigmghaaGreatDoorNMach
import Derived.Deep.AppendLies
import Derived.Deep.RegionHeld
import Derived.Test.YtbbfboikigmghaaGreatDoorNPlain
namespace Go.Proofs.YtbbfboikigmghaaGreatDoor
open Go.RowKit
set_option linter.unusedVariables false
set_option maxHeartbeats 32000000
set_option maxRecDepth 100000
theorem blk_lt {w : World} {b : Nat} {o : Obj} (h : w.heap[b]? = some o) : b < w.heap.size := by
  rcases Nat.lt_or_ge b w.heap.size with h' | h'
  · exact h'
  · rw [Array.getElem?_eq_none h'] at h; cases h
theorem blkB {w w' : World} {b : Nat} {o : Obj} (hb : Below w.heap.size w w') (h : w.heap[b]? = some o) : w'.heap[b]? = some o := by
  rw [hb.block _ (blk_lt h)]; exact h
abbrev zR : Obj := .cells #[.int .i64 0, .slice none 0 0, .int .i64 0, .int .i64 0, .bool false, .int .i64 0, .string ⟨#[]⟩, .bool false, .string ⟨#[]⟩, .bool false] 199 (0, 0)
abbrev rR (p : Int) (d n cp : Nat) (s : Int) (l : Nat) : Obj := .cells #[.int .i64 p, .slice (some ⟨d, 0, none⟩) n cp, .int .i64 s, .int .i64 l, .bool false, .int .i64 0, .string ⟨#[]⟩, .bool false, .string ⟨#[]⟩, .bool false] 199 (0, 0)
theorem cells_ne {w : World} {b B n T : Nat} {cs : Array Value} {v : Value} {xs : List Value} (hT : T ≠ 9) (h : w.heap[b]? = some (.cells cs T (0, 0))) (ho : w.ownsRow B 9 1 v n xs) : some b ≠ v.ownBlock := by
  intro e
  rcases ho.2 with ⟨rfl, _⟩ | ⟨g, cap, cur, rfl, hg, hh, _⟩
  · simp [Value.ownBlock] at e
  · simp [Value.ownBlock] at e
    subst e
    rw [h] at hh
    injection hh with hh
    injection hh with _ h2
    exact hT h2
def NotOwn (w : World) (m b : Nat) : Prop := ∀ v, w.cell? ⟨m, 0, none⟩ = some v -> some b ≠ v.ownBlock
structure KB (B m : Nat) (w w' : World) : Prop where
  below : Below B w w'
  keep : ∀ b cs T, T ≠ 9 -> b ≠ m -> w.heap[b]? = some (.cells cs T (0, 0)) -> w'.heap[b]? = some (.cells cs T (0, 0))
  own : m < w.heap.size -> ∀ b cs T, b ≠ m -> NotOwn w m b -> w.heap[b]? = some (.cells cs T (0, 0)) -> w'.heap[b]? = some (.cells cs T (0, 0)) /\ NotOwn w' m b
theorem KB.size {B m : Nat} {w w' : World} (h : KB B m w w') : w.heap.size <= w'.heap.size := h.below.size
theorem KB.refl (B m : Nat) (w : World) : KB B m w w := ⟨Below.refl _ _, fun _ _ _ _ _ h => h, fun _ _ _ _ _ h2 h3 => ⟨h3, h2⟩⟩
theorem KB.trans {B m : Nat} {w w' w'' : World} (h : KB B m w w') (k : KB B m w' w'') : KB B m w w'' := ⟨h.below.trans k.below, fun b cs T h1 h2 h3 => k.keep b cs T h1 h2 (h.keep b cs T h1 h2 h3), fun hm b cs T h1 h2 h3 => k.own (Nat.lt_of_lt_of_le hm h.below.size) b cs T h1 (h.own hm b cs T h1 h2 h3).2 (h.own hm b cs T h1 h2 h3).1⟩
theorem KB.drew {B m : Nat} {w w' : World} (h : KB B m w w') : KB B m w w'.drew := ⟨h.below.drew, h.keep, h.own⟩
theorem KB.old {B m : Nat} {w w' : World} (h : Below w.heap.size w w') (hB : B <= w.heap.size) : KB B m w w' := ⟨h.mono hB, fun b cs T h1 h2 h3 => by rw [h.block b (blk_lt h3)]; exact h3, fun hm b cs T h1 h2 h3 => ⟨by rw [h.block b (blk_lt h3)]; exact h3, fun v hv => h2 v ((h.cell (p := ⟨m, 0, none⟩) hm).symm.trans hv)⟩⟩
theorem KB.setM {B m : Nat} {w w' : World} (h : KB B m w w') (j : Nat) (hB : B <= m) (v : Value) (hj : j ≠ 0 := by decide) : KB B m w (w'.setCell ⟨m, j, none⟩ v) := ⟨h.below.setCell (p := ⟨m, j, none⟩) hB _, fun b cs T h1 h2 h3 => by rw [Below.heap_setCell w' ⟨m, j, none⟩ _ b h2]; exact h.keep b cs T h1 h2 h3, fun hm b cs T h1 h2 h3 => ⟨by rw [Below.heap_setCell w' ⟨m, j, none⟩ _ b h1]; exact (h.own hm b cs T h1 h2 h3).1, fun u hu => (h.own hm b cs T h1 h2 h3).2 u (by rw [World.cell?_setCell_other (w := w') (a := ⟨m, j, none⟩) (b := ⟨m, 0, none⟩) (v := v) (by simp)] at hu; exact hu)⟩⟩
theorem KB.setN {B m : Nat} {w w' : World} (h : KB B m w w') (j : Nat) (hB : B <= w.heap.size) (v : Value) : KB B m w (w'.setCell ⟨w.heap.size, j, none⟩ v) := ⟨h.below.setCell (p := ⟨w.heap.size, j, none⟩) hB _, fun b cs T h1 h2 h3 => by rw [Below.heap_setCell w' ⟨w.heap.size, j, none⟩ _ b (by have := blk_lt h3; simp; omega)]; exact h.keep b cs T h1 h2 h3, fun hm b cs T h1 h2 h3 => ⟨by rw [Below.heap_setCell w' ⟨w.heap.size, j, none⟩ _ b (by have := blk_lt h3; simp; omega)]; exact (h.own hm b cs T h1 h2 h3).1, fun u hu => (h.own hm b cs T h1 h2 h3).2 u (by rw [World.cell?_setCell_far _ _ _ _ (by simp; omega)] at hu; exact hu)⟩⟩
theorem keep_grown {w w2 : World} {o : Obj} {ob : Option Nat} (hgrow : (w.alloc o).grownBy w2 ob) (HO : ∀ (b : Nat) (cs : Array Value) (T : Nat), T ≠ 9 -> w.heap[b]? = some (.cells cs T (0, 0)) -> some b ≠ ob) : ∀ (b : Nat) (cs : Array Value) (T : Nat), T ≠ 9 -> w.heap[b]? = some (.cells cs T (0, 0)) -> w2.heap[b]? = some (.cells cs T (0, 0)) := by
  intro b cs T hT hb
  have hl := blk_lt hb
  rw [hgrow.block b (by simp; omega) (HO b cs T hT hb), Lib.alloc_old w _ b hl]
  exact hb
theorem put_okK (B m : Nat) (ss : List ByteArray) (cd : Value) (pl st lk : Int) (t : ByteArray) (w : World) (hM : MOk B w m ss cd pl st lk) (hB : B <= w.heap.size) (h1 : t.size <= 2000) (h2 : ss.length < 50) :
    Calls Tryz.prog 125 #[.pointer (some ⟨m, 0, none⟩), .string t] w fun e w' => e = .returned (.bool true) /\ KB B m w w' /\ MOk B w' m (ss ++ [t]) cd pl st lk := by
  obtain ⟨hBm, v, hm, hown⟩ := hM
  obtain ⟨ao, cap, rfl⟩ : ∃ ao cap, v = .slice ao ss.length cap := by
    rcases hown.2 with ⟨hv, h0⟩ | ⟨g, cap, cur, hv, _⟩
    · exact ⟨none, 0, by rw [hv, h0]⟩
    · exact ⟨_, _, hv⟩
  have c0 : w.cell? ⟨m, 0, none⟩ = some (.slice ao ss.length cap) := by rw [Lib.cell_of_heap hm]; rfl
  have hlt := hm.lt
  have HO : Hid (∀ (b : Nat) (cs : Array Value) (T : Nat), T ≠ 9 -> w.heap[b]? = some (.cells cs T (0, 0)) -> some b ≠ (Value.slice ao ss.length cap).ownBlock) := fun b cs T hT hb => cells_ne hT hb hown
  have d1 : decide ((2000 : Int) < t.size) = false := by simp; omega
  have d2 : ((ss.length : Int) == 50) = false := by simp; omega
  obtain ⟨i0, hi, hz0, hz1, hz2⟩ := info_parts Tryz.info9b
  go_enter Tryz.func125, Tryz.ntmps125
  go_wp2_with (first | (at_builtin; refine wpList_append_lies _ rfl (.tmp 20) (.tmp 22) 22 rfl B 9 i0 (.string ⟨#[]⟩) 1 16 Tryz.underlying22 hi hz0 hz1 hz2 rfl (by decide) _ _ _ rfl (hown.alloc _) ⟨w.heap.size, 0, none⟩ 1 1 [.string t] rfl rfl (cell_one_new _ _ _) (by intro u hu; simp at hu; subst hu; rfl) (by omega) (by unfold maxLen; omega) (by omega) (by simp; omega) _ rfl ?_; intro g' cap2 w2 hown' hgrow hlie hlt2; have hK2 : Hid (∀ (b : Nat) (cs : Array Value) (T : Nat), T ≠ 9 -> w.heap[b]? = some (.cells cs T (0, 0)) -> w2.heap[b]? = some (.cells cs T (0, 0))) := keep_grown hgrow HO.out; have hm2 : Mach w2 m (.slice ao ss.length cap) cd pl st lk := (by have hne := hm.ne' hown; unfold Mach at *; rw [hgrow.block m (by simp; omega) hne, Lib.alloc_old w _ m hlt]; exact hm); have e0 : w2.cell? ⟨m, 0, none⟩ = some (.slice ao ss.length cap) := (by rw [Lib.cell_of_heap hm2]; rfl); have f0 : w2.frozen? ⟨m, 0, none⟩ = false := Lib.frozen_of_heap hm2 0; have hbB : Below B w w2 := ((Below.refl _ _).alloc (by omega) _).grown hgrow (by simp; omega) (fun k hk => (own_lt hown k hk).1); have HLIE : Hid ((Value.slice ao ss.length cap).ownBlock = some g' \/ w.heap.size <= g') := (by rcases hlie with h | h; exact Or.inl h; exact Or.inr (by rw [h]; simp)); have HGR : Hid (∀ b cs T, some b ≠ (Value.slice ao ss.length cap).ownBlock -> w.heap[b]? = some (.cells cs T (0, 0)) -> w2.heap[b]? = some (.cells cs T (0, 0))) := (fun b cs T h1 h2 => by have hl := blk_lt h2; rw [hgrow.block b (by simp; omega) h1, Lib.alloc_old w _ b hl]; exact h2)))
  go_ret
  exact ⟨rfl, ⟨hbB.setCell (p := ⟨m, 0, none⟩) hBm _, fun b cs T hT hbm hb => by rw [Below.heap_setCell _ ⟨m, 0, none⟩ _ b hbm]; exact hK2.out b cs T hT hb, fun _ b cs T hbm hno hb => ⟨by rw [Below.heap_setCell _ ⟨m, 0, none⟩ _ b hbm]; exact HGR.out b cs T (hno _ c0) hb, fun u hu => by
    rw [World.cell?_setCell_same (h := e0)] at hu
    cases hu
    have hl := blk_lt hb
    intro heq
    rcases HLIE.out with h | h
    · exact hno _ c0 (heq.trans h.symm)
    · simp [Value.ownBlock] at heq; omega⟩⟩, MOk.put hBm hm2 (by simpa [strV] using hown')⟩
theorem take_anyK (B m : Nat) (ss : List ByteArray) (x : ByteArray) (cd : Value) (pl st lk : Int) (w : World) (hM : MOk B w m (ss ++ [x]) cd pl st lk) (hB : B <= w.heap.size) (h2 : ss.length < 50) :
    Calls Tryz.prog 123 #[.pointer (some ⟨m, 0, none⟩)] w fun e w' => e = .returned (.string x) /\ KB B m w w' /\ MOk B w' m ss cd pl st lk /\ ∀ b, b ≠ m -> w'.heap[b]? = w.heap[b]? := by
  obtain ⟨hBm, v, hm, hown⟩ := hM
  rw [List.length_append, List.length_singleton] at hown
  obtain ⟨g, cap, rfl⟩ : ∃ g cap, v = .slice (some ⟨g, 0, none⟩) (ss.length + 1) cap := by
    rcases hown.2 with ⟨_, h0⟩ | ⟨g, cap, cur, hv, _⟩
    · omega
    · exact ⟨_, _, hv⟩
  have c0 : w.cell? ⟨m, 0, none⟩ = some (.slice (some ⟨g, 0, none⟩) (ss.length + 1) cap) := by rw [Lib.cell_of_heap hm]; rfl
  have f0 : w.frozen? ⟨m, 0, none⟩ = false := Lib.frozen_of_heap hm 0
  have cx : w.cell? ⟨g, ss.length, none⟩ = some (.string x) := by rw [hown.cellAt ss.length (by omega)]; simp [strV]
  have hcap : ss.length + 1 <= cap := by
    rcases hown.2 with ⟨h0, _⟩ | ⟨g', cap', cur, hv, hg, hh, h1, _⟩
    · simp at h0
    · simp only [Value.slice.injEq, Option.some.injEq, Addr.mk.injEq, and_true, true_and] at hv
      omega
  have HS : Hid (MOk B (w.setCell ⟨m, 0, none⟩ (.slice (some ⟨g, 0, none⟩) ss.length cap)) m ss cd pl st lk) := MOk.put hBm hm (own_shrink hown)
  clear hown hm
  go_enter Tryz.func123, Tryz.ntmps123
  go_wp2
  go_ret
  exact ⟨rfl, ⟨(Below.refl _ _).setCell (p := ⟨m, 0, none⟩) hBm _, fun b cs T hT hbm hb => by rw [Below.heap_setCell w ⟨m, 0, none⟩ _ b hbm]; exact hb, fun _ b cs T hbm hno hb => ⟨by rw [Below.heap_setCell w ⟨m, 0, none⟩ _ b hbm]; exact hb, fun u hu => by
    rw [World.cell?_setCell_same (h := c0)] at hu
    cases hu
    have hno2 := hno _ c0
    simpa [Value.ownBlock] using hno2⟩⟩, HS.out, fun b hb => Below.heap_setCell w ⟨m, 0, none⟩ _ b hb⟩
theorem MOk.place {B : Nat} {w : World} {m : Nat} {ss : List ByteArray} {cd : Value} {pl st lk : Int} (h : MOk B w m ss cd pl st lk) (p : Int) : MOk B (w.setCell ⟨m, 2, none⟩ (.int .i64 p)) m ss cd p st lk := by
  obtain ⟨hB, v, hm, ho⟩ := h
  refine ⟨hB, v, ?_, ?_⟩
  · unfold Mach at *
    rw [Joins.block_setCell hm]
    rfl
  · have hne := hm.ne' ho
    refine ⟨ho.1, ?_⟩
    rcases ho.2 with h0 | ⟨g, cap, cur, hv, hg, hh, r⟩
    · exact Or.inl h0
    · refine Or.inr ⟨g, cap, cur, hv, hg, ?_, r⟩
      rw [Below.heap_setCell w ⟨m, 2, none⟩ _ g (by rintro e; apply hne; rw [hv]; simp [Value.ownBlock, e])]
      exact hh
theorem MOk.cell2 {B : Nat} {w : World} {m : Nat} {ss : List ByteArray} {cd : Value} {pl st lk : Int} (h : MOk B w m ss cd pl st lk) : w.cell? ⟨m, 2, none⟩ = some (.int .i64 pl) /\ w.frozen? ⟨m, 2, none⟩ = false /\ m < w.heap.size /\ B <= m := by
  obtain ⟨hB, v, hm, ho⟩ := h
  exact ⟨by rw [Lib.cell_of_heap hm]; rfl, Lib.frozen_of_heap hm 2, hm.lt, hB⟩
theorem work_lit_ok (B m : Nat) (ss : List ByteArray) (cd : Value) (pl st lk : Int) (t : ByteArray) (n : Int) (w : World) (hM : MOk B w m ss cd pl st lk) (hB : B <= w.heap.size) (h1 : t.size <= 2000) (h2 : ss.length < 50) (hp0 : 0 <= pl) (hp1 : pl <= 2000) :
    Calls Tryz.prog 124 #[.pointer (some ⟨m, 0, none⟩), .agg #[.int .i64 1, .string t, .int .i64 n]] w fun e w' => e = .returned (.bool true) /\ KB B m w w' /\ MOk B w' m (ss ++ [t]) cd (pl + 1) st lk := by
  have hba : Below w.heap.size w (w.alloc (.cells #[.int .i64 1, .string t, .int .i64 n] 138)) := (Below.refl _ _).alloc (Nat.le_refl _) _
  have hM1 := hM.below hba
  obtain ⟨c2, f2, hml, hBm⟩ := hM1.cell2
  go_enter Tryz.func124, Tryz.ntmps124
  go_wp2_with fail
  go_region_with (first | (go_at_call 125; refine (put_okK B m ss cd pl st lk t _ ?_ ?_ h1 h2).mono ?_; (focus (exact hM1)); (focus (simp; omega)); rintro e w1 ⟨rfl, hb1, hM2⟩))
  all_goals
    obtain ⟨d2, e2, _, _⟩ := hM2.cell2
    have HM : Hid (MOk B w1 m (ss ++ [t]) cd pl st lk) := hM2
    clear hM2 hM hM1
    go_wp2
    go_ret
    exact ⟨rfl, (((KB.old hba hB).drew).trans hb1).setM 2 hBm _, HM.out.place _⟩
theorem work_lit_no (B m : Nat) (ss : List ByteArray) (cd : Value) (pl st lk : Int) (t : ByteArray) (n : Nat) (w : World) (hM : MOk B w m (ss) cd pl st lk) (hB : B <= w.heap.size) (hp0 : 0 <= pl) (hp1 : pl <= 2000) (hn : n <= 2000) (h1 : t.size <= 2000) (h2 : ss.length = 50) :
    Calls Tryz.prog 124 #[.pointer (some ⟨m, 0, none⟩), .agg #[.int .i64 1, .string t, .int .i64 n]] w fun e w' => e = .returned (.bool false) /\ KB B m w w' /\ MOk B w' m (ss) cd pl st lk := by
  have hba : Below w.heap.size w (w.alloc (.cells #[.int .i64 1, .string t, .int .i64 n] 138)) := (Below.refl _ _).alloc (Nat.le_refl _) _
  have hmw := hM.cell2.2.2.1
  have hM1 := hM.below hba
  obtain ⟨c2, f2, hml, hBm⟩ := hM1.cell2
  have hs1 : B <= (w.alloc (.cells #[.int .i64 1, .string t, .int .i64 n] 138)).heap.size := by simp; omega
  go_enter Tryz.func124, Tryz.ntmps124
  go_wp2_with fail
  go_region_with (first | (go_at_call 125; refine (put_no B m (ss) cd pl st lk (t) _ ?_ ?_ ?_ ?_).mono ?_; (focus (exact hM1)); (focus (first | omega | (simp; omega))); (focus (first | omega | (simp; omega))); (focus (exact Or.inr h2)); rintro e w1 ⟨rfl, rfl⟩))
  all_goals
    go_wp2
    go_ret
    exact ⟨rfl, (KB.old hba hB).drew, hM1⟩
theorem work_jump (B m : Nat) (ss : List ByteArray) (cd : Value) (pl st lk : Int) (t : ByteArray) (n : Nat) (w : World) (hM : MOk B w m (ss) cd pl st lk) (hB : B <= w.heap.size) (hp0 : 0 <= pl) (hp1 : pl <= 2000) (hn : n <= 2000)  :
    Calls Tryz.prog 124 #[.pointer (some ⟨m, 0, none⟩), .agg #[.int .i64 10, .string t, .int .i64 n]] w fun e w' => e = .returned (.bool true) /\ KB B m w w' /\ MOk B w' m (ss) cd n st lk := by
  have hba : Below w.heap.size w (w.alloc (.cells #[.int .i64 10, .string t, .int .i64 n] 138)) := (Below.refl _ _).alloc (Nat.le_refl _) _
  have hM1 := hM.below hba
  obtain ⟨c2, f2, hml, hBm⟩ := hM1.cell2
  have hs1 : B <= (w.alloc (.cells #[.int .i64 10, .string t, .int .i64 n] 138)).heap.size := by simp; omega
  go_enter Tryz.func124, Tryz.ntmps124
  go_wp2
  go_ret
  exact ⟨rfl, (KB.old hba hB).setM 2 hBm _, hM1.place _⟩
end Go.Proofs.YtbbfboikigmghaaGreatDoor
