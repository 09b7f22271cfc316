/-
  impl's machine: where it lies, and the walks of over, stuck, put, take.
-/
import Derived.Test.YtmeojnaoljgieabDoorNSmall
import Derived.Lib.SmallJoins
namespace Go.Proofs.YtmeojnaoljgieabDoor
open Go.RowKit
set_option linter.unusedVariables false

def Mach (w : World) (m : Nat) (tx cd : Value) (pl st lk : Int) : Prop := w.heap[m]? = some (.cells #[tx, cd, .int .i64 pl, .int .i64 st, .int .i64 lk] 103 (0, 0))
def strV (ss : List ByteArray) : List Value := ss.map .string
/-- The machine at block m, the texts ss on its stack. -/
def MOk (B : Nat) (w : World) (m : Nat) (ss : List ByteArray) (cd : Value) (pl st lk : Int) : Prop :=
  B ≤ m ∧ ∃ v, Mach w m v cd pl st lk ∧ w.ownsRow B 9 1 v ss.length (strV ss)

theorem heap_new (w : World) (o : Obj) : (w.alloc o).heap[w.heap.size]? = some o := by unfold World.alloc; simp

theorem Mach.lt {w : World} {m : Nat} {tx cd : Value} {pl st lk : Int} (h : Mach w m tx cd pl st lk) : m < w.heap.size := by
  rcases Nat.lt_or_ge m w.heap.size with h' | h'
  · exact h'
  · unfold Mach at h; rw [Array.getElem?_eq_none h'] at h; cases h
theorem Mach.ne {w : World} {m B g n cap : Nat} {tx cd : Value} {pl st lk : Int} {xs : List Value} (h : Mach w m tx cd pl st lk) (ho : w.ownsRow B 9 1 (.slice (some ⟨g, 0, none⟩) n cap) n xs) : m ≠ g := by
  rintro rfl
  rcases ho.2 with ⟨h0, _⟩ | ⟨g', cap', cur, hv, hg, hh, _⟩
  · simp at h0
  · simp only [Value.slice.injEq, Option.some.injEq, Addr.mk.injEq, and_true, true_and] at hv
    rw [← hv.1] at hh
    unfold Mach at h
    rw [h] at hh
    simp at hh
theorem MOk.below {B : Nat} {w w' : World} {m : Nat} {ss : List ByteArray} {cd : Value} {pl st lk : Int} (h : MOk B w m ss cd pl st lk) (hb : Below w.heap.size w w') : MOk B w' m ss cd pl st lk := by
  obtain ⟨hB, v, hm, ho⟩ := h
  exact ⟨hB, v, by have := hm.lt; unfold Mach at *; rw [hb.block m this]; exact hm, ownsRow_below ho hb⟩

theorem Mach.cell {w : World} {m : Nat} {tx cd : Value} {pl st lk : Int} (h : Mach w m tx cd pl st lk) : (∀ x, (w.alloc x).cell? ⟨m, 0, none⟩ = some tx) ∧ (∀ x, (w.alloc x).cell? ⟨m, 2, none⟩ = some (.int .i64 pl)) ∧ (∀ x, (w.alloc x).cell? ⟨m, 3, none⟩ = some (.int .i64 st)) ∧ (∀ x, (w.alloc x).cell? ⟨m, 4, none⟩ = some (.int .i64 lk)) := by
  have hl := h.lt
  have e : ∀ j x, (w.alloc x).cell? ⟨m, j, none⟩ = w.cell? ⟨m, j, none⟩ := fun j x => World.cell?_alloc_lt _ _ _ hl
  exact ⟨fun x => by rw [e, Lib.cell_of_heap h]; rfl, fun x => by rw [e, Lib.cell_of_heap h]; rfl, fun x => by rw [e, Lib.cell_of_heap h]; rfl, fun x => by rw [e, Lib.cell_of_heap h]; rfl⟩

set_option maxHeartbeats 400000 in
theorem over_any (m : Nat) (tx cd : Value) (pl st lk c : Int) (t : ByteArray) (w : World) (hM : Mach w m tx cd pl st lk) :
    Calls Tryd.prog 77 #[.pointer (some ⟨m, 0, none⟩), .int .i64 c, .string t] w fun e w' => e = .returned (turnV true c t false ⟨#[]⟩ st) ∧ Below w.heap.size w w' := by
  have c3 := hM.cell.2.2.1
  clear hM
  go_enter Tryd.func77, Tryd.ntmps77
  go_wp2
  exact bodyPost_ret (v := turnV true c t false ⟨#[]⟩ st) (by simp [results, Tryd.results77, go_sem, turnV]) rfl ⟨rfl, (Below.refl _ _).alloc (Nat.le_refl _) _⟩

set_option maxHeartbeats 400000 in
theorem stuck_any (m : Nat) (tx cd : Value) (pl st lk : Int) (w : World) (hM : Mach w m tx cd pl st lk) (hP : P10 w) (h0 : 0 ≤ pl) (h1 : pl ≤ 2000) :
    Calls Tryd.prog 78 #[.pointer (some ⟨m, 0, none⟩)] w fun e w' => e = .returned (turnV true 2 ⟨(Lib.decDigits pl.toNat).toArray⟩ false ⟨#[]⟩ st) ∧ Below w.heap.size w w' := by
  have c2 := hM.cell.2.1
  have hi : Lib.itoa pl = Lib.decDigits pl.toNat := by unfold Lib.itoa; rw [if_neg (by omega)]
  rw [← hi]
  clear hi
  generalize hq : (⟨(Lib.itoa pl).toArray⟩ : ByteArray) = q
  have HQ : Hid ((⟨(Lib.itoa pl).toArray⟩ : ByteArray) = q) := hq
  clear hq
  go_enter Tryd.func78, Tryd.ntmps78
  go_wp2_with fail
  have hb0 : Below w.heap.size w (w.alloc (.cells #[.bool false, .int .i64 0, .string ⟨#[]⟩, .bool false, .string ⟨#[]⟩, .int .i64 0] 49)) := (Below.refl _ _).alloc (Nat.le_refl _) _
  refine (Tryd.strconv_Itoa pl (by omega) (by omega) _ (hP.below hb0)).mono ?_
  rintro e w1 ⟨rfl, k', os', hw1⟩
  have hb1 := Lib.below_grow _ (w.alloc (.cells #[.bool false, .int .i64 0, .string ⟨#[]⟩, .bool false, .string ⟨#[]⟩, .int .i64 0] 49)) (Nat.le_refl _) k' os'
  rw [← hw1] at hb1
  clear hw1
  rw [HQ.out]
  have hB1 : Below w.heap.size w w1 := hb0.trans (hb1.mono hb0.size)
  have hM1 : Mach w1 m tx cd pl st lk := by have := hM.lt; unfold Mach at *; rw [hB1.block m this]; exact hM
  go_wp2_with fail
  refine (over_any m tx cd pl st lk 2 q w1 hM1).mono ?_
  rintro e w2 ⟨rfl, hb2⟩
  have hB2 : Below w.heap.size w w2 := hB1.trans (hb2.mono hB1.size)
  unfold turnV
  have hs1 : w.heap.size < w1.heap.size := by have := hb1.size; simp at this; omega
  have hblk : w2.heap[w.heap.size]? = some (.cells #[.bool false, .int .i64 0, .string ⟨#[]⟩, .bool false, .string ⟨#[]⟩, .int .i64 0] 49 (0, 0)) := by
    rw [hb2.block _ hs1, hb1.block _ (by simp), heap_new]
  have k0 := Lib.cell_of_heap hblk 0
  have k1 := Lib.cell_of_heap hblk 1
  have k2 := Lib.cell_of_heap hblk 2
  have k3 := Lib.cell_of_heap hblk 3
  have k4 := Lib.cell_of_heap hblk 4
  have k5 := Lib.cell_of_heap hblk 5
  simp only [List.getElem?_toArray, List.getElem?_cons_zero, List.getElem?_cons_succ] at k0 k1 k2 k3 k4 k5
  have f0 : ∀ j, w2.frozen? ⟨w.heap.size, j, none⟩ = false := fun j => Lib.frozen_of_heap hblk j
  clear hb0 hb1 hB1 hM hM1 hb2 hP hblk
  go_wp2
  exact bodyPost_ret (v := turnV true 2 q false ⟨#[]⟩ st) (by simp [results, Tryd.results78, go_sem, turnV, k0, k1, k2, k3, k4, k5]) rfl ⟨rfl, (((((hB2.setCell (Nat.le_refl _) _).setCell (Nat.le_refl _) _).setCell (Nat.le_refl _) _).setCell (Nat.le_refl _) _).setCell (Nat.le_refl _) _).setCell (Nat.le_refl _) _⟩

theorem Tryd.info9b : (Tryd.prog.info? 9).map (fun i => (i.zero, i.size, i.bytes)) = some (some (.string ⟨#[]⟩), 1, 16) := by kernel_rfl

theorem own_lt {w : World} {B n : Nat} {v : Value} {xs : List Value} (h : w.ownsRow B 9 1 v n xs) : ∀ k, v.ownBlock = some k → B ≤ k ∧ k < w.heap.size := fun k hk => h.lt k hk
theorem Mach.ne' {w : World} {m B n : Nat} {v tx cd : Value} {pl st lk : Int} {xs : List Value} (h : Mach w m tx cd pl st lk) (ho : w.ownsRow B 9 1 v n xs) : some m ≠ v.ownBlock := by
  intro e
  rcases ho.2 with ⟨rfl, _⟩ | ⟨g, cap, cur, rfl, _⟩
  · simp [Value.ownBlock] at e
  · simp [Value.ownBlock] at e
    exact h.ne ho e

/-- The machine's slice of texts is set anew. -/
theorem MOk.put {B : Nat} {w : World} {m : Nat} {ss : List ByteArray} {tx v cd : Value} {pl st lk : Int} (hB : B ≤ m) (hm : Mach w m tx cd pl st lk) (ho : w.ownsRow B 9 1 v ss.length (strV ss)) : MOk B (w.setCell ⟨m, 0, none⟩ v) m ss cd pl st lk := by
  refine ⟨hB, v, ?_, ?_⟩
  · unfold Mach at *
    rw [Joins.block_setCell hm]
    rfl
  · have hne := hm.ne' ho
    refine ⟨ho.1, ?_⟩
    rcases ho.2 with h0 | ⟨g, cap, cur, hv, hg, hh, r⟩
    · exact Or.inl h0
    · refine Or.inr ⟨g, cap, cur, hv, hg, ?_, r⟩
      rw [Below.heap_setCell w ⟨m, 0, none⟩ v g (by rintro e; apply hne; rw [hv]; simp [Value.ownBlock, e])]
      exact hh

set_option maxHeartbeats 400000 in
theorem put_ok (B m : Nat) (ss : List ByteArray) (cd : Value) (pl st lk : Int) (t : ByteArray) (w : World) (hM : MOk B w m ss cd pl st lk) (hB : B ≤ w.heap.size) (h1 : t.size ≤ 2000) (h2 : ss.length < 50) :
    Calls Tryd.prog 83 #[.pointer (some ⟨m, 0, none⟩), .string t] w fun e w' => e = .returned (.bool true) ∧ Below B w w' ∧ MOk B w' m (ss ++ [t]) cd pl st lk := by
  obtain ⟨hBm, v, hm, hown⟩ := hM
  obtain ⟨ao, cap, rfl⟩ : ∃ ao cap, v = .slice ao ss.length cap := by
    rcases hown.2 with ⟨hv, h0⟩ | ⟨g, cap, cur, hv, _⟩
    · exact ⟨none, 0, by rw [hv, h0]⟩
    · exact ⟨_, _, hv⟩
  have c0 : w.cell? ⟨m, 0, none⟩ = some (.slice ao ss.length cap) := by rw [Lib.cell_of_heap hm]; rfl
  have hlt := hm.lt
  have d1 : decide ((2000 : Int) < t.size) = false := by simp; omega
  have d2 : ((ss.length : Int) == 50) = false := by simp; omega
  obtain ⟨i0, hi, hz0, hz1, hz2⟩ := info_parts Tryd.info9b
  go_enter Tryd.func83, Tryd.ntmps83
  go_wp2_with (first | (at_builtin; refine wpList_append_own _ rfl (.tmp 20) (.tmp 22) 83 rfl B 9 i0 (.string ⟨#[]⟩) 1 16 Tryd.underlying83 hi hz0 hz1 hz2 rfl (by decide) _ _ _ rfl (hown.alloc _) ⟨w.heap.size, 0, none⟩ 1 1 [.string t] rfl rfl (cell_one_new _ _ _) (by intro u hu; simp at hu; subst hu; rfl) (by unfold maxLen; omega) (by omega) (by simp; omega) ?_; intro v' w2 hown' hgrow hnil; have hm2 : Mach w2 m (.slice ao ss.length cap) cd pl st lk := (by have hne := hm.ne' hown; unfold Mach at *; rw [hgrow.block m (by simp; omega) hne, Lib.alloc_old w _ m hlt]; exact hm); have e0 : w2.cell? ⟨m, 0, none⟩ = some (.slice ao ss.length cap) := (by rw [Lib.cell_of_heap hm2]; rfl); have f0 : w2.frozen? ⟨m, 0, none⟩ = false := Lib.frozen_of_heap hm2 0; have hbB : Below B w w2 := ((Below.refl _ _).alloc (by omega) _).grown hgrow (by simp; omega) (fun k hk => (own_lt hown k hk).1); obtain ⟨g', cap2, hv'⟩ : ∃ g cap, v' = .slice (some ⟨g, 0, none⟩) (ss.length + 1) cap := (by rcases hown'.2 with ⟨_, h0⟩ | ⟨g, cap, cur, hv, _⟩; omega; exact ⟨g, cap, hv⟩); rw [hv'] at hown' ⊢))
  go_ret
  exact ⟨rfl, hbB.setCell (p := ⟨m, 0, none⟩) hBm _, MOk.put hBm hm2 (by simpa [strV] using hown')⟩

set_option maxHeartbeats 400000 in
theorem put_no (B m : Nat) (ss : List ByteArray) (cd : Value) (pl st lk : Int) (t : ByteArray) (w : World) (hM : MOk B w m ss cd pl st lk) (hs : t.size ≤ 9223372036854775807) (h2 : ss.length ≤ 50) (h : 2000 < t.size ∨ ss.length = 50) :
    Calls Tryd.prog 83 #[.pointer (some ⟨m, 0, none⟩), .string t] w fun e w' => e = .returned (.bool false) ∧ w = w' := by
  obtain ⟨hBm, v, hm, hown⟩ := hM
  obtain ⟨ao, cap, rfl⟩ : ∃ ao cap, v = .slice ao ss.length cap := by
    rcases hown.2 with ⟨hv, h0⟩ | ⟨g, cap, cur, hv, _⟩
    · exact ⟨none, 0, by rw [hv, h0]⟩
    · exact ⟨_, _, hv⟩
  have c0 : w.cell? ⟨m, 0, none⟩ = some (.slice ao ss.length cap) := by rw [Lib.cell_of_heap hm]; rfl
  by_cases h1 : 2000 < t.size
  · have d1 : decide ((2000 : Int) < t.size) = true := by simp; omega
    clear h
    go_enter Tryd.func83, Tryd.ntmps83
    go_wp2
    go_ret
    exact ⟨rfl, rfl⟩
  · have d1 : decide ((2000 : Int) < t.size) = false := by simp; omega
    have d2 : ((ss.length : Int) == 50) = true := by simp; omega
    clear h
    go_enter Tryd.func83, Tryd.ntmps83
    go_wp2
    go_ret
    exact ⟨rfl, rfl⟩

theorem own_shrink {w : World} {B g cap : Nat} {ss : List ByteArray} {x : ByteArray} (h : w.ownsRow B 9 1 (.slice (some ⟨g, 0, none⟩) (ss.length + 1) cap) (ss.length + 1) (strV (ss ++ [x]))) : w.ownsRow B 9 1 (.slice (some ⟨g, 0, none⟩) ss.length cap) ss.length (strV ss) := by
  refine ⟨by simp [strV], ?_⟩
  rcases h.2 with ⟨h0, _⟩ | ⟨g', cap', cur, hv, hg, hh, h1, h2, h3, h4⟩
  · simp at h0
  · simp only [Value.slice.injEq, Option.some.injEq, Addr.mk.injEq, and_true, true_and] at hv
    obtain ⟨rfl, rfl⟩ := hv
    refine Or.inr ⟨g, cap, cur, rfl, hg, hh, by omega, h2, h3, ?_⟩
    have := congrArg (List.take ss.length) h4
    rw [List.take_take, Nat.mul_one] at this
    rw [Nat.mul_one]
    rw [show min ss.length (ss.length + 1) = ss.length by omega] at this
    rw [this]
    simp [strV]

set_option maxHeartbeats 400000 in
theorem take_any (B m : Nat) (ss : List ByteArray) (x : ByteArray) (cd : Value) (pl st lk : Int) (w : World) (hM : MOk B w m (ss ++ [x]) cd pl st lk) (hB : B ≤ w.heap.size) (h2 : ss.length < 50) :
    Calls Tryd.prog 80 #[.pointer (some ⟨m, 0, none⟩)] w fun e w' => e = .returned (.string x) ∧ Below B w w' ∧ MOk B w' m ss cd pl st lk ∧ ∀ b, b ≠ m → w'.heap[b]? = w.heap[b]? := by
  obtain ⟨hBm, v, hm, hown⟩ := hM
  rw [List.length_append, List.length_singleton] at hown
  obtain ⟨g, cap, rfl⟩ : ∃ g cap, v = .slice (some ⟨g, 0, none⟩) (ss.length + 1) cap := by
    rcases hown.2 with ⟨_, h0⟩ | ⟨g, cap, cur, hv, _⟩
    · omega
    · exact ⟨_, _, hv⟩
  have c0 : w.cell? ⟨m, 0, none⟩ = some (.slice (some ⟨g, 0, none⟩) (ss.length + 1) cap) := by rw [Lib.cell_of_heap hm]; rfl
  have f0 : w.frozen? ⟨m, 0, none⟩ = false := Lib.frozen_of_heap hm 0
  have cx : w.cell? ⟨g, ss.length, none⟩ = some (.string x) := by rw [hown.cellAt ss.length (by omega)]; simp [strV]
  have hcap : ss.length + 1 ≤ cap := by
    rcases hown.2 with ⟨h0, _⟩ | ⟨g', cap', cur, hv, hg, hh, h1, _⟩
    · simp at h0
    · simp only [Value.slice.injEq, Option.some.injEq, Addr.mk.injEq, and_true, true_and] at hv
      omega
  have HS : Hid (MOk B (w.setCell ⟨m, 0, none⟩ (.slice (some ⟨g, 0, none⟩) ss.length cap)) m ss cd pl st lk) := MOk.put hBm hm (own_shrink hown)
  clear hown hm
  go_enter Tryd.func80, Tryd.ntmps80
  go_wp2
  go_ret
  exact ⟨rfl, (Below.refl _ _).setCell (p := ⟨m, 0, none⟩) hBm _, HS.out, fun b hb => Below.heap_setCell w ⟨m, 0, none⟩ _ b hb⟩

end Go.Proofs.YtmeojnaoljgieabDoor
