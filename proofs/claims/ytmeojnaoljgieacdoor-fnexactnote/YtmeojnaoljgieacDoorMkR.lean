/-
  laws.markProgram, markResult, markRecord, heldProgram, heldRecord; what stands in a world: blocks and rows.
-/
import Derived.Test.YtmeojnaoljgieacDoorNtA
namespace Go.Proofs.YtmeojnaoljgieacDoor
open Go.RowKit
set_option linter.unusedVariables false

theorem own_slice {w : World} {B e sz n : Nat} {v : Value} {xs : List Value} (h : w.ownsRow B e sz v n xs) : ∃ va vc, v = .slice va n vc := by
  rcases own_cases h with ⟨hv, rfl⟩ | ⟨g', c', hv⟩
  · exact ⟨_, _, hv⟩
  · exact ⟨_, _, hv⟩
theorem own_ne {w : World} {B B' e e' sz sz' n n' : Nat} {v v' : Value} {xs xs' : List Value} (h : w.ownsRow B e sz v n xs) (h' : w.ownsRow B' e' sz' v' n' xs') (hne : e ≠ e') : ∀ b, v.ownBlock = some b → some b ≠ v'.ownBlock := by
  intro b hb eb
  rcases h.2 with ⟨rfl, _⟩ | ⟨g, cap, cur, rfl, hg, hh, _⟩
  · simp [Value.ownBlock] at hb
  · rcases h'.2 with ⟨rfl, _⟩ | ⟨g', cap', cur', rfl, hg', hh', _⟩
    · simp [Value.ownBlock] at eb
    · simp only [Value.ownBlock, Option.some.injEq] at hb eb
      subst hb
      rw [← eb] at hh'
      rw [hh] at hh'
      simp at hh'
      exact hne hh'.2
theorem cells_neT {w : World} {b B e sz n T : Nat} {cs : Array Value} {v : Value} {xs : List Value} (hT : T ≠ e) (h : w.heap[b]? = some (.cells cs T (0, 0))) (ho : w.ownsRow B e sz v n xs) : some b ≠ v.ownBlock := by
  intro eb
  rcases ho.2 with ⟨rfl, _⟩ | ⟨g, cap, cur, rfl, hg, hh, _⟩
  · simp [Value.ownBlock] at eb
  · simp only [Value.ownBlock, Option.some.injEq] at eb
    rw [← eb] at hh
    rw [h] at hh
    simp at hh
    exact hT hh.2

/-- These blocks stand. -/
def AllB (w : World) : List (Nat × Array Value × Nat) → Prop
  | [] => True
  | (b, cs, T) :: l => w.heap[b]? = some (.cells cs T (0, 0)) ∧ AllB w l
theorem AllB.below {w w' : World} (hb : Below w.heap.size w w') : ∀ {l : List (Nat × Array Value × Nat)}, AllB w l → AllB w' l
  | [], _ => trivial
  | (b, cs, T) :: l, h => ⟨by rw [hb.block b (blkN_lt h.1)]; exact h.1, AllB.below hb h.2⟩
def AllT (e : Nat) (l : List (Nat × Array Value × Nat)) : Bool := l.all fun p => p.2.2 != e
theorem AllB.keep {w w' : World} {B e sz n : Nat} {v : Value} {xs : List Value} (ho : w.ownsRow B e sz v n xs) (hk : KeepO v.ownBlock w w') : ∀ {l : List (Nat × Array Value × Nat)}, AllB w l → AllT e l = true → AllB w' l
  | [], _, _ => trivial
  | (b, cs, T) :: l, h, ht => by
    unfold AllT at ht
    rw [List.all_cons, Bool.and_eq_true] at ht
    exact ⟨by rw [hk b (blkN_lt h.1) (cells_neT (by simpa using ht.1) h.1 ho)]; exact h.1, AllB.keep ho hk h.2 ht.2⟩
/-- These rows are owned. -/
structure RW where
  B : Nat
  e : Nat
  sz : Nat
  v : Value
  n : Nat
  xs : List Value
def AllR (w : World) : List RW → Prop
  | [] => True
  | r :: l => w.ownsRow r.B r.e r.sz r.v r.n r.xs ∧ AllR w l
theorem AllR.below {w w' : World} (hb : Below w.heap.size w w') : ∀ {l : List RW}, AllR w l → AllR w' l
  | [], _ => trivial
  | r :: l, h => ⟨ownsRow_below h.1 hb, AllR.below hb h.2⟩
def Apart (v v' : Value) : Prop := ∀ b, v.ownBlock = some b → some b ≠ v'.ownBlock
def AllD (v : Value) : List RW → Prop
  | [] => True
  | r :: l => Apart r.v v ∧ AllD v l
theorem AllR.keep {w w' : World} {v : Value} (hk : KeepO v.ownBlock w w') : ∀ {l : List RW}, AllR w l → AllD v l → AllR w' l
  | [], _, _ => trivial
  | r :: l, h, hd => ⟨own_keep h.1 hk hd.1, AllR.keep hk h.2 hd.2⟩
theorem apart_lt {v v' : Value} {S : Nat} (h : ∀ b, v.ownBlock = some b → b < S) (h' : ∀ b, v'.ownBlock = some b → S ≤ b) : Apart v v' := fun b hb e => by
  have h1 := h b hb
  have h2 := h' b e.symm
  omega
theorem apart_gt {v v' : Value} {S : Nat} (h : ∀ b, v.ownBlock = some b → S ≤ b) (h' : ∀ b, v'.ownBlock = some b → b < S) : Apart v v' := fun b hb e => by
  have h1 := h b hb
  have h2 := h' b e.symm
  omega

set_option maxHeartbeats 400000 in
theorem markProgram_own (B n K : Nat) (v : Value) (xs : List Value) (w : World) (hown : w.ownsRow B 171 3 v n xs) (hB : B ≤ w.heap.size) (hn : n ≤ 1048576) (h1 : 1 ≤ K) (h2 : K ≤ 900000000000000) :
    Calls Tryd.prog 28 #[.agg #[v], .int .i64 K] w fun e w' => e = .returned (.int .i64 ((K + 3 * n : Nat) : Int)) ∧ Below B w w' ∧ KeepO v.ownBlock w w' ∧ ∃ ys, w'.ownsRow B 171 3 v n ys ∧ MkI K n ys := by
  obtain ⟨va, vc, rfl⟩ := own_slice hown
  have hb0 : Below w.heap.size w (w.alloc (.cells #[.slice va n vc] 59)) := (Below.refl _ _).alloc (Nat.le_refl _) _
  go_enter Tryd.func28, Tryd.ntmps28
  go_wp2_with fail
  refine (markInsS_own B n K _ xs _ (hown.alloc _) (by simp; omega) hn h1 h2).mono ?_
  rintro e w1 ⟨rfl, hb, hk, ys, ho, hm⟩
  have hB1 : Below B w w1 := (hb0.mono hB).trans hb
  have HK : Hid (KeepO (Value.slice va n vc).ownBlock w w1) := hk.after hb0
  have HO : Hid (w1.ownsRow B 171 3 (.slice va n vc) n ys) := ho
  clear hb0 hb hk ho
  go_wp2
  go_ret
  exact ⟨rfl, hB1, HK.out, ys, HO.out, hm⟩

set_option maxHeartbeats 400000 in
theorem markResult_own (B n K : Nat) (c : Int) (t : ByteArray) (v : Value) (xs : List Value) (w : World) (hown : w.ownsRow B 9 1 v n xs) (hB : B ≤ w.heap.size) (hn : n ≤ 1048576) (h1 : 1 ≤ K) (h2 : K ≤ 900000000000000) :
    Calls Tryd.prog 41 #[.agg #[.int .i64 c, .string t, v], .int .i64 K] w fun e w' => e = .returned (.int .i64 ((K + n : Nat) : Int)) ∧ Below B w w' ∧ KeepO v.ownBlock w w' := by
  obtain ⟨va, vc, rfl⟩ := own_slice hown
  have hb0 : Below w.heap.size w (w.alloc (.cells #[.int .i64 c, .string t, .slice va n vc] 77)) := (Below.refl _ _).alloc (Nat.le_refl _) _
  go_enter Tryd.func41, Tryd.ntmps41
  go_wp2_with fail
  refine (markStringS_own B n K _ xs _ (hown.alloc _) (by simp; omega) hn h1 h2).mono ?_
  rintro e w1 ⟨rfl, hb, hk⟩
  have hB1 : Below B w w1 := (hb0.mono hB).trans hb
  have HK : Hid (KeepO (Value.slice va n vc).ownBlock w w1) := hk.after hb0
  clear hb0 hb hk
  go_wp2
  go_ret
  exact ⟨rfl, hB1, HK.out⟩

/-- All blocks but two stay. -/
def KeepT (o1 o2 : Option Nat) (w w' : World) : Prop := ∀ b, b < w.heap.size → some b ≠ o1 → some b ≠ o2 → w'.heap[b]? = w.heap[b]?
/-- A record's rows bear the marks. -/
def MkRec (B K : Nat) (w : World) (v1 v2 : Value) (n1 n2 : Nat) : Prop := ∃ ys zs, w.ownsRow B 171 3 v1 n1 ys ∧ MkI K n1 ys ∧ w.ownsRow B 133 3 v2 n2 zs ∧ MkG (K + 3 * n1) n2 zs
theorem MkRec.below {B K : Nat} {w w' : World} {v1 v2 : Value} {n1 n2 : Nat} (h : MkRec B K w v1 v2 n1 n2) (hb : Below w.heap.size w w') : MkRec B K w' v1 v2 n1 n2 := by
  obtain ⟨ys, zs, h1, h2, h3, h4⟩ := h
  exact ⟨ys, zs, ownsRow_below h1 hb, h2, ownsRow_below h3 hb, h4⟩

set_option maxHeartbeats 400000 in
theorem markRecord_own (B n1 n2 K : Nat) (v1 v2 : Value) (o : ByteArray) (xs zs : List Value) (w : World) (ho1 : w.ownsRow B 171 3 v1 n1 xs) (ho2 : w.ownsRow B 133 3 v2 n2 zs) (hB : B ≤ w.heap.size) (hn : n1 ≤ 1048576) (hn2 : n2 ≤ 1048576) (h1 : 1 ≤ K) (h2 : K ≤ 9000000) :
    Calls Tryd.prog 42 #[.agg #[v1, v2, .string o], .int .i64 K] w fun e w' => e = .returned (.int .i64 ((K + 3 * n1 + 3 * n2 : Nat) : Int)) ∧ Below B w w' ∧ KeepT v1.ownBlock v2.ownBlock w w' ∧ MkRec B K w' v1 v2 n1 n2 := by
  obtain ⟨va, vc, rfl⟩ := own_slice ho1
  obtain ⟨vb, vd, rfl⟩ := own_slice ho2
  have hb0 : Below w.heap.size w (w.alloc (.cells #[.slice va n1 vc, .slice vb n2 vd, .string o] 73)) := (Below.refl _ _).alloc (Nat.le_refl _) _
  have hbx : (w.alloc (.cells #[.slice va n1 vc, .slice vb n2 vd, .string o] 73)).heap[w.heap.size]? = some (.cells #[.slice va n1 vc, .slice vb n2 vd, .string o] 73 (0, 0)) := heapN_new _ _
  go_enter Tryd.func42, Tryd.ntmps42
  go_wp2_with fail
  refine (markProgram_own B n1 K _ xs _ (ho1.alloc _) (by simp; omega) hn h1 (by omega)).mono ?_
  rintro e w1 ⟨rfl, hb, hk, ys, ho, hm⟩
  have hB1 : Below B w w1 := (hb0.mono hB).trans hb
  have hbx1 : w1.heap[w.heap.size]? = some (.cells #[.slice va n1 vc, .slice vb n2 vd, .string o] 73 (0, 0)) := by rw [hk _ (by simp) (cells_neT (by decide) hbx (ho1.alloc _))]; exact hbx
  have c1 : w1.cell? ⟨w.heap.size, 1, none⟩ = some (.slice vb n2 vd) := by rw [Lib.cell_of_heap hbx1]; rfl
  have ho21 := own_keep (ho2.alloc (.cells #[.slice va n1 vc, .slice vb n2 vd, .string o] 73)) hk (own_ne ho2 ho1 (by decide))
  have HK : Hid (KeepO (Value.slice va n1 vc).ownBlock w w1) := hk.after hb0
  have HO : Hid (w1.ownsRow B 171 3 (.slice va n1 vc) n1 ys) := ho
  have HO2 : Hid (w1.ownsRow B 133 3 (.slice vb n2 vd) n2 zs) := ho21
  have HM : Hid (MkI K n1 ys) := hm
  have hs1 : w.heap.size ≤ w1.heap.size := hB1.size
  clear hb0 hb hk ho hm ho21 hbx hbx1 ho1 ho2
  go_wp2_with fail
  refine (markGlanceS_own B n2 (K + 3 * n1) _ zs _ HO2.out (by omega) hn2 (by omega) (by omega)).mono ?_
  rintro e w2 ⟨rfl, hb, hk, ys2, ho, hm⟩
  have hB2 : Below B w w2 := hB1.trans hb
  have HK2 : Hid (KeepT (Value.slice va n1 vc).ownBlock (Value.slice vb n2 vd).ownBlock w w2) := fun b hl e1 e2 => by rw [hk b (by omega) e2]; exact HK.out b hl e1
  have HR : Hid (MkRec B K w2 (.slice va n1 vc) (.slice vb n2 vd) n1 n2) := ⟨ys, ys2, own_keep HO.out hk (own_ne HO.out HO2.out (by decide)), HM.out, ho, hm⟩
  clear hb hk ho hm HO HO2 HM HK hB1 c1
  go_wp2
  go_ret
  exact ⟨rfl, hB2, HK2.out, HR.out⟩

set_option maxHeartbeats 400000 in
theorem heldProgram_own (B n K : Nat) (v : Value) (ys : List Value) (w : World) (hown : w.ownsRow B 171 3 v n ys) (hm : MkI K n ys) (hn : n ≤ 1048576) (h1 : 1 ≤ K) (h2 : K ≤ 900000000000000) :
    Calls Tryd.prog 99 #[.agg #[v], .int .i64 K] w fun e w' => e = .returned (.int .i64 ((K + 3 * n : Nat) : Int)) ∧ Below w.heap.size w w' := by
  obtain ⟨va, vc, rfl⟩ := own_slice hown
  have hb0 : Below w.heap.size w (w.alloc (.cells #[.slice va n vc] 59)) := (Below.refl _ _).alloc (Nat.le_refl _) _
  go_enter Tryd.func99, Tryd.ntmps99
  go_wp2_with fail
  refine (heldInsS_own B n K _ ys _ (hown.alloc _) hm hn h1 h2).mono ?_
  rintro e w1 ⟨rfl, hb⟩
  have hB1 := bt hb0 hb
  have hlt : decide (((K + 3 * n : Nat) : Int) < 0) = false := by simp; omega
  clear hb0 hb
  go_wp2
  go_ret
  exact ⟨rfl, hB1⟩

set_option maxHeartbeats 400000 in
theorem heldRecord_own (B n1 n2 K : Nat) (v1 v2 : Value) (o : ByteArray) (w : World) (hm : MkRec B K w v1 v2 n1 n2) (hn : n1 ≤ 1048576) (hn2 : n2 ≤ 1048576) (h1 : 1 ≤ K) (h2 : K ≤ 9000000) :
    Calls Tryd.prog 43 #[.agg #[v1, v2, .string o], .int .i64 K] w fun e w' => e = .returned (.int .i64 ((K + 3 * n1 + 3 * n2 : Nat) : Int)) ∧ Below w.heap.size w w' := by
  obtain ⟨ys, zs, ho1, hm1, ho2, hm2⟩ := hm
  obtain ⟨va, vc, rfl⟩ := own_slice ho1
  obtain ⟨vb, vd, rfl⟩ := own_slice ho2
  have hb0 : Below w.heap.size w (w.alloc (.cells #[.slice va n1 vc, .slice vb n2 vd, .string o] 73)) := (Below.refl _ _).alloc (Nat.le_refl _) _
  have k1 : (w.alloc (.cells #[.slice va n1 vc, .slice vb n2 vd, .string o] 73)).cell? ⟨w.heap.size, 1, none⟩ = some (.slice vb n2 vd) := by simp [go_sem]
  go_enter Tryd.func43, Tryd.ntmps43
  go_wp2_with fail
  refine (heldProgram_own B n1 K _ ys _ (ho1.alloc _) hm1 hn h1 (by omega)).mono ?_
  rintro e w1 ⟨rfl, hb⟩
  have hB1 := bt hb0 hb
  have c1 := cell_below hb k1
  have hlt : decide (((K + 3 * n1 : Nat) : Int) < 0) = false := by simp; omega
  have HO2 : Hid (w1.ownsRow B 133 3 (.slice vb n2 vd) n2 zs) := ownsRow_below ho2 hB1
  clear hb0 hb k1 ho1 ho2
  go_wp2_with fail
  refine (heldGlanceS_own B n2 (K + 3 * n1) _ zs _ HO2.out hm2 hn2 (by omega) (by omega)).mono ?_
  rintro e w2 ⟨rfl, hb⟩
  have hB2 := bt hB1 hb
  have hlt2 : decide (((K + 3 * n1 + 3 * n2 : Nat) : Int) < 0) = false := by simp; omega
  clear hb hB1 c1 hlt
  go_wp2
  go_ret
  exact ⟨rfl, hB2⟩

end Go.Proofs.YtmeojnaoljgieacDoor
