/-
  laws.markSpace, heldSpace.
-/
import Derived.Test.YtmeojnaoljgieacDoorMkS
namespace Go.Proofs.YtmeojnaoljgieacDoor
open Go.RowKit
set_option linter.unusedVariables false

theorem row_slice {w : World} {lo hi e sz : Nat} {v : Value} {n : Nat} {ys : List Value} (h : RowO w lo hi e sz v n ys) : ∃ va vc, v = .slice va n vc := by
  rcases own_cases h.own with ⟨hv, rfl⟩ | ⟨g', c', hv⟩
  · exact ⟨_, _, hv⟩
  · exact ⟨_, _, hv⟩
/-- A space's rows bear the marks. -/
def MkSp (w : World) (lo hi K : Nat) (v1 v2 : Value) (n1 n2 : Nat) (cl : Nat → Nat) : Prop := (∃ ys, RowO w lo hi 104 2 v1 n1 ys ∧ MkS K n1 ys) ∧ ∃ ys cv, RowsT w lo hi v2 n2 cl ys cv ∧ MkTm w lo hi (K + 2 * n1) cl cv n2 ys
theorem MkSp.below {w w' : World} {lo hi K n1 n2 : Nat} {v1 v2 : Value} {cl : Nat → Nat} (h : MkSp w lo hi K v1 v2 n1 n2 cl) (hb : Below w.heap.size w w') : MkSp w' lo hi K v1 v2 n1 n2 cl := by
  obtain ⟨⟨ys, h1, h2⟩, zs, cv, h3, h4⟩ := h
  exact ⟨⟨ys, h1.below hb, h2⟩, zs, cv, h3.below hb, h4.below hb⟩

set_option maxHeartbeats 1000000 in
theorem markSpace_own (lo hi n1 n2 K : Nat) (v1 v2 : Value) (cl : Nat → Nat) (xs zs : List Value) (cv : Nat → Value) (w : World) (h1 : RowO w lo hi 104 2 v1 n1 xs) (h2 : RowsT w lo hi v2 n2 cl zs cv) (hB : lo ≤ w.heap.size) (hn1 : n1 ≤ 1048576) (hn2 : n2 ≤ 1048576) (hcl : ∀ i, i < n2 → cl i ≤ 1048576) (hK : 1 ≤ K) (hK2 : kT cl (K + 2 * n1) n2 ≤ 800000000000000) :
    Calls Tryd.prog 19 #[.agg #[v1, v2], .int .i64 K] w fun e w' => e = .returned (.int .i64 ((kT cl (K + 2 * n1) n2 : Nat) : Int)) ∧ Below lo w w' ∧ KeepR lo hi w w' ∧ MkSp w' lo hi K v1 v2 n1 n2 cl := by
  have hK3 : K + 2 * n1 ≤ 800000000000000 := Nat.le_trans (kT_le cl (K + 2 * n1) 0 n2 (Nat.zero_le _)) hK2
  obtain ⟨va, vc, rfl⟩ := row_slice h1
  obtain ⟨vb, vd, rfl⟩ := row_slice h2.row
  have hb0 : Below w.heap.size w (w.alloc (.cells #[.slice va n1 vc, .slice vb n2 vd] 42)) := (Below.refl _ _).alloc (Nat.le_refl _) _
  have k1 : (w.alloc (.cells #[.slice va n1 vc, .slice vb n2 vd] 42)).cell? ⟨w.heap.size, 1, none⟩ = some (.slice vb n2 vd) := by simp [go_sem]
  have hw0 : (w.alloc (.cells #[.slice va n1 vc, .slice vb n2 vd] 42)).heap.size = w.heap.size + 1 := by simp
  have HR0 : Hid (RowsT (w.alloc (.cells #[.slice va n1 vc, .slice vb n2 vd] 42)) lo hi (.slice vb n2 vd) n2 cl zs cv) := h2.below hb0
  have h10 := h1.below hb0
  have hne : (Value.slice va n1 vc).ownBlock ≠ some w.heap.size := fun e => by have := (h1.own.lt _ e).2; omega
  have HC : Hid (∀ W : World, RowsT W lo hi (.slice vb n2 vd) n2 cl zs cv → lo ≤ W.heap.size → Calls Tryd.prog 67 #[.slice vb n2 vd, .int .i64 ((K + 2 * n1 : Nat) : Int)] W fun e w' => e = .returned (.int .i64 ((kT cl (K + 2 * n1) n2 : Nat) : Int)) ∧ Below lo W w' ∧ KeepTs (.slice vb n2 vd) cv n2 W w' ∧ ∃ ys, RowsT w' lo hi (.slice vb n2 vd) n2 cl ys cv ∧ MkTm w' lo hi (K + 2 * n1) cl cv n2 ys) := fun W h3 h4 => markTargetS_own lo hi n2 (K + 2 * n1) _ cl zs cv W h3 h4 hn2 hcl (by omega) hK2
  clear hK2 h2 h1 hcl
  go_enter Tryd.func19, Tryd.ntmps19
  go_wp2_with fail
  refine (markSourceS_own lo hi n1 K _ xs _ h10 (by omega) hn1 hK (by omega)).mono ?_
  rintro e w1 ⟨rfl, hb1, hk1, ys, hr1, hm1⟩
  have hB1 : Below lo w w1 := (hb0.mono hB).trans hb1
  have hs1 : w.heap.size + 1 ≤ w1.heap.size := by have := hb1.size; omega
  have c1 : w1.cell? ⟨w.heap.size, 1, none⟩ = some (.slice vb n2 vd) := by
    rw [World.cell?_of_block (hk1 w.heap.size (by omega) (fun e => hne e.symm))]; exact k1
  have HR1 : Hid (RowsT w1 lo hi (.slice vb n2 vd) n2 cl zs cv) := HR0.out.keepO h10.own hk1 (by decide) (by decide)
  have HK1 : Hid (KeepR lo hi w w1) := (KeepR.of_below hb0).trans hb0.size (hk1.keepR fun b e => ⟨(h10.own.lt b e).1, h10.top b e⟩)
  have HS1 : Hid (RowO w1 lo hi 104 2 (.slice va n1 vc) n1 ys) := hr1
  have HM1 : Hid (MkS K n1 ys) := hm1
  clear hb0 hb1 hk1 hr1 hm1 k1 HR0 h10 hne hw0
  go_wp2_with fail
  refine (HC.out w1 HR1.out (by omega)).mono ?_
  rintro e w2 ⟨rfl, hb2, hk2, ys2, hr2, hm2⟩
  have hB2 : Below lo w w2 := hB1.trans hb2
  have HK2 : Hid (KeepR lo hi w w2) := HK1.out.trans (by omega) (hk2.keepR HR1.out)
  have HP : Hid (MkSp w2 lo hi K (.slice va n1 vc) (.slice vb n2 vd) n1 n2 cl) := ⟨⟨ys, HS1.out.same fun b e => hk2 b (HS1.out.own.lt b e).2 (fun e' => neT HR1.out.row.own HS1.out.own (by decide) b e' e) (fun i hi e' => by obtain ⟨zz, hz⟩ := HR1.out.code i hi; exact neT hz.own HS1.out.own (by decide) b e' e), HM1.out⟩, ys2, cv, hr2, hm2⟩
  clear hb2 hk2 hr2 hm2 HR1 HK1 HS1 HM1 HC c1
  go_wp2
  go_ret
  exact ⟨rfl, hB2, HK2.out, HP.out⟩

set_option maxHeartbeats 1000000 in
theorem heldSpace_own (lo hi n1 n2 K : Nat) (v1 v2 : Value) (cl : Nat → Nat) (w : World) (hm : MkSp w lo hi K v1 v2 n1 n2 cl) (hn1 : n1 ≤ 1048576) (hn2 : n2 ≤ 1048576) (hcl : ∀ i, i < n2 → cl i ≤ 1048576) (hK : 1 ≤ K) (hK2 : kT cl (K + 2 * n1) n2 ≤ 800000000000000) :
    Calls Tryd.prog 20 #[.agg #[v1, v2], .int .i64 K] w fun e w' => e = .returned (.int .i64 ((kT cl (K + 2 * n1) n2 : Nat) : Int)) ∧ Below w.heap.size w w' := by
  have hK3 : K + 2 * n1 ≤ 800000000000000 := Nat.le_trans (kT_le cl (K + 2 * n1) 0 n2 (Nat.zero_le _)) hK2
  obtain ⟨⟨ys, h1, h2⟩, zs, cv, h3, h4⟩ := hm
  obtain ⟨va, vc, rfl⟩ := row_slice h1
  obtain ⟨vb, vd, rfl⟩ := row_slice h3.row
  have hb0 : Below w.heap.size w (w.alloc (.cells #[.slice va n1 vc, .slice vb n2 vd] 42)) := (Below.refl _ _).alloc (Nat.le_refl _) _
  have k1 : (w.alloc (.cells #[.slice va n1 vc, .slice vb n2 vd] 42)).cell? ⟨w.heap.size, 1, none⟩ = some (.slice vb n2 vd) := by simp [go_sem]
  have HC : Hid (∀ W : World, Below w.heap.size w W → Calls Tryd.prog 69 #[.slice vb n2 vd, .int .i64 ((K + 2 * n1 : Nat) : Int)] W fun e w' => e = .returned (.int .i64 ((kT cl (K + 2 * n1) n2 : Nat) : Int)) ∧ Below W.heap.size W w') := fun W hW => heldTargetS_own lo hi n2 (K + 2 * n1) _ cl zs cv W (h3.below hW) (h4.below hW) hn2 hcl (by omega) hK2
  have hl1 : decide (((K + 2 * n1 : Nat) : Int) < 0) = false := by simp; omega
  have hl2 : decide (((kT cl (K + 2 * n1) n2 : Nat) : Int) < 0) = false := by simp
  have HL2 : Hid (decide (((kT cl (K + 2 * n1) n2 : Nat) : Int) < 0) = false) := hl2
  generalize kT cl (K + 2 * n1) n2 = q at *
  clear h3 h4 hcl hl2
  go_enter Tryd.func20, Tryd.ntmps20
  go_wp2_with fail
  refine (heldSourceS_own lo hi n1 K _ ys _ (h1.below hb0) h2 hn1 hK (by omega)).mono ?_
  rintro e w1 ⟨rfl, hb1⟩
  have hB1 := bt hb0 hb1
  have c1 := cell_below hb1 k1
  clear hb0 hb1 k1 h1 h2
  go_wp2_with fail
  refine (HC.out w1 hB1).mono ?_
  rintro e w2 ⟨rfl, hb2⟩
  have hB2 := bt hB1 hb2
  have hl2 := HL2.out
  clear hb2 hB1 c1 HC hl1
  go_wp2
  go_ret
  exact ⟨rfl, hB2⟩

end Go.Proofs.YtmeojnaoljgieacDoor
