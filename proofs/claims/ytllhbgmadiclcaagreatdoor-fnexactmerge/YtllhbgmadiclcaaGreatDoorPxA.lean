import Derived.Test.YtllhbgmadiclcaaGreatDoorMkQ
import Derived.Test.YtllhbgmadiclcaaGreatDoorMkU
import Derived.Test.YtllhbgmadiclcaaGreatDoorMkT
import Derived.Test.YtllhbgmadiclcaaGreatDoorSoA
namespace Go.Proofs.YtllhbgmadiclcaaGreatDoor
open Go.RowKit
set_option linter.unusedVariables false

/-- A store's rows bear the marks. -/
def MkSo (w : World) (lo hi K : Nat) (v1 v2 : Value) (n1 n2 : Nat) (cl gl : Nat → Nat) : Prop := (∃ ys, RowO w lo hi 9 1 v1 n1 ys ∧ MkX K n1 ys) ∧ ∃ ys cv lv, RowsQ w lo hi v2 n2 cl gl ys cv lv ∧ MkQm w lo hi (K + n1) cl gl cv lv n2 ys
theorem MkSo.below {w w' : World} {lo hi K n1 n2 : Nat} {v1 v2 : Value} {cl gl : Nat → Nat} (h : MkSo w lo hi K v1 v2 n1 n2 cl gl) (hb : Below w.heap.size w w') : MkSo w' lo hi K v1 v2 n1 n2 cl gl := by
  obtain ⟨⟨ys, h1, h2⟩, zs, cv, lv, h3, h4⟩ := h
  exact ⟨⟨ys, h1.below hb, h2⟩, zs, cv, lv, h3.below hb, h4.below hb⟩

set_option maxHeartbeats 1000000 in
theorem markStore_row (wd : Int) (lo hi n1 n2 K : Nat) (v1 v2 : Value) (cl gl : Nat → Nat) (xs zs : List Value) (cv lv : Nat → Value) (w : World) (h1 : RowO w lo hi 9 1 v1 n1 xs) (h2 : RowsQ w lo hi v2 n2 cl gl zs cv lv) (hB : lo ≤ w.heap.size) (hn1 : n1 ≤ 1048576) (hn2 : n2 ≤ 1048576) (hcl : ∀ i, i < n2 → cl i ≤ 1048576 ∧ gl i ≤ 1048576) (hK : 1 ≤ K) (hK2 : kR cl gl (K + n1) n2 ≤ 800000000000000) :
    Calls Tryz.prog 10 #[.agg #[.int .i64 wd, v1, v2], .int .i64 K] w fun e w' => e = .returned (.int .i64 ((kR cl gl (K + n1) n2 : Nat) : Int)) ∧ Below lo w w' ∧ KeepR lo hi w w' ∧ MkSo w' lo hi K v1 v2 n1 n2 cl gl := by
  have hK3 : K + n1 ≤ 800000000000000 := Nat.le_trans (kR_le cl gl (K + n1) 0 n2 (Nat.zero_le _)) hK2
  obtain ⟨va, vc, rfl⟩ := row_slice h1
  obtain ⟨vb, vd, rfl⟩ := row_slice h2.row
  have hb0 : Below w.heap.size w (w.alloc (.cells #[.int .i64 wd, .slice va n1 vc, .slice vb n2 vd] 29)) := (Below.refl _ _).alloc (Nat.le_refl _) _
  have k1 : (w.alloc (.cells #[.int .i64 wd, .slice va n1 vc, .slice vb n2 vd] 29)).cell? ⟨w.heap.size, 2, none⟩ = some (.slice vb n2 vd) := by simp [go_sem]
  have hw0 : (w.alloc (.cells #[.int .i64 wd, .slice va n1 vc, .slice vb n2 vd] 29)).heap.size = w.heap.size + 1 := by simp
  have HR0 : Hid (RowsQ (w.alloc (.cells #[.int .i64 wd, .slice va n1 vc, .slice vb n2 vd] 29)) lo hi (.slice vb n2 vd) n2 cl gl zs cv lv) := h2.below hb0
  have h10 := h1.below hb0
  have hne : (Value.slice va n1 vc).ownBlock ≠ some w.heap.size := fun e => by have := (h1.own.lt _ e).2; omega
  have HC : Hid (∀ W : World, RowsQ W lo hi (.slice vb n2 vd) n2 cl gl zs cv lv → lo ≤ W.heap.size → Calls Tryz.prog 33 #[.slice vb n2 vd, .int .i64 ((K + n1 : Nat) : Int)] W fun e w' => e = .returned (.int .i64 ((kR cl gl (K + n1) n2 : Nat) : Int)) ∧ Below lo W w' ∧ KeepQs (.slice vb n2 vd) cv lv n2 W w' ∧ ∃ ys, RowsQ w' lo hi (.slice vb n2 vd) n2 cl gl ys cv lv ∧ MkQm w' lo hi (K + n1) cl gl cv lv n2 ys) := fun W h3 h4 => markRecordS_row lo hi n2 (K + n1) _ cl gl zs cv lv W h3 h4 hn2 hcl (by omega) hK2
  clear hK2 h2 h1 hcl
  go_enter Tryz.func10, Tryz.ntmps10
  go_wp2_with fail
  refine (markStringS_row lo hi n1 K _ xs _ h10 (by omega) hn1 hK (by omega)).mono ?_
  rintro e w1 ⟨rfl, hb1, hk1, ys, hr1, hm1⟩
  have hB1 : Below lo w w1 := (hb0.mono hB).trans hb1
  have hs1 : w.heap.size + 1 ≤ w1.heap.size := by have := hb1.size; omega
  have c1 : w1.cell? ⟨w.heap.size, 2, none⟩ = some (.slice vb n2 vd) := by
    rw [World.cell?_of_block (hk1 w.heap.size (by omega) (fun e => hne e.symm))]; exact k1
  have HR1 : Hid (RowsQ w1 lo hi (.slice vb n2 vd) n2 cl gl zs cv lv) := HR0.out.keepO h10.own hk1 (by decide) (by decide) (by decide)
  have HK1 : Hid (KeepR lo hi w w1) := (KeepR.of_below hb0).trans hb0.size (hk1.keepR fun b e => ⟨(h10.own.lt b e).1, h10.top b e⟩)
  have HS1 : Hid (RowO w1 lo hi 9 1 (.slice va n1 vc) n1 ys) := hr1
  have HM1 : Hid (MkX K n1 ys) := hm1
  clear hb0 hb1 hk1 hr1 hm1 k1 HR0 h10 hne hw0
  go_wp2_with fail
  refine (HC.out w1 HR1.out (by omega)).mono ?_
  rintro e w2 ⟨rfl, hb2, hk2, ys2, hr2, hm2⟩
  have hB2 : Below lo w w2 := hB1.trans hb2
  have HK2 : Hid (KeepR lo hi w w2) := HK1.out.trans (by omega) (hk2.keepR HR1.out)
  have HP : Hid (MkSo w2 lo hi K (.slice va n1 vc) (.slice vb n2 vd) n1 n2 cl gl) := ⟨⟨ys, HS1.out.same fun b e => hk2 b (HS1.out.own.lt b e).2 (fun e' => neT HR1.out.row.own HS1.out.own (by decide) b e' e) (fun i hi e' => by obtain ⟨zz, hz⟩ := HR1.out.code i hi; exact neT hz.own HS1.out.own (by decide) b e' e) (fun i hi e' => by obtain ⟨zz, hz⟩ := HR1.out.look i hi; exact neT hz.own HS1.out.own (by decide) b e' e), HM1.out⟩, ys2, cv, lv, hr2, hm2⟩
  clear hb2 hk2 hr2 hm2 HR1 HK1 HS1 HM1 HC c1
  go_wp2
  go_ret
  exact ⟨rfl, hB2, HK2.out, HP.out⟩

set_option maxHeartbeats 1000000 in
theorem heldStore_row (wd : Int) (lo hi n1 n2 K : Nat) (v1 v2 : Value) (cl gl : Nat → Nat) (w : World) (hm : MkSo w lo hi K v1 v2 n1 n2 cl gl) (hn1 : n1 ≤ 1048576) (hn2 : n2 ≤ 1048576) (hcl : ∀ i, i < n2 → cl i ≤ 1048576 ∧ gl i ≤ 1048576) (hK : 1 ≤ K) (hK2 : kR cl gl (K + n1) n2 ≤ 800000000000000) :
    Calls Tryz.prog 34 #[.agg #[.int .i64 wd, v1, v2], .int .i64 K] w fun e w' => e = .returned (.int .i64 ((kR cl gl (K + n1) n2 : Nat) : Int)) ∧ Below w.heap.size w w' := by
  have hK3 : K + n1 ≤ 800000000000000 := Nat.le_trans (kR_le cl gl (K + n1) 0 n2 (Nat.zero_le _)) hK2
  obtain ⟨⟨ys, h1, h2⟩, zs, cv, lv, h3, h4⟩ := hm
  obtain ⟨va, vc, rfl⟩ := row_slice h1
  obtain ⟨vb, vd, rfl⟩ := row_slice h3.row
  have hb0 : Below w.heap.size w (w.alloc (.cells #[.int .i64 wd, .slice va n1 vc, .slice vb n2 vd] 29)) := (Below.refl _ _).alloc (Nat.le_refl _) _
  have k1 : (w.alloc (.cells #[.int .i64 wd, .slice va n1 vc, .slice vb n2 vd] 29)).cell? ⟨w.heap.size, 2, none⟩ = some (.slice vb n2 vd) := by simp [go_sem]
  have HC : Hid (∀ W : World, Below w.heap.size w W → Calls Tryz.prog 56 #[.slice vb n2 vd, .int .i64 ((K + n1 : Nat) : Int)] W fun e w' => e = .returned (.int .i64 ((kR cl gl (K + n1) n2 : Nat) : Int)) ∧ Below W.heap.size W w') := fun W hW => heldRecordS_row lo hi n2 (K + n1) _ cl gl zs cv lv W (h3.below hW) (h4.below hW) hn2 hcl (by omega) hK2
  have hl1 : decide (((K + n1 : Nat) : Int) < 0) = false := by simp; omega
  have hl2 : decide (((kR cl gl (K + n1) n2 : Nat) : Int) < 0) = false := by simp
  have HL2 : Hid (decide (((kR cl gl (K + n1) n2 : Nat) : Int) < 0) = false) := hl2
  generalize kR cl gl (K + n1) n2 = q at *
  clear h3 h4 hcl hl2
  go_enter Tryz.func34, Tryz.ntmps34
  go_wp2_with fail
  refine (heldStringS_row lo hi n1 K _ ys _ (h1.below hb0) h2 hn1 hK (by omega)).mono ?_
  rintro e w1 ⟨rfl, hb1⟩
  have hB1 := bt hb0 hb1
  have c1 := cell_below hb1 k1
  clear hb0 hb1 k1 h1 h2
  go_wp2_with fail
  refine (HC.out w1 hB1).mono ?_
  rintro e w2 ⟨rfl, hb2⟩
  have hB2 := bt hB1 hb2
  have hl2 := HL2.out
  clear hb2 hB1 c1 HC hl1
  go_wp2
  go_ret
  exact ⟨rfl, hB2⟩

/-! ### of owned stores -/
/-- A store that is not too great for the marks. -/
def SoSm (ts : List ByteArray) (rs : List T3) : Prop := ts.length ≤ 1048576 ∧ QsSmall rs
def kS (ts : List ByteArray) (rs : List T3) : Nat := kR (fun i => (qx rs i).code.length) (fun i => (qx rs i).looks.length) (1 + ts.length) rs.length
theorem kS_le {ts : List ByteArray} {rs : List T3} (h : SoSm ts rs) : kR (fun i => (qx rs i).code.length) (fun i => (qx rs i).looks.length) (1 + ts.length) rs.length ≤ 800000000000000 := by
  have h1 := kR_bound (fun i => (qx rs i).code.length) (fun i => (qx rs i).looks.length) (1 + ts.length) rs.length h.2.2
  have h2 := h.1
  have h3 := h.2.1
  have h4 : rs.length * 6291457 ≤ 1048576 * 6291457 := Nat.mul_le_mul_right _ h3
  omega
def MkL (w : World) (lo hi : Nat) (v1 v2 : Value) (ts : List ByteArray) (rs : List T3) : Prop := MkSo w lo hi 1 v1 v2 ts.length rs.length (fun i => (qx rs i).code.length) (fun i => (qx rs i).looks.length)
theorem MkL.below {w w' : World} {lo hi : Nat} {v1 v2 : Value} {ts : List ByteArray} {rs : List T3} (h : MkL w lo hi v1 v2 ts rs) (hb : Below w.heap.size w w') : MkL w' lo hi v1 v2 ts rs := MkSo.below h hb
theorem markStore_own (wd : Int) {w : World} {lo hi : Nat} {v1 v2 : Value} {ts : List ByteArray} {rs : List T3} (h1 : OwnX w lo hi v1 ts) (h2 : OwnQ w lo hi v2 rs) (hB : lo ≤ w.heap.size) (hs : SoSm ts rs) :
    Calls Tryz.prog 10 #[.agg #[.int .i64 wd, v1, v2], .int .i64 1] w fun e w' => e = .returned (.int .i64 ((kS ts rs : Nat) : Int)) ∧ Below lo w w' ∧ KeepR lo hi w w' ∧ MkL w' lo hi v1 v2 ts rs := by
  obtain ⟨zs, cv, lv, k2⟩ := h2
  exact markStore_row wd lo hi ts.length rs.length 1 v1 v2 _ _ _ zs cv lv w h1 k2.rows hB hs.1 hs.2.1 hs.2.2 (Nat.le_refl _) (kS_le hs)
theorem heldStore_own (wd : Int) {w : World} {lo hi : Nat} {v1 v2 : Value} {ts : List ByteArray} {rs : List T3} (h : MkL w lo hi v1 v2 ts rs) (hs : SoSm ts rs) :
    Calls Tryz.prog 34 #[.agg #[.int .i64 wd, v1, v2], .int .i64 1] w fun e w' => e = .returned (.int .i64 ((kS ts rs : Nat) : Int)) ∧ Below w.heap.size w w' :=
  heldStore_row wd lo hi ts.length rs.length 1 v1 v2 _ _ w h hs.1 hs.2.1 hs.2.2 (Nat.le_refl _) (kS_le hs)
theorem MkL.sl {w : World} {lo hi : Nat} {v1 v2 : Value} {ts : List ByteArray} {rs : List T3} (h : MkL w lo hi v1 v2 ts rs) : (∃ va vc, v1 = .slice va ts.length vc) ∧ ∃ vb vd, v2 = .slice vb rs.length vd := by
  obtain ⟨⟨ys, h1, _⟩, zs, cv, lv, h3, _⟩ := h
  exact ⟨row_slice h1, row_slice h3.row⟩

set_option maxHeartbeats 1000000 in
theorem markKept_own (cd wd : Int) (A B : ByteArray) {w : World} {lo hi : Nat} {v1 v2 : Value} {ts : List ByteArray} {rs : List T3} (h1 : OwnX w lo hi v1 ts) (h2 : OwnQ w lo hi v2 rs) (hB : lo ≤ w.heap.size) (hs : SoSm ts rs) :
    Calls Tryz.prog 11 #[.agg #[.int .i64 cd, .int .i64 wd, v1, v2, .string A, .string B], .int .i64 1] w fun e w' => e = .returned (.int .i64 ((kS ts rs : Nat) : Int)) ∧ Below lo w w' ∧ KeepR lo hi w w' ∧ MkL w' lo hi v1 v2 ts rs := by
  have hb0 : Below w.heap.size w (w.alloc (.cells #[.int .i64 cd, .int .i64 wd, v1, v2, .string A, .string B] 31)) := (Below.refl _ _).alloc (Nat.le_refl _) _
  have HC : Hid (Calls Tryz.prog 10 #[.agg #[.int .i64 wd, v1, v2], .int .i64 1] (w.alloc (.cells #[.int .i64 cd, .int .i64 wd, v1, v2, .string A, .string B] 31)) fun e w' => e = .returned (.int .i64 ((kS ts rs : Nat) : Int)) ∧ Below lo (w.alloc (.cells #[.int .i64 cd, .int .i64 wd, v1, v2, .string A, .string B] 31)) w' ∧ KeepR lo hi (w.alloc (.cells #[.int .i64 cd, .int .i64 wd, v1, v2, .string A, .string B] 31)) w' ∧ MkL w' lo hi v1 v2 ts rs) := markStore_own wd (h1.below hb0) (h2.below hb0) (by simp; omega) hs
  obtain ⟨va, vc, rfl, _⟩ := h1.sl
  obtain ⟨vb, vd, rfl, _⟩ := h2.sl
  clear h1 h2 hs
  generalize kS ts rs = q at *
  go_enter Tryz.func11, Tryz.ntmps11
  go_wp2_with fail
  refine HC.out.mono ?_
  rintro e w2 ⟨rfl, hb2, hk2, hm2⟩
  have hB2 : Below lo w w2 := (hb0.mono hB).trans hb2
  have HK2 : Hid (KeepR lo hi w w2) := (KeepR.of_below hb0).trans hb0.size hk2
  have HM2 : Hid (MkL w2 lo hi (.slice va ts.length vc) (.slice vb rs.length vd) ts rs) := hm2
  clear hb2 hk2 hm2 HC hb0
  go_wp2
  go_ret
  exact ⟨rfl, hB2, HK2.out, HM2.out⟩

set_option maxHeartbeats 1000000 in
theorem heldKept_own (cd wd : Int) (A B : ByteArray) {w : World} {lo hi : Nat} {v1 v2 : Value} {ts : List ByteArray} {rs : List T3} (h : MkL w lo hi v1 v2 ts rs) (hs : SoSm ts rs) :
    Calls Tryz.prog 12 #[.agg #[.int .i64 cd, .int .i64 wd, v1, v2, .string A, .string B], .int .i64 1] w fun e w' => e = .returned (.int .i64 ((kS ts rs : Nat) : Int)) ∧ Below w.heap.size w w' := by
  have hb0 : Below w.heap.size w (w.alloc (.cells #[.int .i64 cd, .int .i64 wd, v1, v2, .string A, .string B] 31)) := (Below.refl _ _).alloc (Nat.le_refl _) _
  have HC : Hid (Calls Tryz.prog 34 #[.agg #[.int .i64 wd, v1, v2], .int .i64 1] (w.alloc (.cells #[.int .i64 cd, .int .i64 wd, v1, v2, .string A, .string B] 31)) fun e w' => e = .returned (.int .i64 ((kS ts rs : Nat) : Int)) ∧ Below (w.alloc (.cells #[.int .i64 cd, .int .i64 wd, v1, v2, .string A, .string B] 31)).heap.size (w.alloc (.cells #[.int .i64 cd, .int .i64 wd, v1, v2, .string A, .string B] 31)) w') := heldStore_own wd (h.below hb0) hs
  obtain ⟨⟨va, vc, rfl⟩, vb, vd, rfl⟩ := h.sl
  clear h hs
  have hl2 : decide (((kS ts rs : Nat) : Int) < 0) = false := by simp
  generalize kS ts rs = q at *
  go_enter Tryz.func12, Tryz.ntmps12
  go_wp2_with fail
  refine HC.out.mono ?_
  rintro e w2 ⟨rfl, hb2⟩
  have hB2 := bt hb0 hb2
  clear hb2 HC hb0
  go_wp2
  go_ret
  exact ⟨rfl, hB2⟩

theorem eqStore_own (wd : Int) {w : World} {lo hi lo' hi' : Nat} {v1 v2 u1 u2 : Value} {ts : List ByteArray} {rs : List T3} (h1 : OwnX w lo hi v1 ts) (h2 : OwnQ w lo hi v2 rs) (k1 : OwnX w lo' hi' u1 ts) (k2 : OwnQ w lo' hi' u2 rs) (hs : SoSm ts rs) :
    Calls Tryz.prog 9 #[.agg #[.int .i64 wd, v1, v2], .agg #[.int .i64 wd, u1, u2]] w fun e w' => Below w.heap.size w w' ∧ e = .returned (.bool true) := by
  obtain ⟨a1, p1, rfl, r1⟩ := h1.sl
  obtain ⟨a2, p2, rfl, r2⟩ := h2.sl
  obtain ⟨a3, p3, rfl, r3⟩ := k1.sl
  obtain ⟨a4, p4, rfl, r4⟩ := k2.sl
  exact eqStore_same wd a1 a2 a3 a4 p1 p2 p3 p4 ts rs w r1 r3 r2 r4 hs.1 hs.2

set_option maxHeartbeats 1000000 in
theorem eqKept_own (cd wd : Int) (A B : ByteArray) {w : World} {lo hi lo' hi' : Nat} {v1 v2 u1 u2 : Value} {ts : List ByteArray} {rs : List T3} (h1 : OwnX w lo hi v1 ts) (h2 : OwnQ w lo hi v2 rs) (k1 : OwnX w lo' hi' u1 ts) (k2 : OwnQ w lo' hi' u2 rs) (hs : SoSm ts rs) :
    Calls Tryz.prog 8 #[.agg #[.int .i64 cd, .int .i64 wd, v1, v2, .string A, .string B], .agg #[.int .i64 cd, .int .i64 wd, u1, u2, .string A, .string B]] w fun e w' => Below w.heap.size w w' ∧ e = .returned (.bool true) := by
  obtain ⟨W, eW⟩ : ∃ W, (w.alloc (.cells #[.int .i64 cd, .int .i64 wd, v1, v2, .string A, .string B] 31)).alloc (.cells #[.int .i64 cd, .int .i64 wd, u1, u2, .string A, .string B] 31) = W := ⟨_, rfl⟩
  have hb0 : Below w.heap.size w W := by rw [← eW]; exact ((Below.refl _ _).alloc (Nat.le_refl _) _).alloc (by simp) _
  have HC : Hid (Calls Tryz.prog 9 #[.agg #[.int .i64 wd, v1, v2], .agg #[.int .i64 wd, u1, u2]] W fun e w' => Below W.heap.size W w' ∧ e = .returned (.bool true)) := eqStore_own wd (h1.below hb0) (h2.below hb0) (k1.below hb0) (k2.below hb0) hs
  obtain ⟨a1, p1, rfl, _⟩ := h1.sl
  obtain ⟨a2, p2, rfl, _⟩ := h2.sl
  obtain ⟨a3, p3, rfl, _⟩ := k1.sl
  obtain ⟨a4, p4, rfl, _⟩ := k2.sl
  have cA : W.cell? ⟨w.heap.size, 4, none⟩ = some (.string A) := by rw [← eW]; simp [go_sem]
  have cB : W.cell? ⟨w.heap.size, 5, none⟩ = some (.string B) := by rw [← eW]; simp [go_sem]
  have dA : W.cell? ⟨w.heap.size + 1, 4, none⟩ = some (.string A) := by rw [← eW]; simp [go_sem]
  have dB : W.cell? ⟨w.heap.size + 1, 5, none⟩ = some (.string B) := by rw [← eW]; simp [go_sem]
  have c0 : W.cell? ⟨w.heap.size, 0, none⟩ = some (.int .i64 cd) := by rw [← eW]; simp [go_sem]
  have c1 : W.cell? ⟨w.heap.size, 1, none⟩ = some (.int .i64 wd) := by rw [← eW]; simp [go_sem]
  have c2 : W.cell? ⟨w.heap.size, 2, none⟩ = some (.slice a1 ts.length p1) := by rw [← eW]; simp [go_sem]
  have c3 : W.cell? ⟨w.heap.size, 3, none⟩ = some (.slice a2 rs.length p2) := by rw [← eW]; simp [go_sem]
  have d0 : W.cell? ⟨w.heap.size + 1, 0, none⟩ = some (.int .i64 cd) := by rw [← eW]; simp [go_sem]
  have d1 : W.cell? ⟨w.heap.size + 1, 1, none⟩ = some (.int .i64 wd) := by rw [← eW]; simp [go_sem]
  have d2 : W.cell? ⟨w.heap.size + 1, 2, none⟩ = some (.slice a3 ts.length p3) := by rw [← eW]; simp [go_sem]
  have d3 : W.cell? ⟨w.heap.size + 1, 3, none⟩ = some (.slice a4 rs.length p4) := by rw [← eW]; simp [go_sem]
  have hcc : (cd != cd) = false := by simp
  have eA := str_eq (rfl : A = A)
  have eB := str_eq (rfl : B = B)
  clear h1 h2 k1 k2 hs
  go_enter Tryz.func8, Tryz.ntmps8
  go_wp2_with fail
  clear eW
  refine HC.out.mono ?_
  rintro e w2 ⟨hb2, rfl⟩
  have hB2 := bt hb0 hb2
  replace cA := cell_below hb2 cA
  replace cB := cell_below hb2 cB
  replace dA := cell_below hb2 dA
  replace dB := cell_below hb2 dB
  clear hb2 HC hb0
  go_wp2
  go_ret
  exact ⟨hB2, rfl⟩

end Go.Proofs.YtllhbgmadiclcaaGreatDoor
namespace Go.Proofs.YtllhbgmadiclcaaGreatDoor
open Go.RowKit
set_option linter.unusedVariables false

def insX (ts : List ByteArray) (x : ByteArray) (r : Nat) : List ByteArray := ts.take r ++ [x] ++ ts.drop r
theorem insX_length (ts : List ByteArray) (x : ByteArray) (r : Nat) (h : r ≤ ts.length) : (insX ts x r).length = ts.length + 1 := by simp [insX]; omega
theorem insX_map (ts : List ByteArray) (x : ByteArray) (r : Nat) : (insX ts x r).map Value.string = (ts.map Value.string).take r ++ [.string x] ++ (ts.map Value.string).drop r := by simp [insX, List.map_take, List.map_drop]
/-- The text of the sum is there, at its place. -/
def There (n : Nat) (ts : List ByteArray) (x : ByteArray) (r : Nat) : Prop := r < ts.length ∧ sumB n (nx ts r) = sumB n x
/-- What PutText answers at any store. -/
def KpP (n : Int) (ts : List ByteArray) (rs : List T3) (x : ByteArray) (cd wd : Int) (ts' : List ByteArray) (rs' : List T3) (A B : ByteArray) : Prop :=
  (¬ (WdOk n ts rs ∧ x.size ≤ 2002) ∧ cd = 1 ∧ wd = 0 ∧ ts' = [] ∧ rs' = [] ∧ A = ⟨#[]⟩ ∧ B = ⟨#[]⟩) ∨
  ((WdOk n ts rs ∧ x.size ≤ 2002) ∧ ∃ r, PlT n.toNat ts (sumB n.toNat x) r ∧
    ((There n.toNat ts x r ∧ nx ts r ≠ x ∧ cd = 2 ∧ wd = 0 ∧ ts' = [] ∧ rs' = [] ∧ A = nx ts r ∧ B = x) ∨
     (There n.toNat ts x r ∧ nx ts r = x ∧ cd = 0 ∧ wd = n ∧ ts' = ts ∧ rs' = rs ∧ A = ⟨#[]⟩ ∧ B = ⟨#[]⟩) ∨
     (¬ There n.toNat ts x r ∧ 5000 ≤ ts.length ∧ cd = 3 ∧ wd = 0 ∧ ts' = [] ∧ rs' = [] ∧ A = ⟨#[]⟩ ∧ B = ⟨#[]⟩) ∨
     (¬ There n.toNat ts x r ∧ ¬ 5000 ≤ ts.length ∧ cd = 0 ∧ wd = n ∧ ts' = insX ts x r ∧ rs' = rs ∧ A = ⟨#[]⟩ ∧ B = ⟨#[]⟩)))
theorem KpP.unique {n : Int} {ts : List ByteArray} {rs : List T3} {x : ByteArray} {cd wd cd' wd' : Int} {t1 t2 : List ByteArray} {r1 r2 : List T3} {A B A' B' : ByteArray} (h : KpP n ts rs x cd wd t1 r1 A B) (h' : KpP n ts rs x cd' wd' t2 r2 A' B') : cd' = cd ∧ wd' = wd ∧ t2 = t1 ∧ r2 = r1 ∧ A' = A ∧ B' = B := by
  rcases h with ⟨h0, rfl, rfl, rfl, rfl, rfl, rfl⟩ | ⟨h0, r, hp, h⟩ <;> rcases h' with ⟨k0, rfl, rfl, rfl, rfl, rfl, rfl⟩ | ⟨k0, r', kp, h'⟩
  · exact ⟨rfl, rfl, rfl, rfl, rfl, rfl⟩
  · exact absurd k0 h0
  · exact absurd h0 k0
  · obtain rfl := hp.unique kp
    rcases h with ⟨a1, a2, rfl, rfl, rfl, rfl, rfl, rfl⟩ | ⟨a1, a2, rfl, rfl, rfl, rfl, rfl, rfl⟩ | ⟨a1, a2, rfl, rfl, rfl, rfl, rfl, rfl⟩ | ⟨a1, a2, rfl, rfl, rfl, rfl, rfl, rfl⟩ <;> rcases h' with ⟨b1, b2, rfl, rfl, rfl, rfl, rfl, rfl⟩ | ⟨b1, b2, rfl, rfl, rfl, rfl, rfl, rfl⟩ | ⟨b1, b2, rfl, rfl, rfl, rfl, rfl, rfl⟩ | ⟨b1, b2, rfl, rfl, rfl, rfl, rfl, rfl⟩ <;> first
      | exact ⟨rfl, rfl, rfl, rfl, rfl, rfl⟩
      | exact absurd a1 b1
      | exact absurd b1 a1
      | exact absurd a2 b2
      | exact absurd b2 a2
theorem KpP.small {n : Int} {ts : List ByteArray} {rs : List T3} {x : ByteArray} {cd wd : Int} {t1 : List ByteArray} {r1 : List T3} {A B : ByteArray} (h : KpP n ts rs x cd wd t1 r1 A B) (hs : SoSm ts rs) : SoSm t1 r1 := by
  have h0 : SoSm ([] : List ByteArray) ([] : List T3) := ⟨by simp, by simp, fun i hi => by simp at hi⟩
  rcases h with ⟨_, rfl, rfl, rfl, rfl, rfl, rfl⟩ | ⟨_, r, hp, h⟩
  · exact h0
  · rcases h with ⟨a1, a2, rfl, rfl, rfl, rfl, rfl, rfl⟩ | ⟨a1, a2, rfl, rfl, rfl, rfl, rfl, rfl⟩ | ⟨a1, a2, rfl, rfl, rfl, rfl, rfl, rfl⟩ | ⟨a1, a2, rfl, rfl, rfl, rfl, rfl, rfl⟩
    · exact h0
    · exact hs
    · exact h0
    · exact ⟨by rw [insX_length _ _ _ hp.le]; omega, hs.2⟩
/-- What PutText hands out. -/
def KpOut (lo : Nat) (w : World) (e : Ending) (n : Int) (ts : List ByteArray) (rs : List T3) (x : ByteArray) : Prop := ∃ cd wd ts' rs' A B v1 v2, e = .returned (.agg #[.int .i64 cd, .int .i64 wd, v1, v2, .string A, .string B]) ∧ KpP n ts rs x cd wd ts' rs' A B ∧ OwnX w lo w.heap.size v1 ts' ∧ OwnQ w lo w.heap.size v2 rs'
theorem KpOut.zero {lo : Nat} {w : World} {n : Int} {ts : List ByteArray} {rs : List T3} {x A B : ByteArray} {cd : Int} (h : KpP n ts rs x cd 0 [] [] A B) : KpOut lo w (.returned (.agg #[.int .i64 cd, .int .i64 0, .slice none 0 0, .slice none 0 0, .string A, .string B])) n ts rs x :=
  ⟨cd, 0, [], [], A, B, _, _, rfl, h, OwnX.nil _ _ _, OwnQ.nil _ _ _⟩
theorem prog_lenP {is : List I3} (h : progOk is = true) : 1 ≤ is.length ∧ is.length ≤ 200 := by
  unfold progOk at h
  simp only [Bool.and_eq_true, decide_eq_true_eq] at h
  exact ⟨h.1.1, h.1.2⟩
theorem WdOk.recs {n : Int} {ts : List ByteArray} {rs : List T3} (h : WdOk n ts rs) : ∀ i, i < rs.length → 1 ≤ (qx rs i).code.length ∧ (qx rs i).code.length ≤ 1048576 ∧ (qx rs i).looks.length ≤ 1048576 := fun i hi => by
  have h1 := h.2.2.2.2 i hi
  have h2 := prog_lenP h1.1
  have h3 := h1.2.2.1
  exact ⟨h2.1, by omega, by omega⟩

end Go.Proofs.YtllhbgmadiclcaaGreatDoor
