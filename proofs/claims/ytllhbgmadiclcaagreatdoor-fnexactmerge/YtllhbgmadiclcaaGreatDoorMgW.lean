import Derived.Test.YtllhbgmadiclcaaGreatDoorMgD
import Derived.Test.YtllhbgmadiclcaaGreatDoorMgO
import Derived.Test.YtllhbgmadiclcaaGreatDoorMgU
import Derived.Test.YtllhbgmadiclcaaGreatDoorSoB
import Derived.Test.YtllhbgmadiclcaaGreatDoorPxA
namespace Go.Proofs.YtllhbgmadiclcaaGreatDoor
open Go.RowKit Go.Deep
set_option linter.unusedVariables false

theorem specMerge_own {w w0 : World} {ta ra tb rb : Option Addr} {n m : Int} {g lo hi g' lo' hi' : Nat} {v2 u2 : Value} {A B : List ByteArray} {RA RB : List T3} (h : SoOk w0 ta A ra RA) (k : SoOk w0 tb B rb RB)
    (h1 : OwnX w lo hi (.slice (some ⟨g, 0, none⟩) A.length A.length) A) (h2 : OwnQ w lo hi v2 RA) (hs : SoSm A RA) (k1 : OwnX w lo' hi' (.slice (some ⟨g', 0, none⟩) B.length B.length) B) (k2 : OwnQ w lo' hi' u2 RB) (ks : SoSm B RB) :
    Calls Tryz.prog 5 #[.agg #[.int .i64 n, .slice (some ⟨g, 0, none⟩) A.length A.length, v2], .agg #[.int .i64 m, .slice (some ⟨g', 0, none⟩) B.length B.length, u2]] w fun e w' => Below w.heap.size w w' ∧ KmOut w.heap.size w' e n A RA m B RB := by
  obtain ⟨a1, p1, e1, r1⟩ := h1.sl
  cases e1
  obtain ⟨a2, p2, rfl, r2⟩ := h2.slP
  obtain ⟨b1, q1, e1', s1⟩ := k1.sl
  cases e1'
  obtain ⟨b2, q2, rfl, s2⟩ := k2.slP
  exact specMerge_any n m g 0 _ g' 0 _ p2 q2 a2 b2 A B RA RB w ⟨r1, hs.1, fun i => h.xn i, r2.row, h.ok, hs.2⟩ r2 ⟨s1, ks.1, fun i => k.xn i, s2.row, k.ok, ks.2⟩ s2 (Nat.le_refl _)
theorem implMerge_own {w w0 : World} {ta ra tb rb : Option Addr} {n m : Int} {g lo hi g' lo' hi' : Nat} {v2 u2 : Value} {A B ts' : List ByteArray} {RA RB rs' : List T3} {cd wd : Int} {X Y : ByteArray} (hT : Tab w) (h : SoOk w0 ta A ra RA) (k : SoOk w0 tb B rb RB)
    (h1 : OwnX w lo hi (.slice (some ⟨g, 0, none⟩) A.length A.length) A) (h2 : OwnQ w lo hi v2 RA) (hs : SoSm A RA) (k1 : OwnX w lo' hi' (.slice (some ⟨g', 0, none⟩) B.length B.length) B) (k2 : OwnQ w lo' hi' u2 RB) (ks : SoSm B RB) (hm : MgP n A RA m B RB cd wd ts' rs' X Y) :
    Calls Tryz.prog 7 #[.agg #[.int .i64 n, .slice (some ⟨g, 0, none⟩) A.length A.length, v2], .agg #[.int .i64 m, .slice (some ⟨g', 0, none⟩) B.length B.length, u2]] w fun e w' => Below w.heap.size w w' ∧ ∃ v1 v2, e = .returned (.agg #[.int .i64 cd, .int .i64 wd, v1, v2, .string X, .string Y]) ∧ OwnX w' w.heap.size w'.heap.size v1 ts' ∧ OwnQ w' w.heap.size w'.heap.size v2 rs' := by
  obtain ⟨a1, p1, e1, r1⟩ := h1.sl
  cases e1
  have hL := fun (hok : WdOk n A RA) => h2.rowL (n := n.toNat) (by have := hok.2.1; omega) hok.2.2.2.2
  obtain ⟨a2, p2, rfl, r2⟩ := h2.slP
  obtain ⟨b1, q1, e1', s1⟩ := k1.sl
  cases e1'
  have kL := fun (hok : WdOk m B RB) => k2.rowL (n := m.toNat) (by have := hok.2.1; omega) hok.2.2.2.2
  obtain ⟨b2, q2, rfl, s2⟩ := k2.slP
  refine (implMerge_any n m g 0 _ g' 0 _ p2 q2 a2 b2 A B RA RB w hT ⟨r1, hs.1, fun i => h.xn i, r2.row, h.ok, hs.2⟩ r2 ⟨s1, ks.1, fun i => k.xn i, s2.row, k.ok, ks.2⟩ (fun hok => ?_) (fun hok => ?_)).mono ?_
  · obtain ⟨a', c', e', hl⟩ := hL hok
    cases e'
    exact hl
  · obtain ⟨a', c', e', hl⟩ := kL hok
    cases e'
    exact hl
  · rintro e w' ⟨hb, cd', wd', t1, r1, A', B', v1, v2, rfl, hk', o1, o2⟩
    obtain ⟨rfl, rfl, rfl, rfl, rfl, rfl⟩ := hm.unique hk'
    exact ⟨hb, v1, v2, rfl, o1, o2⟩
/-- What Merge answers is small. -/
theorem MgP.small {n m : Int} {A B ts' : List ByteArray} {RA RB rs' : List T3} {cd wd : Int} {X Y : ByteArray} (h : MgP n A RA m B RB cd wd ts' rs' X Y) (hs : SoSm A RA) (ks : SoSm B RB) : SoSm ts' rs' := by
  have hz : SoSm [] [] := ⟨by simp, by simp, fun i hi => by simp at hi⟩
  rcases h with ⟨_, _, _, rfl, rfl, _⟩ | ⟨_, ⟨_, _, _, rfl, rfl⟩ | ⟨_, _, _, U, _, ⟨_, _, _, rfl, rfl⟩ | ⟨h1, _, _, rfl, rfl⟩⟩⟩
  · exact hz
  · exact hz
  · exact hz
  · refine ⟨by omega, by omega, fun i hi => ?_⟩
    have hmem : qx (RA ++ newR RA RB) i ∈ RA ++ newR RA RB := by rw [qx_get hi]; exact List.getElem_mem _
    rcases List.mem_append.1 hmem with q | q
    · obtain ⟨j, hj, e⟩ := List.mem_iff_getElem.1 q
      have := hs.2.2 j hj
      rw [qx_get hj, e] at this
      exact this
    · unfold newR at q
      have q' := (List.mem_filter.1 q).1
      obtain ⟨j, hj, e⟩ := List.mem_iff_getElem.1 q'
      have := ks.2.2 j hj
      rw [qx_get hj, e] at this
      exact this
end Go.Proofs.YtllhbgmadiclcaaGreatDoor
namespace Go.Proofs.YtllhbgmadiclcaaGreatDoor
open Go.RowKit Go.Deep
set_option linter.unusedVariables false

/-- A store's block and its owned rows. -/
structure SoM (w : World) (b lo hi : Nat) (n : Int) (v1 v2 : Value) (ts : List ByteArray) (rs : List T3) : Prop where
  blk : w.heap[b]? = some (.cells #[.int .i64 n, v1, v2] 29 (0, 0))
  s : OwnX w lo hi v1 ts
  t : OwnQ w lo hi v2 rs
theorem SoM.below {w w' : World} {b lo hi : Nat} {n : Int} {v1 v2 : Value} {ts : List ByteArray} {rs : List T3} (h : SoM w b lo hi n v1 v2 ts rs) (hb : Below w.heap.size w w') : SoM w' b lo hi n v1 v2 ts rs :=
  ⟨blk_below h.blk hb, h.s.below hb, h.t.below hb⟩
theorem SoM.keep {w w' : World} {b lo hi lo' hi' : Nat} {n : Int} {v1 v2 : Value} {ts : List ByteArray} {rs : List T3} (h : SoM w b lo hi n v1 v2 ts rs) (hk : KeepR lo' hi' w w') (hb : b < lo' ∨ hi' ≤ b) (hd : hi ≤ lo' ∨ hi' ≤ lo) : SoM w' b lo hi n v1 v2 ts rs :=
  ⟨blk_keepR h.blk hk hb, h.s.keep hk hd, h.t.keep hk hd⟩
theorem SoM.c {w : World} {b lo hi : Nat} {n : Int} {v1 v2 : Value} {ts : List ByteArray} {rs : List T3} (h : SoM w b lo hi n v1 v2 ts rs) : w.cell? ⟨b, 0, none⟩ = some (.int .i64 n) ∧ w.cell? ⟨b, 1, none⟩ = some v1 ∧ w.cell? ⟨b, 2, none⟩ = some v2 := blk_c3 h.blk
theorem SoM.new {w : World} {lo hi : Nat} {n : Int} {v1 v2 : Value} {ts : List ByteArray} {rs : List T3} (h1 : OwnX w lo hi v1 ts) (h2 : OwnQ w lo hi v2 rs) : SoM (w.alloc (.cells #[.int .i64 n, v1, v2] 29)) w.heap.size lo hi n v1 v2 ts rs :=
  ⟨heapW_new _ _, h1.below ((Below.refl _ _).alloc (Nat.le_refl _) _), h2.below ((Below.refl _ _).alloc (Nat.le_refl _) _)⟩
/-- A Kept's block and the owned rows of its store. -/
structure KpB (w : World) (b lo hi : Nat) (cd wd : Int) (A B : ByteArray) (v1 v2 : Value) (ts : List ByteArray) (rs : List T3) : Prop where
  blk : w.heap[b]? = some (.cells #[.int .i64 cd, .int .i64 wd, v1, v2, .string A, .string B] 31 (0, 0))
  s : OwnX w lo hi v1 ts
  t : OwnQ w lo hi v2 rs
theorem KpB.below {w w' : World} {b lo hi : Nat} {cd wd : Int} {A B : ByteArray} {v1 v2 : Value} {ts : List ByteArray} {rs : List T3} (h : KpB w b lo hi cd wd A B v1 v2 ts rs) (hb : Below w.heap.size w w') : KpB w' b lo hi cd wd A B v1 v2 ts rs :=
  ⟨blk_below h.blk hb, h.s.below hb, h.t.below hb⟩
theorem KpB.keep {w w' : World} {b lo hi lo' hi' : Nat} {cd wd : Int} {A B : ByteArray} {v1 v2 : Value} {ts : List ByteArray} {rs : List T3} (h : KpB w b lo hi cd wd A B v1 v2 ts rs) (hk : KeepR lo' hi' w w') (hb : b < lo' ∨ hi' ≤ b) (hd : hi ≤ lo' ∨ hi' ≤ lo) : KpB w' b lo hi cd wd A B v1 v2 ts rs :=
  ⟨blk_keepR h.blk hk hb, h.s.keep hk hd, h.t.keep hk hd⟩
theorem KpB.c {w : World} {b lo hi : Nat} {cd wd : Int} {A B : ByteArray} {v1 v2 : Value} {ts : List ByteArray} {rs : List T3} (h : KpB w b lo hi cd wd A B v1 v2 ts rs) : w.cell? ⟨b, 0, none⟩ = some (.int .i64 cd) ∧ w.cell? ⟨b, 1, none⟩ = some (.int .i64 wd) ∧ w.cell? ⟨b, 2, none⟩ = some v1 ∧ w.cell? ⟨b, 3, none⟩ = some v2 ∧ w.cell? ⟨b, 4, none⟩ = some (.string A) ∧ w.cell? ⟨b, 5, none⟩ = some (.string B) := blk_c6 h.blk
theorem KpB.new {w : World} {lo hi : Nat} {cd wd : Int} {A B : ByteArray} {v1 v2 : Value} {ts : List ByteArray} {rs : List T3} (h1 : OwnX w lo hi v1 ts) (h2 : OwnQ w lo hi v2 rs) : KpB (w.alloc (.cells #[.int .i64 cd, .int .i64 wd, v1, v2, .string A, .string B] 31)) w.heap.size lo hi cd wd A B v1 v2 ts rs :=
  ⟨heapW_new _ _, h1.below ((Below.refl _ _).alloc (Nat.le_refl _) _), h2.below ((Below.refl _ _).alloc (Nat.le_refl _) _)⟩
theorem KpB.wide {w : World} {b lo hi lo' hi' : Nat} {cd wd : Int} {A B : ByteArray} {v1 v2 : Value} {ts : List ByteArray} {rs : List T3} (h : KpB w b lo hi cd wd A B v1 v2 ts rs) (h1 : lo' ≤ lo) (h2 : hi ≤ hi') : KpB w b lo' hi' cd wd A B v1 v2 ts rs := ⟨h.blk, h.s.wide h1 h2, h.t.wide h1 h2⟩
theorem OwnX.set6T {w : World} {lo hi R : Nat} {v : Value} {ts : List ByteArray} (h : OwnX w lo hi v ts) (ht : HasT w R 31) (u1 u2 u3 u4 u5 u6 : Value) : OwnX ((((((w.setCell ⟨R, 0, none⟩ u1).setCell ⟨R, 1, none⟩ u2).setCell ⟨R, 2, none⟩ u3).setCell ⟨R, 3, none⟩ u4).setCell ⟨R, 4, none⟩ u5).setCell ⟨R, 5, none⟩ u6) lo hi v ts :=
  (((((h.setT ht (by decide) _).setT (ht.set _) (by decide) _).setT ((ht.set _).set _) (by decide) _).setT (((ht.set _).set _).set _) (by decide) _).setT ((((ht.set _).set _).set _).set _) (by decide) _).setT (((((ht.set _).set _).set _).set _).set _) (by decide) _
theorem OwnQ.set6T {w : World} {lo hi R : Nat} {v : Value} {ts : List T3} (h : OwnQ w lo hi v ts) (ht : HasT w R 31) (u1 u2 u3 u4 u5 u6 : Value) : OwnQ ((((((w.setCell ⟨R, 0, none⟩ u1).setCell ⟨R, 1, none⟩ u2).setCell ⟨R, 2, none⟩ u3).setCell ⟨R, 3, none⟩ u4).setCell ⟨R, 4, none⟩ u5).setCell ⟨R, 5, none⟩ u6) lo hi v ts :=
  (((((h.setT ht (by decide) (by decide) (by decide) _).setT (ht.set _) (by decide) (by decide) (by decide) _).setT ((ht.set _).set _) (by decide) (by decide) (by decide) _).setT (((ht.set _).set _).set _) (by decide) (by decide) (by decide) _).setT ((((ht.set _).set _).set _).set _) (by decide) (by decide) (by decide) _).setT (((((ht.set _).set _).set _).set _).set _) (by decide) (by decide) (by decide) _
theorem KpB.old {w : World} {P lo hi : Nat} {cd wd : Int} {A B : ByteArray} {x1 x2 x3 x4 x5 x6 v1 v2 : Value} {ts : List ByteArray} {rs : List T3} (hz : w.heap[P]? = some (.cells #[x1, x2, x3, x4, x5, x6] 31 (0, 0))) (h1 : OwnX w lo hi v1 ts) (h2 : OwnQ w lo hi v2 rs) :
    KpB ((((((w.setCell ⟨P, 0, none⟩ (.int .i64 cd)).setCell ⟨P, 1, none⟩ (.int .i64 wd)).setCell ⟨P, 2, none⟩ v1).setCell ⟨P, 3, none⟩ v2).setCell ⟨P, 4, none⟩ (.string A)).setCell ⟨P, 5, none⟩ (.string B)) P lo hi cd wd A B v1 v2 ts rs :=
  ⟨blk_set6 hz _ _ _ _ _ _, h1.set6T ⟨_, hz⟩ _ _ _ _ _ _, h2.set6T ⟨_, hz⟩ _ _ _ _ _ _⟩
theorem new_belowW {w w' : World} {cs : Array Value} {T : Nat} (hb : Below (w.alloc (.cells cs T)).heap.size (w.alloc (.cells cs T)) w') : w'.heap[w.heap.size]? = some (.cells cs T (0, 0)) := by rw [hb.block _ (by simp)]; exact heapW_new _ _
theorem new_belowX {w w' : World} {cs : Array Value} {T : Nat} (hb : Below (w.alloc (.cells cs T)).drew.heap.size (w.alloc (.cells cs T)).drew w') : w'.heap[w.heap.size]? = some (.cells cs T (0, 0)) := by rw [hb.block _ (by simp)]; exact heapW_new _ _
/-- markStore from any mark on. -/
theorem markStore_from (wd : Int) {w : World} {lo hi : Nat} {v1 v2 : Value} {ts : List ByteArray} {rs : List T3} (K : Nat) (hK : 1 ≤ K) (hK2 : K ≤ 100000000000000) (h1 : OwnX w lo hi v1 ts) (h2 : OwnQ w lo hi v2 rs) (hB : lo ≤ w.heap.size) (hs : SoSm ts rs) :
    Calls Tryz.prog 10 #[.agg #[.int .i64 wd, v1, v2], .int .i64 K] w fun e w' => ∃ K' : Nat, e = .returned (.int .i64 (K' : Int)) ∧ 1 ≤ K' ∧ K' ≤ K + 10000000000000 ∧ Below lo w w' ∧ KeepR lo hi w w' := by
  obtain ⟨zs, cv, lv, k2⟩ := h2
  have b1 := kR_bound (fun i => (qx rs i).code.length) (fun i => (qx rs i).looks.length) (K + ts.length) rs.length hs.2.2
  have b0 := kR_le (fun i => (qx rs i).code.length) (fun i => (qx rs i).looks.length) (K + ts.length) 0 rs.length (Nat.zero_le _)
  have b2 := hs.1
  have b3 := hs.2.1
  have b4 : rs.length * 6291457 ≤ 1048576 * 6291457 := Nat.mul_le_mul_right _ b3
  have b5 : K + ts.length ≤ kR (fun i => (qx rs i).code.length) (fun i => (qx rs i).looks.length) (K + ts.length) rs.length := b0
  refine (markStore_row wd lo hi ts.length rs.length K v1 v2 _ _ _ zs cv lv w h1 k2.rows hB hs.1 hs.2.1 hs.2.2 hK (by omega)).mono ?_
  rintro e w' ⟨rfl, hb, hk, _⟩
  exact ⟨_, rfl, by omega, by omega, hb, hk⟩
end Go.Proofs.YtllhbgmadiclcaaGreatDoor
