import Derived.Test.YtllhbgmadiclcaaGreatDoorMgA
import Derived.Test.YtllhbgmadiclcaaGreatDoorMgB
import Derived.Test.YtllhbgmadiclcaaGreatDoorCpS
import Derived.Test.YtllhbgmadiclcaaGreatDoorPut
namespace Go.Proofs.YtllhbgmadiclcaaGreatDoor
open Go.RowKit Go.Deep
set_option linter.unusedVariables false

theorem CS.putT {W w' : World} {P B : Nat} {wd : Int} {v1 nv v2 : Value} {ts us : List ByteArray} {rs : List T3} {k : Nat} (h : CS W P B wd v1 v2 ts rs k) (hg : W.grownBy w' v1.ownBlock) (hn : w'.ownsRow B 9 1 nv us.length (us.map Value.string)) : CS (w'.setCell ⟨P, 1, none⟩ nv) P B wd nv v2 us rs k := by
  obtain ⟨zs, cv, lv, h3, h4⟩ := h.t
  have hbk : w'.heap[P]? = some (.cells #[.int .i64 wd, v1, v2] 29 (0, 0)) := by
    rw [hg.block P (blkW_lt h.blk) (fun e => HasT.ne (T := 29) ⟨_, h.blk⟩ h.s (by decide) e.symm)]; exact h.blk
  have ht : HasT w' P 29 := ⟨_, hbk⟩
  have hp : PartQ w' B rs k zs cv lv := ⟨h4.fil, fun i hi => by
    obtain ⟨ys, a, b⟩ := h4.code i hi
    exact ⟨ys, grown_own a h.s (by decide) hg, b⟩, fun i hi => by
    obtain ⟨ys, a, b⟩ := h4.look i hi
    exact ⟨ys, grown_own a h.s (by decide) hg, b⟩, h4.apc, h4.apl, h4.som⟩
  exact ⟨by rw [Joins.block_setCell hbk]; rfl, own_setT hn ht (by decide) _, zs, cv, lv, own_setT (grown_own h3 h.s (by decide) hg) ht (by decide) _, hp.setT ht (by decide) (by decide) _⟩
theorem qx_app {rs more : List T3} {i : Nat} (hi : i < rs.length) : qx (rs ++ more) i = qx rs i := by
  unfold qx
  rw [List.getD_eq_getElem?_getD, List.getD_eq_getElem?_getD, List.getElem?_append_left hi]
theorem PartQ.of_own {w : World} {lo hi B : Nat} {v : Value} {rs : List T3} {xs : List Value} {cv lv : Nat → Value} (h : OwnQ1 w lo hi v rs xs cv lv) (hB : B ≤ lo) (more : List T3) : PartQ w B (rs ++ more) rs.length xs cv lv :=
  ⟨fun i hi => by rw [qx_app hi]; exact h.fil i hi, fun i hi => by
    obtain ⟨ys, a, b⟩ := h.code i hi
    rw [qx_app hi]
    exact ⟨ys, own_base a.own hB, b⟩, fun i hi => by
    obtain ⟨ys, a, b⟩ := h.look i hi
    rw [qx_app hi]
    exact ⟨ys, own_base a.own hB, b⟩, h.apc, h.apl, fun i hi => by rw [qx_app hi]; exact h.som i hi⟩
/-- A store laid in a block. -/
theorem CS.of_own {w : World} {lo hi P B : Nat} {wd : Int} {v1 v2 : Value} {ts : List ByteArray} {rs : List T3} (h1 : OwnX w lo hi v1 ts) (h2 : OwnQ w lo hi v2 rs) (hB : B ≤ lo) (hp : w.heap[P]? = some (.cells #[.int .i64 wd, v1, v2] 29 (0, 0))) (more : List T3) : CS w P B wd v1 v2 ts (rs ++ more) rs.length := by
  obtain ⟨xs, cv, lv, h⟩ := h2
  exact ⟨hp, own_base (RowO.own h1) hB, xs, cv, lv, own_base h.row.own hB, PartQ.of_own h hB more⟩
theorem CS.ownK {w : World} {P B lo hi k : Nat} {wd : Int} {v1 v2 : Value} {ts : List ByteArray} {rs : List T3} (h : CS w P B wd v1 v2 ts rs k) (hk : k = rs.length) (hl : lo ≤ B) (hh : w.heap.size ≤ hi) : OwnX w lo hi v1 ts ∧ OwnQ w lo hi v2 rs := by
  subst hk; exact h.own hl hh

/-! ### The new records -/
theorem newR_in {ra rb : List T3} {i : Nat} (hi : i < rb.length) (h : rb[i] ∈ ra) : newR ra (rb.take (i + 1)) = newR ra (rb.take i) := by
  unfold newR
  rw [List.take_succ_eq_append_getElem hi, List.filter_append]
  simp [h]
theorem newR_out {ra rb : List T3} {i : Nat} (hi : i < rb.length) (h : rb[i] ∉ ra) : newR ra (rb.take (i + 1)) = newR ra (rb.take i) ++ [rb[i]] := by
  unfold newR
  rw [List.take_succ_eq_append_getElem hi, List.filter_append]
  simp [h]
theorem newR_pre (ra rb : List T3) (i : Nat) : newR ra rb = newR ra (rb.take i) ++ newR ra (rb.drop i) := by
  unfold newR
  rw [← List.filter_append, List.take_append_drop]
theorem newR_at {ra rb : List T3} {i : Nat} (hi : i < rb.length) (h : rb[i] ∉ ra) : qx (ra ++ newR ra rb) (ra.length + (newR ra (rb.take i)).length) = rb[i] := by
  have e : ra ++ newR ra rb = (ra ++ newR ra (rb.take i)) ++ rb[i] :: newR ra (rb.drop (i + 1)) := by
    rw [newR_pre ra rb (i + 1), newR_out hi h]; simp
  unfold qx
  rw [e, List.getD_eq_getElem?_getD, List.getElem?_append_right (by simp)]
  simp
theorem newR_le (ra rb : List T3) : (newR ra rb).length ≤ rb.length := List.length_filter_le _ _
theorem qx_get {rs : List T3} {i : Nat} (hi : i < rs.length) : qx rs i = rs[i] := by
  unfold qx
  rw [List.getD_eq_getElem?_getD, List.getElem?_eq_getElem hi]; rfl
theorem nx_get {rs : List ByteArray} {i : Nat} (hi : i < rs.length) : nx rs i = rs[i] := by
  unfold nx
  rw [List.getD_eq_getElem?_getD, List.getElem?_eq_getElem hi]; rfl

/-! ### What Merge hands out -/
def KmOut (lo : Nat) (w : World) (e : Ending) (n : Int) (A : List ByteArray) (ra : List T3) (m : Int) (B : List ByteArray) (rb : List T3) : Prop := ∃ cd wd ts' rs' X Y v1 v2, e = .returned (.agg #[.int .i64 cd, .int .i64 wd, v1, v2, .string X, .string Y]) ∧ MgP n A ra m B rb cd wd ts' rs' X Y ∧ OwnX w lo w.heap.size v1 ts' ∧ OwnQ w lo w.heap.size v2 rs'
theorem KmOut.zero {lo : Nat} {w : World} {n m : Int} {A B : List ByteArray} {ra rb : List T3} {X Y : ByteArray} {cd : Int} (h : MgP n A ra m B rb cd 0 [] [] X Y) : KmOut lo w (.returned (.agg #[.int .i64 cd, .int .i64 0, .slice none 0 0, .slice none 0 0, .string X, .string Y])) n A ra m B rb :=
  ⟨cd, 0, [], [], X, Y, _, _, rfl, h, OwnX.nil _ _ _, OwnQ.nil _ _ _⟩
theorem KmOut.full {lo lo' hi' R : Nat} {w : World} {n m : Int} {A B ts' : List ByteArray} {ra rb rs' : List T3} {X Y : ByteArray} {cd wd : Int} {v1 v2 : Value} (h : MgP n A ra m B rb cd wd ts' rs' X Y) (h1 : OwnX w lo' hi' v1 ts') (h2 : OwnQ w lo' hi' v2 rs') (hR : R < lo') (hl : lo ≤ lo') (hh : hi' ≤ w.heap.size) (u1 u2 u3 u4 u5 u6 : Value) :
    KmOut lo ((((((w.setCell ⟨R, 0, none⟩ u1).setCell ⟨R, 1, none⟩ u2).setCell ⟨R, 2, none⟩ u3).setCell ⟨R, 3, none⟩ u4).setCell ⟨R, 4, none⟩ u5).setCell ⟨R, 5, none⟩ u6) (.returned (.agg #[.int .i64 cd, .int .i64 wd, v1, v2, .string X, .string Y])) n A ra m B rb :=
  ⟨cd, wd, ts', rs', X, Y, v1, v2, rfl, h, (h1.set6 hR _ _ _ _ _ _).wide hl (by simpa using hh), (h2.set6 hR _ _ _ _ _ _).wide hl (by simpa using hh)⟩

end Go.Proofs.YtllhbgmadiclcaaGreatDoor
