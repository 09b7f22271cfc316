import Derived.Test.YtmeojnaoljgieaeGreatDoorVCpA
import Derived.Shelf.Spec.SlicesInsertGrow
import Derived.Laws.CopyRow
import Derived.Laws.CopyOwn
import Derived.Test.YtmeojnaoljgieaeGreatDoorVPxB
import Derived.Test.YtmeojnaoljgieaeGreatDoorVCpI
import Derived.Test.YtmeojnaoljgieaeGreatDoorVVoS
import Derived.Test.YtmeojnaoljgieaeGreatDoorVVoI
namespace Go.Proofs.YtmeojnaoljgieaeGreatDoor
open Go.RowKit
set_option linter.unusedVariables false
set_option maxHeartbeats 8000000
set_option maxRecDepth 100000

section
open Go.Deep
/-- A shelf: its block, its rows of sums and texts, its records. -/
structure ShG (w : World) (g lo hi n : Nat) (sv tv qv : Value) (ss ts : List ByteArray) (rs : List T3) : Prop where
  blk : w.heap[g]? = some (.cells #[.int .i64 (n : Int), tv, qv, sv] 156 (0, 0))
  sx : OwnX w lo hi sv ss
  tx : OwnX w lo hi tv ts
  qs : OwnQ w lo hi qv rs
  ne : ∀ b, sv.ownBlock = some b -> tv.ownBlock ≠ some b
def ShO (w : World) (g lo hi n : Nat) (sv tv qv : Value) (ts : List ByteArray) (rs : List T3) : Prop := ShG w g lo hi n sv tv qv (ts.map (sumB n)) ts rs
theorem ShG.below {w w' : World} {g lo hi n : Nat} {sv tv qv : Value} {ss ts : List ByteArray} {rs : List T3} (h : ShG w g lo hi n sv tv qv ss ts rs) (hb : Below w.heap.size w w') : ShG w' g lo hi n sv tv qv ss ts rs := ⟨blk_below h.blk hb, h.sx.below hb, h.tx.below hb, h.qs.below hb, h.ne⟩
theorem ShG.lt {w : World} {g lo hi n : Nat} {sv tv qv : Value} {ss ts : List ByteArray} {rs : List T3} (h : ShG w g lo hi n sv tv qv ss ts rs) : g < w.heap.size := blkW_lt h.blk
theorem blk_c4 {w : World} {b T : Nat} {v1 v2 v3 v4 : Value} (h : w.heap[b]? = some (.cells #[v1, v2, v3, v4] T (0, 0))) : w.cell? ⟨b, 0, none⟩ = some v1 /\ w.cell? ⟨b, 1, none⟩ = some v2 /\ w.cell? ⟨b, 2, none⟩ = some v3 /\ w.cell? ⟨b, 3, none⟩ = some v4 /\ ∀ j, w.frozen? ⟨b, j, none⟩ = false := by
  refine ⟨?_, ?_, ?_, ?_, fun j => Lib.frozen_of_heap h j⟩ <;> rw [Lib.cell_of_heap h] <;> rfl
theorem blk4_set3 {w : World} {P T : Nat} {x y z t : Value} (hz : w.heap[P]? = some (.cells #[x, y, z, t] T (0, 0))) (u1 u2 u3 : Value) : (((w.setCell ⟨P, 0, none⟩ u1).setCell ⟨P, 1, none⟩ u2).setCell ⟨P, 2, none⟩ u3).heap[P]? = some (.cells #[u1, u2, u3, t] T (0, 0)) := by
  rw [Joins.block_setCell (Joins.block_setCell (Joins.block_setCell hz u1) u2) u3]
  rfl
theorem below_set3P {B b : Nat} {w w' : World} (hb : Below B w w') (h : B <= b) (v0 v1 v2 : Value) : Below B w (((w'.setCell ⟨b, 0, none⟩ v0).setCell ⟨b, 1, none⟩ v1).setCell ⟨b, 2, none⟩ v2) :=
  ((hb.setCell (p := ⟨b, 0, none⟩) h _).setCell (p := ⟨b, 1, none⟩) h _).setCell (p := ⟨b, 2, none⟩) h _
theorem shelfOf_any (n : Int) (b off tc : Nat) (ra : Option Addr) (rc : Nat) (ts : List ByteArray) (rs : List T3) (w : World) (hT : Tab w) (h : StIn w (some ⟨b, off, none⟩) ts ra rs) (rp : RowP w ra rs) :
    Calls Tryz.prog 97 #[.agg #[.int .i64 n, .slice (some ⟨b, off, none⟩) ts.length tc, .slice ra rs.length rc]] w fun e w' => Below w.heap.size w w' /\ ((¬ WdOk n ts rs /\ e = .returned (.tuple #[.pointer none, .bool false])) \/ (WdOk n ts rs /\ ∃ g g1 p1 sv qv, e = .returned (.tuple #[.pointer (some ⟨g, 0, none⟩), .bool true]) /\ w.heap.size <= g /\ ShO w' g w.heap.size w'.heap.size n.toNat sv (.slice (some ⟨g1, 0, none⟩) ts.length p1) qv ts rs)) := by
  have hb0 : Below w.heap.size w (w.alloc (.cells #[.int .i64 n, .slice (some ⟨b, off, none⟩) ts.length tc, .slice ra rs.length rc] 56)) := (Below.refl _ _).alloc (Nat.le_refl _) _
  have k0 : (w.alloc (.cells #[.int .i64 n, .slice (some ⟨b, off, none⟩) ts.length tc, .slice ra rs.length rc] 56)).cell? ⟨w.heap.size, 0, none⟩ = some (.int .i64 n) := by simp [go_sem]
  have k1 : (w.alloc (.cells #[.int .i64 n, .slice (some ⟨b, off, none⟩) ts.length tc, .slice ra rs.length rc] 56)).cell? ⟨w.heap.size, 1, none⟩ = some (.slice (some ⟨b, off, none⟩) ts.length tc) := by simp [go_sem]
  have k2 : (w.alloc (.cells #[.int .i64 n, .slice (some ⟨b, off, none⟩) ts.length tc, .slice ra rs.length rc] 56)).cell? ⟨w.heap.size, 2, none⟩ = some (.slice ra rs.length rc) := by simp [go_sem]
  have HI : Hid (StIn w (some ⟨b, off, none⟩) ts ra rs) := h
  have HRP : Hid (RowP w ra rs) := rp
  have hln := h.lt
  have HT : Hid (Tab w) := hT
  clear h hT rp
  go_enter Tryz.func97, Tryz.ntmps97
  go_wp2_with fail
  refine (shelfWith_any n _ ra tc rc ts rs _ (HT.out.below hb0) (HI.out.below hb0)).mono ?_
  rintro e w1 ⟨hb1, ⟨hw, v, rfl⟩ | ⟨hw, g, sg, rfl, hsh, _, hge, how⟩⟩
  · have HW : Hid (¬ WdOk n ts rs) := hw
    have hB1 := bt hb0 hb1
    clear hw hb1 hb0
    go_wp2_with fail
    exact bodyPost_ret (results_tmp2 rfl _ _ _) rfl ⟨hB1, Or.inl ⟨HW.out, rfl⟩⟩
  · obtain ⟨m, rfl⟩ := Int.eq_ofNat_of_zero_le (show 0 <= n by have := hw.1; omega)
    have HW : Hid (WdOk m ts rs) := hw
    have hB1 := bt hb0 hb1
    have c0 := cell_below hb1 k0
    have c1 := cell_below hb1 k1
    have c2 := cell_below hb1 k2
    have hge' : w.heap.size <= g := Nat.le_trans hb0.size hge
    have HSH : Hid (w1.heap[g]? = some (.cells #[.int .i64 (m : Int), .slice (some ⟨b, off, none⟩) ts.length tc, .slice ra rs.length rc, .slice (some ⟨sg, 0, none⟩) ts.length ts.length] 156 (0, 0))) := hsh
    have HOW : Hid (OwnX w1 w.heap.size w1.heap.size (.slice (some ⟨sg, 0, none⟩) ts.length ts.length) (ts.map (sumB m))) := by
      have h := RowO.new (own_base how hb0.size)
      unfold OwnX
      rw [List.length_map]
      exact h
    have HCY : Hid (∀ _ : Unit, Calls Tryz.prog 151 #[.agg #[.int .i64 (m : Int), .slice (some ⟨b, off, none⟩) ts.length tc, .slice ra rs.length rc]] w1 fun e w' => Below w1.heap.size w1 w' /\ ∃ g1 p1 v2, e = .returned (.agg #[.int .i64 (m : Int), .slice (some ⟨g1, 0, none⟩) ts.length p1, v2]) /\ OwnX w' w1.heap.size w'.heap.size (.slice (some ⟨g1, 0, none⟩) ts.length p1) ts /\ OwnQ w' w1.heap.size w'.heap.size v2 rs) := fun _ => copyStore_any m b off tc ra rc ts rs w1 (HI.out.st.below hB1) (HRP.out.below hB1) hln hw.2.2.2.1 hw.recs
    have hs1 : w.heap.size <= w1.heap.size := hB1.size
    clear hw hsh how hb0 hb1 k0 k1 k2 hge
    go_wp2_with fail
    refine (HCY.out ()).mono ?_
    rintro e w2 ⟨hb2, g1, p1, v2, rfl, o1, o2⟩
    obtain ⟨a2, p2, rfl, _⟩ := o2.sl
    have kg := blk_below HSH.out hb2
    have HKG : Hid (w2.heap[g]? = some (.cells #[.int .i64 (m : Int), .slice (some ⟨b, off, none⟩) ts.length tc, .slice ra rs.length rc, .slice (some ⟨sg, 0, none⟩) ts.length ts.length] 156 (0, 0))) := kg
    have ht : HasT w2 g 156 := ⟨_, kg⟩
    have hs2 : w1.heap.size <= w2.heap.size := hb2.size
    have hB2 := bt hB1 hb2
    have HSX : Hid (OwnX w2 w.heap.size w2.heap.size (.slice (some ⟨sg, 0, none⟩) ts.length ts.length) (ts.map (sumB m))) := (HOW.out.below hb2).wide (Nat.le_refl _) hs2
    have HTX : Hid (OwnX w2 w.heap.size w2.heap.size (.slice (some ⟨g1, 0, none⟩) ts.length p1) ts) := o1.wide hs1 (Nat.le_refl _)
    have HQX : Hid (OwnQ w2 w.heap.size w2.heap.size (.slice a2 rs.length p2) rs) := o2.wide hs1 (Nat.le_refl _)
    have HNE : Hid (∀ b, (Value.slice (some ⟨sg, 0, none⟩) ts.length ts.length).ownBlock = some b -> (Value.slice (some ⟨g1, 0, none⟩) ts.length p1).ownBlock ≠ some b) := fun b e e' => by
      have h1 := HOW.out.top b e
      have h2 := ((RowO.own o1).lt b e').1
      omega
    obtain ⟨q0, q1, q2, q3, qf⟩ := blk_c4 kg
    have HHT : Hid (HasT w2 g 156) := ht
    clear o1 o2 kg ht hb2 c0 c1 c2 HCY
    go_wp2_with fail
    refine bodyPost_ret (results_tmp2 rfl _ _ _) rfl ?_
    refine ⟨below_set3P hB2 hge' _ _ _, Or.inr ⟨HW.out, g, g1, p1, .slice (some ⟨sg, 0, none⟩) ts.length ts.length, .slice a2 rs.length p2, rfl, hge', ?_⟩⟩
    have hsz : (((w2.setCell ⟨g, 0, none⟩ (.int .i64 (m : Int))).setCell ⟨g, 1, none⟩ (.slice (some ⟨g1, 0, none⟩) ts.length p1)).setCell ⟨g, 2, none⟩ (.slice a2 rs.length p2)).heap.size = w2.heap.size := by simp
    exact ⟨blk4_set3 HKG.out _ _ _, by rw [hsz]; exact ((HSX.out.setT HHT.out (by decide) _).setT (HHT.out.set _) (by decide) _).setT ((HHT.out.set _).set _) (by decide) _, by rw [hsz]; exact ((HTX.out.setT HHT.out (by decide) _).setT (HHT.out.set _) (by decide) _).setT ((HHT.out.set _).set _) (by decide) _, by rw [hsz]; exact ((HQX.out.setT HHT.out (by decide) (by decide) (by decide) _).setT (HHT.out.set _) (by decide) (by decide) (by decide) _).setT ((HHT.out.set _).set _) (by decide) (by decide) (by decide) _, HNE.out⟩
end
/-- What Vouch says of a record. -/
noncomputable def vouV (n : Nat) (ts : List ByteArray) (r : T3) : Int := Classical.epsilon (fun x => VouR n ts r.code r.looks r.out x)
theorem vouV_eq {n : Nat} {ts : List ByteArray} {r : T3} {x : Int} (h : VouR n ts r.code r.looks r.out x) : x = vouV n ts r := VouP.unique (Classical.epsilon_spec (p := fun x => VouR n ts r.code r.looks r.out x) ⟨x, h⟩) h
noncomputable def stayB (n : Nat) (ts : List ByteArray) (rs : List T3) (i : Nat) : Bool := vouV n ts (qx rs i) == 0
noncomputable def kept (n : Nat) (ts : List ByteArray) (rs : List T3) (k : Nat) : List T3 := ((List.range k).filter (stayB n ts rs)).map (qx rs)
theorem kept_yes {n : Nat} {ts : List ByteArray} {rs : List T3} {k : Nat} (h : stayB n ts rs k = true) : kept n ts rs (k + 1) = kept n ts rs k ++ [qx rs k] := by simp [kept, List.range_succ, h]
theorem kept_no {n : Nat} {ts : List ByteArray} {rs : List T3} {k : Nat} (h : stayB n ts rs k = false) : kept n ts rs (k + 1) = kept n ts rs k := by simp [kept, List.range_succ, h]
theorem kept_length (n : Nat) (ts : List ByteArray) (rs : List T3) (k : Nat) : (kept n ts rs k).length <= k := by
  unfold kept
  rw [List.length_map]
  exact Nat.le_trans (List.length_filter_le _ _) (by simp)
theorem kept_more (n : Nat) (ts : List ByteArray) (rs : List T3) (k d : Nat) : ∃ r, kept n ts rs (k + d) = kept n ts rs k ++ r := by
  induction d with
  | zero => exact ⟨[], by simp⟩
  | succ d ih =>
    obtain ⟨r, hr⟩ := ih
    cases h : stayB n ts rs (k + d)
    · exact ⟨r, by rw [<- hr]; exact kept_no h⟩
    · exact ⟨r ++ [qx rs (k + d)], by rw [<- List.append_assoc, <- hr]; exact kept_yes h⟩
theorem kept_at {n : Nat} {ts : List ByteArray} {rs : List T3} {k : Nat} (hk : k < rs.length) (h : stayB n ts rs k = true) : qx (kept n ts rs rs.length) (kept n ts rs k).length = qx rs k /\ (kept n ts rs k).length < (kept n ts rs rs.length).length := by
  obtain ⟨r, hr⟩ := kept_more n ts rs (k + 1) (rs.length - (k + 1))
  rw [show k + 1 + (rs.length - (k + 1)) = rs.length by omega, kept_yes h] at hr
  rw [hr]
  constructor
  · conv => lhs; unfold qx
    rw [List.append_assoc, List.getD_eq_getElem?_getD, List.getElem?_append_right (Nat.le_refl _)]
    simp [qx, List.getD_eq_getElem?_getD]
  · simp
theorem qx_kept {n : Nat} {ts : List ByteArray} {rs : List T3} {k j : Nat} (hj : j < (kept n ts rs k).length) : ∃ i, i < k /\ qx (kept n ts rs k) j = qx rs i := by
  have hm : qx (kept n ts rs k) j ∈ kept n ts rs k := by
    unfold qx
    rw [List.getD_eq_getElem?_getD, List.getElem?_eq_getElem hj]
    exact List.getElem_mem hj
  obtain ⟨i, hi, e⟩ := List.mem_map.1 hm
  rw [List.mem_filter, List.mem_range] at hi
  exact ⟨i, hi.1, e.symm⟩
/-- What Vouched answers. -/
def VdP (n : Int) (ts : List ByteArray) (rs : List T3) (wd : Int) (ts' : List ByteArray) (rs' : List T3) : Prop := (WdOk n ts rs /\ wd = n /\ ts' = ts /\ rs' = kept n.toNat ts rs rs.length) \/ (¬ WdOk n ts rs /\ wd = 0 /\ ts' = [] /\ rs' = [])
theorem VdP.unique {n : Int} {ts : List ByteArray} {rs : List T3} {wd wd' : Int} {t1 t2 : List ByteArray} {r1 r2 : List T3} (h : VdP n ts rs wd t1 r1) (h' : VdP n ts rs wd' t2 r2) : wd' = wd /\ t2 = t1 /\ r2 = r1 := by
  rcases h with ⟨a, rfl, rfl, rfl⟩ | ⟨a, rfl, rfl, rfl⟩ <;> rcases h' with ⟨b, rfl, rfl, rfl⟩ | ⟨b, rfl, rfl, rfl⟩
  · exact ⟨rfl, rfl, rfl⟩
  · exact absurd a b
  · exact absurd b a
  · exact ⟨rfl, rfl, rfl⟩
def VdOut (lo : Nat) (w : World) (e : Ending) (n : Int) (ts : List ByteArray) (rs : List T3) : Prop := ∃ wd ts' rs' v1 v2, e = .returned (.agg #[.int .i64 wd, v1, v2]) /\ VdP n ts rs wd ts' rs' /\ OwnX w lo w.heap.size v1 ts' /\ OwnQ w lo w.heap.size v2 rs'
theorem l4Vouch_v (n : Nat) (ta ra a la : Option Addr) (tc rn rc cap lc : Nat) (ts : List ByteArray) (r : T3) (w : World) (h1 : 1 <= n) (h8 : n <= 8) (hc : Strs w ta ts) (hl : ts.length <= 1048576) (hs : ∀ i, i < ts.length -> (nx ts i).size <= 2002) (hasc : Asc (ts.map (sumB n))) (hv : progOk r.code = true) (hr : Row3 w a r.code) (hg : RowG w la r.looks) (hgl : r.looks.length <= 200) (hix : ∀ i, (ix r.code i).text.size <= 9223372036854775807) :
    Calls Tryz.prog 59 #[.agg #[.int .i64 n, .slice ta ts.length tc, .slice ra rn rc], .agg #[.slice a r.code.length cap, .slice la r.looks.length lc, .string r.out]] w fun e w' => Below w.heap.size w w' /\ e = .returned (.int .i64 (vouV n ts r)) := by
  refine (l4Vouch_any n ta ra a la tc rn rc cap lc ts r.code r.looks r.out w h1 h8 hc hl hs hasc hv hr hg hgl hix).mono ?_
  rintro e w' ⟨hb, x, rfl, hx⟩
  exact ⟨hb, by rw [vouV_eq hx]⟩
theorem vouch_v (n g : Nat) (ta ra sa a la : Option Addr) (tc rn rc sc cap lc : Nat) (ts : List ByteArray) (r : T3) (w : World) (h1 : 1 <= n) (h8 : n <= 8) (hsh : ShelfAt w g n ta ra ts.length tc rn rc (.slice sa ts.length sc)) (hsm : Strs w sa (ts.map (sumB n))) (hT : Tab w) (hP : P10 w) (hc : Strs w ta ts) (hl : ts.length <= 1048576) (hs : ∀ i, i < ts.length -> (nx ts i).size <= 2002) (hasc : Asc (ts.map (sumB n))) (hv : progOk r.code = true) (hr : Row3 w a r.code) (hg : RowG w la r.looks) (hgl : r.looks.length <= 200) :
    Calls Tryz.prog 66 #[.pointer (some ⟨g, 0, none⟩), .agg #[.slice a r.code.length cap, .slice la r.looks.length lc, .string r.out]] w fun e w' => Below w.heap.size w w' /\ e = .returned (.int .i64 (vouV n ts r)) := by
  refine (vouch_any n g ta ra sa a la tc rn rc sc cap lc ts r.code r.looks r.out w h1 h8 hsh hsm hT hP hc hl hs hasc hv hr hg hgl).mono ?_
  rintro e w' ⟨hb, x, rfl, hx⟩
  exact ⟨hb, by rw [vouV_eq hx]⟩
end Go.Proofs.YtmeojnaoljgieaeGreatDoor
