import Derived.Test.YtllhbgmadiclcaaGreatDoorCpI
import Derived.Test.YtllhbgmadiclcaaGreatDoorInX
namespace Go.Proofs.YtllhbgmadiclcaaGreatDoor
open Go.RowKit Go.Deep
set_option linter.unusedVariables false

/-- A shelf: its block, its rows of sums and texts, its records. -/
structure ShG (w : World) (g lo hi n : Nat) (sv tv qv : Value) (ss ts : List ByteArray) (rs : List T3) : Prop where
  blk : w.heap[g]? = some (.cells #[.int .i64 (n : Int), tv, qv, sv] 73 (0, 0))
  sx : OwnX w lo hi sv ss
  tx : OwnX w lo hi tv ts
  qs : OwnQ w lo hi qv rs
  ne : ∀ b, sv.ownBlock = some b → tv.ownBlock ≠ some b
def ShO (w : World) (g lo hi n : Nat) (sv tv qv : Value) (ts : List ByteArray) (rs : List T3) : Prop := ShG w g lo hi n sv tv qv (ts.map (sumB n)) ts rs
theorem ShG.below {w w' : World} {g lo hi n : Nat} {sv tv qv : Value} {ss ts : List ByteArray} {rs : List T3} (h : ShG w g lo hi n sv tv qv ss ts rs) (hb : Below w.heap.size w w') : ShG w' g lo hi n sv tv qv ss ts rs := ⟨blk_below h.blk hb, h.sx.below hb, h.tx.below hb, h.qs.below hb, h.ne⟩
theorem ShG.wide {w : World} {g lo hi lo' hi' n : Nat} {sv tv qv : Value} {ss ts : List ByteArray} {rs : List T3} (h : ShG w g lo hi n sv tv qv ss ts rs) (h1 : lo' ≤ lo) (h2 : hi ≤ hi') : ShG w g lo' hi' n sv tv qv ss ts rs := ⟨h.blk, h.sx.wide h1 h2, h.tx.wide h1 h2, h.qs.wide h1 h2, h.ne⟩
theorem ShG.keep {w w' : World} {g lo hi lo' hi' n : Nat} {sv tv qv : Value} {ss ts : List ByteArray} {rs : List T3} (h : ShG w g lo hi n sv tv qv ss ts rs) (hk : KeepR lo' hi' w w') (hg : g < lo' ∨ hi' ≤ g) (hd : hi ≤ lo' ∨ hi' ≤ lo) : ShG w' g lo hi n sv tv qv ss ts rs := ⟨blk_keepR h.blk hk hg, h.sx.keep hk hd, h.tx.keep hk hd, h.qs.keep hk hd, h.ne⟩
theorem ShG.lt {w : World} {g lo hi n : Nat} {sv tv qv : Value} {ss ts : List ByteArray} {rs : List T3} (h : ShG w g lo hi n sv tv qv ss ts rs) : g < w.heap.size := blkW_lt h.blk
theorem ShG.setT {w : World} {b T g lo hi n j : Nat} {sv tv qv : Value} {ss ts : List ByteArray} {rs : List T3} (h : ShG w g lo hi n sv tv qv ss ts rs) (ht : HasT w b T) (hg : b ≠ g) (h9 : T ≠ 9) (h1 : T ≠ 50) (h2 : T ≠ 98) (h3 : T ≠ 90) (u : Value) : ShG (w.setCell ⟨b, j, none⟩ u) g lo hi n sv tv qv ss ts rs :=
  ⟨by rw [Below.heap_setCell w ⟨b, j, none⟩ u g (by show g ≠ b; omega)]; exact h.blk, h.sx.setT ht h9 u, h.tx.setT ht h9 u, h.qs.setT ht h1 h2 h3 u, h.ne⟩
theorem blk_c4 {w : World} {b T : Nat} {v1 v2 v3 v4 : Value} (h : w.heap[b]? = some (.cells #[v1, v2, v3, v4] T (0, 0))) : w.cell? ⟨b, 0, none⟩ = some v1 ∧ w.cell? ⟨b, 1, none⟩ = some v2 ∧ w.cell? ⟨b, 2, none⟩ = some v3 ∧ w.cell? ⟨b, 3, none⟩ = some v4 ∧ ∀ j, w.frozen? ⟨b, j, none⟩ = false := by
  refine ⟨?_, ?_, ?_, ?_, fun j => Lib.frozen_of_heap h j⟩ <;> rw [Lib.cell_of_heap h] <;> rfl
theorem blk4_set3 {w : World} {P T : Nat} {x y z t : Value} (hz : w.heap[P]? = some (.cells #[x, y, z, t] T (0, 0))) (u1 u2 u3 : Value) : (((w.setCell ⟨P, 0, none⟩ u1).setCell ⟨P, 1, none⟩ u2).setCell ⟨P, 2, none⟩ u3).heap[P]? = some (.cells #[u1, u2, u3, t] T (0, 0)) := by
  rw [Joins.block_setCell (Joins.block_setCell (Joins.block_setCell hz u1) u2) u3]
  rfl
theorem blk4_s3 {w : World} {P T : Nat} {x y z t : Value} (hz : w.heap[P]? = some (.cells #[x, y, z, t] T (0, 0))) (u : Value) : (w.setCell ⟨P, 3, none⟩ u).heap[P]? = some (.cells #[x, y, z, u] T (0, 0)) := by
  rw [Joins.block_setCell hz u]
  rfl
theorem blk4_s1 {w : World} {P T : Nat} {x y z t : Value} (hz : w.heap[P]? = some (.cells #[x, y, z, t] T (0, 0))) (u : Value) : (w.setCell ⟨P, 1, none⟩ u).heap[P]? = some (.cells #[x, u, z, t] T (0, 0)) := by
  rw [Joins.block_setCell hz u]
  rfl

theorem below_set3P {B b : Nat} {w w' : World} (hb : Below B w w') (h : B ≤ b) (v0 v1 v2 : Value) : Below B w (((w'.setCell ⟨b, 0, none⟩ v0).setCell ⟨b, 1, none⟩ v1).setCell ⟨b, 2, none⟩ v2) :=
  ((hb.setCell (p := ⟨b, 0, none⟩) h _).setCell (p := ⟨b, 1, none⟩) h _).setCell (p := ⟨b, 2, none⟩) h _
/-- A sum is put among the sums. -/
theorem ShG.insS {w w2 w3 : World} {g lo hi n g3 l3 c3 : Nat} {sv tv qv : Value} {ss ss' ts : List ByteArray} {rs : List T3} (h : ShG w g lo hi n sv tv qv ss ts rs) (hh : hi ≤ w.heap.size) (hb : Below w.heap.size w w2) (hl : l3 = ss'.length) (ho : w3.ownsRow lo 9 1 (.slice (some ⟨g3, 0, none⟩) l3 c3) l3 (ss'.map .string)) (hk : KeepO sv.ownBlock w2 w3) (hs : w2.heap.size ≤ w3.heap.size) (hlie : sv.ownBlock = some g3 ∨ g3 = w2.heap.size) :
    ShG (w3.setCell ⟨g, 3, none⟩ (.slice (some ⟨g3, 0, none⟩) l3 c3)) g lo w3.heap.size n (.slice (some ⟨g3, 0, none⟩) l3 c3) tv qv ss' ts rs := by
  subst hl
  have h2 := h.below hb
  have hbs := hb.size
  have hlt := h2.lt
  have os := RowO.own h2.sx
  have ot := RowO.own h2.tx
  have kg : w3.heap[g]? = some (.cells #[.int .i64 (n : Int), tv, qv, sv] 73 (0, 0)) := by
    rw [hk g hlt (fun e => HasT.ne (T := 73) ⟨_, h2.blk⟩ os (by decide) e.symm)]; exact h2.blk
  have ht : HasT w3 g 73 := ⟨_, kg⟩
  have t3 : OwnX w3 lo w3.heap.size tv ts := OwnX.wide (RowO.same h2.tx fun b e => hk b (ot.lt b e).2 (fun e' => h.ne b e'.symm e)) (Nat.le_refl _) (by omega)
  have q3 : OwnQ w3 lo w3.heap.size qv rs := (h2.qs.keepO os hk (by decide) (by decide) (by decide)).wide (Nat.le_refl _) (by omega)
  have s3 : OwnX w3 lo w3.heap.size (.slice (some ⟨g3, 0, none⟩) ss'.length c3) ss' := RowO.new ho
  refine ⟨blk4_s3 kg _, s3.setT ht (by decide) _, t3.setT ht (by decide) _, q3.setT ht (by decide) (by decide) (by decide) _, ?_⟩
  intro b e e'
  obtain rfl : g3 = b := by simpa [Value.ownBlock] using e
  rcases hlie with hl | hl
  · exact h.ne g3 hl e'
  · have := (ot.lt g3 e').2; omega
/-- A text is put among the texts. -/
theorem ShG.insT {w w2 w3 : World} {g lo hi n g3 l3 c3 : Nat} {sv tv qv : Value} {ss ts ts' : List ByteArray} {rs : List T3} (h : ShG w g lo hi n sv tv qv ss ts rs) (hh : hi ≤ w.heap.size) (hb : Below w.heap.size w w2) (hl : l3 = ts'.length) (ho : w3.ownsRow lo 9 1 (.slice (some ⟨g3, 0, none⟩) l3 c3) l3 (ts'.map .string)) (hk : KeepO tv.ownBlock w2 w3) (hs : w2.heap.size ≤ w3.heap.size) (hlie : tv.ownBlock = some g3 ∨ g3 = w2.heap.size) :
    ShG (w3.setCell ⟨g, 1, none⟩ (.slice (some ⟨g3, 0, none⟩) l3 c3)) g lo w3.heap.size n sv (.slice (some ⟨g3, 0, none⟩) l3 c3) qv ss ts' rs := by
  subst hl
  have h2 := h.below hb
  have hbs := hb.size
  have hlt := h2.lt
  have os := RowO.own h2.sx
  have ot := RowO.own h2.tx
  have kg : w3.heap[g]? = some (.cells #[.int .i64 (n : Int), tv, qv, sv] 73 (0, 0)) := by
    rw [hk g hlt (fun e => HasT.ne (T := 73) ⟨_, h2.blk⟩ ot (by decide) e.symm)]; exact h2.blk
  have ht : HasT w3 g 73 := ⟨_, kg⟩
  have s3 : OwnX w3 lo w3.heap.size sv ss := OwnX.wide (RowO.same h2.sx fun b e => hk b (os.lt b e).2 (fun e' => h.ne b e e'.symm)) (Nat.le_refl _) (by omega)
  have q3 : OwnQ w3 lo w3.heap.size qv rs := (h2.qs.keepO ot hk (by decide) (by decide) (by decide)).wide (Nat.le_refl _) (by omega)
  have t3 : OwnX w3 lo w3.heap.size (.slice (some ⟨g3, 0, none⟩) ts'.length c3) ts' := RowO.new ho
  refine ⟨blk4_s1 kg _, s3.setT ht (by decide) _, t3.setT ht (by decide) _, q3.setT ht (by decide) (by decide) (by decide) _, ?_⟩
  intro b e e'
  obtain rfl : g3 = b := by simpa [Value.ownBlock] using e'
  rcases hlie with hl | hl
  · exact h.ne g3 e hl
  · have := (os.lt g3 e).2; omega

set_option maxRecDepth 100000 in
set_option maxHeartbeats 4000000 in
theorem shelfOf_any (n : Int) (b off tc : Nat) (ra : Option Addr) (rc : Nat) (ts : List ByteArray) (rs : List T3) (w : World) (hT : Tab w) (h : StIn w (some ⟨b, off, none⟩) ts ra rs) (rp : RowP w ra rs) :
    Calls Tryz.prog 22 #[.agg #[.int .i64 n, .slice (some ⟨b, off, none⟩) ts.length tc, .slice ra rs.length rc]] w fun e w' => Below w.heap.size w w' ∧ ((¬ WdOk n ts rs ∧ e = .returned (.tuple #[.pointer none, .bool false])) ∨ (WdOk n ts rs ∧ ∃ g g1 p1 sv qv, e = .returned (.tuple #[.pointer (some ⟨g, 0, none⟩), .bool true]) ∧ w.heap.size ≤ g ∧ ShO w' g w.heap.size w'.heap.size n.toNat sv (.slice (some ⟨g1, 0, none⟩) ts.length p1) qv ts rs)) := by
  have hb0 : Below w.heap.size w (w.alloc (.cells #[.int .i64 n, .slice (some ⟨b, off, none⟩) ts.length tc, .slice ra rs.length rc] 29)) := (Below.refl _ _).alloc (Nat.le_refl _) _
  have k0 : (w.alloc (.cells #[.int .i64 n, .slice (some ⟨b, off, none⟩) ts.length tc, .slice ra rs.length rc] 29)).cell? ⟨w.heap.size, 0, none⟩ = some (.int .i64 n) := by simp [go_sem]
  have k1 : (w.alloc (.cells #[.int .i64 n, .slice (some ⟨b, off, none⟩) ts.length tc, .slice ra rs.length rc] 29)).cell? ⟨w.heap.size, 1, none⟩ = some (.slice (some ⟨b, off, none⟩) ts.length tc) := by simp [go_sem]
  have k2 : (w.alloc (.cells #[.int .i64 n, .slice (some ⟨b, off, none⟩) ts.length tc, .slice ra rs.length rc] 29)).cell? ⟨w.heap.size, 2, none⟩ = some (.slice ra rs.length rc) := by simp [go_sem]
  have HI : Hid (StIn w (some ⟨b, off, none⟩) ts ra rs) := h
  have HRP : Hid (RowP w ra rs) := rp
  have hln := h.lt
  have HT : Hid (Tab w) := hT
  clear h hT rp
  go_enter Tryz.func22, Tryz.ntmps22
  go_wp2_with fail
  refine (shelfWith_any n _ ra tc rc ts rs _ (HT.out.below hb0) (HI.out.below hb0)).mono ?_
  rintro e w1 ⟨hb1, ⟨hw, v, rfl⟩ | ⟨hw, g, sg, rfl, hsh, _, hge, how⟩⟩
  · have HW : Hid (¬ WdOk n ts rs) := hw
    have hB1 := bt hb0 hb1
    clear hw hb1 hb0
    go_wp2_with fail
    exact bodyPost_ret (results_tmp2 rfl _ _ _) rfl ⟨hB1, Or.inl ⟨HW.out, rfl⟩⟩
  · obtain ⟨m, rfl⟩ := Int.eq_ofNat_of_zero_le (show 0 ≤ n by have := hw.1; omega)
    have HW : Hid (WdOk m ts rs) := hw
    have hB1 := bt hb0 hb1
    have c0 := cell_below hb1 k0
    have c1 := cell_below hb1 k1
    have c2 := cell_below hb1 k2
    have hge' : w.heap.size ≤ g := Nat.le_trans hb0.size hge
    have HSH : Hid (w1.heap[g]? = some (.cells #[.int .i64 (m : Int), .slice (some ⟨b, off, none⟩) ts.length tc, .slice ra rs.length rc, .slice (some ⟨sg, 0, none⟩) ts.length ts.length] 73 (0, 0))) := hsh
    have HOW : Hid (OwnX w1 w.heap.size w1.heap.size (.slice (some ⟨sg, 0, none⟩) ts.length ts.length) (ts.map (sumB m))) := by
      have h := RowO.new (own_base how hb0.size)
      unfold OwnX
      rw [List.length_map]
      exact h
    have HCY : Hid (∀ _ : Unit, Calls Tryz.prog 42 #[.agg #[.int .i64 (m : Int), .slice (some ⟨b, off, none⟩) ts.length tc, .slice ra rs.length rc]] w1 fun e w' => Below w1.heap.size w1 w' ∧ ∃ g1 p1 v2, e = .returned (.agg #[.int .i64 (m : Int), .slice (some ⟨g1, 0, none⟩) ts.length p1, v2]) ∧ OwnX w' w1.heap.size w'.heap.size (.slice (some ⟨g1, 0, none⟩) ts.length p1) ts ∧ OwnQ w' w1.heap.size w'.heap.size v2 rs) := fun _ => copyStore_any m b off tc ra rc ts rs w1 (HI.out.st.below hB1) (HRP.out.below hB1) hln hw.2.2.2.1 hw.recs
    have hs1 : w.heap.size ≤ w1.heap.size := hB1.size
    clear hw hsh how hb0 hb1 k0 k1 k2 hge
    go_wp2_with fail
    refine (HCY.out ()).mono ?_
    rintro e w2 ⟨hb2, g1, p1, v2, rfl, o1, o2⟩
    obtain ⟨a2, p2, rfl, _⟩ := o2.sl
    have kg := blk_below HSH.out hb2
    have HKG : Hid (w2.heap[g]? = some (.cells #[.int .i64 (m : Int), .slice (some ⟨b, off, none⟩) ts.length tc, .slice ra rs.length rc, .slice (some ⟨sg, 0, none⟩) ts.length ts.length] 73 (0, 0))) := kg
    have ht : HasT w2 g 73 := ⟨_, kg⟩
    have hs2 : w1.heap.size ≤ w2.heap.size := hb2.size
    have hB2 := bt hB1 hb2
    have HSX : Hid (OwnX w2 w.heap.size w2.heap.size (.slice (some ⟨sg, 0, none⟩) ts.length ts.length) (ts.map (sumB m))) := (HOW.out.below hb2).wide (Nat.le_refl _) hs2
    have HTX : Hid (OwnX w2 w.heap.size w2.heap.size (.slice (some ⟨g1, 0, none⟩) ts.length p1) ts) := o1.wide hs1 (Nat.le_refl _)
    have HQX : Hid (OwnQ w2 w.heap.size w2.heap.size (.slice a2 rs.length p2) rs) := o2.wide hs1 (Nat.le_refl _)
    have HNE : Hid (∀ b, (Value.slice (some ⟨sg, 0, none⟩) ts.length ts.length).ownBlock = some b → (Value.slice (some ⟨g1, 0, none⟩) ts.length p1).ownBlock ≠ some b) := fun b e e' => by
      have h1 := HOW.out.top b e
      have h2 := ((RowO.own o1).lt b e').1
      omega
    obtain ⟨q0, q1, q2, q3, qf⟩ := blk_c4 kg
    have HHT : Hid (HasT w2 g 73) := ht
    clear o1 o2 kg ht hb2 c0 c1 c2 HCY
    go_wp2_with fail
    refine bodyPost_ret (results_tmp2 rfl _ _ _) rfl ?_
    refine ⟨below_set3P hB2 hge' _ _ _, Or.inr ⟨HW.out, g, g1, p1, .slice (some ⟨sg, 0, none⟩) ts.length ts.length, .slice a2 rs.length p2, rfl, hge', ?_⟩⟩
    have hsz : (((w2.setCell ⟨g, 0, none⟩ (.int .i64 (m : Int))).setCell ⟨g, 1, none⟩ (.slice (some ⟨g1, 0, none⟩) ts.length p1)).setCell ⟨g, 2, none⟩ (.slice a2 rs.length p2)).heap.size = w2.heap.size := by simp
    exact ⟨blk4_set3 HKG.out _ _ _, by rw [hsz]; exact ((HSX.out.setT HHT.out (by decide) _).setT (HHT.out.set _) (by decide) _).setT ((HHT.out.set _).set _) (by decide) _, by rw [hsz]; exact ((HTX.out.setT HHT.out (by decide) _).setT (HHT.out.set _) (by decide) _).setT ((HHT.out.set _).set _) (by decide) _, by rw [hsz]; exact ((HQX.out.setT HHT.out (by decide) (by decide) (by decide) _).setT (HHT.out.set _) (by decide) (by decide) (by decide) _).setT ((HHT.out.set _).set _) (by decide) (by decide) (by decide) _, HNE.out⟩

end Go.Proofs.YtllhbgmadiclcaaGreatDoor
