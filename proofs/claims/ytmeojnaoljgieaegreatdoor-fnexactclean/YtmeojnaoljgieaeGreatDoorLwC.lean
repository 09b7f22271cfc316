import Derived.Test.YtmeojnaoljgieaeGreatDoorMkS
import Derived.Test.YtmeojnaoljgieaeGreatDoorMkO
namespace Go.Proofs.YtmeojnaoljgieaeGreatDoor
open Go.RowKit
set_option linter.unusedVariables false
theorem row_slice {w : World} {lo hi e sz : Nat} {v : Value} {n : Nat} {ys : List Value} (h : RowO w lo hi e sz v n ys) : ∃ va vc, v = .slice va n vc := by
  rcases qown_cases h.own with ⟨hv, rfl⟩ | ⟨g', c', hv⟩
  · exact ⟨_, _, hv⟩
  · exact ⟨_, _, hv⟩
def MkSp (w : World) (lo hi K : Nat) (v1 v2 : Value) (n1 n2 : Nat) (cl : Nat → Nat) : Prop := (∃ ys, RowO w lo hi 144 2 v1 n1 ys ∧ MkS K n1 ys) ∧ ∃ ys cv, RowsT w lo hi v2 n2 cl ys cv ∧ MkTm w lo hi (K + 2 * n1) cl cv n2 ys
set_option maxHeartbeats 1000000 in
theorem markSpace_own (lo hi n1 n2 K : Nat) (v1 v2 : Value) (cl : Nat → Nat) (xs zs : List Value) (cv : Nat → Value) (w : World) (h1 : RowO w lo hi 144 2 v1 n1 xs) (h2 : RowsT w lo hi v2 n2 cl zs cv) (hB : lo ≤ w.heap.size) (hn1 : n1 ≤ 1048576) (hn2 : n2 ≤ 1048576) (hcl : ∀ i, i < n2 → cl i ≤ 1048576) (hK : 1 ≤ K) (hK2 : kT cl (K + 2 * n1) n2 ≤ 800000000000000) :
    Calls Tryz.prog 29 #[.agg #[v1, v2], .int .i64 K] w fun e w' => e = .returned (.int .i64 ((kT cl (K + 2 * n1) n2 : Nat) : Int)) ∧ Below lo w w' ∧ KeepR lo hi w w' ∧ MkSp w' lo hi K v1 v2 n1 n2 cl := by
  have hK3 : K + 2 * n1 ≤ 800000000000000 := Nat.le_trans (kT_le cl (K + 2 * n1) 0 n2 (Nat.zero_le _)) hK2
  obtain ⟨va, vc, rfl⟩ := row_slice h1
  obtain ⟨vb, vd, rfl⟩ := row_slice h2.row
  have hb0 : Below w.heap.size w (w.alloc (.cells #[.slice va n1 vc, .slice vb n2 vd] 26)) := (Below.refl _ _).alloc (Nat.le_refl _) _
  have k1 : (w.alloc (.cells #[.slice va n1 vc, .slice vb n2 vd] 26)).cell? ⟨w.heap.size, 1, none⟩ = some (.slice vb n2 vd) := by simp [go_sem]
  have hw0 : (w.alloc (.cells #[.slice va n1 vc, .slice vb n2 vd] 26)).heap.size = w.heap.size + 1 := by simp
  have HR0 : Hid (RowsT (w.alloc (.cells #[.slice va n1 vc, .slice vb n2 vd] 26)) lo hi (.slice vb n2 vd) n2 cl zs cv) := h2.below hb0
  have h10 := h1.below hb0
  have hne : (Value.slice va n1 vc).ownBlock ≠ some w.heap.size := fun e => by have := (h1.own.lt _ e).2; omega
  have HC : Hid (∀ W : World, RowsT W lo hi (.slice vb n2 vd) n2 cl zs cv → lo ≤ W.heap.size → Calls Tryz.prog 78 #[.slice vb n2 vd, .int .i64 ((K + 2 * n1 : Nat) : Int)] W fun e w' => e = .returned (.int .i64 ((kT cl (K + 2 * n1) n2 : Nat) : Int)) ∧ Below lo W w' ∧ KeepTs (.slice vb n2 vd) cv n2 W w' ∧ ∃ ys, RowsT w' lo hi (.slice vb n2 vd) n2 cl ys cv ∧ MkTm w' lo hi (K + 2 * n1) cl cv n2 ys) := fun W h3 h4 => markTargetS_own lo hi n2 (K + 2 * n1) _ cl zs cv W h3 h4 hn2 hcl (by omega) hK2
  clear hK2 h2 h1 hcl
  go_enter Tryz.func29, Tryz.ntmps29
  go_wp2_with fail
  refine (markSourceS_own lo hi n1 K _ xs _ h10 (by omega) hn1 hK (by omega)).mono ?_
  rintro e w1 ⟨rfl, hb1, hk1, ys, hr1, hm1⟩
  have hB1 : Below lo w w1 := (hb0.mono hB).trans hb1
  have hs1 : w.heap.size + 1 ≤ w1.heap.size := by have := hb1.size; omega
  have c1 : w1.cell? ⟨w.heap.size, 1, none⟩ = some (.slice vb n2 vd) := by
    rw [World.cell?_of_block (hk1 w.heap.size (by omega) (fun e => hne e.symm))]; exact k1
  have HR1 : Hid (RowsT w1 lo hi (.slice vb n2 vd) n2 cl zs cv) := HR0.out.keepO h10.own hk1 (by decide) (by decide)
  have HK1 : Hid (KeepR lo hi w w1) := (KeepR.of_below hb0).trans hb0.size (hk1.keepR fun b e => ⟨(h10.own.lt b e).1, h10.top b e⟩)
  have HS1 : Hid (RowO w1 lo hi 144 2 (.slice va n1 vc) n1 ys) := hr1
  have HM1 : Hid (MkS K n1 ys) := hm1
  clear hb0 hb1 hk1 hr1 hm1 k1 HR0 h10 hne hw0
  go_wp2_with fail
  refine (HC.out w1 HR1.out (by omega)).mono ?_
  rintro e w2 ⟨rfl, hb2, hk2, ys2, hr2, hm2⟩
  have hB2 : Below lo w w2 := hB1.trans hb2
  have HK2 : Hid (KeepR lo hi w w2) := HK1.out.trans (by omega) (hk2.keepR HR1.out)
  have HP : Hid (MkSp w2 lo hi K (.slice va n1 vc) (.slice vb n2 vd) n1 n2 cl) := ⟨⟨ys, HS1.out.same fun b e => hk2 b (HS1.out.own.lt b e).2 (fun e' => neT HR1.out.row.own HS1.out.own (by decide) b e' e) (fun i hi e' => by obtain ⟨zz, hz⟩ := HR1.out.code i hi; exact neT hz.own HS1.out.own (by decide) b e' e), HM1.out⟩, ys2, cv, hr2, hm2⟩
  clear hb2 hk2 hr2 hm2 HR1 HK1 HS1 HM1 HC c1
  go_wp2
  go_ret
  exact ⟨rfl, hB2, HK2.out, HP.out⟩
end Go.Proofs.YtmeojnaoljgieaeGreatDoor
namespace Go.Proofs.YtmeojnaoljgieaeGreatDoor
open Go.RowKit
set_option linter.unusedVariables false
theorem blkW_lt {w : World} {b : Nat} {o : Obj} (h : w.heap[b]? = some o) : b < w.heap.size := by
  rcases Nat.lt_or_ge b w.heap.size with h' | h'
  · exact h'
  · rw [Array.getElem?_eq_none h'] at h; cases h
theorem heapW_new (w : World) (o : Obj) : (w.alloc o).heap[w.heap.size]? = some o := by unfold World.alloc; simp
theorem SpOk.move {w w' : World} {sa ta sa' ta' : Option Addr} {ss : List S2} {ts : List T2} (h : SpOk w sa ss ta ts) (rs : RowS w' sa' ss) (rt : RowT w' ta' ts) : SpOk w' sa' ss ta' ts := ⟨rs, rt, h.ls, h.lt, h.ns, h.xs, h.nt, h.lc, h.xt⟩
structure Sp (w : World) (b lo hi : Nat) (v1 v2 : Value) (ss : List S2) (ts : List T2) : Prop where
  blk : w.heap[b]? = some (.cells #[v1, v2] 26 (0, 0))
  s : OwnS w lo hi v1 ss
  t : OwnT w lo hi v2 ts
theorem Sp.below {w w' : World} {b lo hi : Nat} {v1 v2 : Value} {ss : List S2} {ts : List T2} (h : Sp w b lo hi v1 v2 ss ts) (hb : Below w.heap.size w w') : Sp w' b lo hi v1 v2 ss ts :=
  ⟨by rw [hb.block _ (blkW_lt h.blk)]; exact h.blk, h.s.below hb, h.t.below hb⟩
theorem Sp.c {w : World} {b lo hi : Nat} {v1 v2 : Value} {ss : List S2} {ts : List T2} (h : Sp w b lo hi v1 v2 ss ts) : w.cell? ⟨b, 0, none⟩ = some v1 ∧ w.cell? ⟨b, 1, none⟩ = some v2 :=
  ⟨by rw [Lib.cell_of_heap h.blk]; rfl, by rw [Lib.cell_of_heap h.blk]; rfl⟩
theorem Sp.new {w : World} {lo hi : Nat} {v1 v2 : Value} {ss : List S2} {ts : List T2} (h1 : OwnS w lo hi v1 ss) (h2 : OwnT w lo hi v2 ts) : Sp (w.alloc (.cells #[v1, v2] 26)) w.heap.size lo hi v1 v2 ss ts :=
  ⟨heapW_new _ _, h1.below ((Below.refl _ _).alloc (Nat.le_refl _) _), h2.below ((Below.refl _ _).alloc (Nat.le_refl _) _)⟩
theorem blk_c {w : World} {b T : Nat} {v1 v2 : Value} (h : w.heap[b]? = some (.cells #[v1, v2] T (0, 0))) : w.cell? ⟨b, 0, none⟩ = some v1 ∧ w.cell? ⟨b, 1, none⟩ = some v2 :=
  ⟨by rw [Lib.cell_of_heap h]; rfl, by rw [Lib.cell_of_heap h]; rfl⟩
theorem blk_below {w w' : World} {b : Nat} {o : Obj} (h : w.heap[b]? = some o) (hb : Below w.heap.size w w') : w'.heap[b]? = some o := by rw [hb.block _ (blkW_lt h)]; exact h
theorem blk_keepR {w w' : World} {b lo hi : Nat} {o : Obj} (h : w.heap[b]? = some o) (hk : KeepR lo hi w w') (hb : b < lo ∨ hi ≤ b) : w'.heap[b]? = some o := by rw [hk b (blkW_lt h) hb]; exact h
theorem eqSpace_own {w : World} {lo hi lo' hi' : Nat} {v1 v2 u1 u2 : Value} {ss : List S2} {ts : List T2} (h1 : OwnS w lo hi v1 ss) (h2 : OwnT w lo hi v2 ts) (k1 : OwnS w lo' hi' u1 ss) (k2 : OwnT w lo' hi' u2 ts) (hs : SpSmall ss ts) :
    Calls Tryz.prog 28 #[.agg #[v1, v2], .agg #[u1, u2]] w fun e w' => Below w.heap.size w w' ∧ e = .returned (.bool true) := by
  obtain ⟨a1, p1, rfl, r1⟩ := h1.sl
  obtain ⟨a2, p2, rfl, r2⟩ := h2.sl
  obtain ⟨a3, p3, rfl, r3⟩ := k1.sl
  obtain ⟨a4, p4, rfl, r4⟩ := k2.sl
  exact eqSpace_same a1 a2 a3 a4 p1 p2 p3 p4 ss ts w r1 r2 r3 r4 hs
def kQ (ss : List S2) (ts : List T2) : Nat := kT (fun i => (tx ts i).code.length) (1 + 2 * ss.length) ts.length
theorem kQ_le {ss : List S2} {ts : List T2} (h : SpSmall ss ts) : kT (fun i => (tx ts i).code.length) (1 + 2 * ss.length) ts.length ≤ 800000000000000 := by
  have h1 := kT_bound (fun i => (tx ts i).code.length) (1 + 2 * ss.length) ts.length h.lc
  have h2 := h.ls
  have h3 := h.lt
  have h4 : ts.length * 3145729 ≤ 1048576 * 3145729 := Nat.mul_le_mul_right _ h3
  omega
def MkL (w : World) (lo hi : Nat) (v1 v2 : Value) (ss : List S2) (ts : List T2) : Prop := MkSp w lo hi 1 v1 v2 ss.length ts.length (fun i => (tx ts i).code.length)
theorem markSpace_sp {w : World} {lo hi : Nat} {v1 v2 : Value} {ss : List S2} {ts : List T2} (h1 : OwnS w lo hi v1 ss) (h2 : OwnT w lo hi v2 ts) (hB : lo ≤ w.heap.size) (hs : SpSmall ss ts) :
    Calls Tryz.prog 29 #[.agg #[v1, v2], .int .i64 1] w fun e w' => e = .returned (.int .i64 ((kQ ss ts : Nat) : Int)) ∧ Below lo w w' ∧ KeepR lo hi w w' ∧ MkL w' lo hi v1 v2 ss ts := by
  obtain ⟨xs, k1, _⟩ := h1
  obtain ⟨zs, cv, k2⟩ := h2
  exact markSpace_own lo hi ss.length ts.length 1 v1 v2 _ xs zs cv w k1 k2.rows hB hs.ls hs.lt hs.lc (Nat.le_refl _) (kQ_le hs)
end Go.Proofs.YtmeojnaoljgieaeGreatDoor
namespace Go.Proofs.YtmeojnaoljgieaeGreatDoor
open Go.RowKit Go.Deep
set_option linter.unusedVariables false
set_option maxHeartbeats 1000000 in
theorem eqResult_same (c : Int) (t : ByteArray) (a a' : Option Addr) (cap cap' : Nat) (ss : List ByteArray) (w : World) (hc : Strs w a ss) (hc' : Strs w a' ss) (hl : ss.length ≤ 1048576) :
    Calls Tryz.prog 27 #[.agg #[.int .i64 c, .string t, .slice a ss.length cap], .agg #[.int .i64 c, .string t, .slice a' ss.length cap']] w fun e w' => Below w.heap.size w w' ∧ e = .returned (.bool true) := by
  go_enter Tryz.func27, Tryz.ntmps27
  go_wp2_with fail
  have hb0 : Below w.heap.size w ((w.alloc (.cells #[.int .i64 c, .string t, .slice a ss.length cap] 32)).alloc (.cells #[.int .i64 c, .string t, .slice a' ss.length cap'] 32)) := ((Below.refl _ _).alloc (Nat.le_refl _) _).alloc (by simp) _
  refine (eqStringS_same a a' cap cap' ss _ (hc.below hb0) (hc'.below hb0) hl).mono ?_
  rintro e w1 ⟨hb1, rfl⟩
  go_wp2
  go_ret
  exact ⟨hb0.trans (hb1.mono hb0.size), rfl⟩
structure Rs (w : World) (b lo hi : Nat) (c : Int) (t : ByteArray) (v : Value) (ch : List ByteArray) : Prop where
  blk : w.heap[b]? = some (.cells #[.int .i64 c, .string t, v] 32 (0, 0))
  row : RowO w lo hi 9 1 v ch.length (strV ch)
theorem Rs.below {w w' : World} {b lo hi : Nat} {c : Int} {t : ByteArray} {v : Value} {ch : List ByteArray} (h : Rs w b lo hi c t v ch) (hb : Below w.heap.size w w') : Rs w' b lo hi c t v ch := ⟨by rw [hb.block _ (blkW_lt h.blk)]; exact h.blk, h.row.below hb⟩
theorem Rs.keep {w w' : World} {b lo hi lo' hi' : Nat} {c : Int} {t : ByteArray} {v : Value} {ch : List ByteArray} (h : Rs w b lo hi c t v ch) (hk : KeepR lo' hi' w w') (hb : b < lo' ∨ hi' ≤ b) (hd : hi ≤ lo' ∨ hi' ≤ lo) : Rs w' b lo hi c t v ch := ⟨by rw [hk b (blkW_lt h.blk) hb]; exact h.blk, h.row.keep hk hd⟩
theorem row_strs {w : World} {lo hi : Nat} {v : Value} {ch : List ByteArray} (h : RowO w lo hi 9 1 v ch.length (strV ch)) : ∃ a cap, v = .slice a ch.length cap ∧ Strs w a ch := by
  rcases h.own.2 with ⟨e, h0⟩ | ⟨g, cap, cur, e, _⟩
  · exact ⟨none, 0, by rw [e, h0], fun i hi => by omega⟩
  · refine ⟨some ⟨g, 0, none⟩, cap, e, fun i hi => ⟨g, 0, rfl, ?_⟩⟩
    have ho := h.own
    rw [e] at ho
    rw [Nat.zero_add, ho.cellAt i (by omega), strV_get ch i hi]; rfl
set_option maxHeartbeats 1000000 in
theorem markResult_row (lo hi : Nat) (c : Int) (t : ByteArray) (v : Value) (ch : List ByteArray) (w : World) (hr : RowO w lo hi 9 1 v ch.length (strV ch)) (hB : lo ≤ w.heap.size) (hn : ch.length ≤ 60) :
    Calls Tryz.prog 30 #[.agg #[.int .i64 c, .string t, v], .int .i64 1] w fun e w' => e = .returned (.int .i64 ((1 + ch.length : Nat) : Int)) ∧ Below lo w w' ∧ KeepR lo hi w w' ∧ ∃ ys, RowO w' lo hi 9 1 v ch.length ys ∧ qMkX 1 ch.length ys := by
  obtain ⟨a, cap, rfl, _⟩ := row_strs hr
  have hb0 : Below w.heap.size w (w.alloc (.cells #[.int .i64 c, .string t, .slice a ch.length cap] 32)) := alloc_below _ _
  have HM : Hid (Calls Tryz.prog 79 #[.slice a ch.length cap, .int .i64 ((1 : Nat) : Int)] (w.alloc (.cells #[.int .i64 c, .string t, .slice a ch.length cap] 32)) _) := markStringS_row lo hi ch.length 1 (.slice a ch.length cap) (strV ch) _ (hr.below hb0) (by simp; omega) (by omega) (Nat.le_refl _) (by omega)
  have HB : Hid (Below w.heap.size w (w.alloc (.cells #[.int .i64 c, .string t, .slice a ch.length cap] 32))) := hb0
  have HT : Hid (∀ b, (Value.slice a ch.length cap).ownBlock = some b → lo ≤ b ∧ b < hi) := fun b e => ⟨(hr.own.lt b e).1, hr.top b e⟩
  clear hr hb0
  go_enter Tryz.func30, Tryz.ntmps30
  go_wp2_with fail
  refine HM.out.mono ?_
  rintro e w2 ⟨rfl, hb2, hk2, hy⟩
  have HY : Hid (Below lo w w2 ∧ KeepR lo hi w w2 ∧ ∃ ys, RowO w2 lo hi 9 1 (.slice a ch.length cap) ch.length ys ∧ qMkX 1 ch.length ys) := ⟨(HB.out.mono hB).trans hb2, (KeepR.of_below HB.out).trans HB.out.size (hk2.keepR HT.out), hy⟩
  clear hb2 hk2 hy HM
  go_wp2
  go_ret
  exact ⟨rfl, HY.out⟩
set_option maxHeartbeats 1000000 in
theorem heldResult_row (lo hi n : Nat) (c : Int) (t : ByteArray) (v : Value) (ys : List Value) (w : World) (hr : RowO w lo hi 9 1 v n ys) (hm : qMkX 1 n ys) (hn : n ≤ 60) :
    Calls Tryz.prog 31 #[.agg #[.int .i64 c, .string t, v], .int .i64 1] w fun e w' => e = .returned (.int .i64 ((1 + n : Nat) : Int)) ∧ Below w.heap.size w w' := by
  obtain ⟨a, cap, rfl⟩ : ∃ a cap, v = .slice a n cap := by
    rcases hr.own.2 with ⟨e, h0⟩ | ⟨g, cap, cur, e, _⟩
    · exact ⟨none, 0, by rw [e, h0]⟩
    · exact ⟨_, _, e⟩
  have hb0 : Below w.heap.size w (w.alloc (.cells #[.int .i64 c, .string t, .slice a n cap] 32)) := alloc_below _ _
  have HM : Hid (Calls Tryz.prog 80 #[.slice a n cap, .int .i64 ((1 : Nat) : Int)] (w.alloc (.cells #[.int .i64 c, .string t, .slice a n cap] 32)) _) := heldStringS_row lo hi n 1 (.slice a n cap) ys _ (hr.below hb0) hm (by omega) (Nat.le_refl _) (by omega)
  have HB : Hid (Below w.heap.size w (w.alloc (.cells #[.int .i64 c, .string t, .slice a n cap] 32))) := hb0
  have hd : decide (((1 + n : Nat) : Int) < 0) = false := by simp; omega
  clear hr hb0
  go_enter Tryz.func31, Tryz.ntmps31
  go_wp2_with fail
  refine HM.out.mono ?_
  rintro e w2 ⟨rfl, hb2⟩
  have HY : Hid (Below w.heap.size w w2) := bt HB.out hb2
  obtain ⟨K, eK⟩ : ∃ K, 1 + n = K := ⟨_, rfl⟩
  have EK : Hid (1 + n = K) := eK
  rw [eK] at hd ⊢
  clear hb2 HM eK
  go_wp2_with fail
  exact bodyPost_ret (v := .int .i64 (K : Int)) (by simp [results, Tryz.results31, go_sem]) rfl ⟨by rw [EK.out], HY.out⟩
theorem CleanP.len {ss : List S2} {ts : List T2} {nm : ByteArray} {c : Int} {t : ByteArray} {ch : List ByteArray} (h : CleanP ss ts nm c t ch) : ch.length ≤ 60 := by
  rcases h with ⟨_, _, _, rfl⟩ | ⟨_, _, ms, a, hd, k⟩
  · simp
  · cases a with
    | ok d => obtain ⟨_, _, rfl⟩ := k; simp
    | circle l => obtain ⟨_, _, rfl⟩ := k; exact (hd.circle_len (by simp) _ rfl).2
    | deep x => obtain ⟨_, _, rfl⟩ := k; simp
theorem CleanP.uniq {w : World} {sa ta : Option Addr} {ss : List S2} {ts : List T2} (ho : SpOk w sa ss ta ts) {nm : ByteArray} {c c' : Int} {t t' : ByteArray} {ch ch' : List ByteArray} (h : CleanP ss ts nm c t ch) (h' : CleanP ss ts nm c' t' ch') : c' = c ∧ t' = t ∧ ch' = ch := by
  by_cases hc : chk ss ts = 0
  · have hv := (env_of ho hc).v
    exact CleanP.unique hv.ascS hv.ascT h h'
  · rcases h with ⟨_, rfl, rfl, rfl⟩ | ⟨q, _⟩
    · rcases h' with ⟨_, rfl, rfl, rfl⟩ | ⟨q, _⟩
      · exact ⟨rfl, rfl, rfl⟩
      · exact absurd q hc
    · exact absurd q hc
theorem implClean_own {w w0 : World} {sa ta : Option Addr} {lo hi : Nat} {v1 v2 : Value} {ss : List S2} {ts : List T2} (nm : ByteArray) (hT : Tab w) (hP : P10 w) (h : SpOk w0 sa ss ta ts) (h1 : OwnS w lo hi v1 ss) (h2 : OwnT w lo hi v2 ts) (hs : SpSmall ss ts) (ht : nm.size ≤ 9223372036854775807) :
    Calls Tryz.prog 14 #[.agg #[v1, v2], .string nm] w fun e w' => Below w.heap.size w w' ∧ ∃ c t ch cv, e = .returned (.agg #[.int .i64 c, .string t, cv]) ∧ CleanP ss ts nm c t ch ∧ RowO w' w.heap.size w'.heap.size 9 1 cv ch.length (strV ch) := by
  obtain ⟨a1, p1, rfl, r1⟩ := h1.sl
  obtain ⟨a2, p2, rfl, r2⟩ := h2.sl
  refine (implClean_any a1 a2 p1 p2 ss ts nm w hT hP (h.move r1 r2) hs ht).mono ?_
  rintro e w' ⟨hb, c, t, ch, ca, cn, cc, rfl, hp, ho⟩
  exact ⟨hb, c, t, ch, _, rfl, hp, RowO.new ho⟩
theorem specClean_own {w w0 : World} {sa ta : Option Addr} {lo hi : Nat} {v1 v2 : Value} {ss : List S2} {ts : List T2} (nm : ByteArray) (h : SpOk w0 sa ss ta ts) (h1 : OwnS w lo hi v1 ss) (h2 : OwnT w lo hi v2 ts) (hs : SpSmall ss ts) (ht : nm.size ≤ 9223372036854775807) :
    Calls Tryz.prog 25 #[.agg #[v1, v2], .string nm] w fun e w' => Below w.heap.size w w' ∧ ∃ c t ch ca cc, e = .returned (.agg #[.int .i64 c, .string t, .slice ca ch.length cc]) ∧ CleanP ss ts nm c t ch ∧ Strs w' ca ch := by
  obtain ⟨a1, p1, rfl, r1⟩ := h1.sl
  obtain ⟨a2, p2, rfl, r2⟩ := h2.sl
  exact specClean_any a1 a2 p1 p2 ss ts nm w (h.move r1 r2) hs ht
end Go.Proofs.YtmeojnaoljgieaeGreatDoor
namespace Go.Proofs.YtmeojnaoljgieaeGreatDoor
open Go.RowKit Go.Deep
set_option linter.unusedVariables false
set_option maxRecDepth 100000 in
set_option maxHeartbeats 8000000 in
theorem cleanLaw (sa ta : Option Addr) (c1 c2 : Nat) (ss : List S2) (ts : List T2) (nm : ByteArray) (w : World) (hT : Tab w) (hP : P10 w) (h : SpOk w sa ss ta ts) (ht : nm.size ≤ maxLen) :
    Calls Tryz.prog 5 #[.agg #[.slice sa ss.length c1, .slice ta ts.length c2], .string nm] w fun e w' => e = .returned (.bool true) ∧ Below w.heap.size w w' := by
  have hb0 : Below w.heap.size w (w.alloc (.cells #[.slice sa ss.length c1, .slice ta ts.length c2] 71)) := alloc_below _ _
  have HZ0 : Hid ((w.alloc (.cells #[.slice sa ss.length c1, .slice ta ts.length c2] 71)).heap[w.heap.size]? = some (.cells #[.slice sa ss.length c1, .slice ta ts.length c2] 71 (0, 0))) := heapW_new _ _
  have HO : Hid (SpOk w sa ss ta ts) := h
  have HT : Hid (Tab w ∧ P10 w) := ⟨hT, hP⟩
  clear h hT hP
  unfold maxLen at ht
  have ht2 : nm.size ≤ 9223372036854775807 := by omega
  by_cases h20 : 1048576 < nm.size
  · have d20 : decide ((1048576 : Int) < (nm.size : Int)) = true := by simp; omega
    go_enter Tryz.func5, Tryz.ntmps5
    go_wp2
    go_ret
    exact ⟨rfl, hb0⟩
  have d20 : decide ((1048576 : Int) < (nm.size : Int)) = false := by simp; omega
  go_enter Tryz.func5, Tryz.ntmps5
  go_wp2_with fail
  clear d20
  refine (szSpace_any sa ta c1 c2 ss ts _ (HO.out.below hb0)).mono ?_
  rintro e w1 ⟨hb1, r, rfl, hr⟩
  have hB1 := bt hb0 hb1
  have HZ1 : Hid (w1.heap[w.heap.size]? = _) := blk_below HZ0.out hb1
  clear hb0 hb1 HZ0
  rcases hr with hr | ⟨hsm, hr0⟩
  · go_wp2
    go_ret
    exact ⟨rfl, hB1⟩
  have hr0d : decide (r < 0) = false := by simp; omega
  obtain ⟨z0, z1⟩ := blk_c HZ1.out
  go_wp2_with fail
  clear hr0d
  refine (toSpace_own sa ta c1 c2 ss ts _ (HO.out.rs.below hB1) (HO.out.rt.below hB1) hsm).mono ?_
  rintro e w2 ⟨hb2, x1, x2, rfl, o1, o2⟩
  have hB2 := bt hB1 hb2
  have HZ2 : Hid (w2.heap[w.heap.size]? = _) := blk_below HZ1.out hb2
  clear z0 z1 hB1 hb2 HZ1
  go_wp2_with fail
  refine (specClean_own nm HO.out o1 o2 hsm ht2).mono ?_
  rintro e w3 ⟨hb3, dC, dt, dch, va, vc, rfl, hcp, hst⟩
  have hB3 := bt hB2 hb3
  obtain ⟨w4, e4⟩ : ∃ x, w3.alloc (.cells #[.int .i64 dC, .string dt, .slice va dch.length vc] 32) = x := ⟨_, rfl⟩
  have hb4 : Below w3.heap.size w3 w4 := by rw [← e4]; exact alloc_below _ _
  have HV4 : Hid (w4.heap[w3.heap.size]? = some (.cells #[.int .i64 dC, .string dt, .slice va dch.length vc] 32 (0, 0))) := by show _ = _; rw [← e4]; exact heapW_new _ _
  have HST : Hid (∀ W : World, Below w4.heap.size w4 W → Strs W va dch) := fun W hW => (hst.below hb4).below hW
  have hB4 := bt hB3 hb4
  have HZ4 : Hid (w4.heap[w.heap.size]? = _) := blk_below (blk_below HZ2.out hb3) hb4
  have hsz3 : w2.heap.size ≤ w3.heap.size := hb3.size
  have hsz4 : w3.heap.size < w4.heap.size := blkW_lt HV4.out
  have hszw : w.heap.size < w2.heap.size := blkW_lt HZ2.out
  have HLN : Hid (dch.length ≤ 60) := hcp.len
  have HDR : Hid (∀ (W : World) (lo hi : Nat) (y1 y2 : Value), Below w.heap.size w W → OwnS W lo hi y1 ss → OwnT W lo hi y2 ts → Calls Tryz.prog 14 #[.agg #[y1, y2], .string nm] W fun e w' => Below W.heap.size W w' ∧ ∃ cv, e = .returned (.agg #[.int .i64 dC, .string dt, cv]) ∧ RowO w' W.heap.size w'.heap.size 9 1 cv dch.length (strV dch)) := fun W lo hi y1 y2 k0 k1 k2 => by
    refine (implClean_own nm (HT.out.1.below k0) (HT.out.2.below k0) HO.out k1 k2 hsm ht2).mono ?_
    rintro e w' ⟨hb, c, t, ch, cv, rfl, hp, ho⟩
    obtain ⟨rfl, rfl, rfl⟩ := hcp.uniq HO.out hp
    exact ⟨hb, cv, rfl, ho⟩
  have HTS : Hid (∀ W : World, Below w.heap.size w W → Calls Tryz.prog 26 #[.agg #[.slice sa ss.length c1, .slice ta ts.length c2]] W fun e w' => Below W.heap.size W w' ∧ ∃ v1 v2 : Value, e = .returned (.agg #[v1, v2]) ∧ OwnS w' W.heap.size w'.heap.size v1 ss ∧ OwnT w' W.heap.size w'.heap.size v2 ts) := fun W hW => toSpace_own sa ta c1 c2 ss ts W (HO.out.rs.below hW) (HO.out.rt.below hW) hsm
  have HSS : Hid (SpSmall ss ts) := hsm
  have HEQ : Hid (∀ (W : World) (lo hi : Nat) (a : Option Addr) (cap : Nat), Below w4.heap.size w4 W → Strs W a dch → Calls Tryz.prog 27 #[.agg #[.int .i64 dC, .string dt, .slice a dch.length cap], .agg #[.int .i64 dC, .string dt, .slice va dch.length vc]] W fun e w' => Below W.heap.size W w' ∧ e = .returned (.bool true)) := fun W lo hi a cap hW hr => eqResult_same dC dt a va cap vc dch W hr (HST.out W hW) (by have := HLN.out; omega)
  obtain ⟨z0, z1⟩ := blk_c HZ4.out
  clear hb3 hb4 o1 o2 hB2 hB3 HZ2 hcp hst
  go_wp2_with fail
  clear e4
  refine (HTS.out w4 hB4).mono ?_
  rintro e w5 ⟨hb5, x1, x2, rfl, o1, o2⟩
  obtain ⟨xa, xc, rfl, _⟩ := o1.sl
  obtain ⟨xb, xd, rfl, _⟩ := o2.sl
  have hB5 := bt hB4 hb5
  obtain ⟨w6, e6⟩ : ∃ x, w5.alloc (.cells #[.slice xa ss.length xc, .slice xb ts.length xd] 26) = x := ⟨_, rfl⟩
  have hb6 : Below w5.heap.size w5 w6 := by rw [← e6]; exact alloc_below _ _
  have HX6 : Hid (Sp w6 w5.heap.size w4.heap.size w5.heap.size (.slice xa ss.length xc) (.slice xb ts.length xd) ss ts) := by show Sp _ _ _ _ _ _ _ _; rw [← e6]; exact Sp.new o1 o2
  have HB46 : Hid (Below w4.heap.size w4 w6) := bt hb5 hb6
  have hB6 := bt hB5 hb6
  have hsz5 : w4.heap.size ≤ w5.heap.size := hb5.size
  have hsz6 : w5.heap.size < w6.heap.size := blkW_lt HX6.out.blk
  clear hb5 hb6 o1 o2 hB4 hB5 z0 z1
  obtain ⟨z0, z1⟩ := HX6.out.c
  go_wp2_with fail
  clear e6
  refine (HDR.out w6 _ _ _ _ hB6 HX6.out.s HX6.out.t).mono ?_
  rintro e w7 ⟨hb7, gv, rfl, og⟩
  obtain ⟨ga, gc, rfl, gs⟩ := row_strs og
  have hB7 := bt hB6 hb7
  obtain ⟨w8, e8⟩ : ∃ x, w7.alloc (.cells #[.int .i64 dC, .string dt, .slice ga dch.length gc] 32) = x := ⟨_, rfl⟩
  have hb8 : Below w7.heap.size w7 w8 := by rw [← e8]; exact alloc_below _ _
  have HG8 : Hid (Rs w8 w7.heap.size w6.heap.size w7.heap.size dC dt (.slice ga dch.length gc) dch) := ⟨by rw [← e8]; exact heapW_new _ _, og.below hb8⟩
  have HX8 : Hid (Sp w8 w5.heap.size w4.heap.size w5.heap.size _ _ ss ts) := (HX6.out.below hb7).below hb8
  have HB48 : Hid (Below w4.heap.size w4 w8) := bt (bt HB46.out hb7) hb8
  have hB8 := bt hB7 hb8
  have hsz7 : w6.heap.size ≤ w7.heap.size := hb7.size
  have hsz8 : w7.heap.size < w8.heap.size := blkW_lt HG8.out.blk
  clear hb7 hb8 og gs hB6 hB7 HX6 z0 z1
  obtain ⟨z0, z1, z2, _⟩ := bk3 HG8.out.blk
  obtain ⟨y0, y1, y2, _⟩ := bk3 (blk_below HV4.out HB48.out)
  go_wp2_with fail
  clear e8
  obtain ⟨ga', gc', eg, gs8⟩ := row_strs HG8.out.row
  simp only [Value.slice.injEq, true_and] at eg
  obtain ⟨rfl, rfl⟩ := eg
  refine (HEQ.out w8 0 0 ga gc HB48.out gs8).mono ?_
  rintro e w9 ⟨hb9, rfl⟩
  have hB9 := bt hB8 hb9
  have HG9 : Hid (Rs w9 w7.heap.size w6.heap.size w7.heap.size dC dt (.slice ga dch.length gc) dch) := HG8.out.below hb9
  have HX9 : Hid (Sp w9 w5.heap.size w4.heap.size w5.heap.size _ _ ss ts) := HX8.out.below hb9
  have HB49 : Hid (Below w4.heap.size w4 w9) := bt HB48.out hb9
  have hsz9 : w8.heap.size ≤ w9.heap.size := hb9.size
  clear hb9 hB8 HG8 HX8 z0 z1 z2 y0 y1 y2 gs8
  obtain ⟨z0, z1⟩ := HX9.out.c
  obtain ⟨y0, y1⟩ := blk_c (blk_below HZ4.out HB49.out)
  have hbd9 : Below w9.heap.size w9 w9.drew := (Below.refl _ _).drew
  go_wp2_with fail
  go_region_held3 (fun w' => w'.cell? ⟨w5.heap.size, 0, none⟩ = some (.slice xa ss.length xc) ∧ w'.cell? ⟨w5.heap.size, 1, none⟩ = some (.slice xb ts.length xd) ∧ w'.cell? ⟨w.heap.size, 0, none⟩ = some (.slice sa ss.length c1) ∧ w'.cell? ⟨w.heap.size, 1, none⟩ = some (.slice ta ts.length c2))
    (first | exact ⟨z0, z1, y0, y1⟩ | (with_reducible exact ⟨cell_below hb11 s0, cell_below hb11 s1, cell_below hb11 s2, cell_below hb11 s3⟩) | (with_reducible exact ⟨s0, s1, s2, s3⟩))
    (first | (go_at_call 26; refine (HTS.out _ hB9.drew).mono ?_; rintro e w10 ⟨hb10, f1, f2, rfl, of1, of2⟩; have s0 := cell_below (bt hbd9 hb10) z0; have s1 := cell_below (bt hbd9 hb10) z1; have s2 := cell_below (bt hbd9 hb10) y0; have s3 := cell_below (bt hbd9 hb10) y1; have HX10 : Hid (Sp w10 w5.heap.size w4.heap.size w5.heap.size _ _ ss ts) := HX9.out.below (bt hbd9 hb10)) | (go_at_call 28; refine (eqSpace_own HX10.out.s HX10.out.t of1 of2 HSS.out).mono ?_; rintro e w11 ⟨hb11, rfl⟩))
  have hb911 : Below w9.heap.size w9 w11 := bt (bt hbd9 hb10) hb11
  have hB11 := bt hB9 hb911
  have HG11 : Hid (Rs w11 w7.heap.size w6.heap.size w7.heap.size dC dt (.slice ga dch.length gc) dch) := HG9.out.below hb911
  have HX11 : Hid (Sp w11 w5.heap.size w4.heap.size w5.heap.size _ _ ss ts) := HX9.out.below hb911
  have HB411 : Hid (Below w4.heap.size w4 w11) := bt HB49.out hb911
  have hsz11 : w9.heap.size ≤ w11.heap.size := hb911.size
  clear hb911 hb10 hb11 hbd9 hB9 HG9 HX9 HX10 of1 of2 z0 z1 y0 y1 s0 s1 s2 s3
  obtain ⟨z0, z1⟩ := HX11.out.c
  go_wp2_with fail
  refine (markSpace_sp HX11.out.s HX11.out.t (by omega) HSS.out).mono ?_
  rintro e w12 ⟨rfl, hb12, hk12, _⟩
  have hB12 : Below w.heap.size w w12 := hB11.trans (hb12.mono (by omega))
  have HG12 : Hid (Rs w12 w7.heap.size w6.heap.size w7.heap.size dC dt (.slice ga dch.length gc) dch) := HG11.out.keep hk12 (Or.inr (by omega)) (Or.inr (by omega))
  have HB412 : Hid (Below w4.heap.size w4 w12) := HB411.out.trans hb12
  have hsz12 : w11.heap.size ≤ w12.heap.size := hb12.size
  clear hb12 hk12 hB11 HG11 HX11 z0 z1
  have hk0 : decide (((kQ ss ts : Nat) : Int) < 0) = false := by simp
  generalize kQ ss ts = K1 at *
  obtain ⟨z0, z1, z2, _⟩ := bk3 HG12.out.blk
  obtain ⟨y0, y1, y2, _⟩ := bk3 (blk_below HV4.out HB412.out)
  go_wp2_with fail
  clear hk0
  obtain ⟨ga', gc', eg, gs12⟩ := row_strs HG12.out.row
  simp only [Value.slice.injEq, true_and] at eg
  obtain ⟨rfl, rfl⟩ := eg
  refine (HEQ.out w12 0 0 ga gc HB412.out gs12).mono ?_
  rintro e w13 ⟨hb13, rfl⟩
  have hB13 := bt hB12 hb13
  have HG13 : Hid (Rs w13 w7.heap.size w6.heap.size w7.heap.size dC dt (.slice ga dch.length gc) dch) := HG12.out.below hb13
  have HB413 : Hid (Below w4.heap.size w4 w13) := bt HB412.out hb13
  have hsz13 : w12.heap.size ≤ w13.heap.size := hb13.size
  clear hb13 hB12 HG12 z0 z1 z2 y0 y1 y2 gs12
  obtain ⟨z0, z1, z2, _⟩ := bk3 HG13.out.blk
  go_wp2_with fail
  refine (markResult_row w6.heap.size w7.heap.size dC dt _ dch w13 HG13.out.row (by omega) HLN.out).mono ?_
  rintro e w14 ⟨rfl, hb14, hk14, ys, hr14, hm14⟩
  have hB14 : Below w.heap.size w w14 := hB13.trans (hb14.mono (by omega))
  have GB14 : Hid (w14.heap[w7.heap.size]? = some (.cells #[.int .i64 dC, .string dt, .slice ga dch.length gc] 32 (0, 0))) := blk_keepR HG13.out.blk hk14 (Or.inr (Nat.le_refl _))
  have HB414 : Hid (Below w4.heap.size w4 w14) := HB413.out.trans (hb14.mono (by omega))
  have HM14 : Hid (RowO w14 w6.heap.size w7.heap.size 9 1 (.slice ga dch.length gc) dch.length ys ∧ qMkX 1 dch.length ys) := ⟨hr14, hm14⟩
  clear hb14 hk14 hm14 hr14 hB13 HG13 z0 z1 z2
  have HH : Hid (∀ W : World, RowO W w6.heap.size w7.heap.size 9 1 (.slice ga dch.length gc) dch.length ys → Calls Tryz.prog 31 #[.agg #[.int .i64 dC, .string dt, .slice ga dch.length gc], .int .i64 1] W fun e w' => e = .returned (.int .i64 ((1 + dch.length : Nat) : Int)) ∧ Below W.heap.size W w') := fun W hW => heldResult_row w6.heap.size w7.heap.size dch.length dC dt _ ys W hW HM14.out.2 HLN.out
  have hk0 : decide (((1 + dch.length : Nat) : Int) < 0) = false := by simp; omega
  have hkk : (((1 + dch.length : Nat) : Int) != ((1 + dch.length : Nat) : Int)) = false := by simp
  obtain ⟨K2, eK2⟩ : ∃ K2, 1 + dch.length = K2 := ⟨_, rfl⟩
  rw [eK2] at hk0 hkk HH ⊢
  clear eK2
  obtain ⟨z0, z1, z2, _⟩ := bk3 GB14.out
  go_wp2_with fail
  refine (HH.out w14 HM14.out.1).mono ?_
  rintro e w15 ⟨rfl, hb15⟩
  have hB15 := bt hB14 hb15
  have HB415 : Hid (Below w4.heap.size w4 w15) := bt HB414.out hb15
  have GB15 : Hid (w15.heap[w7.heap.size]? = some (.cells #[.int .i64 dC, .string dt, .slice ga dch.length gc] 32 (0, 0))) := blk_below GB14.out hb15
  have HM15 : Hid (RowO w15 w6.heap.size w7.heap.size 9 1 (.slice ga dch.length gc) dch.length ys) := HM14.out.1.below hb15
  clear hb15 hB14 GB14 z0 z1 z2
  obtain ⟨z0, z1⟩ := blk_c (blk_below HZ4.out HB415.out)
  go_wp2_with fail
  refine (HTS.out w15 hB15).mono ?_
  rintro e w16 ⟨hb16, x1, x2, rfl, o1, o2⟩
  have hB16 := bt hB15 hb16
  have HB16 : Hid (Below w15.heap.size w15 w16) := hb16
  clear hb16 z0 z1
  go_wp2_with fail
  refine (HDR.out w16 _ _ _ _ hB16 o1 o2).mono ?_
  rintro e w17 ⟨hb17, hv, rfl, oh⟩
  obtain ⟨ha, hc, rfl, hs17⟩ := row_strs oh
  have hB17 := bt hB16 hb17
  obtain ⟨w18, e18⟩ : ∃ x, w17.alloc (.cells #[.int .i64 dC, .string dt, .slice ha dch.length hc] 32) = x := ⟨_, rfl⟩
  have hb18 : Below w17.heap.size w17 w18 := by rw [← e18]; exact alloc_below _ _
  have hb1518 : Below w15.heap.size w15 w18 := bt (bt HB16.out hb17) hb18
  have HH18 : Hid (w18.heap[w17.heap.size]? = some (.cells #[.int .i64 dC, .string dt, .slice ha dch.length hc] 32 (0, 0))) := by show _ = _; rw [← e18]; exact heapW_new _ _
  have HS18 : Hid (Strs w18 ha dch) := hs17.below hb18
  have GB18 : Hid (w18.heap[w7.heap.size]? = some (.cells #[.int .i64 dC, .string dt, .slice ga dch.length gc] 32 (0, 0))) := blk_below GB15.out hb1518
  have HM18 : Hid (RowO w18 w6.heap.size w7.heap.size 9 1 (.slice ga dch.length gc) dch.length ys) := HM15.out.below hb1518
  have HB418 : Hid (Below w4.heap.size w4 w18) := bt HB415.out hb1518
  have hB18 := bt hB17 hb18
  clear hb1518 hb17 hb18 HB16 oh o1 o2 hs17 hB15 hB16 hB17 GB15 HM15
  obtain ⟨z0, z1, z2, _⟩ := bk3 HH18.out
  obtain ⟨y0, y1, y2, _⟩ := bk3 (blk_below HV4.out HB418.out)
  go_wp2_with fail
  clear e18
  refine (HEQ.out w18 0 0 ha hc HB418.out HS18.out).mono ?_
  rintro e w19 ⟨hb19, rfl⟩
  have hB19 := bt hB18 hb19
  have GB19 : Hid (w19.heap[w7.heap.size]? = some (.cells #[.int .i64 dC, .string dt, .slice ga dch.length gc] 32 (0, 0))) := blk_below GB18.out hb19
  have HM19 : Hid (RowO w19 w6.heap.size w7.heap.size 9 1 (.slice ga dch.length gc) dch.length ys) := HM18.out.below hb19
  clear hb19 hB18 HH18 GB18 HM18 z0 z1 z2 y0 y1 y2
  obtain ⟨z0, z1, z2, _⟩ := bk3 GB19.out
  go_wp2_with fail
  refine (HH.out w19 HM19.out).mono ?_
  rintro e w20 ⟨rfl, hb20⟩
  have hB20 := bt hB19 hb20
  clear hb20 hB19 GB19 HM19 z0 z1 z2
  go_wp2
  go_ret
  exact ⟨rfl, hB20⟩
end Go.Proofs.YtmeojnaoljgieaeGreatDoor
