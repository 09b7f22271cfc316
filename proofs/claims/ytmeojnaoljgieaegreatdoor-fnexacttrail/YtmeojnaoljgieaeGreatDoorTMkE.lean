import Derived.Test.YtmeojnaoljgieaeGreatDoorTMkS
import Derived.Test.YtmeojnaoljgieaeGreatDoorTMkT
namespace Go.Proofs.YtmeojnaoljgieaeGreatDoor
open Go.RowKit
set_option linter.unusedVariables false
set_option maxHeartbeats 8000000
set_option maxRecDepth 100000
theorem row_slice {w : World} {lo hi e sz : Nat} {v : Value} {n : Nat} {ys : List Value} (h : RowO w lo hi e sz v n ys) : ∃ va vc, v = .slice va n vc := by
  rcases qown_cases h.own with ⟨hv, rfl⟩ | ⟨g', c', hv⟩
  · exact ⟨_, _, hv⟩
  · exact ⟨_, _, hv⟩
def MkSp (w : World) (lo hi K : Nat) (v1 v2 : Value) (n1 n2 : Nat) (cl : Nat -> Nat) : Prop := (∃ ys, RowO w lo hi 144 2 v1 n1 ys /\ MkS K n1 ys) /\ ∃ ys cv, RowsT w lo hi v2 n2 cl ys cv /\ MkTm w lo hi (K + 2 * n1) cl cv n2 ys
theorem markSpace_own (lo hi n1 n2 K : Nat) (v1 v2 : Value) (cl : Nat -> Nat) (xs zs : List Value) (cv : Nat -> Value) (w : World) (h1 : RowO w lo hi 144 2 v1 n1 xs) (h2 : RowsT w lo hi v2 n2 cl zs cv) (hB : lo <= w.heap.size) (hn1 : n1 <= 1048576) (hn2 : n2 <= 1048576) (hcl : ∀ i, i < n2 -> cl i <= 1048576) (hK : 1 <= K) (hK2 : kT cl (K + 2 * n1) n2 <= 800000000000000) :
    Calls Tryz.prog 29 #[.agg #[v1, v2], .int .i64 K] w fun e w' => e = .returned (.int .i64 ((kT cl (K + 2 * n1) n2 : Nat) : Int)) /\ Below lo w w' /\ KeepR lo hi w w' /\ MkSp w' lo hi K v1 v2 n1 n2 cl := by
  have hK3 : K + 2 * n1 <= 800000000000000 := Nat.le_trans (kT_le cl (K + 2 * n1) 0 n2 (Nat.zero_le _)) hK2
  obtain ⟨va, vc, rfl⟩ := row_slice h1
  obtain ⟨vb, vd, rfl⟩ := row_slice h2.row
  have hb0 : Below w.heap.size w (w.alloc (.cells #[.slice va n1 vc, .slice vb n2 vd] 26)) := (Below.refl _ _).alloc (Nat.le_refl _) _
  have k1 : (w.alloc (.cells #[.slice va n1 vc, .slice vb n2 vd] 26)).cell? ⟨w.heap.size, 1, none⟩ = some (.slice vb n2 vd) := by simp [go_sem]
  have hw0 : (w.alloc (.cells #[.slice va n1 vc, .slice vb n2 vd] 26)).heap.size = w.heap.size + 1 := by simp
  have HR0 : Hid (RowsT (w.alloc (.cells #[.slice va n1 vc, .slice vb n2 vd] 26)) lo hi (.slice vb n2 vd) n2 cl zs cv) := h2.below hb0
  have h10 := h1.below hb0
  have hne : (Value.slice va n1 vc).ownBlock ≠ some w.heap.size := fun e => by have := (h1.own.lt _ e).2; omega
  have HC : Hid (∀ W : World, RowsT W lo hi (.slice vb n2 vd) n2 cl zs cv -> lo <= W.heap.size -> Calls Tryz.prog 78 #[.slice vb n2 vd, .int .i64 ((K + 2 * n1 : Nat) : Int)] W fun e w' => e = .returned (.int .i64 ((kT cl (K + 2 * n1) n2 : Nat) : Int)) /\ Below lo W w' /\ KeepTs (.slice vb n2 vd) cv n2 W w' /\ ∃ ys, RowsT w' lo hi (.slice vb n2 vd) n2 cl ys cv /\ MkTm w' lo hi (K + 2 * n1) cl cv n2 ys) := fun W h3 h4 => markTargetS_own lo hi n2 (K + 2 * n1) _ cl zs cv W h3 h4 hn2 hcl (by omega) hK2
  clear hK2 h2 h1 hcl
  go_enter Tryz.func29, Tryz.ntmps29
  go_wp2_with fail
  refine (markSourceS_own lo hi n1 K _ xs _ h10 (by omega) hn1 hK (by omega)).mono ?_
  rintro e w1 ⟨rfl, hb1, hk1, ys, hr1, hm1⟩
  have hB1 : Below lo w w1 := (hb0.mono hB).trans hb1
  have hs1 : w.heap.size + 1 <= w1.heap.size := by have := hb1.size; omega
  have c1 : w1.cell? ⟨w.heap.size, 1, none⟩ = some (.slice vb n2 vd) := by
    rw [World.cell?_of_block (hk1 w.heap.size (by omega) (fun e => hne e.symm))]; exact k1
  have HR1 : Hid (RowsT w1 lo hi (.slice vb n2 vd) n2 cl zs cv) := HR0.out.keepO h10.own hk1 (by decide) (by decide)
  have HK1 : Hid (KeepR lo hi w w1) := (KeepR.of_below hb0).trans hb0.size (hk1.keepR fun b e => ⟨(h10.own.lt b e).1, h10.top b e⟩)
  have HS1 : Hid (RowO w1 lo hi 144 2 (.slice va n1 vc) n1 ys) := hr1
  have HM1 : Hid (MkS K n1 ys) := hm1
  clear hb0 hb1 hk1 hr1 hm1 k1 HR0 h10 hne hw0
  go_wp2_with fail
  refine (HC.out w1 HR1.out (by omega)).mono ?_
  rintro e w2 ⟨rfl, hb2, hk2, ys2, hr2, hm2⟩
  have hB2 : Below lo w w2 := hB1.trans hb2
  have HK2 : Hid (KeepR lo hi w w2) := HK1.out.trans (by omega) (hk2.keepR HR1.out)
  have HP : Hid (MkSp w2 lo hi K (.slice va n1 vc) (.slice vb n2 vd) n1 n2 cl) := ⟨⟨ys, HS1.out.same fun b e => hk2 b (HS1.out.own.lt b e).2 (fun e' => neT HR1.out.row.own HS1.out.own (by decide) b e' e) (fun i hi e' => by obtain ⟨zz, hz⟩ := HR1.out.code i hi; exact neT hz.own HS1.out.own (by decide) b e' e), HM1.out⟩, ys2, cv, hr2, hm2⟩
  clear hb2 hk2 hr2 hm2 HR1 HK1 HS1 HM1 HC c1
  go_wp2
  go_ret
  exact ⟨rfl, hB2, HK2.out, HP.out⟩
theorem blkW_lt {w : World} {b : Nat} {o : Obj} (h : w.heap[b]? = some o) : b < w.heap.size := by
  rcases Nat.lt_or_ge b w.heap.size with h' | h'
  · exact h'
  · rw [Array.getElem?_eq_none h'] at h; cases h
theorem heapW_new (w : World) (o : Obj) : (w.alloc o).heap[w.heap.size]? = some o := by unfold World.alloc; simp
theorem SpOk.move {w w' : World} {sa ta sa' ta' : Option Addr} {ss : List S2} {ts : List T2} (h : SpOk w sa ss ta ts) (rs : RowS w' sa' ss) (rt : RowT w' ta' ts) : SpOk w' sa' ss ta' ts := ⟨rs, rt, h.ls, h.lt, h.ns, h.xs, h.nt, h.lc, h.xt⟩
structure Sp (w : World) (b lo hi : Nat) (v1 v2 : Value) (ss : List S2) (ts : List T2) : Prop where
  blk : w.heap[b]? = some (.cells #[v1, v2] 26 (0, 0))
  s : OwnS w lo hi v1 ss
  t : OwnT w lo hi v2 ts
theorem Sp.below {w w' : World} {b lo hi : Nat} {v1 v2 : Value} {ss : List S2} {ts : List T2} (h : Sp w b lo hi v1 v2 ss ts) (hb : Below w.heap.size w w') : Sp w' b lo hi v1 v2 ss ts :=
  ⟨by rw [hb.block _ (blkW_lt h.blk)]; exact h.blk, h.s.below hb, h.t.below hb⟩
theorem Sp.c {w : World} {b lo hi : Nat} {v1 v2 : Value} {ss : List S2} {ts : List T2} (h : Sp w b lo hi v1 v2 ss ts) : w.cell? ⟨b, 0, none⟩ = some v1 /\ w.cell? ⟨b, 1, none⟩ = some v2 :=
  ⟨by rw [Lib.cell_of_heap h.blk]; rfl, by rw [Lib.cell_of_heap h.blk]; rfl⟩
theorem Sp.new {w : World} {lo hi : Nat} {v1 v2 : Value} {ss : List S2} {ts : List T2} (h1 : OwnS w lo hi v1 ss) (h2 : OwnT w lo hi v2 ts) : Sp (w.alloc (.cells #[v1, v2] 26)) w.heap.size lo hi v1 v2 ss ts :=
  ⟨heapW_new _ _, h1.below ((Below.refl _ _).alloc (Nat.le_refl _) _), h2.below ((Below.refl _ _).alloc (Nat.le_refl _) _)⟩
theorem blk_c {w : World} {b T : Nat} {v1 v2 : Value} (h : w.heap[b]? = some (.cells #[v1, v2] T (0, 0))) : w.cell? ⟨b, 0, none⟩ = some v1 /\ w.cell? ⟨b, 1, none⟩ = some v2 :=
  ⟨by rw [Lib.cell_of_heap h]; rfl, by rw [Lib.cell_of_heap h]; rfl⟩
theorem blk_below {w w' : World} {b : Nat} {o : Obj} (h : w.heap[b]? = some o) (hb : Below w.heap.size w w') : w'.heap[b]? = some o := by rw [hb.block _ (blkW_lt h)]; exact h
theorem eqSpace_own {w : World} {lo hi lo' hi' : Nat} {v1 v2 u1 u2 : Value} {ss : List S2} {ts : List T2} (h1 : OwnS w lo hi v1 ss) (h2 : OwnT w lo hi v2 ts) (k1 : OwnS w lo' hi' u1 ss) (k2 : OwnT w lo' hi' u2 ts) (hs : SpSmall ss ts) :
    Calls Tryz.prog 28 #[.agg #[v1, v2], .agg #[u1, u2]] w fun e w' => Below w.heap.size w w' /\ e = .returned (.bool true) := by
  obtain ⟨a1, p1, rfl, r1⟩ := h1.sl
  obtain ⟨a2, p2, rfl, r2⟩ := h2.sl
  obtain ⟨a3, p3, rfl, r3⟩ := k1.sl
  obtain ⟨a4, p4, rfl, r4⟩ := k2.sl
  exact eqSpace_same a1 a2 a3 a4 p1 p2 p3 p4 ss ts w r1 r2 r3 r4 hs
def kQ (ss : List S2) (ts : List T2) : Nat := kT (fun i => (tx ts i).code.length) (1 + 2 * ss.length) ts.length
theorem kQ_le {ss : List S2} {ts : List T2} (h : SpSmall ss ts) : kT (fun i => (tx ts i).code.length) (1 + 2 * ss.length) ts.length <= 800000000000000 := by
  have h1 := kT_bound (fun i => (tx ts i).code.length) (1 + 2 * ss.length) ts.length h.lc
  have h2 := h.ls
  have h3 := h.lt
  have h4 : ts.length * 3145729 <= 1048576 * 3145729 := Nat.mul_le_mul_right _ h3
  omega
def MkL (w : World) (lo hi : Nat) (v1 v2 : Value) (ss : List S2) (ts : List T2) : Prop := MkSp w lo hi 1 v1 v2 ss.length ts.length (fun i => (tx ts i).code.length)
theorem markSpace_sp {w : World} {lo hi : Nat} {v1 v2 : Value} {ss : List S2} {ts : List T2} (h1 : OwnS w lo hi v1 ss) (h2 : OwnT w lo hi v2 ts) (hB : lo <= w.heap.size) (hs : SpSmall ss ts) :
    Calls Tryz.prog 29 #[.agg #[v1, v2], .int .i64 1] w fun e w' => e = .returned (.int .i64 ((kQ ss ts : Nat) : Int)) /\ Below lo w w' /\ KeepR lo hi w w' /\ MkL w' lo hi v1 v2 ss ts := by
  obtain ⟨xs, k1, _⟩ := h1
  obtain ⟨zs, cv, k2⟩ := h2
  exact markSpace_own lo hi ss.length ts.length 1 v1 v2 _ xs zs cv w k1 k2.rows hB hs.ls hs.lt hs.lc (Nat.le_refl _) (kQ_le hs)
section
open Go.Deep
theorem eqResult_same (c : Int) (t : ByteArray) (a a' : Option Addr) (cap cap' : Nat) (ss : List ByteArray) (w : World) (hc : Strs w a ss) (hc' : Strs w a' ss) (hl : ss.length <= 1048576) :
    Calls Tryz.prog 27 #[.agg #[.int .i64 c, .string t, .slice a ss.length cap], .agg #[.int .i64 c, .string t, .slice a' ss.length cap']] w fun e w' => Below w.heap.size w w' /\ e = .returned (.bool true) := by
  go_enter Tryz.func27, Tryz.ntmps27
  go_wp2_with fail
  have hb0 : Below w.heap.size w ((w.alloc (.cells #[.int .i64 c, .string t, .slice a ss.length cap] 32)).alloc (.cells #[.int .i64 c, .string t, .slice a' ss.length cap'] 32)) := ((Below.refl _ _).alloc (Nat.le_refl _) _).alloc (by simp) _
  refine (eqStringS_same a a' cap cap' ss _ (hc.below hb0) (hc'.below hb0) hl).mono ?_
  rintro e w1 ⟨hb1, rfl⟩
  go_wp2
  go_ret
  exact ⟨hb0.trans (hb1.mono hb0.size), rfl⟩
structure Rs (w : World) (b lo hi : Nat) (c : Int) (t : ByteArray) (v : Value) (ch : List ByteArray) : Prop where
  blk : w.heap[b]? = some (.cells #[.int .i64 c, .string t, v] 32 (0, 0))
  row : RowO w lo hi 9 1 v ch.length (strV ch)
theorem Rs.below {w w' : World} {b lo hi : Nat} {c : Int} {t : ByteArray} {v : Value} {ch : List ByteArray} (h : Rs w b lo hi c t v ch) (hb : Below w.heap.size w w') : Rs w' b lo hi c t v ch := ⟨by rw [hb.block _ (blkW_lt h.blk)]; exact h.blk, h.row.below hb⟩
theorem Rs.keep {w w' : World} {b lo hi lo' hi' : Nat} {c : Int} {t : ByteArray} {v : Value} {ch : List ByteArray} (h : Rs w b lo hi c t v ch) (hk : KeepR lo' hi' w w') (hb : b < lo' \/ hi' <= b) (hd : hi <= lo' \/ hi' <= lo) : Rs w' b lo hi c t v ch := ⟨by rw [hk b (blkW_lt h.blk) hb]; exact h.blk, h.row.keep hk hd⟩
theorem row_strs {w : World} {lo hi : Nat} {v : Value} {ch : List ByteArray} (h : RowO w lo hi 9 1 v ch.length (strV ch)) : ∃ a cap, v = .slice a ch.length cap /\ Strs w a ch := by
  rcases h.own.2 with ⟨e, h0⟩ | ⟨g, cap, cur, e, _⟩
  · exact ⟨none, 0, by rw [e, h0], fun i hi => by omega⟩
  · refine ⟨some ⟨g, 0, none⟩, cap, e, fun i hi => ⟨g, 0, rfl, ?_⟩⟩
    have ho := h.own
    rw [e] at ho
    rw [Nat.zero_add, ho.cellAt i (by omega), strV_get ch i hi]; rfl
theorem CleanP.len {ss : List S2} {ts : List T2} {nm : ByteArray} {c : Int} {t : ByteArray} {ch : List ByteArray} (h : CleanP ss ts nm c t ch) : ch.length <= 60 := by
  rcases h with ⟨_, _, _, rfl⟩ | ⟨_, _, ms, a, hd, k⟩
  · simp
  · cases a with
    | ok d => obtain ⟨_, _, rfl⟩ := k; simp
    | circle l => obtain ⟨_, _, rfl⟩ := k; exact (hd.circle_len (by simp) _ rfl).2
    | deep x => obtain ⟨_, _, rfl⟩ := k; simp
end
theorem markSeM_any (B g n cap K : Nat) (xs : List Value) (w : World) (hown : w.ownsRow B 39 3 (.slice (some ⟨g, 0, none⟩) n cap) n xs) (hB : B <= w.heap.size) (hn : n <= 1048576) (h1 : 1 <= K) (h2 : K <= 900000000000000) :
    Calls Tryz.prog 39 #[.slice (some ⟨g, 0, none⟩) n cap, .int .i64 K] w fun e w' => e = .returned (.int .i64 ((K + 3 * n : Nat) : Int)) /\ Below B w w' /\ KeepB g w w' /\ ∃ ys, w'.ownsRow B 39 3 (.slice (some ⟨g, 0, none⟩) n cap) n ys /\ MkG K n ys := by
  have hBg : B <= g := (hown.lt g rfl).1
  go_enter Tryz.func39, Tryz.ntmps39
  go_wp2
  go_loopw [1, 5] (fun k i wr => ∃ (m : Nat) (ys : List Value), m <= n /\ i = .int .i64 m /\ k = .int .i64 ((K + 3 * m : Nat) : Int) /\ Hid (wr.ownsRow B 39 3 (.slice (some ⟨g, 0, none⟩) n cap) n ys) /\ Hid (MkG K m ys) /\ Hid (KeepB g w wr) /\ w.heap.size <= wr.heap.size /\ Below B w wr) (fun _ i _ => n - (intOf i).toNat)
  case atStart => exact ⟨0, xs, Nat.zero_le _, rfl, rfl, hown, (fun i hi => by omega : MkG K 0 xs), (fun b _ _ => rfl : KeepB g w w), Nat.le_refl _, Below.refl _ _⟩
  case round =>
    obtain ⟨m, ys, hm, rfl, rfl, HO, HM, HK, hsz, hbr⟩ := hrel
    clear hown
    by_cases hlt : m < n
    · have hlx : m * 3 + 2 < ys.length := by rw [HO.out.1]; omega
      have HM2 : Hid (MkG K (m + 1) (((ys.set (m * 3) (.string (mt (K + 3 * m)))).set (m * 3 + 1) (.bool (mb (K + 3 * m + 1)))).set (m * 3 + 2) (.string (mt (K + 3 * m + 2))))) := mkG_set HM.out hlx
      have hKb : K + 3 * m + 2 < 1000000000000000 := by omega
      have HT : Hid (∀ W : World, Calls Tryz.prog 95 #[.int .i64 ((K + 3 * m : Nat) : Int)] W fun e w' => Below W.heap.size W w' /\ e = .returned (.string (mt (K + 3 * m)))) := fun W => markText_any (K + 3 * m) W (by omega) (by omega)
      have HU : Hid (∀ W : World, Calls Tryz.prog 95 #[.int .i64 ((K + 3 * m : Nat) + 1 + 1 : Int)] W fun e w' => Below W.heap.size W w' /\ e = .returned (.string (mt (K + 3 * m + 2)))) := fun W => by
        have h := markText_any (K + 3 * m + 2) W (by omega) hKb
        rw [show ((K + 3 * m + 2 : Nat) : Int) = ((K + 3 * m : Nat) : Int) + 1 + 1 by omega] at h
        exact h
      have r1 := rem3 (K + 3 * m)
      generalize mt (K + 3 * m) = t at *
      generalize mt (K + 3 * m + 2) = u at *
      generalize mb (K + 3 * m + 1) = q at *
      obtain ⟨c, ec⟩ : ∃ c, K + 3 * m = c := ⟨_, rfl⟩
      rw [ec] at HT HU hKb r1 ⊢
      have HE : Hid (K + 3 * m = c) := ec
      clear ec
      have hmI : (m : Int) < (n : Int) := by omega
      go_wp2_with fail
      refine (HT.out _).mono ?_
      rintro e w2 ⟨hb2, rfl⟩
      have hown2 := ownsRow_below HO.out hb2
      have hbw : Below B w w2 := hbr.trans (hb2.mono (by omega))
      have hfr2 := hown2.frozenAt
      obtain ⟨o1, d1⟩ := cell_of_length3 hown2 (j := m * 3) (by omega)
      obtain ⟨o2, d2⟩ := cell_of_length3 hown2 (j := m * 3 + 1) (by omega)
      have HO2 : Hid (w2.ownsRow B 39 3 (.slice (some ⟨g, 0, none⟩) n cap) n ys) := hown2
      have HK2 : Hid (KeepB g w w2) := HK.out.below hsz hb2
      have hs2 : w.heap.size <= w2.heap.size := by have := hb2.size; omega
      clear hown2 hb2 hbr HO
      go_wp2_with fail
      refine (HU.out _).mono ?_
      rintro e w3 ⟨hb3, rfl⟩
      have hown3 := ownsRow_below ((HO2.out.stored (m * 3) (.string t)).1.stored (m * 3 + 1) (.bool q)).1 hb3
      have hbw3 : Below B w w3 := ((hbw.setCell (p := ⟨g, m * 3, none⟩) hBg _).setCell (p := ⟨g, m * 3 + 1, none⟩) hBg _).trans (hb3.mono (by simp; omega))
      have HK3 : Hid (KeepB g w w3) := ((HK2.out.set (m * 3) _).set (m * 3 + 1) _).below (by simpa using hs2) hb3
      have hs3 : w.heap.size <= w3.heap.size := by have := hb3.size; simp at this; omega
      have hfr3 := hown3.frozenAt
      obtain ⟨o3, d3⟩ := cell_of_length3 hown3 (j := m * 3 + 2) (by omega)
      have HO3 : Hid (w3.ownsRow B 39 3 (.slice (some ⟨g, 0, none⟩) n cap) n ((ys.set (m * 3) (.string t)).set (m * 3 + 1) (.bool q))) := hown3
      clear hown3 hb3 d1 d2 hbw hfr2 HO2
      go_wp2
      go_roundw
      case rel => exact ⟨m + 1, _, by omega, by go_num, congrArg (Value.int .i64) (by have := HE.out; omega), (HO3.out.stored _ _).1, HM2.out, HK3.out.set _ _, by simpa using hs3, hbw3.setCell (p := ⟨g, m * 3 + 2, none⟩) hBg _⟩
      case measure => simp [intOf]; omega
    · have em : m = n := by omega
      subst em
      go_wp2
      go_ret
      exact ⟨rfl, hbr, HK.out, ys, HO.out, HM.out⟩
theorem heldSeM_any (g n cap K : Nat) (w : World) (hr : RdG K n w g) (hn : n <= 1048576) (h1 : 1 <= K) (h2 : K <= 900000000000000) :
    Calls Tryz.prog 40 #[.slice (some ⟨g, 0, none⟩) n cap, .int .i64 K] w fun e w' => e = .returned (.int .i64 ((K + 3 * n : Nat) : Int)) /\ Below w.heap.size w w' := by
  have HR : Hid (RdG K n w g) := hr
  clear hr
  go_enter Tryz.func40, Tryz.ntmps40
  go_wp2
  go_loopw [1, 5] (fun k i wr => ∃ (m : Nat), m <= n /\ i = .int .i64 m /\ k = .int .i64 ((K + 3 * m : Nat) : Int) /\ Below w.heap.size w wr) (fun _ i _ => n - (intOf i).toNat)
  case atStart => exact ⟨0, Nat.zero_le _, rfl, rfl, Below.refl _ _⟩
  case round =>
    obtain ⟨m, hm, rfl, rfl, hbr⟩ := hrel
    by_cases hlt : m < n
    · obtain ⟨c1, c2, c3⟩ := (HR.out.below hbr) m hlt
      have hKb : K + 3 * m + 2 < 1000000000000000 := by omega
      have HT : Hid (∀ W : World, Calls Tryz.prog 95 #[.int .i64 ((K + 3 * m : Nat) : Int)] W fun e w' => Below W.heap.size W w' /\ e = .returned (.string (mt (K + 3 * m)))) := fun W => markText_any (K + 3 * m) W (by omega) (by omega)
      have HU : Hid (∀ W : World, Calls Tryz.prog 95 #[.int .i64 ((K + 3 * m : Nat) + 1 + 1 : Int)] W fun e w' => Below W.heap.size W w' /\ e = .returned (.string (mt (K + 3 * m + 2)))) := fun W => by
        have h := markText_any (K + 3 * m + 2) W (by omega) hKb
        rw [show ((K + 3 * m + 2 : Nat) : Int) = ((K + 3 * m : Nat) : Int) + 1 + 1 by omega] at h
        exact h
      have r1 := rem3 (K + 3 * m)
      generalize mt (K + 3 * m) = t at *
      generalize mt (K + 3 * m + 2) = u at *
      generalize mb (K + 3 * m + 1) = q at *
      obtain ⟨c, ec⟩ : ∃ c, K + 3 * m = c := ⟨_, rfl⟩
      rw [ec] at HT HU hKb r1 ⊢
      have HE : Hid (K + 3 * m = c) := ec
      clear ec
      have et := str_eq (rfl : t = t)
      have eu := str_eq (rfl : u = u)
      have hmI : (m : Int) < (n : Int) := by omega
      have hm0 : (0 : Int) <= (m : Int) := by omega
      have hbA : Below wr.heap.size wr wr.drew := (Below.refl _ _).drew
      go_wp2_with fail
      go_region_held3 (fun w' => w'.cell? ⟨g, m * 3, none⟩ = some (.string t) /\ w'.cell? ⟨g, m * 3 + 1, none⟩ = some (.bool q) /\ w'.cell? ⟨g, m * 3 + 2, none⟩ = some (.string u))
        (first | assumption | (simp [*]; done) | exact ⟨cell_below hb2 (by simp [*]), cell_below hb2 (by simp [*]), cell_below hb2 (by simp [*])⟩)
        (first | (go_at_call 95; refine (HT.out _).mono ?_; rintro e w2 ⟨hb2, rfl⟩))
      all_goals
        have d2 := cell_below hb2 (cell_below hbA c2)
        have d3 := cell_below hb2 (cell_below hbA c3)
        have hB2 := bt hbr (bt hbA hb2)
        clear c1 c2 c3 hb2 hbA
        have hbC : Below w2.heap.size w2 w2.drew := (Below.refl _ _).drew
        go_wp2_with fail
        go_region_held3 (fun w' => w'.cell? ⟨g, m * 3 + 2, none⟩ = some (.string u))
          (first | assumption | (simp [*]; done) | exact cell_below hb3 (by simp [*]))
          (first | (go_at_call 95; refine (HU.out _).mono ?_; rintro e w3 ⟨hb3, rfl⟩))
        all_goals
          have hB3 := bt hB2 (bt hbC hb3)
          clear d2 d3 hb3 hbC
          go_wp2
          go_roundw
          case rel => exact ⟨m + 1, by omega, by go_num, congrArg (Value.int .i64) (by have := HE.out; omega), hB3⟩
          case measure => simp [intOf]; omega
    · have em : m = n := by omega
      subst em
      go_wp2
      go_ret
      exact ⟨rfl, hbr⟩
theorem markSeM_nil (K : Nat) (w : World) (h2 : K <= 900000000000000) :
    Calls Tryz.prog 39 #[.slice none 0 0, .int .i64 K] w fun e w' => e = .returned (.int .i64 (K : Int)) /\ w = w' := by
  go_enter Tryz.func39, Tryz.ntmps39
  go_wp2
  go_loopw [1, 5] (fun k i wr => i = .int .i64 0 /\ k = .int .i64 (K : Int) /\ w = wr) (fun _ i _ => 0)
  case atStart => exact ⟨rfl, rfl, rfl⟩
  case round =>
    obtain ⟨rfl, rfl, rfl⟩ := hrel
    go_wp2
    go_ret
    exact ⟨rfl, rfl⟩
theorem markSeM_own (B n K : Nat) (v : Value) (xs : List Value) (w : World) (hown : w.ownsRow B 39 3 v n xs) (hB : B <= w.heap.size) (hn : n <= 1048576) (h1 : 1 <= K) (h2 : K <= 900000000000000) :
    Calls Tryz.prog 39 #[v, .int .i64 K] w fun e w' => e = .returned (.int .i64 ((K + 3 * n : Nat) : Int)) /\ Below B w w' /\ KeepO v.ownBlock w w' /\ ∃ ys, w'.ownsRow B 39 3 v n ys /\ MkG K n ys := by
  rcases qown_cases hown with ⟨rfl, rfl⟩ | ⟨g, cap, rfl⟩
  · refine (markSeM_nil K w h2).mono ?_
    rintro e w' ⟨rfl, rfl⟩
    exact ⟨rfl, Below.refl _ _, fun _ _ _ => rfl, xs, hown, fun i hi => by omega⟩
  · refine (markSeM_any B g n cap K xs w hown hB hn h1 h2).mono ?_
    rintro e w' ⟨he, hb, hk, ys, ho, hm⟩
    exact ⟨he, hb, fun b hl hne => hk b hl (fun e => hne (by subst e; rfl)), ys, ho, hm⟩
theorem heldSeM_nil (K : Nat) (w : World) (h2 : K <= 900000000000000) :
    Calls Tryz.prog 40 #[.slice none 0 0, .int .i64 K] w fun e w' => e = .returned (.int .i64 (K : Int)) /\ w = w' := by
  go_enter Tryz.func40, Tryz.ntmps40
  go_wp2
  go_loopw [1, 5] (fun k i wr => i = .int .i64 0 /\ k = .int .i64 (K : Int) /\ w = wr) (fun _ i _ => 0)
  case atStart => exact ⟨rfl, rfl, rfl⟩
  case round =>
    obtain ⟨rfl, rfl, rfl⟩ := hrel
    go_wp2
    go_ret
    exact ⟨rfl, rfl⟩
theorem heldSeM_own (B n K : Nat) (v : Value) (ys : List Value) (w : World) (hown : w.ownsRow B 39 3 v n ys) (hm : MkG K n ys) (hn : n <= 1048576) (h1 : 1 <= K) (h2 : K <= 900000000000000) :
    Calls Tryz.prog 40 #[v, .int .i64 K] w fun e w' => e = .returned (.int .i64 ((K + 3 * n : Nat) : Int)) /\ Below w.heap.size w w' := by
  rcases qown_cases hown with ⟨rfl, rfl⟩ | ⟨g, cap, rfl⟩
  · refine (heldSeM_nil K w h2).mono ?_
    rintro e w' ⟨rfl, rfl⟩
    exact ⟨rfl, Below.refl _ _⟩
  · exact heldSeM_any g n cap K w (MkG.read hown hm) hn h1 h2
end Go.Proofs.YtmeojnaoljgieaeGreatDoor
