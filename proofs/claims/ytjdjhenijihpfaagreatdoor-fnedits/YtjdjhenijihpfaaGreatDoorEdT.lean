import Derived.Test.YtjdjhenijihpfaaGreatDoorEdS
namespace Go.Proofs.YtjdjhenijihpfaaGreatDoor
open Go.RowKit Go.Deep
set_option linter.unusedVariables false

theorem Bytes.below {w w' : World} {a : Option Addr} {n : Nat} (h : Bytes w a n) (hb : Below w.heap.size w w') : Bytes w' a n := fun i hi => by obtain ⟨b, off, v, h1, h2, h3⟩ := h i hi; exact ⟨b, off, v, h1, cell_below hb h2, h3⟩

set_option maxRecDepth 100000 in
set_option maxHeartbeats 16000000 in
theorem editsLaw (a1 a2 : Option Addr) (n1 k1 n2 k2 : Nat) (w : World) (hT : Tab w) (h1 : Bytes w a1 n1) (h2 : Bytes w a2 n2) (hk1 : n1 ≤ k1) (hk2 : n2 ≤ k2) :
    Calls Tryz.prog 3 #[.slice a1 n1 k1, .slice a2 n2 k2] w fun e w' => e = .returned (.bool true) ∧ Below w.heap.size w w' := by
  by_cases hn1 : 1048576 < n1
  · have d1 : decide ((1048576 : Int) < (n1 : Int)) = true := by simp; omega
    clear hn1 h1 h2 hT hk1 hk2
    go_enter Tryz.func3, Tryz.ntmps3
    go_wp2
    go_ret
    exact ⟨rfl, Below.refl _ _⟩
  by_cases hn2 : 1048576 < n2
  · have d1 : decide ((1048576 : Int) < (n1 : Int)) = false := by simp; omega
    have d2 : decide ((1048576 : Int) < (n2 : Int)) = true := by simp; omega
    clear hn1 hn2 h1 h2 hT hk1 hk2
    go_enter Tryz.func3, Tryz.ntmps3
    go_wp2
    go_ret
    exact ⟨rfl, Below.refl _ _⟩
  have d1 : decide ((1048576 : Int) < (n1 : Int)) = false := by simp; omega
  have d2 : decide ((1048576 : Int) < (n2 : Int)) = false := by simp; omega
  have HD1 := hid0 (drawPS_any w a1 n1 k1 h1 hk1 (by omega))
  have HD2 : Hid (∀ W : World, Below w.heap.size w W → Calls Tryz.prog 5 #[.slice a2 n2 k2] W fun e w' => DrT W e w') := fun W hW => drawPT_any W a2 n2 k2 (h2.below hW) hk2 (by omega)
  have HT := hid0 hT
  clear hn1 hn2 h1 h2 hT hk1 hk2
  go_enter Tryz.func3, Tryz.ntmps3
  go_wp2_with fail
  clear d1 d2
  refine HD1.out.mono ?_
  intro e w1 he
  obtain ⟨hb1, sa, c1, ta, c2, ss, ts, nm, tx, rfl, hs1, hnm, htx⟩ := he.spc
  clear he HD1
  have HS := hid0 hs1
  have HB := hid0 hb1
  clear hb1 hs1
  obtain ⟨P0, eP0⟩ : ∃ P, w1.heap.size = P := ⟨_, rfl⟩
  obtain ⟨w2, ew2⟩ : ∃ y, w1.alloc (.cells #[.slice sa ss.length c1, .slice ta ts.length c2] 26) = y := ⟨_, rfl⟩
  have hb2 : Below w1.heap.size w1 w2 := by rw [← ew2]; exact (Below.refl _ _).alloc (Nat.le_refl _) _
  have HP0 : Hid (w2.heap[P0]? = some (.cells #[.slice sa ss.length c1, .slice ta ts.length c2] 26 (0, 0))) := by show _ = _; rw [← ew2, ← eP0]; exact heapW_new _ _
  replace HS := hid0 (HS.out.below hb2)
  replace HB := hid0 (bt HB.out hb2)
  clear hb2
  go_wp2_with fail
  clear ew2 eP0
  refine (HD2.out w2 HB.out).mono ?_
  intro e w3 he
  obtain ⟨hb3, b1, b2, m1, m2, m3, m4, g, gc, key, is, rfl, hkey, hrow, hil, hix⟩ := he.spc
  clear he HD2
  have hbz : Below w3.heap.size w3 ((w3.alloc (.cells #[.slice b1 m1 m2, .slice b2 m3 m4] 26)).alloc (.cells #[.slice (some ⟨g, 0, none⟩) is.length gc] 31)) := ((Below.refl _ _).alloc (Nat.le_refl _) _).alloc (by simp) _
  replace HP0 := hid0 (blk_below HP0.out hb3)
  replace HS := hid0 (HS.out.below hb3)
  replace HB := hid0 (bt HB.out hb3)
  clear hb3
  obtain ⟨q0, q1⟩ := blk_c HP0.out
  have hP0 := blkW_lt HP0.out
  obtain ⟨w4, ew4⟩ : ∃ y, (w3.alloc (.cells #[.slice b1 m1 m2, .slice b2 m3 m4] 26)).alloc (.cells #[.slice (some ⟨g, 0, none⟩) is.length gc] 31) = y := ⟨_, rfl⟩
  rw [ew4] at hbz
  have HPX : Hid (w4.heap[w3.heap.size + 1]? = some (.cells #[.slice (some ⟨g, 0, none⟩) is.length gc] 31 (0, 0))) := by
    have hx := heapW_new (w3.alloc (.cells #[.slice b1 m1 m2, .slice b2 m3 m4] 26)) (.cells #[.slice (some ⟨g, 0, none⟩) is.length gc] 31)
    rw [show (w3.alloc (.cells #[.slice b1 m1 m2, .slice b2 m3 m4] 26)).heap.size = w3.heap.size + 1 from by simp, ew4] at hx
    exact hx
  have HR3 := hid0 hrow
  replace HP0 := hid0 (blk_below HP0.out hbz)
  replace HS := hid0 (HS.out.below hbz)
  replace HR3 := hid0 (HR3.out.below hbz)
  replace HB := hid0 (bt HB.out hbz)
  have EW4 := hid0 ew4
  clear hbz hrow ew4
  go_wp2_with fail
  rw [EW4.out]
  clear EW4 q0 q1 hP0
  obtain ⟨X, eX⟩ : ∃ X, w3.heap.size + 1 = X := ⟨_, rfl⟩
  rw [eX] at HPX
  try rw [eX]
  obtain ⟨oS, eoS⟩ : ∃ y, psS ss ts nm tx (decide (tx.size ≤ 2000)) = y := ⟨_, rfl⟩
  obtain ⟨oT, eoT⟩ : ∃ y, psT ss ts nm (decide (tx.size ≤ 2000)) = y := ⟨_, rfl⟩
  obtain ⟨oC, eoC⟩ : ∃ y, roomC ss ts nm (decide (tx.size ≤ 2000)) = y := ⟨_, rfl⟩
  have HV : Hid (oC = 0 → chk oS oT = 0 ∧ Easy oS oT nm 0 tx ∧ NameOk nm ∧ tx.size ≤ 2000) := fun hc => by
    have hz : roomC ss ts nm (decide (tx.size ≤ 2000)) = 0 := eoC.trans hc
    have ht2 : tx.size ≤ 2000 := by simpa using (roomC_zero hz).2.1
    obtain ⟨k1, k2, k3⟩ := ps_valid (x := tx) hz ht2
    rw [← eoS, ← eoT]; exact ⟨k1, k2, k3, ht2⟩
  have HN : Hid (oC ≠ 0 → oS = [] ∧ oT = []) := fun hc => by
    have hz : roomC ss ts nm (decide (tx.size ≤ 2000)) ≠ 0 := fun k => hc (eoC.symm.trans k)
    rw [← eoS, ← eoT]; exact ps_no hz
  have HC6 : Hid (∀ W : World, Below w.heap.size w W → Spc W sa ss ta ts → Calls Tryz.prog 6 #[.agg #[.slice sa ss.length c1, .slice ta ts.length c2], .string nm, .string tx] W fun e w' => Two W oS oT oC e w') := fun W hW hs => by rw [← eoS, ← eoT, ← eoC]; exact ps_im hs (HT.out.below hW) hnm htx c1 c2
  have HC7 : Hid (∀ W : World, Spc W sa ss ta ts → Calls Tryz.prog 7 #[.agg #[.slice sa ss.length c1, .slice ta ts.length c2], .string nm, .string tx] W fun e w' => Two W oS oT oC e w') := fun W hs => by rw [← eoS, ← eoT, ← eoC]; exact ps_sp hs hnm htx c1 c2
  clear eoS eoT eoC
  refine (HC6.out w4 HB.out HS.out).mono ?_
  rintro e w5 ⟨hb, a1, p1, b1, q1, rfl, hs⟩
  have HS1 := hid0 hs
  replace HP0 := hid0 (blk_below HP0.out hb)
  replace HS := hid0 (HS.out.below hb)
  replace HR3 := hid0 (HR3.out.below hb)
  replace HB := hid0 (bt HB.out hb)
  replace HPX := hid0 (blk_below HPX.out hb)
  clear hb hs
  obtain ⟨P1, eP1⟩ : ∃ P, w5.heap.size = P := ⟨_, rfl⟩
  obtain ⟨w5x, ew5x⟩ : ∃ y, w5.alloc (.cells #[.slice a1 oS.length p1, .slice b1 oT.length q1] 26) = y := ⟨_, rfl⟩
  have hbw5x : Below w5.heap.size w5 w5x := by rw [← ew5x]; exact (Below.refl _ _).alloc (Nat.le_refl _) _
  have HP1 : Hid (w5x.heap[P1]? = some (.cells #[.slice a1 oS.length p1, .slice b1 oT.length q1] 26 (0, 0))) := by show _ = _; rw [← ew5x, ← eP1]; exact heapW_new _ _
  replace HP0 := hid0 (blk_below HP0.out hbw5x)
  replace HS := hid0 (HS.out.below hbw5x)
  replace HR3 := hid0 (HR3.out.below hbw5x)
  replace HB := hid0 (bt HB.out hbw5x)
  replace HPX := hid0 (blk_below HPX.out hbw5x)
  replace HS1 := hid0 (HS1.out.below hbw5x)
  clear hbw5x
  clear HC6
  obtain ⟨r0, s0⟩ := blk_c HP0.out
  have hP0 := blkW_lt HP0.out
  go_wp2_with fail
  clear r0 s0
  clear hP0 ew5x eP1
  refine (HC7.out w5x HS.out).mono ?_
  rintro e w6 ⟨hb, a2, p2, b2, q2, rfl, hs⟩
  have HS2 := hid0 hs
  replace HP0 := hid0 (blk_below HP0.out hb)
  replace HS := hid0 (HS.out.below hb)
  replace HR3 := hid0 (HR3.out.below hb)
  replace HB := hid0 (bt HB.out hb)
  replace HPX := hid0 (blk_below HPX.out hb)
  replace HS1 := hid0 (HS1.out.below hb)
  replace HP1 := hid0 (blk_below HP1.out hb)
  clear hb hs
  obtain ⟨P2, eP2⟩ : ∃ P, w6.heap.size = P := ⟨_, rfl⟩
  obtain ⟨w6x, ew6x⟩ : ∃ y, w6.alloc (.cells #[.slice a2 oS.length p2, .slice b2 oT.length q2] 26) = y := ⟨_, rfl⟩
  have hbw6x : Below w6.heap.size w6 w6x := by rw [← ew6x]; exact (Below.refl _ _).alloc (Nat.le_refl _) _
  have HP2 : Hid (w6x.heap[P2]? = some (.cells #[.slice a2 oS.length p2, .slice b2 oT.length q2] 26 (0, 0))) := by show _ = _; rw [← ew6x, ← eP2]; exact heapW_new _ _
  replace HP0 := hid0 (blk_below HP0.out hbw6x)
  replace HS := hid0 (HS.out.below hbw6x)
  replace HR3 := hid0 (HR3.out.below hbw6x)
  replace HB := hid0 (bt HB.out hbw6x)
  replace HPX := hid0 (blk_below HPX.out hbw6x)
  replace HS1 := hid0 (HS1.out.below hbw6x)
  replace HP1 := hid0 (blk_below HP1.out hbw6x)
  replace HS2 := hid0 (HS2.out.below hbw6x)
  clear hbw6x
  clear HC7 HS HP0
  have hcc : (oC != oC) = false := by simp
  obtain ⟨r1, s1⟩ := blk_c HP1.out
  obtain ⟨r2, s2⟩ := blk_c HP2.out
  go_wp2_with fail
  clear r1 s1 r2 s2
  clear ew6x eP2
  refine (ws_two HS1.out HS2.out _ _ _ _).mono ?_
  rintro e w7 ⟨rfl, hb⟩
  replace HR3 := hid0 (HR3.out.below hb)
  replace HB := hid0 (bt HB.out hb)
  replace HPX := hid0 (blk_below HPX.out hb)
  replace HS1 := hid0 (HS1.out.below hb)
  replace HP1 := hid0 (blk_below HP1.out hb)
  replace HS2 := hid0 (HS2.out.below hb)
  replace HP2 := hid0 (blk_below HP2.out hb)
  clear hb
  by_cases hc : oC = 0
  rotate_left
  · obtain ⟨e1, e2⟩ := HN.out hc
    have hne : (oC != 0) = true := by simpa using hc
    clear hc hcc HV HN
    subst e1 e2
    obtain ⟨r1, s1⟩ := blk_c HP1.out
    go_wp2_with fail
    clear r1 s1
    refine (ws_two (ss := []) (ts := []) HS1.out ⟨Szd.nil, ⟨Nat.zero_le _, Nat.zero_le _, fun i hi => absurd hi (Nat.not_lt_zero _)⟩, fun i hi => absurd hi (Nat.not_lt_zero _), fun i hi => absurd hi (Nat.not_lt_zero _)⟩ _ _ 0 0).mono ?_
    rintro e w8 ⟨rfl, hb⟩
    replace HB := hid0 (bt HB.out hb)
    clear hb hne
    go_wp2
    go_ret
    exact ⟨rfl, HB.out⟩
  subst hc
  obtain ⟨hch, hea, hno, htx2⟩ := HV.out rfl
  have HCH := hid0 hch
  have HEA := hid0 hea
  have HNO := hid0 hno
  clear HV HN hch hea hno hcc
  obtain ⟨r1, s1⟩ := blk_c HP1.out
  go_wp2_with fail
  clear r1 s1
  have hck := (implCheck_any a1 b1 p1 q1 oS oT w7 (HT.out.below HB.out) HS1.out.ok HS1.out.m)
  rw [HCH.out] at hck
  refine (hck).mono ?_
  rintro e w8 ⟨hb, rfl⟩
  replace HR3 := hid0 (HR3.out.below hb)
  replace HB := hid0 (bt HB.out hb)
  replace HPX := hid0 (blk_below HPX.out hb)
  replace HS1 := hid0 (HS1.out.below hb)
  replace HP1 := hid0 (blk_below HP1.out hb)
  replace HS2 := hid0 (HS2.out.below hb)
  replace HP2 := hid0 (blk_below HP2.out hb)
  clear hb
  clear hck
  obtain ⟨r1, s1⟩ := blk_c HP1.out
  go_wp2_with fail
  clear r1 s1
  refine (clean_easy a1 b1 p1 q1 oS oT nm tx 0 w8 (HT.out.below HB.out) HS1.out.ok HS1.out.m HCH.out HNO.out HEA.out (Or.inl rfl) htx2).mono ?_
  rintro e w9 ⟨hb, rfl⟩
  replace HR3 := hid0 (HR3.out.below hb)
  replace HB := hid0 (bt HB.out hb)
  replace HPX := hid0 (blk_below HPX.out hb)
  replace HS1 := hid0 (HS1.out.below hb)
  replace HP1 := hid0 (blk_below HP1.out hb)
  replace HS2 := hid0 (HS2.out.below hb)
  replace HP2 := hid0 (blk_below HP2.out hb)
  clear hb
  go_wp2_with fail
  refine (wResult_same 0 tx w9).mono ?_
  rintro e w10 ⟨rfl, hb⟩
  replace HR3 := hid0 (HR3.out.below hb)
  replace HB := hid0 (bt HB.out hb)
  replace HPX := hid0 (blk_below HPX.out hb)
  replace HS1 := hid0 (HS1.out.below hb)
  replace HP1 := hid0 (blk_below HP1.out hb)
  replace HS2 := hid0 (HS2.out.below hb)
  replace HP2 := hid0 (blk_below HP2.out hb)
  clear hb
  clear HEA HCH HNO
  obtain ⟨uS, euS⟩ : ∃ y, ptS oS oT key (progOk is) = y := ⟨_, rfl⟩
  obtain ⟨uT, euT⟩ : ∃ y, ptT oS oT key is (progOk is) = y := ⟨_, rfl⟩
  obtain ⟨uC, euC⟩ : ∃ y, roomC oS oT key (progOk is) = y := ⟨_, rfl⟩
  have HV : Hid (uC = 0 → VSp uS uT ∧ NameOk key ∧ Has (tnames uT) key) := fun hc => by rw [← euS, ← euT]; exact pt_valid (euC.trans hc)
  have HC12 : Hid (∀ (W : World) (x y : Option Addr) (k l : Nat), Below w.heap.size w W → Spc W x oS y oT → Row3 W (some ⟨g, 0, none⟩) is → Calls Tryz.prog 12 #[.agg #[.slice x oS.length k, .slice y oT.length l], .string key, .agg #[.slice (some ⟨g, 0, none⟩) is.length gc]] W fun e w' => Two W uS uT uC e w') := fun W x y k l hW hs hr => by rw [← euS, ← euT, ← euC]; exact pt_im hs (HT.out.below hW) hkey hr hil hix k l gc
  have HC13 : Hid (∀ (W : World) (x y : Option Addr) (k l : Nat), Spc W x oS y oT → Row3 W (some ⟨g, 0, none⟩) is → Calls Tryz.prog 13 #[.agg #[.slice x oS.length k, .slice y oT.length l], .string key, .agg #[.slice (some ⟨g, 0, none⟩) is.length gc]] W fun e w' => Two W uS uT uC e w') := fun W x y k l hs hr => by rw [← euS, ← euT, ← euC]; exact pt_sp hs hkey hr hil hix k l gc
  clear euS euT euC
  obtain ⟨r1, s1⟩ := blk_c HP1.out
  have rX := blk_c1 HPX.out
  go_wp2_with fail
  clear r1 s1 rX
  refine (HC12.out w10 a1 b1 p1 q1 HB.out HS1.out HR3.out).mono ?_
  rintro e w11 ⟨hb, a3, p3, b3, q3, rfl, hs⟩
  have HS3 := hid0 hs
  replace HR3 := hid0 (HR3.out.below hb)
  replace HB := hid0 (bt HB.out hb)
  replace HPX := hid0 (blk_below HPX.out hb)
  replace HS1 := hid0 (HS1.out.below hb)
  replace HP1 := hid0 (blk_below HP1.out hb)
  replace HS2 := hid0 (HS2.out.below hb)
  replace HP2 := hid0 (blk_below HP2.out hb)
  clear hb hs
  obtain ⟨P3, eP3⟩ : ∃ P, w11.heap.size = P := ⟨_, rfl⟩
  obtain ⟨w11x, ew11x⟩ : ∃ y, w11.alloc (.cells #[.slice a3 uS.length p3, .slice b3 uT.length q3] 26) = y := ⟨_, rfl⟩
  have hbw11x : Below w11.heap.size w11 w11x := by rw [← ew11x]; exact (Below.refl _ _).alloc (Nat.le_refl _) _
  have HP3 : Hid (w11x.heap[P3]? = some (.cells #[.slice a3 uS.length p3, .slice b3 uT.length q3] 26 (0, 0))) := by show _ = _; rw [← ew11x, ← eP3]; exact heapW_new _ _
  replace HR3 := hid0 (HR3.out.below hbw11x)
  replace HB := hid0 (bt HB.out hbw11x)
  replace HPX := hid0 (blk_below HPX.out hbw11x)
  replace HS1 := hid0 (HS1.out.below hbw11x)
  replace HP1 := hid0 (blk_below HP1.out hbw11x)
  replace HS2 := hid0 (HS2.out.below hbw11x)
  replace HP2 := hid0 (blk_below HP2.out hbw11x)
  replace HS3 := hid0 (HS3.out.below hbw11x)
  clear hbw11x
  clear HC12
  obtain ⟨r2, s2⟩ := blk_c HP2.out
  have rX := blk_c1 HPX.out
  have l2 := blkW_lt HP2.out
  have lX := blkW_lt HPX.out
  go_wp2_with fail
  clear r2 s2 rX
  clear l2 lX ew11x eP3
  refine (HC13.out w11x a2 b2 p2 q2 HS2.out HR3.out).mono ?_
  rintro e w12 ⟨hb, a4, p4, b4, q4, rfl, hs⟩
  have HS4 := hid0 hs
  replace HR3 := hid0 (HR3.out.below hb)
  replace HB := hid0 (bt HB.out hb)
  replace HPX := hid0 (blk_below HPX.out hb)
  replace HS1 := hid0 (HS1.out.below hb)
  replace HP1 := hid0 (blk_below HP1.out hb)
  replace HS2 := hid0 (HS2.out.below hb)
  replace HP2 := hid0 (blk_below HP2.out hb)
  replace HS3 := hid0 (HS3.out.below hb)
  replace HP3 := hid0 (blk_below HP3.out hb)
  clear hb hs
  obtain ⟨P4, eP4⟩ : ∃ P, w12.heap.size = P := ⟨_, rfl⟩
  obtain ⟨w12x, ew12x⟩ : ∃ y, w12.alloc (.cells #[.slice a4 uS.length p4, .slice b4 uT.length q4] 26) = y := ⟨_, rfl⟩
  have hbw12x : Below w12.heap.size w12 w12x := by rw [← ew12x]; exact (Below.refl _ _).alloc (Nat.le_refl _) _
  have HP4 : Hid (w12x.heap[P4]? = some (.cells #[.slice a4 uS.length p4, .slice b4 uT.length q4] 26 (0, 0))) := by show _ = _; rw [← ew12x, ← eP4]; exact heapW_new _ _
  replace HR3 := hid0 (HR3.out.below hbw12x)
  replace HB := hid0 (bt HB.out hbw12x)
  replace HPX := hid0 (blk_below HPX.out hbw12x)
  replace HS1 := hid0 (HS1.out.below hbw12x)
  replace HP1 := hid0 (blk_below HP1.out hbw12x)
  replace HS2 := hid0 (HS2.out.below hbw12x)
  replace HP2 := hid0 (blk_below HP2.out hbw12x)
  replace HS3 := hid0 (HS3.out.below hbw12x)
  replace HP3 := hid0 (blk_below HP3.out hbw12x)
  replace HS4 := hid0 (HS4.out.below hbw12x)
  clear hbw12x
  clear HC13 HR3 HPX
  have hcc : (uC != uC) = false := by simp
  obtain ⟨r3, s3⟩ := blk_c HP3.out
  obtain ⟨r4, s4⟩ := blk_c HP4.out
  have l3 := blkW_lt HP3.out
  go_wp2_with fail
  clear r3 s3 r4 s4
  clear l3 ew12x eP4
  refine (ws_two HS3.out HS4.out _ _ _ _).mono ?_
  rintro e w13 ⟨rfl, hb⟩
  replace HB := hid0 (bt HB.out hb)
  replace HS1 := hid0 (HS1.out.below hb)
  replace HP1 := hid0 (blk_below HP1.out hb)
  replace HS2 := hid0 (HS2.out.below hb)
  replace HP2 := hid0 (blk_below HP2.out hb)
  replace HS3 := hid0 (HS3.out.below hb)
  replace HP3 := hid0 (blk_below HP3.out hb)
  replace HS4 := hid0 (HS4.out.below hb)
  replace HP4 := hid0 (blk_below HP4.out hb)
  clear hb
  obtain ⟨r1, s1⟩ := blk_c HP1.out
  obtain ⟨r2, s2⟩ := blk_c HP2.out
  go_wp2_with fail
  clear r1 s1 r2 s2
  refine (ws_two HS1.out HS2.out _ _ _ _).mono ?_
  rintro e w14 ⟨rfl, hb⟩
  replace HB := hid0 (bt HB.out hb)
  replace HS1 := hid0 (HS1.out.below hb)
  replace HP1 := hid0 (blk_below HP1.out hb)
  replace HS2 := hid0 (HS2.out.below hb)
  replace HP2 := hid0 (blk_below HP2.out hb)
  replace HS3 := hid0 (HS3.out.below hb)
  replace HP3 := hid0 (blk_below HP3.out hb)
  replace HS4 := hid0 (HS4.out.below hb)
  replace HP4 := hid0 (blk_below HP4.out hb)
  clear hb
  clear HS1 HS2 HP1 HP2
  by_cases hc : uC = 0
  rotate_left
  · have hne : (uC != 0) = true := by simpa using hc
    clear hc hcc HV
    go_wp2
    go_ret
    exact ⟨rfl, HB.out⟩
  subst hc
  clear hcc
  obtain ⟨hv, hno, hha⟩ := HV.out rfl
  have HV2 := hid0 (drop_valid hv hno hha)
  have HNO := hid0 hno
  clear HV hv hno hha
  obtain ⟨zS, ezS⟩ : ∃ y, dropS uS uT key = y := ⟨_, rfl⟩
  obtain ⟨zT, ezT⟩ : ∃ y, dropT uS uT key = y := ⟨_, rfl⟩
  obtain ⟨zC, ezC⟩ : ∃ y, dropC uS uT key = y := ⟨_, rfl⟩
  have HC14 : Hid (∀ (W : World) (x y : Option Addr) (k l : Nat), Below w.heap.size w W → Spc W x uS y uT → Calls Tryz.prog 14 #[.agg #[.slice x uS.length k, .slice y uT.length l], .string key] W fun e w' => Two W zS zT zC e w') := fun W x y k l hW hs => by rw [← ezS, ← ezT, ← ezC]; exact dr_im hs (HT.out.below hW) hkey k l
  have HC15 : Hid (∀ (W : World) (x y : Option Addr) (k l : Nat), Spc W x uS y uT → Calls Tryz.prog 15 #[.agg #[.slice x uS.length k, .slice y uT.length l], .string key] W fun e w' => Two W zS zT zC e w') := fun W x y k l hs => by rw [← ezS, ← ezT, ← ezC]; exact dr_sp hs hkey k l
  rw [ezS, ezT] at HV2
  clear ezS ezT ezC
  obtain ⟨r3, s3⟩ := blk_c HP3.out
  go_wp2_with fail
  clear r3 s3
  refine (HC14.out w14 a3 b3 p3 q3 HB.out HS3.out).mono ?_
  rintro e w15 ⟨hb, a5, p5, b5, q5, rfl, hs⟩
  have HS5 := hid0 hs
  replace HB := hid0 (bt HB.out hb)
  replace HS3 := hid0 (HS3.out.below hb)
  replace HP3 := hid0 (blk_below HP3.out hb)
  replace HS4 := hid0 (HS4.out.below hb)
  replace HP4 := hid0 (blk_below HP4.out hb)
  clear hb hs
  obtain ⟨P5, eP5⟩ : ∃ P, w15.heap.size = P := ⟨_, rfl⟩
  obtain ⟨w15x, ew15x⟩ : ∃ y, w15.alloc (.cells #[.slice a5 zS.length p5, .slice b5 zT.length q5] 26) = y := ⟨_, rfl⟩
  have hbw15x : Below w15.heap.size w15 w15x := by rw [← ew15x]; exact (Below.refl _ _).alloc (Nat.le_refl _) _
  have HP5 : Hid (w15x.heap[P5]? = some (.cells #[.slice a5 zS.length p5, .slice b5 zT.length q5] 26 (0, 0))) := by show _ = _; rw [← ew15x, ← eP5]; exact heapW_new _ _
  replace HB := hid0 (bt HB.out hbw15x)
  replace HS3 := hid0 (HS3.out.below hbw15x)
  replace HP3 := hid0 (blk_below HP3.out hbw15x)
  replace HS4 := hid0 (HS4.out.below hbw15x)
  replace HP4 := hid0 (blk_below HP4.out hbw15x)
  replace HS5 := hid0 (HS5.out.below hbw15x)
  clear hbw15x
  clear HC14
  obtain ⟨r4, s4⟩ := blk_c HP4.out
  have l4 := blkW_lt HP4.out
  go_wp2_with fail
  clear r4 s4
  clear l4 ew15x eP5
  refine (HC15.out w15x a4 b4 p4 q4 HS4.out).mono ?_
  rintro e w16 ⟨hb, a6, p6, b6, q6, rfl, hs⟩
  have HS6 := hid0 hs
  replace HB := hid0 (bt HB.out hb)
  replace HS3 := hid0 (HS3.out.below hb)
  replace HP3 := hid0 (blk_below HP3.out hb)
  replace HS4 := hid0 (HS4.out.below hb)
  replace HP4 := hid0 (blk_below HP4.out hb)
  replace HS5 := hid0 (HS5.out.below hb)
  replace HP5 := hid0 (blk_below HP5.out hb)
  clear hb hs
  obtain ⟨P6, eP6⟩ : ∃ P, w16.heap.size = P := ⟨_, rfl⟩
  obtain ⟨w16x, ew16x⟩ : ∃ y, w16.alloc (.cells #[.slice a6 zS.length p6, .slice b6 zT.length q6] 26) = y := ⟨_, rfl⟩
  have hbw16x : Below w16.heap.size w16 w16x := by rw [← ew16x]; exact (Below.refl _ _).alloc (Nat.le_refl _) _
  have HP6 : Hid (w16x.heap[P6]? = some (.cells #[.slice a6 zS.length p6, .slice b6 zT.length q6] 26 (0, 0))) := by show _ = _; rw [← ew16x, ← eP6]; exact heapW_new _ _
  replace HB := hid0 (bt HB.out hbw16x)
  replace HS3 := hid0 (HS3.out.below hbw16x)
  replace HP3 := hid0 (blk_below HP3.out hbw16x)
  replace HS4 := hid0 (HS4.out.below hbw16x)
  replace HP4 := hid0 (blk_below HP4.out hbw16x)
  replace HS5 := hid0 (HS5.out.below hbw16x)
  replace HP5 := hid0 (blk_below HP5.out hbw16x)
  replace HS6 := hid0 (HS6.out.below hbw16x)
  clear hbw16x
  clear HC15
  have hcc : (zC == zC) = true := by simp
  obtain ⟨r5, s5⟩ := blk_c HP5.out
  obtain ⟨r6, s6⟩ := blk_c HP6.out
  have l5 := blkW_lt HP5.out
  go_wp2_with fail
  clear r5 s5 r6 s6
  clear l5 ew16x eP6
  refine (ws_two HS5.out HS6.out _ _ _ _).mono ?_
  rintro e w17 ⟨rfl, hb⟩
  replace HB := hid0 (bt HB.out hb)
  replace HS3 := hid0 (HS3.out.below hb)
  replace HP3 := hid0 (blk_below HP3.out hb)
  replace HS4 := hid0 (HS4.out.below hb)
  replace HP4 := hid0 (blk_below HP4.out hb)
  replace HS5 := hid0 (HS5.out.below hb)
  replace HP5 := hid0 (blk_below HP5.out hb)
  replace HS6 := hid0 (HS6.out.below hb)
  replace HP6 := hid0 (blk_below HP6.out hb)
  clear hb
  obtain ⟨r3, s3⟩ := blk_c HP3.out
  obtain ⟨r4, s4⟩ := blk_c HP4.out
  go_wp2_with fail
  clear r3 s3 r4 s4
  refine (ws_two HS3.out HS4.out _ _ _ _).mono ?_
  rintro e w18 ⟨rfl, hb⟩
  replace HB := hid0 (bt HB.out hb)
  replace HS3 := hid0 (HS3.out.below hb)
  replace HP3 := hid0 (blk_below HP3.out hb)
  replace HS4 := hid0 (HS4.out.below hb)
  replace HP4 := hid0 (blk_below HP4.out hb)
  replace HS5 := hid0 (HS5.out.below hb)
  replace HP5 := hid0 (blk_below HP5.out hb)
  replace HS6 := hid0 (HS6.out.below hb)
  replace HP6 := hid0 (blk_below HP6.out hb)
  clear hb
  obtain ⟨r5, s5⟩ := blk_c HP5.out
  go_wp2_with fail
  clear r5 s5
  have hks : key.size ≤ 2000 := by have := HNO.out.2.1; omega
  refine (clean_easy a5 b5 p5 q5 zS zT key key 4 w18 (HT.out.below HB.out) HS5.out.ok HS5.out.m HV2.out.1 HNO.out HV2.out.2 (Or.inr rfl) hks).mono ?_
  rintro e w19 ⟨hb, rfl⟩
  replace HB := hid0 (bt HB.out hb)
  replace HS3 := hid0 (HS3.out.below hb)
  replace HP3 := hid0 (blk_below HP3.out hb)
  replace HS4 := hid0 (HS4.out.below hb)
  replace HP4 := hid0 (blk_below HP4.out hb)
  replace HS5 := hid0 (HS5.out.below hb)
  replace HP5 := hid0 (blk_below HP5.out hb)
  replace HS6 := hid0 (HS6.out.below hb)
  replace HP6 := hid0 (blk_below HP6.out hb)
  clear hb
  have hfd : ∀ (v0 v1 v2 : Value) (w : World), (Instr.field 41 (.agg #[v0, v1, v2]) 0).run Tryz.prog w = .ok v0 w := fun _ _ _ _ => by kernel_rfl
  go_wp2
  go_ret
  exact ⟨rfl, HB.out⟩
end Go.Proofs.YtjdjhenijihpfaaGreatDoor
