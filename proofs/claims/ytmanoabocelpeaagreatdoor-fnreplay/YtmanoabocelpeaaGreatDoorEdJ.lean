import Derived.Test.YtmanoabocelpeaaGreatDoorEdI
namespace Go.Proofs.YtmanoabocelpeaaGreatDoor
open Go.RowKit Go.Deep
set_option linter.unusedVariables false
set_option linter.unusedSimpArgs false
set_option maxRecDepth 100000 in
set_option maxHeartbeats 16000000 in
theorem l3Spoil_any (B R : Nat) (a : Option Addr) (len cap p : Nat) (w : World) {lo0 : Nat} {v1 v2 : Value} {l1 : List S2} {l2 : List TC} (h : Rd B w R a len cap p) (hBw : B <= w.heap.size) (hp : p <= 40000) (hd : Dw w lo0 v1 v2 l1 l2) (hbd : BdS l1 l2) (hn1 : l1.length <= 6) (hn2 : l2.length <= 8) (hc : ∀ x ∈ l2, 0 < x.t.code.length) :
  Calls Tryz.prog 53 #[.pointer (some ⟨R, 0, none⟩), .agg #[v1, v2]] w fun e w' => SpS B R a len cap p 600 w e w' := by
 unfold SpS
 have hRB := h.lt
 have hRw : R < w.heap.size := by omega
 obtain ⟨s1, q1, rfl⟩ := hd.s1
 obtain ⟨s2, q2, rfl⟩ := hd.s2
 obtain ⟨w2, e2⟩ : ∃ y, (w.alloc (.cells #[.slice s1 l1.length q1, .slice s2 l2.length q2] 26)).alloc (.cells #[.slice none 0 0, .slice none 0 0] 26) = y := ⟨_, rfl⟩
 have hb2 : Below w.heap.size w w2 := by rw [<- e2]; exact ((Below.refl _ _).alloc (Nat.le_refl _) _).alloc (by simp) _
 have qQ : w2.heap[w.heap.size + 1]? = some (.cells #[.slice none 0 0, .slice none 0 0] 26 (0, 0)) := by
  have hh := heapW_new (w.alloc (.cells #[.slice s1 l1.length q1, .slice s2 l2.length q2] 26)) (.cells #[.slice none 0 0, .slice none 0 0] 26)
  rw [show (w.alloc (.cells #[.slice s1 l1.length q1, .slice s2 l2.length q2] 26)).heap.size = w.heap.size + 1 from by simp, e2] at hh
  exact hh
 have hws : w.heap.size + 2 = w2.heap.size := by rw [<- e2]; simp
 have HW := hid (l3Without_dw ⟨#[]⟩ (hd.below hb2) hbd)
 have HR2 : Hid (RdK B R a len cap p (0) w w2) := ⟨gb_below (gb_refl w R) hb2, p, by omega, h.below hBw hb2⟩
 have E2 : Hid ((w.alloc (.cells #[.slice s1 l1.length q1, .slice s2 l2.length q2] 26)).alloc (.cells #[.slice none 0 0, .slice none 0 0] 26) = w2) := e2
 have HQ := hid qQ
 have HWS := hid hws
 have HC0 := hid hc
 have hn1o := hn1
 have hn2o := hn2
 clear h hd hbd hb2 e2 qQ hws hc hn1 hn2
 go_enter Tryz.func53, Tryz.ntmps53
 go_wp2_with fail
 rw [E2.out]
 clear E2
 refine HW.out.mono ?_
 rintro e w3 ⟨hb3, u1, u2, m1, m2, rfl, hd, hbd, hm1, hm2, hsub⟩
 clear HW
 have hn1 : m1.length <= 6 := by omega
 have hn2 : m2.length <= 8 := by omega
 have HC : Hid (∀ x ∈ m2, 0 < x.t.code.length) := fun x hx => by obtain ⟨y, hy, ey⟩ := hsub x hx; rw [<- ey]; exact HC0.out y hy
 obtain ⟨a1, p1, rfl⟩ := hd.s1
 obtain ⟨a2, p2, rfl⟩ := hd.s2
 obtain ⟨w4, e4⟩ : ∃ y, w3.alloc (.cells #[.slice a1 m1.length p1, .slice a2 m2.length p2] 26) = y := ⟨_, rfl⟩
 have hb4 : Below w3.heap.size w3 w4 := by rw [<- e4]; exact (Below.refl _ _).alloc (Nat.le_refl _) _
 obtain ⟨P, eP⟩ : ∃ P, w3.heap.size = P := ⟨_, rfl⟩
 have hP2 : w.heap.size + 2 <= P := by have := hb3.size; have := HWS.out; omega
 have q4 : w4.heap[P]? = some (.cells #[.slice a1 m1.length p1, .slice a2 m2.length p2] 26 (0, 0)) := by rw [<- e4, <- eP]; exact heapW_new _ _
 have HS : Hid (Sw w4 P w.heap.size (.slice a1 m1.length p1) (.slice a2 m2.length p2) m1 m2) := ⟨q4, (hd.base (by have := HWS.out; omega)).below hb4, hbd, by omega⟩
 replace HQ := hid (blk_below (blk_below HQ.out hb3) hb4)
 have HR := hid ((HR2.out.below hBw hb3).below hBw hb4)
 have hPw : w.heap.size <= P := by omega
 have hPn : w.heap.size + 1 ≠ P := by omega
 clear hd hbd q4 hb3 hb4 HR2 HWS HC0 hsub hm1 hm2 hn1o hn2o
 go_wp2_with fail
 clear e4 eP
 refine (HR.out.pick (by omega) 8 (by omega) (by omega)).mono ?_
 rintro e w5 ⟨x, rfl, hx, hr1, hg1⟩
 replace HS := hid (HS.out.gb hg1 hRw)
 replace HQ := hid (blk_gb HQ.out hg1 (by omega))
 clear HR
 have HR := hid hr1
 clear hg1 hr1
 rcases (show x = 0 \/ x = 1 \/ x = 2 \/ x = 3 \/ x = 4 \/ x = 5 \/ x = 6 \/ x = 7 from by omega) with rfl | rfl | rfl | rfl | rfl | rfl | rfl | rfl
 ·go_wp2_with fail
  refine Lt.begin 11 (fun w' => w'.heap[P]? = some (.cells #[.slice a1 m1.length p1, .slice a2 m2.length p2] 26 (0, 0))) (by kernel_rfl) ?_
  obtain ⟨wD, eD⟩ : ∃ y, w5.drew = y := ⟨_, rfl⟩
  rw [eD]
  have hbD : Below w5.heap.size w5 wD := by rw [<- eD]; exact (Below.refl _ _).drew
  clear eD
  replace HS := hid (HS.out.below hbD)
  replace HR := hid (HR.out.below hBw hbD)
  replace HQ := hid (blk_below HQ.out hbD)
  have hS0 : (fun w' => w'.heap[P]? = some (.cells #[.slice a1 m1.length p1, .slice a2 m2.length p2] 26 (0, 0))) wD := HS.out.blk
  change K 0 _
  iterate 2
   refine Lt.ti (v := ?_) hS0 ?_ ?_
   rotate_left 1
   ·rintro w hSw; obtain ⟨c0, c1⟩ := blk_c hSw; go_simp; first | done | with_reducible rfl
   simp only [gX]
  refine Lt.ti (i := 3) (v := ?_) hS0 ?_ ?_
  rotate_left 1
  ·rintro w hSw; obtain ⟨c0, c1⟩ := blk_c hSw; go_simp; first | done | with_reducible rfl
  simp only [gX]
  refine Lt.two (i := 2) (j := 4) (by kernel_rfl) rfl rfl (fun K hK => ?_) (fun K hK => ?_)
  ·go_simp
   refine name_alloc (Q := fun x => K _ x) ?_
   intro wX hbX HL
   try dsimp only
   obtain ⟨dl, edl⟩ : ∃ y, wD.heap.size = y := ⟨_, rfl⟩
   have hdl : R < dl := by have := HR.out.size; omega
   rw [edl] at HL ⊢
   clear edl
   replace HS := hid (HS.out.below hbX)
   replace HR := hid (HR.out.below hBw hbX)
   replace HQ := hid (blk_below HQ.out hbX)
   have hS1 : (fun w' => w'.heap[P]? = some (.cells #[.slice a1 m1.length p1, .slice a2 m2.length p2] 26 (0, 0))) wX := HS.out.blk
   refine hK.out _ _ (fun _ => hS1) (fun _ => ?_)
   clear hK K hbX
   try simp only [gX]
   refine Lt.sp (i := 4) (fun K hK => ?_)
   go_simp
   refine (HR.out.pick (by omega) 5 (by omega) (by omega)).mono ?_
   rintro e wA ⟨j, rfl, hj, hrA, hgA⟩
   replace HS := hid (HS.out.gb hgA (by omega))
   replace HR := hid hrA
   replace HQ := hid (blk_gb HQ.out hgA (by omega))
   replace HL := hid (blk_gb HL.out hgA (by omega))
   have hS2 : (fun w' => w'.heap[P]? = some (.cells #[.slice a1 m1.length p1, .slice a2 m2.length p2] 26 (0, 0))) wA := HS.out.blk
   refine hK.out _ _ (fun _ => hS2) (fun _ => ?_)
   clear hK K hgA hrA
   try simp only [gX]
   replace hj : j < 5 := by omega
   have k0 : wA.cell? ⟨dl, 0, none⟩ = some (.string ⟨#[97]⟩) := by rw [Lib.cell_of_heap HL.out]; rfl
   have k1 : wA.cell? ⟨dl, 1, none⟩ = some (.string ⟨#[122, 122]⟩) := by rw [Lib.cell_of_heap HL.out]; rfl
   have k2 : wA.cell? ⟨dl, 2, none⟩ = some (.string ⟨#[]⟩) := by rw [Lib.cell_of_heap HL.out]; rfl
   have k3 : wA.cell? ⟨dl, 3, none⟩ = some (.string ⟨#[120, 32, 121]⟩) := by rw [Lib.cell_of_heap HL.out]; rfl
   have k4 : wA.cell? ⟨dl, 4, none⟩ = some (.string ⟨#[116, 48]⟩) := by rw [Lib.cell_of_heap HL.out]; rfl
   obtain ⟨nm, knm, hnm⟩ : ∃ nm : ByteArray, wA.cell? ⟨dl, j, none⟩ = some (.string nm) /\ nm.size <= 50000 := by rcases (show j = 0 \/ j = 1 \/ j = 2 \/ j = 3 \/ j = 4 from by omega) with rfl | rfl | rfl | rfl | rfl <;> first | exact ⟨_, k0, by decide⟩ | exact ⟨_, k1, by decide⟩ | exact ⟨_, k2, by decide⟩ | exact ⟨_, k3, by decide⟩ | exact ⟨_, k4, by decide⟩
   have hjI : (j : Int) < 5 := by omega
   clear k0 k1 k2 k3 k4
   refine Lt.sp (i := 5) (fun K hK => ?_)
   go_simp
   refine hK.out _ _ (fun _ => hS2) (fun _ => ?_)
   clear hK K
   try simp only [gX]
   refine Lt.sp (i := 6) (fun K hK => ?_)
   go_simp
   refine hK.out _ _ (fun _ => hS2) (fun _ => ?_)
   clear hK K
   try simp only [gX]
   refine Lt.sp (i := 7) (fun K hK => ?_)
   go_simp
   refine hK.out _ _ (fun _ => hS2) (fun _ => ?_)
   clear hK K
   try simp only [gX]
   clear knm
   refine Lt.sp (i := 8) (fun K hK => ?_)
   go_simp
   refine name_alloc (Q := fun x => K _ x) ?_
   intro wG hbwG HG
   try dsimp only
   replace HS := hid (HS.out.below hbwG)
   replace HR := hid (HR.out.below hBw hbwG)
   replace HQ := hid (blk_below HQ.out hbwG)
   replace HL := hid (blk_below HL.out hbwG)
   have hS3 : (fun w' => w'.heap[P]? = some (.cells #[.slice a1 m1.length p1, .slice a2 m2.length p2] 26 (0, 0))) wG := HS.out.blk
   refine hK.out _ _ (fun _ => hS3) (fun _ => ?_)
   clear hK K hbwG
   try simp only [gX]
   refine Lt.sp (i := 9) (fun K hK => ?_)
   refine step_appSr rfl (by rfl) w.heap.size (.slice a1 m1.length p1) _ (srcV m1) (by rfl) HS.out.dw.s wA.heap.size _ _ (by rfl) HG.out HR.out.size (by omega) ?_
   intro g' cap' w7 hown7 hgrow
   have HN := hid (HS.out.putS (s := ⟨_, _⟩) hgrow hown7 (by omega) ⟨hnm, Nat.zero_le _⟩)
   have hrow : ∀ j, Value.ownBlock (.slice a1 m1.length p1) = some j -> w.heap.size <= j := fun j hj => (HS.out.dw.s.lt j hj).1
   have HP7 := hid (HS.out.app hgrow (Or.inl rfl))
   have HR7 := hid ((HR.out.grow hBw hgrow hrow).set (b := P) (j := 0) hBw hPw (.slice (some ⟨g', 0, none⟩) (m1.length + 1) cap'))
   have HQ7 := hid (blk_set (blk_grow HQ.out hgrow (HasT.ne ⟨_, HQ.out⟩ HS.out.dw.s (by decide))) (by omega) (c := P) (j := 0) (.slice (some ⟨g', 0, none⟩) (m1.length + 1) cap'))
   obtain ⟨c0, c1⟩ := blk_c HP7.out
   have fz := fun j => Lib.frozen_of_heap HP7.out j
   have hS7 : (fun w' => w'.heap[P]? = some (.cells #[.slice a1 m1.length p1, .slice a2 m2.length p2] 26 (0, 0))) w7 := HP7.out
   refine hK.out _ _ (fun _ => hS7) (fun _ => ?_)
   clear hK K hgrow hown7 hrow
   simp only [gX]
   refine Lt.ti (i := 10) (v := ?_) hS7 ?_ ?_
   rotate_left 1
   ·rintro w hSw; obtain ⟨c0, c1⟩ := blk_c hSw; go_simp; first | done | with_reducible rfl
   simp only [gX]
   refine Lt.sp (i := 11) (fun K hK => ?_)
   go_simp
   refine hK.out _ _ (fun h => absurd rfl h) (fun _ => ?_)
   clear hK K
   refine Lt.done (by kernel_rfl) ?_ _
   obtain ⟨d0, d1, _⟩ := HN.out.c
   obtain ⟨r0, r1⟩ := blk_c HQ7.out
   have fr := fun j => Lib.frozen_of_heap HQ7.out j
   go_wp2
   refine bodyPost_ret (v := .agg #[(.slice (some ⟨g', 0, none⟩) (m1.length + 1) cap'), .slice a2 m2.length p2]) (by simp [results, Tryz.results53, go_sem, r0, r1]) rfl ?_
   obtain ⟨u1, u2, n1, n2, k1, k2, k3, k4⟩ := spoil_end HN.out HR7.out hBw HQ7.out (by omega) (by omega) (shal_few _ (by first | omega | (simp; omega)))
   first | exact ⟨u1, u2, n1, n2, k1, k2, k3, k4⟩ | exact ⟨u1, u2, k1, n1, n2, k2, k3, k4⟩
  ·go_simp
   refine (HR.out.pick (by omega) 5 (by omega) (by omega)).mono ?_
   rintro e wA ⟨j, rfl, hj, hrA, hgA⟩
   replace HS := hid (HS.out.gb hgA (by omega))
   replace HR := hid hrA
   replace HQ := hid (blk_gb HQ.out hgA (by omega))
   have hS4 : (fun w' => w'.heap[P]? = some (.cells #[.slice a1 m1.length p1, .slice a2 m2.length p2] 26 (0, 0))) wA := HS.out.blk
   refine hK.out _ _ (fun _ => hS4) (fun _ => ?_)
   clear hK K hgA hrA
   try simp only [gX]
   refine Lt.sp (i := 2) (fun K hK => ?_)
   go_simp
   refine name_alloc (Q := fun x => K _ x) ?_
   intro wX hbX HL
   try dsimp only
   obtain ⟨dl, edl⟩ : ∃ y, wA.heap.size = y := ⟨_, rfl⟩
   rw [edl] at HL ⊢
   clear edl
   replace HS := hid (HS.out.below hbX)
   replace HR := hid (HR.out.below hBw hbX)
   replace HQ := hid (blk_below HQ.out hbX)
   have hS5 : (fun w' => w'.heap[P]? = some (.cells #[.slice a1 m1.length p1, .slice a2 m2.length p2] 26 (0, 0))) wX := HS.out.blk
   refine hK.out _ _ (fun _ => hS5) (fun _ => ?_)
   clear hK K hbX
   try simp only [gX]
   replace hj : j < 5 := by omega
   have k0 : wX.cell? ⟨dl, 0, none⟩ = some (.string ⟨#[97]⟩) := by rw [Lib.cell_of_heap HL.out]; rfl
   have k1 : wX.cell? ⟨dl, 1, none⟩ = some (.string ⟨#[122, 122]⟩) := by rw [Lib.cell_of_heap HL.out]; rfl
   have k2 : wX.cell? ⟨dl, 2, none⟩ = some (.string ⟨#[]⟩) := by rw [Lib.cell_of_heap HL.out]; rfl
   have k3 : wX.cell? ⟨dl, 3, none⟩ = some (.string ⟨#[120, 32, 121]⟩) := by rw [Lib.cell_of_heap HL.out]; rfl
   have k4 : wX.cell? ⟨dl, 4, none⟩ = some (.string ⟨#[116, 48]⟩) := by rw [Lib.cell_of_heap HL.out]; rfl
   obtain ⟨nm, knm, hnm⟩ : ∃ nm : ByteArray, wX.cell? ⟨dl, j, none⟩ = some (.string nm) /\ nm.size <= 50000 := by rcases (show j = 0 \/ j = 1 \/ j = 2 \/ j = 3 \/ j = 4 from by omega) with rfl | rfl | rfl | rfl | rfl <;> first | exact ⟨_, k0, by decide⟩ | exact ⟨_, k1, by decide⟩ | exact ⟨_, k2, by decide⟩ | exact ⟨_, k3, by decide⟩ | exact ⟨_, k4, by decide⟩
   have hjI : (j : Int) < 5 := by omega
   clear k0 k1 k2 k3 k4
   refine Lt.sp (i := 5) (fun K hK => ?_)
   go_simp
   refine hK.out _ _ (fun _ => hS5) (fun _ => ?_)
   clear hK K
   try simp only [gX]
   refine Lt.sp (i := 6) (fun K hK => ?_)
   go_simp
   refine hK.out _ _ (fun _ => hS5) (fun _ => ?_)
   clear hK K
   try simp only [gX]
   refine Lt.sp (i := 7) (fun K hK => ?_)
   go_simp
   refine hK.out _ _ (fun _ => hS5) (fun _ => ?_)
   clear hK K
   try simp only [gX]
   clear knm
   refine Lt.sp (i := 8) (fun K hK => ?_)
   go_simp
   refine name_alloc (Q := fun x => K _ x) ?_
   intro wG hbwG HG
   try dsimp only
   replace HS := hid (HS.out.below hbwG)
   replace HR := hid (HR.out.below hBw hbwG)
   replace HQ := hid (blk_below HQ.out hbwG)
   replace HL := hid (blk_below HL.out hbwG)
   have hS6 : (fun w' => w'.heap[P]? = some (.cells #[.slice a1 m1.length p1, .slice a2 m2.length p2] 26 (0, 0))) wG := HS.out.blk
   refine hK.out _ _ (fun _ => hS6) (fun _ => ?_)
   clear hK K hbwG
   try simp only [gX]
   refine Lt.sp (i := 9) (fun K hK => ?_)
   refine step_appSr rfl (by rfl) w.heap.size (.slice a1 m1.length p1) _ (srcV m1) (by rfl) HS.out.dw.s wX.heap.size _ _ (by rfl) HG.out HR.out.size (by omega) ?_
   intro g' cap' w7 hown7 hgrow
   have HN := hid (HS.out.putS (s := ⟨_, _⟩) hgrow hown7 (by omega) ⟨hnm, Nat.zero_le _⟩)
   have hrow : ∀ j, Value.ownBlock (.slice a1 m1.length p1) = some j -> w.heap.size <= j := fun j hj => (HS.out.dw.s.lt j hj).1
   have HP7 := hid (HS.out.app hgrow (Or.inl rfl))
   have HR7 := hid ((HR.out.grow hBw hgrow hrow).set (b := P) (j := 0) hBw hPw (.slice (some ⟨g', 0, none⟩) (m1.length + 1) cap'))
   have HQ7 := hid (blk_set (blk_grow HQ.out hgrow (HasT.ne ⟨_, HQ.out⟩ HS.out.dw.s (by decide))) (by omega) (c := P) (j := 0) (.slice (some ⟨g', 0, none⟩) (m1.length + 1) cap'))
   obtain ⟨c0, c1⟩ := blk_c HP7.out
   have fz := fun j => Lib.frozen_of_heap HP7.out j
   have hS7 : (fun w' => w'.heap[P]? = some (.cells #[.slice a1 m1.length p1, .slice a2 m2.length p2] 26 (0, 0))) w7 := HP7.out
   refine hK.out _ _ (fun _ => hS7) (fun _ => ?_)
   clear hK K hgrow hown7 hrow
   simp only [gX]
   refine Lt.ti (i := 10) (v := ?_) hS7 ?_ ?_
   rotate_left 1
   ·rintro w hSw; obtain ⟨c0, c1⟩ := blk_c hSw; go_simp; first | done | with_reducible rfl
   simp only [gX]
   refine Lt.sp (i := 11) (fun K hK => ?_)
   go_simp
   refine hK.out _ _ (fun h => absurd rfl h) (fun _ => ?_)
   clear hK K
   refine Lt.done (by kernel_rfl) ?_ _
   obtain ⟨d0, d1, _⟩ := HN.out.c
   obtain ⟨r0, r1⟩ := blk_c HQ7.out
   have fr := fun j => Lib.frozen_of_heap HQ7.out j
   go_wp2
   refine bodyPost_ret (v := .agg #[(.slice (some ⟨g', 0, none⟩) (m1.length + 1) cap'), .slice a2 m2.length p2]) (by simp [results, Tryz.results53, go_sem, r0, r1]) rfl ?_
   obtain ⟨u1, u2, n1, n2, k1, k2, k3, k4⟩ := spoil_end HN.out HR7.out hBw HQ7.out (by omega) (by omega) (shal_few _ (by first | omega | (simp; omega)))
   first | exact ⟨u1, u2, n1, n2, k1, k2, k3, k4⟩ | exact ⟨u1, u2, k1, n1, n2, k2, k3, k4⟩
 ·obtain ⟨d0, d1, _⟩ := HS.out.c
  by_cases hl : 1 < m2.length
  ·have hlI : (1 : Int) < (m2.length : Int) := by omega
   have hl0 : 0 < m2.length := by omega
   obtain ⟨g2, cp2, ev, hg2, t0, t1, ft⟩ := HS.out.dw.tc 0 (by omega)
   cases ev
   obtain ⟨_, _, ev3, _, t2, t3, _⟩ := HS.out.dw.tc 1 (by omega)
   cases ev3
   have HO0 := hid (HS.out.dw.c _ (cx_mem (show 0 < m2.length by omega)))
   have HO1 := hid (HS.out.dw.c _ (cx_mem (show 1 < m2.length by omega)))
   have HB0 := hid (HS.out.bd.t _ (cx_mem (show 0 < m2.length by omega)))
   have HB1 := hid (HS.out.bd.t _ (cx_mem (show 1 < m2.length by omega)))
   obtain ⟨y0, ey0⟩ : ∃ y, cx m2 0 = y := ⟨_, rfl⟩
   obtain ⟨y1, ey1⟩ : ∃ y, cx m2 1 = y := ⟨_, rfl⟩
   rw [ey0] at t0 t1 HO0 HB0
   rw [ey1] at t2 t3 HO1 HB1
   clear ey0 ey1
   obtain ⟨f0, f1, ec0, _⟩ := row3_ownD rfl HO0.out
   obtain ⟨f2, f3, ec1, _⟩ := row3_ownD rfl HO1.out
   have E0 := hid ec0
   have E1 := hid ec1
   rw [ec0] at t1
   rw [ec1] at t3
   clear ec0 ec1
   obtain ⟨w6, e6⟩ : ∃ y, w5.alloc (.cells #[.string y0.t.name, .slice f0 y0.t.code.length f1] 63) = y := ⟨_, rfl⟩
   have hb6 : Below w5.heap.size w5 w6 := by rw [<- e6]; exact (Below.refl _ _).alloc (Nat.le_refl _) _
   have HX : Hid (w6.heap[w5.heap.size]? = some (.cells #[.string y0.t.name, .slice f0 y0.t.code.length f1] 63 (0, 0))) := by show _ = _; rw [<- e6]; exact heapW_new _ _
   have hg5 : g2 < w5.heap.size := World.block_lt_of_cell? _ _ t0
   have HT2 := hid (cell_below hb6 t2)
   have HT3 := hid (cell_below hb6 t3)
   go_wp2_with fail
   clear e6 t0 t1 t2 t3 d0 d1
   replace HS := hid (HS.out.below hb6)
   replace HR := hid (HR.out.below hBw hb6)
   replace HQ := hid (blk_below HQ.out hb6)
   replace HO0 := hid (own_bel HO0.out hb6)
   replace HO1 := hid (own_bel HO1.out hb6)
   clear hb6
   refine Lt.begin 7 (fun w' => w'.heap[P]? = some (.cells #[.slice a1 m1.length p1, .slice (some ⟨g2, 0, none⟩) m2.length p2] 26 (0, 0)) /\ w'.cell? ⟨g2, 2, none⟩ = some (.string y1.t.name) /\ w'.cell? ⟨g2, 3, none⟩ = some (.slice f2 y1.t.code.length f3)) (by kernel_rfl) ?_
   obtain ⟨wD, eD⟩ : ∃ y, w6.drew = y := ⟨_, rfl⟩
   rw [eD]
   have hbD : Below w6.heap.size w6 wD := by rw [<- eD]; exact (Below.refl _ _).drew
   clear eD
   replace HS := hid (HS.out.below hbD)
   replace HR := hid (HR.out.below hBw hbD)
   replace HQ := hid (blk_below HQ.out hbD)
   replace HX := hid (blk_below HX.out hbD)
   replace HO0 := hid (own_bel HO0.out hbD)
   replace HO1 := hid (own_bel HO1.out hbD)
   replace HT2 := hid (cell_below hbD HT2.out)
   replace HT3 := hid (cell_below hbD HT3.out)
   have hS0 : (fun w' => w'.heap[P]? = some (.cells #[.slice a1 m1.length p1, .slice (some ⟨g2, 0, none⟩) m2.length p2] 26 (0, 0)) /\ w'.cell? ⟨g2, 2, none⟩ = some (.string y1.t.name) /\ w'.cell? ⟨g2, 3, none⟩ = some (.slice f2 y1.t.code.length f3)) wD := ⟨HS.out.blk, HT2.out, HT3.out⟩
   change K 0 _
   iterate 6
    refine Lt.ti (v := ?_) hS0 ?_ ?_
    rotate_left 1
    ·rintro w ⟨hs1, hs2, hs3⟩; obtain ⟨c0, c1⟩ := blk_c hs1; go_simp; first | done | with_reducible rfl
    simp only [gX]
   refine Lt.sp (i := 6) (fun K hK => ?_)
   go_simp
   refine hK.out _ _ (fun _ => hS0) (fun _ => ?_)
   clear hK K
   try simp only [gX]
   obtain ⟨_, _, ev2, _, t0, t1, ft2⟩ := HS.out.dw.tc 0 (by omega)
   cases ev2
   refine Lt.sp (i := 7) (fun K hK => ?_)
   go_simp
   refine hK.out _ _ (fun h => absurd rfl h) (fun _ => ?_)
   clear hK K
   refine Lt.done (by kernel_rfl) ?_ _
   have HN1 := hid (HS.out.setX 0 (by omega) HO1.out HB1.out)
   rw [E1.out] at HN1
   have hs1 := (HS.out.dw.t.stored 0 (.string y1.t.name)).1
   have hgQ : w.heap.size + 1 ≠ g2 := fun e => HasT.ne (T := 26) ⟨_, HQ.out⟩ HS.out.dw.t (by decide) (by rw [e]; rfl)
   have hgP : P ≠ g2 := fun e => HS.out.noR.2 (by rw [e]; rfl)
   have hgX : w5.heap.size ≠ g2 := by omega
   obtain ⟨wE, eE⟩ : ∃ y, (wD.setCell ⟨g2, 0, none⟩ (.string y1.t.name)).setCell ⟨g2, 1, none⟩ (.slice f2 y1.t.code.length f3) = y := ⟨_, rfl⟩
   have HQ1 : Hid (wE.heap[w.heap.size + 1]? = some (.cells #[.slice none 0 0, .slice none 0 0] 26 (0, 0))) := by show _ = _; rw [<- eE]; exact blk_set (blk_set HQ.out hgQ _) hgQ _
   have HX1 : Hid (wE.heap[w5.heap.size]? = some (.cells #[.string y0.t.name, .slice f0 y0.t.code.length f1] 63 (0, 0))) := by show _ = _; rw [<- eE]; exact blk_set (blk_set HX.out hgX _) hgX _
   have HR1 : Hid (RdK B R a len cap p (0 + 1) w wE) := by show RdK _ _ _ _ _ _ _ _ _; rw [<- eE]; exact (HR.out.set hBw hg2 _).set hBw hg2 _
   have HO01 : Hid (wE.ownsRow w.heap.size 91 3 y0.c y0.t.code.length (insC y0.t.code)) := by show World.ownsRow _ _ _ _ _ _ _; rw [<- eE]; exact own_set2 (own_set2 HO0.out HS.out.dw.t (by decide) _) hs1 (by decide) _
   replace HN1 : Hid (Sw wE P w.heap.size (.slice a1 m1.length p1) (.slice (some ⟨g2, 0, none⟩) m2.length p2) m1 (m2.set 0 y1)) := by show Sw _ _ _ _ _ _ _; rw [<- eE]; exact HN1.out
   rw [eE]
   clear eE HS HQ HR HX HO0 HO1 HT2 HT3 hs1 t0 t1
   obtain ⟨_, _, ev4, _, t2, t3, ft4⟩ := HN1.out.dw.tc 1 (by rw [List.length_set]; omega)
   rw [List.length_set] at ev4
   cases ev4
   obtain ⟨d0, d1, _⟩ := HN1.out.c
   obtain ⟨x0, x1⟩ := blk_c HX1.out
   obtain ⟨r0, r1⟩ := blk_c HQ1.out
   have fr := fun j => Lib.frozen_of_heap HQ1.out j
   have HN2 := hid ((show Sw wE P w.heap.size (.slice a1 m1.length p1) (.slice (some ⟨g2, 0, none⟩) (m2.set 0 y1).length p2) m1 (m2.set 0 y1) by rw [List.length_set]; exact HN1.out).setX 1 (by rw [List.length_set]; omega) HO01.out HB0.out)
   rw [E0.out, List.length_set] at HN2
   have HQ3 := hid (blk_set (blk_set HQ1.out hgQ (j := 2) (.string y0.t.name)) hgQ (j := 3) (.slice f0 y0.t.code.length f1))
   have HR3 := hid ((HR1.out.set (j := 2) hBw hg2 (.string y0.t.name)).set (j := 3) hBw hg2 (.slice f0 y0.t.code.length f1))
   go_wp2
   refine bodyPost_ret (v := .agg #[.slice a1 m1.length p1, .slice (some ⟨g2, 0, none⟩) m2.length p2]) (by simp [results, Tryz.results53, go_sem, r0, r1]) rfl ?_
   obtain ⟨u1, u2, n1, n2, k1, k2, k3, k4⟩ := spoil_end HN2.out HR3.out hBw HQ3.out (by omega) (by omega) (shal_few _ (by first | omega | (simp; omega)))
   first | exact ⟨u1, u2, n1, n2, k1, k2, k3, k4⟩ | exact ⟨u1, u2, k1, n1, n2, k2, k3, k4⟩
  ·have hlI : ¬ (1 : Int) < (m2.length : Int) := by omega
   clear d0 d1
   obtain ⟨d0, d1, _⟩ := HS.out.c
   obtain ⟨r0, r1⟩ := blk_c HQ.out
   have fr := fun j => Lib.frozen_of_heap HQ.out j
   go_wp2
   refine bodyPost_ret (v := .agg #[.slice a1 m1.length p1, .slice a2 m2.length p2]) (by simp [results, Tryz.results53, go_sem, r0, r1]) rfl ?_
   obtain ⟨u1, u2, n1, n2, k1, k2, k3, k4⟩ := spoil_end HS.out HR.out hBw HQ.out (by omega) (by omega) (shal_few _ (by first | omega | (simp; omega)))
   first | exact ⟨u1, u2, n1, n2, k1, k2, k3, k4⟩ | exact ⟨u1, u2, k1, n1, n2, k2, k3, k4⟩
 ·obtain ⟨d0, d1, _⟩ := HS.out.c
  by_cases hl : 0 < m2.length
  ·have hlI : (0 : Int) < (m2.length : Int) := by omega
   have hl0 : 0 < m2.length := by omega
   obtain ⟨g2, cp2, ev, hg2, t0, t1, ft⟩ := HS.out.dw.tc 0 (by omega)
   cases ev
   clear d0 d1 t0 t1
   obtain ⟨d0, d1, _⟩ := HS.out.c
   go_wp2_with fail
   clear d0 d1
   have hco := hid (HS.out.dw.c _ (cx_mem (show 0 < m2.length by omega)))
   obtain ⟨gc, cc, ecc⟩ : ∃ gc cc, (cx m2 0).c = .slice (some ⟨gc, 0, none⟩) (cx m2 0).t.code.length cc := own_some hco.out (fun e => by have h1 := hco.out.2; have h0 := HC.out _ (cx_mem (show 0 < m2.length by omega)); rw [e] at h1; rcases h1 with ⟨_, q⟩ | ⟨g, c, cur, q, _⟩; omega; cases q)
   rw [ecc] at hco
   have HEC := hid ecc
   clear ecc
   refine Lt.begin 11 (fun w' => w'.heap[P]? = some (.cells #[.slice a1 m1.length p1, .slice (some ⟨g2, 0, none⟩) m2.length p2] 26 (0, 0)) /\ w'.ownsRow w.heap.size 63 2 (.slice (some ⟨g2, 0, none⟩) m2.length p2) m2.length (tcV m2)) (by kernel_rfl) ?_
   obtain ⟨wD, eD⟩ : ∃ y, w5.drew = y := ⟨_, rfl⟩
   rw [eD]
   have hbD : Below w5.heap.size w5 wD := by rw [<- eD]; exact (Below.refl _ _).drew
   clear eD
   replace HS := hid (HS.out.below hbD)
   replace HR := hid (HR.out.below hBw hbD)
   replace HQ := hid (blk_below HQ.out hbD)
   replace hco := hid (own_bel hco.out hbD)
   have hS0 : (fun w' => w'.heap[P]? = some (.cells #[.slice a1 m1.length p1, .slice (some ⟨g2, 0, none⟩) m2.length p2] 26 (0, 0)) /\ w'.ownsRow w.heap.size 63 2 (.slice (some ⟨g2, 0, none⟩) m2.length p2) m2.length (tcV m2)) wD := ⟨HS.out.blk, HS.out.dw.t⟩
   change K 0 _
   iterate 8
    refine Lt.ti (v := ?_) hS0 ?_ ?_
    rotate_left 1
    ·rintro w ⟨hs1, hs2⟩; obtain ⟨c0, c1⟩ := blk_c hs1; obtain ⟨c2, c3⟩ := own_row hs2 0 (by omega) rfl; rw [HEC.out] at c3; go_simp; first | done | with_reducible rfl
    simp only [gX]
   refine Lt.sp (i := 8) (fun K hK => ?_)
   go_simp
   obtain ⟨aa, cc2, ee, r3⟩ := row3_ownD rfl hco.out
   cases ee
   obtain ⟨k1, pp, k2, k3⟩ := HR.out
   refine (l2Spoil_any B R a len cap pp gc cc _ wD k3 (Nat.le_trans hBw k1.size) (by omega) r3 (HC.out _ (cx_mem (show 0 < m2.length by omega))) (HS.out.bd.t _ (cx_mem (show 0 < m2.length by omega))).2.1 (HS.out.bd.t _ (cx_mem (show 0 < m2.length by omega))).2.2).mono ?_
   rintro e wA ⟨g', n', c', is', rfl, ho, hL', hk⟩
   have hgA := hk.1
   have hrA := RdK.then k1 k2 hk
   have HO5 := hid (own_base (B' := w.heap.size) ho.row k1.size)
   have HN5 := hid ho.ln
   have HX5 := hid ho.tx
   clear ho hk k1 k2 k3 r3
   replace HS := hid (HS.out.gb hgA (by omega))
   replace HR := hid hrA
   replace HQ := hid (blk_gb HQ.out hgA (by omega))
   replace hco := hid (own_gb hco.out hgA (by omega))
   have hS1 : (fun w' => w'.heap[P]? = some (.cells #[.slice a1 m1.length p1, .slice (some ⟨g2, 0, none⟩) m2.length p2] 26 (0, 0)) /\ w'.ownsRow w.heap.size 63 2 (.slice (some ⟨g2, 0, none⟩) m2.length p2) m2.length (tcV m2)) wA := ⟨HS.out.blk, HS.out.dw.t⟩
   refine hK.out _ _ (fun _ => hS1) (fun _ => ?_)
   clear hK K hgA hrA
   try simp only [gX]
   refine Lt.sp (i := 9) (fun K hK => ?_)
   go_simp
   refine hK.out _ _ (fun _ => hS1) (fun _ => ?_)
   clear hK K
   try simp only [gX]
   refine Lt.sp (i := 10) (fun K hK => ?_)
   go_simp
   refine hK.out _ _ (fun _ => hS1) (fun _ => ?_)
   clear hK K
   try simp only [gX]
   obtain ⟨_, _, ev2, _, t0, t1, ft2⟩ := HS.out.dw.tc 0 (by omega)
   cases ev2
   refine Lt.sp (i := 11) (fun K hK => ?_)
   go_simp
   refine hK.out _ _ (fun h => absurd rfl h) (fun _ => ?_)
   clear hK K
   refine Lt.done (by kernel_rfl) ?_ _
   have hn5 := HN5.out
   subst hn5
   have HN := hid (HS.out.setC 0 (by omega) HO5.out hL' HX5.out)
   have HQ7 := hid (blk_set HQ.out (c := g2) (j := 1) (fun e => HasT.ne (T := 26) ⟨_, HQ.out⟩ HS.out.dw.t (by decide) (by rw [e]; rfl)) (.slice (some ⟨g', 0, none⟩) is'.length c'))
   have HR7 := hid (HR.out.set (b := g2) (j := 1) hBw hg2 (.slice (some ⟨g', 0, none⟩) is'.length c'))
   obtain ⟨d0, d1, _⟩ := HN.out.c
   obtain ⟨r0, r1⟩ := blk_c HQ7.out
   have fr := fun j => Lib.frozen_of_heap HQ7.out j
   go_wp2
   refine bodyPost_ret (v := .agg #[.slice a1 m1.length p1, .slice (some ⟨g2, 0, none⟩) m2.length p2]) (by simp [results, Tryz.results53, go_sem, r0, r1]) rfl ?_
   obtain ⟨u1, u2, n1, n2, k1, k2, k3, k4⟩ := spoil_end HN.out HR7.out hBw HQ7.out (by omega) (by omega) (shal_few _ (by first | omega | (simp; omega)))
   first | exact ⟨u1, u2, n1, n2, k1, k2, k3, k4⟩ | exact ⟨u1, u2, k1, n1, n2, k2, k3, k4⟩
  ·have hlI : ¬ (0 : Int) < (m2.length : Int) := by omega
   clear d0 d1
   obtain ⟨d0, d1, _⟩ := HS.out.c
   obtain ⟨r0, r1⟩ := blk_c HQ.out
   have fr := fun j => Lib.frozen_of_heap HQ.out j
   go_wp2
   refine bodyPost_ret (v := .agg #[.slice a1 m1.length p1, .slice a2 m2.length p2]) (by simp [results, Tryz.results53, go_sem, r0, r1]) rfl ?_
   obtain ⟨u1, u2, n1, n2, k1, k2, k3, k4⟩ := spoil_end HS.out HR.out hBw HQ.out (by omega) (by omega) (shal_few _ (by first | omega | (simp; omega)))
   first | exact ⟨u1, u2, n1, n2, k1, k2, k3, k4⟩ | exact ⟨u1, u2, k1, n1, n2, k2, k3, k4⟩
 ·obtain ⟨d0, d1, _⟩ := HS.out.c
  by_cases hl : 0 < m1.length
  ·have hlI : (0 : Int) < (m1.length : Int) := by omega
   have hl0 : 0 < m1.length := by omega
   obtain ⟨g2, cp2, ev, hg2, t0, t1, ft⟩ := HS.out.dw.sc 0 (by omega)
   cases ev
   go_wp2_with fail
   clear d0 d1 t0 t1
   refine Lt.begin 8 (fun w' => w'.heap[P]? = some (.cells #[.slice (some ⟨g2, 0, none⟩) m1.length p1, .slice a2 m2.length p2] 26 (0, 0))) (by kernel_rfl) ?_
   obtain ⟨wD, eD⟩ : ∃ y, w5.drew = y := ⟨_, rfl⟩
   rw [eD]
   have hbD : Below w5.heap.size w5 wD := by rw [<- eD]; exact (Below.refl _ _).drew
   clear eD
   replace HS := hid (HS.out.below hbD)
   replace HR := hid (HR.out.below hBw hbD)
   replace HQ := hid (blk_below HQ.out hbD)
   have hS0 : (fun w' => w'.heap[P]? = some (.cells #[.slice (some ⟨g2, 0, none⟩) m1.length p1, .slice a2 m2.length p2] 26 (0, 0))) wD := HS.out.blk
   change K 0 _
   iterate 3
    refine Lt.ti (v := ?_) hS0 ?_ ?_
    rotate_left 1
    ·rintro w hSw; obtain ⟨c0, c1⟩ := blk_c hSw; go_simp; first | done | with_reducible rfl
    simp only [gX]
   refine Lt.sp (i := 3) (fun K hK => ?_)
   go_simp
   refine (HR.out.pick (by omega) 2 (by omega) (by omega)).mono ?_
   rintro e wA ⟨j, rfl, hj, hrA, hgA⟩
   replace HS := hid (HS.out.gb hgA (by omega))
   replace HR := hid hrA
   replace HQ := hid (blk_gb HQ.out hgA (by omega))
   have hS1 : (fun w' => w'.heap[P]? = some (.cells #[.slice (some ⟨g2, 0, none⟩) m1.length p1, .slice a2 m2.length p2] 26 (0, 0))) wA := HS.out.blk
   refine hK.out _ _ (fun _ => hS1) (fun _ => ?_)
   clear hK K hgA hrA
   try simp only [gX]
   have hwr : IntKind.i64.wrap (2000 + (j : Int)) = 2000 + (j : Int) := by rw [IntKind.wrap_i64]; omega
   refine Lt.ti (i := 4) (v := ?_) hS1 ?_ ?_
   rotate_left 1
   ·rintro w hSw; obtain ⟨c0, c1⟩ := blk_c hSw; go_simp; first | done | with_reducible rfl
   simp only [gX]
   refine Lt.sp (i := 5) (fun K hK => ?_)
   go_simp
   have hmq := l1Many_any ⟨#[115]⟩ (2000 + j) wA (by decide) (by omega)
   rw [show ((2000 + j : Nat) : Int) = 2000 + (j : Int) from by omega] at hmq
   refine hmq.mono ?_
   rintro e wB ⟨r, rfl, hrs, rfl⟩
   have hrs2 : r.size <= 50000 := by rw [hrs]; show 1 * (2000 + j) <= 50000; omega
   clear hrs hmq
   refine hK.out _ _ (fun _ => hS1) (fun _ => ?_)
   clear hK K
   try simp only [gX]
   refine Lt.sp (i := 6) (fun K hK => ?_)
   go_simp
   refine hK.out _ _ (fun _ => hS1) (fun _ => ?_)
   clear hK K
   try simp only [gX]
   refine Lt.sp (i := 7) (fun K hK => ?_)
   go_simp
   refine hK.out _ _ (fun _ => hS1) (fun _ => ?_)
   clear hK K
   try simp only [gX]
   obtain ⟨_, _, ev2, _, t0, t1, ft2⟩ := HS.out.dw.sc 0 (by omega)
   cases ev2
   refine Lt.sp (i := 8) (fun K hK => ?_)
   go_simp
   refine hK.out _ _ (fun h => absurd rfl h) (fun _ => ?_)
   clear hK K
   refine Lt.done (by kernel_rfl) ?_ _
   have HN := hid (HS.out.setT 0 (by omega) hrs2)
   have HQ7 := hid (blk_set HQ.out (c := g2) (j := 1) (fun e => HasT.ne (T := 26) ⟨_, HQ.out⟩ HS.out.dw.s (by decide) (by rw [e]; rfl)) (.string r))
   have HR7 := hid (HR.out.set (b := g2) (j := 1) hBw hg2 (.string r))
   obtain ⟨d0, d1, _⟩ := HN.out.c
   obtain ⟨r0, r1⟩ := blk_c HQ7.out
   have fr := fun j => Lib.frozen_of_heap HQ7.out j
   go_wp2
   refine bodyPost_ret (v := .agg #[.slice (some ⟨g2, 0, none⟩) m1.length p1, .slice a2 m2.length p2]) (by simp [results, Tryz.results53, go_sem, r0, r1]) rfl ?_
   obtain ⟨u1, u2, n1, n2, k1, k2, k3, k4⟩ := spoil_end HN.out HR7.out hBw HQ7.out (by omega) (by omega) (shal_few _ (by first | omega | (simp; omega)))
   first | exact ⟨u1, u2, n1, n2, k1, k2, k3, k4⟩ | exact ⟨u1, u2, k1, n1, n2, k2, k3, k4⟩
  ·have hlI : ¬ (0 : Int) < (m1.length : Int) := by omega
   clear d0 d1
   obtain ⟨d0, d1, _⟩ := HS.out.c
   obtain ⟨r0, r1⟩ := blk_c HQ.out
   have fr := fun j => Lib.frozen_of_heap HQ.out j
   go_wp2
   refine bodyPost_ret (v := .agg #[.slice a1 m1.length p1, .slice a2 m2.length p2]) (by simp [results, Tryz.results53, go_sem, r0, r1]) rfl ?_
   obtain ⟨u1, u2, n1, n2, k1, k2, k3, k4⟩ := spoil_end HS.out HR.out hBw HQ.out (by omega) (by omega) (shal_few _ (by first | omega | (simp; omega)))
   first | exact ⟨u1, u2, n1, n2, k1, k2, k3, k4⟩ | exact ⟨u1, u2, k1, n1, n2, k2, k3, k4⟩
 ·have HS5 := HS
  have HR5 := HR
  have HQ5 := HQ
  clear HS HR HQ
  go_wp2_with fail
  go_loopw [7] (fun i wr => ∃ (k : Nat) (u2 : Value) (l2 : List TC), k <= 202 /\ i = .int .i64 k /\ Hid (l2.length = m2.length + k) /\ Hid (Sw wr P w.heap.size (.slice a1 m1.length p1) u2 m1 l2) /\ Hid (RdK B R a len cap p (1 + k) w wr) /\ Hid (wr.heap[w.heap.size + 1]? = some (.cells #[.slice none 0 0, .slice none 0 0] 26 (0, 0))) /\ Hid ((l2.filter fun a => askB a.t.code).length <= 8)) (fun i _ => 300 - (intOf i).toNat)
  case atStart => exact ⟨0, _, m2, by omega, rfl, (rfl : m2.length = m2.length + 0), HS5, HR5, HQ5, (Nat.le_trans (List.length_filter_le _ _) hn2 : (m2.filter fun a => askB a.t.code).length <= 8)⟩
  case round =>
   obtain ⟨k, u2, l3, hk, rfl, HL, HS, HR, HQ, HA⟩ := hrel
   clear HS5 HR5 HQ5
   obtain ⟨a3, p3, rfl⟩ := HS.out.dw.s2
   have hm3 := HS.out.bd.n2
   go_wp2_with fail
   refine Lt.begin 99 (fun w' => w'.heap[P]? = some (.cells #[.slice a1 m1.length p1, .slice a3 l3.length p3] 26 (0, 0))) (by kernel_rfl) ?_
   obtain ⟨wD, eD⟩ : ∃ y, wr.drew = y := ⟨_, rfl⟩
   rw [eD]
   have hbD : Below wr.heap.size wr wD := by rw [<- eD]; exact (Below.refl _ _).drew
   clear eD
   replace HS := hid (HS.out.below hbD)
   replace HR := hid (HR.out.below hBw hbD)
   replace HQ := hid (blk_below HQ.out hbD)
   have hS0 : (fun w' => w'.heap[P]? = some (.cells #[.slice a1 m1.length p1, .slice a3 l3.length p3] 26 (0, 0))) wD := HS.out.blk
   have hwr0 : IntKind.i64.wrap ((m1.length : Int) + (l3.length : Int)) = (m1.length : Int) + (l3.length : Int) := by rw [IntKind.wrap_i64]; omega
   change K 0 _
   iterate 8
    refine Lt.ti (v := ?_) hS0 ?_ ?_
    rotate_left 1
    ·rintro w hSw; obtain ⟨c0, c1⟩ := blk_c hSw; go_simp; first | done | with_reducible rfl
    simp only [gX]
   refine Lt.sp (i := 8) (fun K hK => ?_)
   go_simp
   refine (HR.out.pick (by omega) 2 (by omega) (by omega)).mono ?_
   rintro e wA ⟨j, rfl, hj, hrA, hgA⟩
   replace HS := hid (HS.out.gb hgA (by omega))
   replace HR := hid hrA
   replace HQ := hid (blk_gb HQ.out hgA (by omega))
   have hS1 : (fun w' => w'.heap[P]? = some (.cells #[.slice a1 m1.length p1, .slice a3 l3.length p3] 26 (0, 0))) wA := HS.out.blk
   refine hK.out _ _ (fun _ => hS1) (fun _ => ?_)
   clear hK K hgA hrA
   try simp only [gX]
   have hwr : IntKind.i64.wrap (200 + (j : Int)) = 200 + (j : Int) := by rw [IntKind.wrap_i64]; omega
   refine Lt.ti (i := 9) (v := ?_) hS1 ?_ ?_
   rotate_left 1
   ·rintro w hSw; obtain ⟨c0, c1⟩ := blk_c hSw; go_simp; first | done | with_reducible rfl
   simp only [gX]
   refine Lt.sp (i := 10) (fun K hK => ?_)
   go_simp
   refine hK.out _ _ (fun _ => hS1) (fun _ => ?_)
   clear hK K
   try simp only [gX]
   refine Lt.done (by kernel_rfl) ?_ _
   by_cases hlt : (m1.length : Int) + (l3.length : Int) < 200 + (j : Int)
   ·have hkk : k <= 201 := by have := HL.out; omega
    have hl2 : l3.length <= 200 := by omega
    have hltd := decide_eq_true hlt
    go_wp2_with fail
    clear hlt hltd hwr hwr0
    refine Lt.begin 13 (fun w' => w'.heap[P]? = some (.cells #[.slice a1 m1.length p1, .slice a3 l3.length p3] 26 (0, 0))) (by kernel_rfl) ?_
    obtain ⟨wD2, eD⟩ : ∃ y, wA.drew = y := ⟨_, rfl⟩
    rw [eD]
    have hbD : Below wA.heap.size wA wD2 := by rw [<- eD]; exact (Below.refl _ _).drew
    clear eD
    replace HS := hid (HS.out.below hbD)
    replace HR := hid (HR.out.below hBw hbD)
    replace HQ := hid (blk_below HQ.out hbD)
    have hS0 : (fun w' => w'.heap[P]? = some (.cells #[.slice a1 m1.length p1, .slice a3 l3.length p3] 26 (0, 0))) wD2 := HS.out.blk
    change K 0 _
    iterate 3
     refine Lt.ti (v := ?_) hS0 ?_ ?_
     rotate_left 1
     ·rintro w hSw; obtain ⟨c0, c1⟩ := blk_c hSw; go_simp; first | done | with_reducible rfl
     simp only [gX]
    refine Lt.sp (i := 3) (fun K hK => ?_)
    go_simp
    refine (l3Label_any (k : Int) _ (by omega) (by omega)).mono ?_
    rintro e wB ⟨⟨nm, rfl, hnm⟩, hbA⟩
    have hqm : ¬ 9223372036854775807 < 1 + nm.size := by omega
    replace HS := hid (HS.out.below hbA)
    replace HR := hid (HR.out.below hBw hbA)
    replace HQ := hid (blk_below HQ.out hbA)
    have hS1 : (fun w' => w'.heap[P]? = some (.cells #[.slice a1 m1.length p1, .slice a3 l3.length p3] 26 (0, 0))) wB := HS.out.blk
    refine hK.out _ _ (fun _ => hS1) (fun _ => ?_)
    clear hK K hbA
    try simp only [gX]
    refine Lt.ti (i := 4) (v := ?_) hS1 ?_ ?_
    rotate_left 1
    ·rintro w hSw; obtain ⟨c0, c1⟩ := blk_c hSw; go_simp; first | done | with_reducible rfl
    simp only [gX]
    refine Lt.sp (i := 5) (fun K hK => ?_)
    go_simp
    refine (l2Lit_any _ _).mono ?_
    rintro e wC ⟨rfl, hbB⟩
    replace HS := hid (HS.out.below hbB)
    replace HR := hid (HR.out.below hBw hbB)
    replace HQ := hid (blk_below HQ.out hbB)
    have hS2 : (fun w' => w'.heap[P]? = some (.cells #[.slice a1 m1.length p1, .slice a3 l3.length p3] 26 (0, 0))) wC := HS.out.blk
    refine hK.out _ _ (fun _ => hS2) (fun _ => ?_)
    clear hK K hbB
    try simp only [gX]
    refine Lt.sp (i := 6) (fun K hK => ?_)
    go_simp
    refine (l2Op_any _ _).mono ?_
    rintro e wE ⟨rfl, hbE⟩
    replace HS := hid (HS.out.below hbE)
    replace HR := hid (HR.out.below hBw hbE)
    replace HQ := hid (blk_below HQ.out hbE)
    have hS3 : (fun w' => w'.heap[P]? = some (.cells #[.slice a1 m1.length p1, .slice a3 l3.length p3] 26 (0, 0))) wE := HS.out.blk
    refine hK.out _ _ (fun _ => hS3) (fun _ => ?_)
    clear hK K hbE
    try simp only [gX]
    have hsE : w.heap.size <= wE.heap.size := HR.out.size
    refine Lt.sp (i := 7) (fun K hK => ?_)
    go_simp
    refine name_alloc (Q := fun x => K _ x) ?_
    intro wF hbwF HF
    try dsimp only
    replace HS := hid (HS.out.below hbwF)
    replace HR := hid (HR.out.below hBw hbwF)
    replace HQ := hid (blk_below HQ.out hbwF)
    have hS4 : (fun w' => w'.heap[P]? = some (.cells #[.slice a1 m1.length p1, .slice a3 l3.length p3] 26 (0, 0))) wF := HS.out.blk
    refine hK.out _ _ (fun _ => hS4) (fun _ => ?_)
    clear hK K hbwF
    try simp only [gX]
    change K 8 _
    iterate 2
     refine Lt.ti (v := ?_) hS4 ?_ ?_
     rotate_left 1
     ·rintro w hSw; obtain ⟨c0, c1⟩ := blk_c hSw; go_simp; first | done | with_reducible rfl
     simp only [gX]
    refine Lt.sp (i := 10) (fun K hK => ?_)
    go_simp
    refine name_alloc (Q := fun x => K _ x) ?_
    intro wG hbwG HG
    try dsimp only
    replace HS := hid (HS.out.below hbwG)
    replace HR := hid (HR.out.below hBw hbwG)
    replace HQ := hid (blk_below HQ.out hbwG)
    replace HF := hid (blk_below HF.out hbwG)
    have hS5 : (fun w' => w'.heap[P]? = some (.cells #[.slice a1 m1.length p1, .slice a3 l3.length p3] 26 (0, 0))) wG := HS.out.blk
    refine hK.out _ _ (fun _ => hS5) (fun _ => ?_)
    clear hK K hbwG
    try simp only [gX]
    refine Lt.sp (i := 11) (fun K hK => ?_)
    refine step_appT rfl (by rfl) w.heap.size (.slice a3 l3.length p3) _ (tcV l3) (by rfl) HS.out.dw.t wF.heap.size _ _ rfl (by rfl) HG.out HR.out.size (by omega) ?_
    intro g' cap' w7 hown7 hgrow
    have HN := hid (HS.out.putT (s := ⟨_, [⟨1, ⟨#[107]⟩, 0⟩, ⟨15, ⟨#[]⟩, 0⟩]⟩) (own_lit (n := 2) HF.out hsE rfl rfl (by omega)) hgrow hown7 (by omega) ⟨by show (_ ++ _ : ByteArray).size <= 50000; rw [ByteArray.size_append]; show 1 + nm.size <= 50000; omega, by simp, short2 (by show 1 <= 50000; omega) (Nat.zero_le _)⟩)
    have hrow : ∀ j, Value.ownBlock (.slice a3 l3.length p3) = some j -> w.heap.size <= j := fun j hj => (HS.out.dw.t.lt j hj).1
    have HP7 := hid (HS.out.app hgrow (Or.inr rfl))
    have HR7 := hid ((HR.out.grow hBw hgrow hrow).set (b := P) (j := 1) hBw hPw (.slice (some ⟨g', 0, none⟩) (l3.length + 1) cap'))
    have HQ7 := hid (blk_set (blk_grow HQ.out hgrow (HasT.ne ⟨_, HQ.out⟩ HS.out.dw.t (by decide))) (by omega) (c := P) (j := 1) (.slice (some ⟨g', 0, none⟩) (l3.length + 1) cap'))
    obtain ⟨c0, c1⟩ := blk_c HP7.out
    have fz := fun j => Lib.frozen_of_heap HP7.out j
    have hS7 : (fun w' => w'.heap[P]? = some (.cells #[.slice a1 m1.length p1, .slice a3 l3.length p3] 26 (0, 0))) w7 := HP7.out
    refine hK.out _ _ (fun _ => hS7) (fun _ => ?_)
    clear hK K hgrow hown7 hrow
    simp only [gX]
    refine Lt.ti (i := 12) (v := ?_) hS7 ?_ ?_
    rotate_left 1
    ·rintro w hSw; obtain ⟨c0, c1⟩ := blk_c hSw; go_simp; first | done | with_reducible rfl
    simp only [gX]
    refine Lt.sp (i := 13) (fun K hK => ?_)
    go_simp
    refine hK.out _ _ (fun h => absurd rfl h) (fun _ => ?_)
    clear hK K
    refine Lt.done (by kernel_rfl) ?_ _
    go_wp2
    go_roundw
    case rel => exact ⟨k + 1, _, _, by omega, by go_num, hid (by have := HL.out; simp; omega), HN, hid (HR7.out.more (by omega)), HQ7, hid (by rw [ask_skip rfl]; exact HA.out)⟩
    case measure => simp [intOf]; omega
   ·have hltd := decide_eq_false hlt
    obtain ⟨d0, d1, _⟩ := HS.out.c
    obtain ⟨r0, r1⟩ := blk_c HQ.out
    have fr := fun j => Lib.frozen_of_heap HQ.out j
    go_wp2
    refine bodyPost_ret (v := .agg #[.slice a1 m1.length p1, .slice a3 l3.length p3]) (by simp [results, Tryz.results53, go_sem, r0, r1]) rfl ?_
    obtain ⟨u1, u2, n1, n2, k1, k2, k3, k4⟩ := spoil_end HS.out HR.out hBw HQ.out (by omega) (by omega) (shal_cnt (Nat.le_trans HA.out (by omega)))
    first | exact ⟨u1, u2, n1, n2, k1, k2, k3, k4⟩ | exact ⟨u1, u2, k1, n1, n2, k2, k3, k4⟩
 ·go_wp2_with fail
  refine Lt.begin 14 (fun w' => w'.heap[P]? = some (.cells #[.slice a1 m1.length p1, .slice a2 m2.length p2] 26 (0, 0))) (by kernel_rfl) ?_
  obtain ⟨wD, eD⟩ : ∃ y, w5.drew = y := ⟨_, rfl⟩
  rw [eD]
  have hbD : Below w5.heap.size w5 wD := by rw [<- eD]; exact (Below.refl _ _).drew
  clear eD
  replace HS := hid (HS.out.below hbD)
  replace HR := hid (HR.out.below hBw hbD)
  replace HQ := hid (blk_below HQ.out hbD)
  have hS0 : (fun w' => w'.heap[P]? = some (.cells #[.slice a1 m1.length p1, .slice a2 m2.length p2] 26 (0, 0))) wD := HS.out.blk
  change K 0 _
  iterate 3
   refine Lt.ti (v := ?_) hS0 ?_ ?_
   rotate_left 1
   ·rintro w hSw; obtain ⟨c0, c1⟩ := blk_c hSw; go_simp; first | done | with_reducible rfl
   simp only [gX]
  refine Lt.sp (i := 3) (fun K hK => ?_)
  go_simp
  refine (HR.out.pick (by omega) 2 (by omega) (by omega)).mono ?_
  rintro e wA ⟨j, rfl, hj, hrA, hgA⟩
  replace HS := hid (HS.out.gb hgA (by omega))
  replace HR := hid hrA
  replace HQ := hid (blk_gb HQ.out hgA (by omega))
  have hS1 : (fun w' => w'.heap[P]? = some (.cells #[.slice a1 m1.length p1, .slice a2 m2.length p2] 26 (0, 0))) wA := HS.out.blk
  refine hK.out _ _ (fun _ => hS1) (fun _ => ?_)
  clear hK K hgA hrA
  try simp only [gX]
  have hwr : IntKind.i64.wrap (60 + (j : Int)) = 60 + (j : Int) := by rw [IntKind.wrap_i64]; omega
  refine Lt.ti (i := 4) (v := ?_) hS1 ?_ ?_
  rotate_left 1
  ·rintro w hSw; obtain ⟨c0, c1⟩ := blk_c hSw; go_simp; first | done | with_reducible rfl
  simp only [gX]
  refine Lt.sp (i := 5) (fun K hK => ?_)
  go_simp
  have hmq := l1Many_any ⟨#[110]⟩ (60 + j) wA (by decide) (by omega)
  rw [show ((60 + j : Nat) : Int) = 60 + (j : Int) from by omega] at hmq
  refine hmq.mono ?_
  rintro e wB ⟨r, rfl, hrs, rfl⟩
  have hrs2 : r.size <= 50000 := by rw [hrs]; show 1 * (60 + j) <= 50000; omega
  clear hrs hmq
  refine hK.out _ _ (fun _ => hS1) (fun _ => ?_)
  clear hK K
  try simp only [gX]
  refine Lt.sp (i := 6) (fun K hK => ?_)
  go_simp
  refine (l2Lit_any _ _).mono ?_
  rintro e wC ⟨rfl, hbB⟩
  replace HS := hid (HS.out.below hbB)
  replace HR := hid (HR.out.below hBw hbB)
  replace HQ := hid (blk_below HQ.out hbB)
  have hS2 : (fun w' => w'.heap[P]? = some (.cells #[.slice a1 m1.length p1, .slice a2 m2.length p2] 26 (0, 0))) wC := HS.out.blk
  refine hK.out _ _ (fun _ => hS2) (fun _ => ?_)
  clear hK K hbB
  try simp only [gX]
  refine Lt.sp (i := 7) (fun K hK => ?_)
  go_simp
  refine (l2Op_any _ _).mono ?_
  rintro e wE ⟨rfl, hbE⟩
  replace HS := hid (HS.out.below hbE)
  replace HR := hid (HR.out.below hBw hbE)
  replace HQ := hid (blk_below HQ.out hbE)
  have hS3 : (fun w' => w'.heap[P]? = some (.cells #[.slice a1 m1.length p1, .slice a2 m2.length p2] 26 (0, 0))) wE := HS.out.blk
  refine hK.out _ _ (fun _ => hS3) (fun _ => ?_)
  clear hK K hbE
  try simp only [gX]
  have hsE : w.heap.size <= wE.heap.size := HR.out.size
  refine Lt.sp (i := 8) (fun K hK => ?_)
  go_simp
  refine name_alloc (Q := fun x => K _ x) ?_
  intro wF hbwF HF
  try dsimp only
  replace HS := hid (HS.out.below hbwF)
  replace HR := hid (HR.out.below hBw hbwF)
  replace HQ := hid (blk_below HQ.out hbwF)
  have hS4 : (fun w' => w'.heap[P]? = some (.cells #[.slice a1 m1.length p1, .slice a2 m2.length p2] 26 (0, 0))) wF := HS.out.blk
  refine hK.out _ _ (fun _ => hS4) (fun _ => ?_)
  clear hK K hbwF
  try simp only [gX]
  change K 9 _
  iterate 2
   refine Lt.ti (v := ?_) hS4 ?_ ?_
   rotate_left 1
   ·rintro w hSw; obtain ⟨c0, c1⟩ := blk_c hSw; go_simp; first | done | with_reducible rfl
   simp only [gX]
  refine Lt.sp (i := 11) (fun K hK => ?_)
  go_simp
  refine name_alloc (Q := fun x => K _ x) ?_
  intro wG hbwG HG
  try dsimp only
  replace HS := hid (HS.out.below hbwG)
  replace HR := hid (HR.out.below hBw hbwG)
  replace HQ := hid (blk_below HQ.out hbwG)
  replace HF := hid (blk_below HF.out hbwG)
  have hS5 : (fun w' => w'.heap[P]? = some (.cells #[.slice a1 m1.length p1, .slice a2 m2.length p2] 26 (0, 0))) wG := HS.out.blk
  refine hK.out _ _ (fun _ => hS5) (fun _ => ?_)
  clear hK K hbwG
  try simp only [gX]
  refine Lt.sp (i := 12) (fun K hK => ?_)
  refine step_appT rfl (by rfl) w.heap.size (.slice a2 m2.length p2) _ (tcV m2) (by rfl) HS.out.dw.t wF.heap.size _ _ rfl (by rfl) HG.out HR.out.size (by omega) ?_
  intro g' cap' w7 hown7 hgrow
  have HN := hid (HS.out.putT (s := ⟨_, [⟨1, ⟨#[107]⟩, 0⟩, ⟨15, ⟨#[]⟩, 0⟩]⟩) (own_lit (n := 2) HF.out hsE rfl rfl (by omega)) hgrow hown7 (by omega) ⟨hrs2, by simp, short2 (by show 1 <= 50000; omega) (Nat.zero_le _)⟩)
  have hrow : ∀ j, Value.ownBlock (.slice a2 m2.length p2) = some j -> w.heap.size <= j := fun j hj => (HS.out.dw.t.lt j hj).1
  have HP7 := hid (HS.out.app hgrow (Or.inr rfl))
  have HR7 := hid ((HR.out.grow hBw hgrow hrow).set (b := P) (j := 1) hBw hPw (.slice (some ⟨g', 0, none⟩) (m2.length + 1) cap'))
  have HQ7 := hid (blk_set (blk_grow HQ.out hgrow (HasT.ne ⟨_, HQ.out⟩ HS.out.dw.t (by decide))) (by omega) (c := P) (j := 1) (.slice (some ⟨g', 0, none⟩) (m2.length + 1) cap'))
  obtain ⟨c0, c1⟩ := blk_c HP7.out
  have fz := fun j => Lib.frozen_of_heap HP7.out j
  have hS7 : (fun w' => w'.heap[P]? = some (.cells #[.slice a1 m1.length p1, .slice a2 m2.length p2] 26 (0, 0))) w7 := HP7.out
  refine hK.out _ _ (fun _ => hS7) (fun _ => ?_)
  clear hK K hgrow hown7 hrow
  simp only [gX]
  refine Lt.ti (i := 13) (v := ?_) hS7 ?_ ?_
  rotate_left 1
  ·rintro w hSw; obtain ⟨c0, c1⟩ := blk_c hSw; go_simp; first | done | with_reducible rfl
  simp only [gX]
  refine Lt.sp (i := 14) (fun K hK => ?_)
  go_simp
  refine hK.out _ _ (fun h => absurd rfl h) (fun _ => ?_)
  clear hK K
  refine Lt.done (by kernel_rfl) ?_ _
  obtain ⟨d0, d1, _⟩ := HN.out.c
  obtain ⟨r0, r1⟩ := blk_c HQ7.out
  have fr := fun j => Lib.frozen_of_heap HQ7.out j
  go_wp2
  refine bodyPost_ret (v := .agg #[.slice a1 m1.length p1, (.slice (some ⟨g', 0, none⟩) (m2.length + 1) cap')]) (by simp [results, Tryz.results53, go_sem, r0, r1]) rfl ?_
  obtain ⟨u1, u2, n1, n2, k1, k2, k3, k4⟩ := spoil_end HN.out HR7.out hBw HQ7.out (by omega) (by omega) (shal_few _ (by first | omega | (simp; omega)))
  first | exact ⟨u1, u2, n1, n2, k1, k2, k3, k4⟩ | exact ⟨u1, u2, k1, n1, n2, k2, k3, k4⟩
 ·obtain ⟨d0, d1, fd⟩ := HS.out.c
  obtain ⟨i0, hi, hz0, hz1, hz2⟩ := info_parts Tryz.info118b
  obtain ⟨w6, e6⟩ : ∃ y, w5.alloc (.cells #[.string ⟨#[97]⟩, .slice none 0 0] 63) = y := ⟨_, rfl⟩
  have hb6 : Below w5.heap.size w5 w6 := by rw [<- e6]; exact (Below.refl _ _).alloc (Nat.le_refl _) _
  have h6 : w6.heap[w5.heap.size]? = some (.cells #[.string ⟨#[97]⟩, .slice none 0 0] 63 (0, 0)) := by rw [<- e6]; exact heapW_new _ _
  replace HS := hid (HS.out.below hb6)
  replace HR := hid (HR.out.below hBw hb6)
  replace HQ := hid (blk_below HQ.out hb6)
  go_wp2_with (at_builtin; refine wpList_append_own _ rfl _ _ 24 rfl w.heap.size 63 i0 (.agg #[.string ⟨#[]⟩, .slice none 0 0]) 2 40 Tryz.underlying24 hi hz0 hz1 hz2 rfl (by decide) _ m2.length (tcV m2) rfl HS.out.dw.t ⟨w5.heap.size, 0, none⟩ 1 1 [.string ⟨#[97]⟩, .slice none 0 0] rfl rfl (World.news_of_block (cs := #[.string ⟨#[97]⟩, .slice none 0 0]) (t := 63) (fr := (0, 0)) h6) (by intro u' hu; simp at hu; rcases hu with rfl | rfl <;> rfl) (by unfold maxLen; omega) (by omega) HR.out.size ?_; intro v' w7 hown7 hgrow hnil; obtain ⟨g', cap', rfl⟩ := own_some hown7 (fun e => by have := (hnil.1 e).2; omega); have HP7 := hid (HS.out.app hgrow (Or.inr rfl)); obtain ⟨c0, c1⟩ := blk_c HP7.out; have fz := (fun j => Lib.frozen_of_heap HP7.out j); have HN := hid (HS.out.putT (s := ⟨⟨#[97]⟩, []⟩) (World.ownsRow_nil _ _ _ _) hgrow hown7 (by omega) ⟨by decide, by simp, fun x hx => (by cases hx)⟩); have HQ7 := hid (blk_set (blk_grow HQ.out hgrow (HasT.ne ⟨_, HQ.out⟩ HS.out.dw.t (by decide))) hPn (c := P) (j := 1) (.slice (some ⟨g', 0, none⟩) (m2.length + 1) cap')); have HR7 := hid ((HR.out.grow hBw hgrow (fun j hj => (HS.out.dw.t.lt j hj).1)).set (b := P) (j := 1) hBw hPw (.slice (some ⟨g', 0, none⟩) (m2.length + 1) cap')); have HQ6 := hid (blk_grow HQ.out hgrow (HasT.ne ⟨_, HQ.out⟩ HS.out.dw.t (by decide))); obtain ⟨r0, r1⟩ := blk_c HQ6.out; have fr := (fun j => Lib.frozen_of_heap HQ6.out j); clear hgrow hown7 hnil HS HR HQ d0 d1 fd h6 hb6 e6)
  refine bodyPost_ret (v := .agg #[.slice a1 m1.length p1, (.slice (some ⟨g', 0, none⟩) (m2.length + 1) cap')]) (by simp [results, Tryz.results53, go_sem, r0, r1]) rfl ?_
  obtain ⟨u1, u2, n1, n2, k1, k2, k3, k4⟩ := spoil_end HN.out HR7.out hBw HQ7.out (by omega) (by omega) (shal_few _ (by first | omega | (simp; omega)))
  first | exact ⟨u1, u2, n1, n2, k1, k2, k3, k4⟩ | exact ⟨u1, u2, k1, n1, n2, k2, k3, k4⟩
 ·obtain ⟨d0, d1, _⟩ := HS.out.c
  by_cases hl : 1 < m1.length
  ·have hlI : (1 : Int) < (m1.length : Int) := by omega
   have hl0 : 0 < m1.length := by omega
   obtain ⟨g2, cp2, ev, hg2, t0, t1, ft⟩ := HS.out.dw.sc 0 (by omega)
   cases ev
   go_wp2_with fail
   clear d0 d1 t0 t1
   refine Lt.begin 9 (fun w' => w'.heap[P]? = some (.cells #[.slice (some ⟨g2, 0, none⟩) m1.length p1, .slice a2 m2.length p2] 26 (0, 0)) /\ w'.cell? ⟨g2, 0, none⟩ = some (.string (sx m1 0).name)) (by kernel_rfl) ?_
   obtain ⟨wD, eD⟩ : ∃ y, w5.drew = y := ⟨_, rfl⟩
   rw [eD]
   have hbD : Below w5.heap.size w5 wD := by rw [<- eD]; exact (Below.refl _ _).drew
   clear eD
   replace HS := hid (HS.out.below hbD)
   replace HR := hid (HR.out.below hBw hbD)
   replace HQ := hid (blk_below HQ.out hbD)
   have hS0 : (fun w' => w'.heap[P]? = some (.cells #[.slice (some ⟨g2, 0, none⟩) m1.length p1, .slice a2 m2.length p2] 26 (0, 0)) /\ w'.cell? ⟨g2, 0, none⟩ = some (.string (sx m1 0).name)) wD := ⟨HS.out.blk, by obtain ⟨_, _, ev2, _, t0, _⟩ := HS.out.dw.sc 0 (by omega); cases ev2; exact t0⟩
   change K 0 _
   iterate 7
    refine Lt.ti (v := ?_) hS0 ?_ ?_
    rotate_left 1
    ·rintro w ⟨hs1, hs2⟩; obtain ⟨c0, c1⟩ := blk_c hs1; go_simp; first | done | with_reducible rfl
    simp only [gX]
   refine Lt.sp (i := 7) (fun K hK => ?_)
   go_simp
   refine hK.out _ _ (fun _ => hS0) (fun _ => ?_)
   clear hK K
   try simp only [gX]
   refine Lt.sp (i := 8) (fun K hK => ?_)
   go_simp
   refine hK.out _ _ (fun _ => hS0) (fun _ => ?_)
   clear hK K
   try simp only [gX]
   obtain ⟨_, _, ev2, _, t0, t1, ft2⟩ := HS.out.dw.sc 1 (by omega)
   cases ev2
   refine Lt.sp (i := 9) (fun K hK => ?_)
   go_simp
   refine hK.out _ _ (fun h => absurd rfl h) (fun _ => ?_)
   clear hK K
   refine Lt.done (by kernel_rfl) ?_ _
   have HN := hid (HS.out.setN 1 (by omega) (HS.out.bd.s _ (sx_mem (show 0 < m1.length by omega))).1)
   have HQ7 := hid (blk_set HQ.out (c := g2) (j := 2) (fun e => HasT.ne (T := 26) ⟨_, HQ.out⟩ HS.out.dw.s (by decide) (by rw [e]; rfl)) (.string (sx m1 0).name))
   have HR7 := hid (HR.out.set (b := g2) (j := 2) hBw hg2 (.string (sx m1 0).name))
   obtain ⟨d0, d1, _⟩ := HN.out.c
   obtain ⟨r0, r1⟩ := blk_c HQ7.out
   have fr := fun j => Lib.frozen_of_heap HQ7.out j
   go_wp2
   refine bodyPost_ret (v := .agg #[.slice (some ⟨g2, 0, none⟩) m1.length p1, .slice a2 m2.length p2]) (by simp [results, Tryz.results53, go_sem, r0, r1]) rfl ?_
   obtain ⟨u1, u2, n1, n2, k1, k2, k3, k4⟩ := spoil_end HN.out HR7.out hBw HQ7.out (by omega) (by omega) (shal_few _ (by first | omega | (simp; omega)))
   first | exact ⟨u1, u2, n1, n2, k1, k2, k3, k4⟩ | exact ⟨u1, u2, k1, n1, n2, k2, k3, k4⟩
  ·have hlI : ¬ (1 : Int) < (m1.length : Int) := by omega
   clear d0 d1
   obtain ⟨d0, d1, _⟩ := HS.out.c
   obtain ⟨r0, r1⟩ := blk_c HQ.out
   have fr := fun j => Lib.frozen_of_heap HQ.out j
   go_wp2
   refine bodyPost_ret (v := .agg #[.slice a1 m1.length p1, .slice a2 m2.length p2]) (by simp [results, Tryz.results53, go_sem, r0, r1]) rfl ?_
   obtain ⟨u1, u2, n1, n2, k1, k2, k3, k4⟩ := spoil_end HS.out HR.out hBw HQ.out (by omega) (by omega) (shal_few _ (by first | omega | (simp; omega)))
   first | exact ⟨u1, u2, n1, n2, k1, k2, k3, k4⟩ | exact ⟨u1, u2, k1, n1, n2, k2, k3, k4⟩
end Go.Proofs.YtmanoabocelpeaaGreatDoor
