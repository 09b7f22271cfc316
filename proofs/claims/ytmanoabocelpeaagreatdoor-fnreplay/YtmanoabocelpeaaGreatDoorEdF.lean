import Derived.Test.YtmanoabocelpeaaGreatDoorEdC
namespace Go.Proofs.YtmanoabocelpeaaGreatDoor
open Go.RowKit Go.Deep
set_option linter.unusedVariables false
set_option linter.unusedSimpArgs false
set_option maxRecDepth 100000 in
set_option maxHeartbeats 16000000 in
theorem l3Draw_any (B R : Nat) (a : Option Addr) (len cap p : Nat) (w : World) (h : Rd B w R a len cap p) (hBw : B <= w.heap.size) (hp : p <= 20000) :
  Calls Tryz.prog 52 #[.pointer (some ⟨R, 0, none⟩)] w fun e w' => ∃ v1 v2 l1 l2, e = .returned (.agg #[v1, v2]) /\ Dw w' w.heap.size v1 v2 l1 l2 /\ BdS l1 l2 /\ RdK B R a len cap p 11000 w w' /\ l1.length <= 6 /\ l2.length <= 8 /\ ∀ x ∈ l2, 0 < x.t.code.length := by
 have hRB := h.lt
 have hRw : R < w.heap.size := by omega
 obtain ⟨w2, e2⟩ : ∃ y, (w.alloc (.cells #[.slice none 0 0, .slice none 0 0] 26)).alloc (.cells #[.slice none 0 0, .slice none 0 0] 26) = y := ⟨_, rfl⟩
 obtain ⟨P, eP⟩ : ∃ P, w.heap.size + 1 = P := ⟨_, rfl⟩
 have hb2 : Below w.heap.size w w2 := by rw [<- e2]; exact ((Below.refl _ _).alloc (Nat.le_refl _) _).alloc (by simp) _
 have HQ2 : Hid (w2.heap[w.heap.size]? = some (.cells #[.slice none 0 0, .slice none 0 0] 26 (0, 0))) := by show _ = _; rw [<- e2, Lib.alloc_old _ _ _ (by simp)]; exact heapW_new _ _
 have q2 : w2.heap[P]? = some (.cells #[.slice none 0 0, .slice none 0 0] 26 (0, 0)) := by
  have hh := heapW_new (w.alloc (.cells #[.slice none 0 0, .slice none 0 0] 26)) (.cells #[.slice none 0 0, .slice none 0 0] 26)
  rw [show (w.alloc (.cells #[.slice none 0 0, .slice none 0 0] 26)).heap.size = P from by simpa using eP, e2] at hh
  exact hh
 have HS2 : Hid (Sw w2 P w.heap.size (.slice none 0 0) (.slice none 0 0) [] []) := ⟨q2, Dw.zero _ _, BdS.nil, by omega⟩
 have HR2 : Hid (RdK B R a len cap p (0) w w2) := ⟨gb_below (gb_refl w R) hb2, p, by omega, h.below hBw hb2⟩
 have hPw : w.heap.size <= P := by omega
 have hPn : w.heap.size ≠ P := by omega
 have E2 : Hid ((w.alloc (.cells #[.slice none 0 0, .slice none 0 0] 26)).alloc (.cells #[.slice none 0 0, .slice none 0 0] 26) = w2) := e2
 clear e2 q2 hb2 h
 go_enter Tryz.func52, Tryz.ntmps52
 go_wp2_with fail
 rw [E2.out]
 clear E2 eP
 go_loopw [4] (fun i wr => ∃ (k : Nat) (v1 : Value) (l1 : List S2), k <= 6 /\ i = .int .i64 k /\ l1.length <= k /\ Hid (Sw wr P w.heap.size v1 (.slice none 0 0) l1 []) /\ Hid (RdK B R a len cap p (14 * k) w wr) /\ Hid (wr.heap[w.heap.size]? = some (.cells #[.slice none 0 0, .slice none 0 0] 26 (0, 0)))) (fun i _ => 6 - (intOf i).toNat)
 case atStart => exact ⟨0, _, [], by omega, rfl, Nat.le_refl _, HS2, HR2, HQ2⟩
 case round =>
  obtain ⟨k, v1, l1, hk, rfl, hl1, HS, HR, HQ⟩ := hrel
  clear HS2 HR2 HQ2
  by_cases hlt : k < 6
  ·have hkI : (k : Int) < 6 := by omega
   go_wp2_with fail
   refine (HR.out.pick (by omega) 5 (by omega) (by omega)).mono ?_
   rintro e w1 ⟨x, rfl, hx, hr1, hg1⟩
   replace HS := hid (HS.out.gb hg1 (by omega))
   replace HQ := hid (blk_gb HQ.out hg1 (by omega))
   replace HR := hid hr1
   clear hg1 hr1
   rcases Nat.eq_zero_or_pos x with rfl | hx0
   ·go_wp2
    go_roundw
    case rel => exact ⟨k + 1, _, _, by omega, by go_num, by omega, HS, hid (HR.out.more (by omega)), HQ⟩
    case measure => simp [intOf]; omega
   ·have hx0I : (0 : Int) < (x : Int) := by omega
    go_wp2_with fail
    refine (HR.out.text hBw (by omega)).mono ?_
    rintro e w3 ⟨t0, rfl, ht0, hr1, hg1⟩
    replace HS := hid (HS.out.gb hg1 (by omega))
    replace HQ := hid (blk_gb HQ.out hg1 (by omega))
    replace HR := hid hr1
    clear hg1 hr1
    go_wp2_with fail
    refine (HR.out.pick (by omega) 2 (by omega) (by omega)).mono ?_
    rintro e w4 ⟨y, rfl, hy, hr1, hg1⟩
    replace HS := hid (HS.out.gb hg1 (by omega))
    replace HQ := hid (blk_gb HQ.out hg1 (by omega))
    replace HR := hid hr1
    clear hg1 hr1
    rcases Nat.eq_zero_or_pos y with rfl | hy0
    case' inl =>
     go_wp2_with fail
     refine (HR.out.name hBw (by omega)).mono ?_
     rintro e w5 ⟨n1, rfl, hn1, hr1, hg1⟩
     replace HS := hid (HS.out.gb hg1 (by omega))
     replace HQ := hid (blk_gb HQ.out hg1 (by omega))
     replace HR := hid hr1
     clear hg1 hr1
     go_wp2_with fail
     refine (HR.out.name hBw (by omega)).mono ?_
     rintro e wT ⟨n2, rfl, hn2, hr1, hg1⟩
     replace HS := hid (HS.out.gb hg1 (by omega))
     replace HQ := hid (blk_gb HQ.out hg1 (by omega))
     replace HR := hid hr1
     clear hg1 hr1
     replace HR := hid (HR.out.more (K' := 14 * k + 14) (by omega))
     obtain ⟨tt, ett, htt⟩ : ∃ x : ByteArray, n1 ++ ⟨#[32]⟩ ++ n2 ++ ⟨#[32]⟩ ++ t0 = x /\ x.size <= 50000 := ⟨_, rfl, by simp only [ByteArray.size_append]; show n1.size + 1 + n2.size + 1 + t0.size <= 50000; omega⟩
     go_wp2_with fail
    case' inr =>
     have hy0I : ¬ ((y : Int) = 0) := by omega
     obtain ⟨wT, rfl⟩ : ∃ z, z = w4 := ⟨_, rfl⟩
     replace HR := hid (HR.out.more (K' := 14 * k + 14) (by omega))
     obtain ⟨tt, ett, htt⟩ : ∃ x : ByteArray, t0 = x /\ x.size <= 50000 := ⟨_, rfl, by omega⟩
     go_wp2_with fail
    all_goals
     clear ett
     have hwr : IntKind.i64.wrap ((k : Int) + 1) = (k : Int) + 1 := by rw [IntKind.wrap_i64]; omega
     have h6a : (k : Int) + 1 <= 6 := by omega
     have h0a : (0 : Int) <= (k : Int) + 1 := by omega
     have hka : (k : Int) <= (k : Int) + 1 := by omega
     refine Lt.begin 11 (fun w' => w'.heap[P]? = some (.cells #[v1, .slice none 0 0] 26 (0, 0))) (by kernel_rfl) ?_
     obtain ⟨wD, eD⟩ : ∃ y, wT.drew = y := ⟨_, rfl⟩
     rw [eD]
     have hbD : Below wT.heap.size wT wD := by rw [<- eD]; exact (Below.refl _ _).drew
     clear eD
     replace HS := hid (HS.out.below hbD)
     replace HR := hid (HR.out.below hBw hbD)
     replace HQ := hid (blk_below HQ.out hbD)
     have hS0 : (fun w' => w'.heap[P]? = some (.cells #[v1, .slice none 0 0] 26 (0, 0))) wD := HS.out.blk
     change K 0 _
     iterate 8
      refine Lt.ti (v := ?_) hS0 ?_ ?_
      rotate_left 1
      ·rintro w hSw; obtain ⟨c0, c1⟩ := blk_c hSw; go_simp; first | done | with_reducible rfl
      simp only [gX]
     refine Lt.sp (i := 8) (fun K hK => ?_)
     go_simp
     refine name_alloc (Q := fun x => K _ x) ?_
     intro wG hbwG HG
     try dsimp only
     replace HS := hid (HS.out.below hbwG)
     replace HR := hid (HR.out.below hBw hbwG)
     replace HQ := hid (blk_below HQ.out hbwG)
     have hS1 : (fun w' => w'.heap[P]? = some (.cells #[v1, .slice none 0 0] 26 (0, 0))) wG := HS.out.blk
     refine hK.out _ _ (fun _ => hS1) (fun _ => ?_)
     clear hK K hbwG
     try simp only [gX]
     refine Lt.sp (i := 9) (fun K hK => ?_)
     refine step_appSr rfl (by rfl) w.heap.size v1 _ (srcV l1) (by rfl) HS.out.dw.s wD.heap.size _ _ (by rfl) HG.out HR.out.size (by omega) ?_
     intro g' cap' w7 hown7 hgrow
     have HN := hid (HS.out.putS (s := ⟨_, _⟩) hgrow hown7 (by omega) ⟨ext_small _ _ _ (by decide), by first | exact htt | (show tt.size <= 50000; exact htt)⟩)
     have hrow : ∀ j, Value.ownBlock v1 = some j -> w.heap.size <= j := fun j hj => (HS.out.dw.s.lt j hj).1
     have HP7 := hid (HS.out.app hgrow (Or.inl rfl))
     have HR7 := hid ((HR.out.grow hBw hgrow hrow).set (b := P) (j := 0) hBw hPw (.slice (some ⟨g', 0, none⟩) (l1.length + 1) cap'))
     have HQ7 := hid (blk_set (blk_grow HQ.out hgrow (HasT.ne ⟨_, HQ.out⟩ HS.out.dw.s (by decide))) (by omega) (c := P) (j := 0) (.slice (some ⟨g', 0, none⟩) (l1.length + 1) cap'))
     obtain ⟨c0, c1⟩ := blk_c HP7.out
     have fz := fun j => Lib.frozen_of_heap HP7.out j
     have hS7 : (fun w' => w'.heap[P]? = some (.cells #[v1, .slice none 0 0] 26 (0, 0))) w7 := HP7.out
     refine hK.out _ _ (fun _ => hS7) (fun _ => ?_)
     clear hK K hgrow hown7 hrow
     simp only [gX]
     refine Lt.ti (i := 10) (v := ?_) hS7 ?_ ?_
     rotate_left 1
     ·rintro w hSw; obtain ⟨c0, c1⟩ := blk_c hSw; go_simp; first | done | with_reducible rfl
     simp only [gX]
     refine Lt.sp (i := 11) (fun K hK => ?_)
     go_simp
     refine hK.out _ _ (fun h => absurd rfl h) (fun _ => ?_)
     clear hK K
     refine Lt.done (by kernel_rfl) ?_ _
     go_wp2
     go_roundw
     case rel => exact ⟨k + 1, _, _, by omega, by go_num, by simp; omega, HN, hid (HR7.out.more (by omega)), HQ7⟩
     case measure => simp [intOf]; omega
  ·obtain rfl : k = 6 := by omega
   go_wp2_with fail
   refine (HR.out.pick (by omega) 8 (by omega) (by omega)).mono ?_
   rintro e w3 ⟨x, rfl, hx, hr1, hg1⟩
   replace HS := hid (HS.out.gb hg1 (by omega))
   replace HQ := hid (blk_gb HQ.out hg1 (by omega))
   replace HR := hid hr1
   clear hg1 hr1
   replace HR := hid (HR.out.more (K' := 100) (by omega))
   have HS3 := HS
   have HR3 := HR
   have HQ3 := HQ
   clear HS HR HQ
   go_wp2_with fail
   go_loopw [7] (fun i wr => ∃ (k : Nat) (v2 : Value) (l2 : List TC), k <= 1 + x /\ i = .int .i64 k /\ l2.length = k /\ Hid (Sw wr P w.heap.size v1 v2 l1 l2) /\ Hid (RdK B R a len cap p (100 + 1320 * k) w wr) /\ Hid (wr.heap[w.heap.size]? = some (.cells #[.slice none 0 0, .slice none 0 0] 26 (0, 0))) /\ Hid (∀ y ∈ l2, 0 < y.t.code.length)) (fun i _ => 1 + x - (intOf i).toNat)
   case atStart => exact ⟨0, _, [], by omega, rfl, rfl, HS3, hid (HR3.out.more (by omega)), HQ3, (fun y hy => (by cases hy) : ∀ y ∈ ([] : List TC), 0 < y.t.code.length)⟩
   case round =>
    obtain ⟨k, v2, l2, hk, rfl, hl2, HS, HR, HQ, HC⟩ := hrel
    subst hl2
    clear HS3 HR3 HQ3
    by_cases hlt : l2.length < 1 + x
    ·have hkI : (l2.length : Int) < 1 + (x : Int) := by omega
     have hlo := HR.out.size
     go_wp2_with fail
     refine (HR.out.prog hBw (by omega)).mono ?_
     rintro e w5 ⟨g, n, c, is, rfl, ho, h0, hL, hr1, hg1⟩
     replace HS := hid (HS.out.gb hg1 (by omega))
     replace HQ := hid (blk_gb HQ.out hg1 (by omega))
     replace HR := hid hr1
     clear hg1 hr1
     obtain ⟨w6, e6⟩ : ∃ y, w5.alloc (.cells #[.slice (some ⟨g, 0, none⟩) n c] 37) = y := ⟨_, rfl⟩
     have hb6 : Below w5.heap.size w5 w6 := by rw [<- e6]; exact (Below.refl _ _).alloc (Nat.le_refl _) _
     have HPB : Hid (PB w6 w5.heap.size w.heap.size) := PB.new ho hlo h0 hL e6
     have hpb : w.heap.size <= w5.heap.size := HR.out.size
     have hpP : P < w5.heap.size := blkW_lt HS.out.blk
     have hpQ : w.heap.size < w5.heap.size := blkW_lt HQ.out
     replace HS := hid (HS.out.below hb6)
     replace HR := hid (HR.out.below hBw hb6)
     replace HQ := hid (blk_below HQ.out hb6)
     clear hb6 ho h0 hL hlo
     rcases Nat.eq_zero_or_pos l2.length with hk0 | hkp
     ·have hkz : ¬ (0 : Int) < (l2.length : Int) := by omega
      clear hk0
      go_wp2_with fail
      clear e6
      refine (HR.out.pick (by omega) 2 (by omega) (by omega)).mono ?_
      rintro e w8 ⟨z, rfl, hz, hr1, hg1⟩
      replace HS := hid (HS.out.gb hg1 (by omega))
      replace HQ := hid (blk_gb HQ.out hg1 (by omega))
      replace HPB := hid (HPB.out.gb hg1 hRw hpb)
      replace HR := hid hr1
      clear hg1 hr1
      rcases Nat.eq_zero_or_pos z with rfl | hz0
      ·go_wp2_with fail
       obtain ⟨nm, enm, hnm⟩ : ∃ y : ByteArray, (⟨#[97]⟩ : ByteArray) = y /\ y.size <= 50000 := ⟨_, rfl, by decide⟩
       rw [enm]
       clear enm
       refine (l2Lit_any _ _).mono ?_
       rintro e y1 ⟨rfl, hb1⟩
       replace HS := hid (HS.out.below hb1)
       replace HR := hid (HR.out.below hBw hb1)
       replace HQ := hid (blk_below HQ.out hb1)
       replace HPB := hid (HPB.out.below hb1)
       clear hb1
       go_wp2_with fail
       refine (l2Op_any _ _).mono ?_
       rintro e y2 ⟨rfl, hb1⟩
       replace HS := hid (HS.out.below hb1)
       replace HR := hid (HR.out.below hBw hb1)
       replace HQ := hid (blk_below HQ.out hb1)
       replace HPB := hid (HPB.out.below hb1)
       clear hb1
       go_wp2_with fail
       refine (HR.out.text hBw (by omega)).mono ?_
       rintro e y3 ⟨t3, rfl, ht3, hr1, hg1⟩
       replace HS := hid (HS.out.gb hg1 (by omega))
       replace HQ := hid (blk_gb HQ.out hg1 (by omega))
       replace HPB := hid (HPB.out.gb hg1 hRw hpb)
       replace HR := hid hr1
       clear hg1 hr1
       go_wp2_with fail
       refine (l2Lit_any _ _).mono ?_
       rintro e y4 ⟨rfl, hb1⟩
       replace HS := hid (HS.out.below hb1)
       replace HR := hid (HR.out.below hBw hb1)
       replace HQ := hid (blk_below HQ.out hb1)
       replace HPB := hid (HPB.out.below hb1)
       clear hb1
       go_wp2_with fail
       refine (l2Op_any _ _).mono ?_
       rintro e y5 ⟨rfl, hb1⟩
       replace HS := hid (HS.out.below hb1)
       replace HR := hid (HR.out.below hBw hb1)
       replace HQ := hid (blk_below HQ.out hb1)
       replace HPB := hid (HPB.out.below hb1)
       clear hb1
       go_wp2_with fail
       refine (HR.out.pick (by omega) 9 (by omega) (by omega)).mono ?_
       rintro e y6 ⟨q9, rfl, hq9, hr1, hg1⟩
       replace HS := hid (HS.out.gb hg1 (by omega))
       replace HQ := hid (blk_gb HQ.out hg1 (by omega))
       replace HPB := hid (HPB.out.gb hg1 hRw hpb)
       replace HR := hid hr1
       clear hg1 hr1
       go_wp2_with fail
       refine (l2OpN_any _ _ _).mono ?_
       rintro e y7 ⟨rfl, hb1⟩
       replace HS := hid (HS.out.below hb1)
       replace HR := hid (HR.out.below hBw hb1)
       replace HQ := hid (blk_below HQ.out hb1)
       replace HPB := hid (HPB.out.below hb1)
       clear hb1
       go_wp2_with fail
       refine (l2Op_any _ _).mono ?_
       rintro e y8 ⟨rfl, hb1⟩
       replace HS := hid (HS.out.below hb1)
       replace HR := hid (HR.out.below hBw hb1)
       replace HQ := hid (blk_below HQ.out hb1)
       replace HPB := hid (HPB.out.below hb1)
       clear hb1
       obtain ⟨cb, hcb⟩ := HPB.out.t
       have hs8 := HR.out.size
       have hpl := blkW_lt hcb
       obtain ⟨y9, e9⟩ : ∃ y, y8.alloc (.cells #[.int .i64 1, .string nm, .int .i64 0, .int .i64 12, .string ⟨#[]⟩, .int .i64 0, .int .i64 1, .string t3, .int .i64 0, .int .i64 2, .string ⟨#[]⟩, .int .i64 0, .int .i64 3, .string ⟨#[]⟩, .int .i64 (1 + (q9 : Int)), .int .i64 15, .string ⟨#[]⟩, .int .i64 0] 91) = y := ⟨_, rfl⟩
       have hb9 : Below y8.heap.size y8 y9 := by rw [<- e9]; exact (Below.refl _ _).alloc (Nat.le_refl _) _
       have h9 : y9.heap[y8.heap.size]? = some (.cells #[.int .i64 1, .string nm, .int .i64 0, .int .i64 12, .string ⟨#[]⟩, .int .i64 0, .int .i64 1, .string t3, .int .i64 0, .int .i64 2, .string ⟨#[]⟩, .int .i64 0, .int .i64 3, .string ⟨#[]⟩, .int .i64 (1 + (q9 : Int)), .int .i64 15, .string ⟨#[]⟩, .int .i64 0] 91 (0, 0)) := by rw [<- e9]; exact heapW_new _ _
       replace hcb := blk_below hcb hb9
       replace HS := hid (HS.out.below hb9)
       replace HR := hid (HR.out.below hBw hb9)
       replace HQ := hid (blk_below HQ.out hb9)
       replace HPB := hid (HPB.out.below hb9)
       clear hb9
       have hc31 : ∃ c3, y9.heap[w5.heap.size]? = some (.cells #[c3] 37 (0, 0)) := by obtain ⟨c3, _, h3, _⟩ := HPB.out; exact ⟨c3, h3⟩
       obtain ⟨c3, h31⟩ := hc31
       have d31 := blk_c1 h31
       have f31 := fun j => Lib.frozen_of_heap h31 j
       have HP2 := hid (HPB.out.put (is := [⟨1, nm, 0⟩, ⟨12, ⟨#[]⟩, 0⟩, ⟨1, t3, 0⟩, ⟨2, ⟨#[]⟩, 0⟩, ⟨3, ⟨#[]⟩, 1 + (q9 : Int)⟩, ⟨15, ⟨#[]⟩, 0⟩]) (own_lit (n := 6) h9 hs8 rfl rfl (by omega)) (by simp) (by simp) (short6 hnm (Nat.zero_le _) (by show t3.size <= 50000; omega) (Nat.zero_le _) (Nat.zero_le _) (Nat.zero_le _)))
       have HS9 := hid (HS.out.set (j := 0) ⟨_, h31⟩ (by decide) (by decide) (by decide) (by omega) (.slice (some ⟨y8.heap.size, 0, none⟩) 6 6))
       have HQ9 := hid (blk_set HQ.out (c := w5.heap.size) (j := 0) (by omega) (.slice (some ⟨y8.heap.size, 0, none⟩) 6 6))
       have HR9 := hid (HR.out.set (b := w5.heap.size) (j := 0) hBw hpb (.slice (some ⟨y8.heap.size, 0, none⟩) 6 6))
       clear HS HQ HR HPB hcb h9 h31 hs8 hpl
       have HS := HS9; have HQ := HQ9; have HR := HR9; have HPB := HP2; clear HS9 HQ9 HR9 HP2
       go_wp2_with fail
       clear e9
       obtain ⟨yz, ez⟩ : ∃ y, y9.setCell ⟨w5.heap.size, 0, none⟩ (.slice (some ⟨y8.heap.size, 0, none⟩) 6 6) = y := ⟨_, rfl⟩
       rw [ez] at HS HQ HR HPB ⊢
       clear ez
       obtain ⟨cc, ci, hcb, hco, hc0, hc4, hct⟩ := HPB.out
       have HCB := hid hcb
       have HCO := hid hco
       have HCT := hid hct
       clear hcb hco hct HPB
       obtain ⟨ca, cp, rfl, _⟩ := row3_ownD rfl HCO.out
       refine Lt.begin 10 (fun w' => w'.heap[P]? = some (.cells #[v1, v2] 26 (0, 0)) /\ w'.heap[w5.heap.size]? = some (.cells #[.slice ca ci.length cp] 37 (0, 0))) (by kernel_rfl) ?_
       obtain ⟨wD, eD⟩ : ∃ y, yz.drew = y := ⟨_, rfl⟩
       rw [eD]
       have hbD : Below yz.heap.size yz wD := by rw [<- eD]; exact (Below.refl _ _).drew
       clear eD
       replace HS := hid (HS.out.below hbD)
       replace HR := hid (HR.out.below hBw hbD)
       replace HQ := hid (blk_below HQ.out hbD)
       replace HCB := hid (blk_below HCB.out hbD)
       replace HCO := hid (own_bel HCO.out hbD)
       have hS0 : (fun w' => w'.heap[P]? = some (.cells #[v1, v2] 26 (0, 0)) /\ w'.heap[w5.heap.size]? = some (.cells #[.slice ca ci.length cp] 37 (0, 0))) wD := ⟨HS.out.blk, HCB.out⟩
       change K 0 _
       iterate 3
        refine Lt.ti (v := ?_) hS0 ?_ ?_
        rotate_left 1
        ·rintro w ⟨hs1, hs2⟩; obtain ⟨c0, c1⟩ := blk_c hs1; have c2 := blk_c1 hs2; go_simp; first | done | with_reducible rfl
        simp only [gX]
       refine Lt.ti (i := 5) (v := ?_) hS0 ?_ ?_
       rotate_left 1
       ·rintro w ⟨hs1, hs2⟩; obtain ⟨c0, c1⟩ := blk_c hs1; have c2 := blk_c1 hs2; go_simp; first | done | with_reducible rfl
       simp only [gX]
       refine Lt.sp (i := 3) (fun K hK => ?_)
       go_simp
       refine (l2Dec_any l2.length _ (by omega)).mono ?_
       rintro e wA ⟨rfl, hbA⟩
       obtain ⟨q, eq, hq⟩ : ∃ q, (⟨(Lib.decDigits l2.length).toArray⟩ : ByteArray) = q /\ q.size <= 10 := ⟨_, rfl, by have := dec_length 2 l2.length (by omega); show (Lib.decDigits l2.length).toArray.size <= 10; rw [List.size_toArray]; omega⟩
       rw [eq]
       clear eq
       have hqm : ¬ 9223372036854775807 < 1 + q.size := by omega
       replace HS := hid (HS.out.below hbA)
       replace HR := hid (HR.out.below hBw hbA)
       replace HQ := hid (blk_below HQ.out hbA)
       replace HCB := hid (blk_below HCB.out hbA)
       replace HCO := hid (own_bel HCO.out hbA)
       have hS1 : (fun w' => w'.heap[P]? = some (.cells #[v1, v2] 26 (0, 0)) /\ w'.heap[w5.heap.size]? = some (.cells #[.slice ca ci.length cp] 37 (0, 0))) wA := ⟨HS.out.blk, HCB.out⟩
       refine hK.out _ _ (fun _ => hS1) (fun _ => ?_)
       clear hK K hbA
       try simp only [gX]
       refine Lt.ti (i := 4) (v := ?_) hS1 ?_ ?_
       rotate_left 1
       ·rintro w ⟨hs1, hs2⟩; obtain ⟨c0, c1⟩ := blk_c hs1; have c2 := blk_c1 hs2; go_simp; first | done | with_reducible rfl
       simp only [gX]
       refine Lt.ti (i := 6) (v := ?_) hS1 ?_ ?_
       rotate_left 1
       ·rintro w ⟨hs1, hs2⟩; obtain ⟨c0, c1⟩ := blk_c hs1; have c2 := blk_c1 hs2; go_simp; first | done | with_reducible rfl
       simp only [gX]
       refine Lt.sp (i := 7) (fun K hK => ?_)
       go_simp
       refine name_alloc (Q := fun x => K _ x) ?_
       intro wG hbwG HG
       try dsimp only
       replace HS := hid (HS.out.below hbwG)
       replace HR := hid (HR.out.below hBw hbwG)
       replace HQ := hid (blk_below HQ.out hbwG)
       replace HCB := hid (blk_below HCB.out hbwG)
       replace HCO := hid (own_bel HCO.out hbwG)
       have hS2 : (fun w' => w'.heap[P]? = some (.cells #[v1, v2] 26 (0, 0)) /\ w'.heap[w5.heap.size]? = some (.cells #[.slice ca ci.length cp] 37 (0, 0))) wG := ⟨HS.out.blk, HCB.out⟩
       refine hK.out _ _ (fun _ => hS2) (fun _ => ?_)
       clear hK K hbwG
       try simp only [gX]
       refine Lt.sp (i := 8) (fun K hK => ?_)
       refine step_appT rfl (by rfl) w.heap.size v2 _ (tcV l2) (by rfl) HS.out.dw.t wA.heap.size _ _ rfl (by rfl) HG.out HR.out.size (by omega) ?_
       intro g' cap' w7 hown7 hgrow
       have HN := hid (HS.out.putT (s := ⟨_, ci⟩) (HCO.out) hgrow hown7 (by omega) ⟨by show (_ ++ _ : ByteArray).size <= 50000; rw [ByteArray.size_append]; show 1 + q.size <= 50000; omega, hc4, HCT.out⟩)
       have hrow : ∀ j, Value.ownBlock v2 = some j -> w.heap.size <= j := fun j hj => (HS.out.dw.t.lt j hj).1
       have HP7 := hid (HS.out.app hgrow (Or.inr rfl))
       have HR7 := hid ((HR.out.grow hBw hgrow hrow).set (b := P) (j := 1) hBw hPw (.slice (some ⟨g', 0, none⟩) (l2.length + 1) cap'))
       have HQ7 := hid (blk_set (blk_grow HQ.out hgrow (HasT.ne ⟨_, HQ.out⟩ HS.out.dw.t (by decide))) (by omega) (c := P) (j := 1) (.slice (some ⟨g', 0, none⟩) (l2.length + 1) cap'))
       obtain ⟨c0, c1⟩ := blk_c HP7.out
       have fz := fun j => Lib.frozen_of_heap HP7.out j
       have hS7 : (fun w' => w'.heap[P]? = some (.cells #[v1, v2] 26 (0, 0)) /\ w'.heap[w5.heap.size]? = some (.cells #[.slice ca ci.length cp] 37 (0, 0))) w7 := ⟨HP7.out, blk_grow HCB.out hgrow (HasT.ne ⟨_, HCB.out⟩ HS.out.dw.t (by decide))⟩
       refine hK.out _ _ (fun _ => hS7) (fun _ => ?_)
       clear hK K hgrow hown7 hrow
       simp only [gX]
       refine Lt.ti (i := 9) (v := ?_) hS7 ?_ ?_
       rotate_left 1
       ·rintro w ⟨hs1, hs2⟩; obtain ⟨c0, c1⟩ := blk_c hs1; have c2 := blk_c1 hs2; go_simp; first | done | with_reducible rfl
       simp only [gX]
       refine Lt.sp (i := 10) (fun K hK => ?_)
       go_simp
       refine hK.out _ _ (fun h => absurd rfl h) (fun _ => ?_)
       clear hK K
       refine Lt.done (by kernel_rfl) ?_ _
       go_wp2
       go_roundw
       case rel => exact ⟨l2.length + 1, _, _, by omega, by go_num, by simp, HN, hid (HR7.out.more (by omega)), HQ7, hid (all_snoc HC.out hc0)⟩
       case measure => simp [intOf]; omega
      ·have hz0I : ¬ ((z : Int) = 0) := by omega
       go_wp2_with fail
       obtain ⟨cc, ci, hcb, hco, hc0, hc4, hct⟩ := HPB.out
       have HCB := hid hcb
       have HCO := hid hco
       have HCT := hid hct
       clear hcb hco hct HPB
       obtain ⟨ca, cp, rfl, _⟩ := row3_ownD rfl HCO.out
       refine Lt.begin 10 (fun w' => w'.heap[P]? = some (.cells #[v1, v2] 26 (0, 0)) /\ w'.heap[w5.heap.size]? = some (.cells #[.slice ca ci.length cp] 37 (0, 0))) (by kernel_rfl) ?_
       obtain ⟨wD, eD⟩ : ∃ y, w8.drew = y := ⟨_, rfl⟩
       rw [eD]
       have hbD : Below w8.heap.size w8 wD := by rw [<- eD]; exact (Below.refl _ _).drew
       clear eD
       replace HS := hid (HS.out.below hbD)
       replace HR := hid (HR.out.below hBw hbD)
       replace HQ := hid (blk_below HQ.out hbD)
       replace HCB := hid (blk_below HCB.out hbD)
       replace HCO := hid (own_bel HCO.out hbD)
       have hS0 : (fun w' => w'.heap[P]? = some (.cells #[v1, v2] 26 (0, 0)) /\ w'.heap[w5.heap.size]? = some (.cells #[.slice ca ci.length cp] 37 (0, 0))) wD := ⟨HS.out.blk, HCB.out⟩
       change K 0 _
       iterate 3
        refine Lt.ti (v := ?_) hS0 ?_ ?_
        rotate_left 1
        ·rintro w ⟨hs1, hs2⟩; obtain ⟨c0, c1⟩ := blk_c hs1; have c2 := blk_c1 hs2; go_simp; first | done | with_reducible rfl
        simp only [gX]
       refine Lt.ti (i := 5) (v := ?_) hS0 ?_ ?_
       rotate_left 1
       ·rintro w ⟨hs1, hs2⟩; obtain ⟨c0, c1⟩ := blk_c hs1; have c2 := blk_c1 hs2; go_simp; first | done | with_reducible rfl
       simp only [gX]
       refine Lt.sp (i := 3) (fun K hK => ?_)
       go_simp
       refine (l2Dec_any l2.length _ (by omega)).mono ?_
       rintro e wA ⟨rfl, hbA⟩
       obtain ⟨q, eq, hq⟩ : ∃ q, (⟨(Lib.decDigits l2.length).toArray⟩ : ByteArray) = q /\ q.size <= 10 := ⟨_, rfl, by have := dec_length 2 l2.length (by omega); show (Lib.decDigits l2.length).toArray.size <= 10; rw [List.size_toArray]; omega⟩
       rw [eq]
       clear eq
       have hqm : ¬ 9223372036854775807 < 1 + q.size := by omega
       replace HS := hid (HS.out.below hbA)
       replace HR := hid (HR.out.below hBw hbA)
       replace HQ := hid (blk_below HQ.out hbA)
       replace HCB := hid (blk_below HCB.out hbA)
       replace HCO := hid (own_bel HCO.out hbA)
       have hS1 : (fun w' => w'.heap[P]? = some (.cells #[v1, v2] 26 (0, 0)) /\ w'.heap[w5.heap.size]? = some (.cells #[.slice ca ci.length cp] 37 (0, 0))) wA := ⟨HS.out.blk, HCB.out⟩
       refine hK.out _ _ (fun _ => hS1) (fun _ => ?_)
       clear hK K hbA
       try simp only [gX]
       refine Lt.ti (i := 4) (v := ?_) hS1 ?_ ?_
       rotate_left 1
       ·rintro w ⟨hs1, hs2⟩; obtain ⟨c0, c1⟩ := blk_c hs1; have c2 := blk_c1 hs2; go_simp; first | done | with_reducible rfl
       simp only [gX]
       refine Lt.ti (i := 6) (v := ?_) hS1 ?_ ?_
       rotate_left 1
       ·rintro w ⟨hs1, hs2⟩; obtain ⟨c0, c1⟩ := blk_c hs1; have c2 := blk_c1 hs2; go_simp; first | done | with_reducible rfl
       simp only [gX]
       refine Lt.sp (i := 7) (fun K hK => ?_)
       go_simp
       refine name_alloc (Q := fun x => K _ x) ?_
       intro wG hbwG HG
       try dsimp only
       replace HS := hid (HS.out.below hbwG)
       replace HR := hid (HR.out.below hBw hbwG)
       replace HQ := hid (blk_below HQ.out hbwG)
       replace HCB := hid (blk_below HCB.out hbwG)
       replace HCO := hid (own_bel HCO.out hbwG)
       have hS2 : (fun w' => w'.heap[P]? = some (.cells #[v1, v2] 26 (0, 0)) /\ w'.heap[w5.heap.size]? = some (.cells #[.slice ca ci.length cp] 37 (0, 0))) wG := ⟨HS.out.blk, HCB.out⟩
       refine hK.out _ _ (fun _ => hS2) (fun _ => ?_)
       clear hK K hbwG
       try simp only [gX]
       refine Lt.sp (i := 8) (fun K hK => ?_)
       refine step_appT rfl (by rfl) w.heap.size v2 _ (tcV l2) (by rfl) HS.out.dw.t wA.heap.size _ _ rfl (by rfl) HG.out HR.out.size (by omega) ?_
       intro g' cap' w7 hown7 hgrow
       have HN := hid (HS.out.putT (s := ⟨_, ci⟩) (HCO.out) hgrow hown7 (by omega) ⟨by show (_ ++ _ : ByteArray).size <= 50000; rw [ByteArray.size_append]; show 1 + q.size <= 50000; omega, hc4, HCT.out⟩)
       have hrow : ∀ j, Value.ownBlock v2 = some j -> w.heap.size <= j := fun j hj => (HS.out.dw.t.lt j hj).1
       have HP7 := hid (HS.out.app hgrow (Or.inr rfl))
       have HR7 := hid ((HR.out.grow hBw hgrow hrow).set (b := P) (j := 1) hBw hPw (.slice (some ⟨g', 0, none⟩) (l2.length + 1) cap'))
       have HQ7 := hid (blk_set (blk_grow HQ.out hgrow (HasT.ne ⟨_, HQ.out⟩ HS.out.dw.t (by decide))) (by omega) (c := P) (j := 1) (.slice (some ⟨g', 0, none⟩) (l2.length + 1) cap'))
       obtain ⟨c0, c1⟩ := blk_c HP7.out
       have fz := fun j => Lib.frozen_of_heap HP7.out j
       have hS7 : (fun w' => w'.heap[P]? = some (.cells #[v1, v2] 26 (0, 0)) /\ w'.heap[w5.heap.size]? = some (.cells #[.slice ca ci.length cp] 37 (0, 0))) w7 := ⟨HP7.out, blk_grow HCB.out hgrow (HasT.ne ⟨_, HCB.out⟩ HS.out.dw.t (by decide))⟩
       refine hK.out _ _ (fun _ => hS7) (fun _ => ?_)
       clear hK K hgrow hown7 hrow
       simp only [gX]
       refine Lt.ti (i := 9) (v := ?_) hS7 ?_ ?_
       rotate_left 1
       ·rintro w ⟨hs1, hs2⟩; obtain ⟨c0, c1⟩ := blk_c hs1; have c2 := blk_c1 hs2; go_simp; first | done | with_reducible rfl
       simp only [gX]
       refine Lt.sp (i := 10) (fun K hK => ?_)
       go_simp
       refine hK.out _ _ (fun h => absurd rfl h) (fun _ => ?_)
       clear hK K
       refine Lt.done (by kernel_rfl) ?_ _
       go_wp2
       go_roundw
       case rel => exact ⟨l2.length + 1, _, _, by omega, by go_num, by simp, HN, hid (HR7.out.more (by omega)), HQ7, hid (all_snoc HC.out hc0)⟩
       case measure => simp [intOf]; omega
     ·have hkz : (0 : Int) < (l2.length : Int) := by omega
      obtain ⟨g2, cp2, rfl, hg2, _⟩ := HS.out.dw.tc 0 hkp
      go_wp2_with fail
      clear e6
      refine (HR.out.pick (by omega) 5 (by omega) (by omega)).mono ?_
      rintro e w7 ⟨y, rfl, hy, hr1, hg1⟩
      replace HS := hid (HS.out.gb hg1 (by omega))
      replace HQ := hid (blk_gb HQ.out hg1 (by omega))
      replace HPB := hid (HPB.out.gb hg1 hRw hpb)
      replace HR := hid hr1
      clear hg1 hr1
      rcases Nat.eq_zero_or_pos y with rfl | hy0
      ·go_wp2_with fail
       refine Lt.begin 11 (fun w' => w'.heap[P]? = some (.cells #[v1, .slice (some ⟨g2, 0, none⟩) l2.length cp2] 26 (0, 0)) /\ w'.ownsRow w.heap.size 63 2 (.slice (some ⟨g2, 0, none⟩) l2.length cp2) l2.length (tcV l2)) (by kernel_rfl) ?_
       obtain ⟨wD, eD⟩ : ∃ y, w7.drew = y := ⟨_, rfl⟩
       rw [eD]
       have hbD : Below w7.heap.size w7 wD := by rw [<- eD]; exact (Below.refl _ _).drew
       clear eD
       replace HS := hid (HS.out.below hbD)
       replace HR := hid (HR.out.below hBw hbD)
       replace HQ := hid (blk_below HQ.out hbD)
       replace HPB := hid (HPB.out.below hbD)
       have hS0 : (fun w' => w'.heap[P]? = some (.cells #[v1, .slice (some ⟨g2, 0, none⟩) l2.length cp2] 26 (0, 0)) /\ w'.ownsRow w.heap.size 63 2 (.slice (some ⟨g2, 0, none⟩) l2.length cp2) l2.length (tcV l2)) wD := ⟨HS.out.blk, HS.out.dw.t⟩
       change K 0 _
       iterate 6
        refine Lt.ti (v := ?_) hS0 ?_ ?_
        rotate_left 1
        ·rintro w ⟨hs1, hs2⟩; obtain ⟨c0, c1⟩ := blk_c hs1; go_simp; first | done | with_reducible rfl
        simp only [gX]
       refine Lt.sp (i := 6) (fun K hK => ?_)
       go_simp
       refine (HR.out.pick (by omega) (l2.length : Int) (by omega) (by omega)).mono ?_
       rintro e wA ⟨j, rfl, hj, hrA, hgA⟩
       replace hj : j < l2.length := by omega
       replace HS := hid (HS.out.gb hgA (by omega))
       replace HR := hid hrA
       replace HQ := hid (blk_gb HQ.out hgA (by omega))
       replace HPB := hid (HPB.out.gb hgA hRw hpb)
       have hS1 : (fun w' => w'.heap[P]? = some (.cells #[v1, .slice (some ⟨g2, 0, none⟩) l2.length cp2] 26 (0, 0)) /\ w'.ownsRow w.heap.size 63 2 (.slice (some ⟨g2, 0, none⟩) l2.length cp2) l2.length (tcV l2)) wA := ⟨HS.out.blk, HS.out.dw.t⟩
       refine hK.out _ _ (fun _ => hS1) (fun _ => ?_)
       clear hK K hgA hrA
       try simp only [gX]
       have hjI : (j : Int) < (l2.length : Int) := by omega
       obtain ⟨a3, p3, ec3, hcp3⟩ := l3Program_all (HS.out.dw.c _ (cx_mem hj)) (by have := (HS.out.bd.t _ (cx_mem hj)).2.1; omega)
       change K 7 _
       iterate 3
        refine Lt.ti (v := ?_) hS1 ?_ ?_
        rotate_left 1
        ·rintro w ⟨hs1, hs2⟩; obtain ⟨c0, c1⟩ := blk_c hs1; obtain ⟨c2, c3⟩ := own_row hs2 j hj rfl; rw [ec3] at c3; go_simp; first | done | with_reducible rfl
        simp only [gX]
       refine Lt.sp (i := 10) (fun K hK => ?_)
       go_simp
       refine (hcp3 _ (Below.refl _ _)).mono ?_
       rintro e wB ⟨hbB, g3, p4, rfl, hob⟩
       rw [insV_eq] at hob
       have HOB := hid (own_base (B' := w.heap.size) hob HR.out.size)
       clear hob
       replace HS := hid (HS.out.below hbB)
       replace HR := hid (HR.out.below hBw hbB)
       replace HQ := hid (blk_below HQ.out hbB)
       replace HPB := hid (HPB.out.below hbB)
       have hS2 : (fun w' => w'.heap[P]? = some (.cells #[v1, .slice (some ⟨g2, 0, none⟩) l2.length cp2] 26 (0, 0)) /\ w'.ownsRow w.heap.size 63 2 (.slice (some ⟨g2, 0, none⟩) l2.length cp2) l2.length (tcV l2)) wB := ⟨HS.out.blk, HS.out.dw.t⟩
       refine hK.out _ _ (fun _ => hS2) (fun _ => ?_)
       clear hK K hbB
       try simp only [gX]
       refine Lt.sp (i := 11) (fun K hK => ?_)
       have h31 : ∃ c3, wB.heap[w5.heap.size]? = some (.cells #[c3] 37 (0, 0)) := by obtain ⟨c3, _, h3, _⟩ := HPB.out; exact ⟨c3, h3⟩
       obtain ⟨c3, h31⟩ := h31
       have d31 := blk_c1 h31
       have f31 := fun j => Lib.frozen_of_heap h31 j
       have HP2 := hid (HPB.out.put HOB.out (HC.out _ (cx_mem hj)) (HS.out.bd.t _ (cx_mem hj)).2.1 (HS.out.bd.t _ (cx_mem hj)).2.2)
       have HS9 := hid (HS.out.set (j := 0) ⟨_, h31⟩ (by decide) (by decide) (by decide) (by omega) (.slice (some ⟨g3, 0, none⟩) (cx l2 j).t.code.length p4))
       have HQ9 := hid (blk_set HQ.out (c := w5.heap.size) (j := 0) (by omega) (.slice (some ⟨g3, 0, none⟩) (cx l2 j).t.code.length p4))
       have HR9 := hid (HR.out.set (b := w5.heap.size) (j := 0) hBw hpb (.slice (some ⟨g3, 0, none⟩) (cx l2 j).t.code.length p4))
       go_simp
       refine hK.out _ _ (fun h => absurd rfl h) (fun _ => ?_)
       clear hK K
       refine Lt.done (by kernel_rfl) ?_ _
       clear HS HQ HR HPB h31 d31 f31 HOB
       have HS := HS9; have HQ := HQ9; have HR := HR9; have HPB := HP2; clear HS9 HQ9 HR9 HP2
       obtain ⟨yy, ey⟩ : ∃ y, wB.setCell ⟨w5.heap.size, 0, none⟩ (.slice (some ⟨g3, 0, none⟩) (cx l2 j).t.code.length p4) = y := ⟨_, rfl⟩
       rw [ey] at HS HQ HR HPB ⊢
       clear ey
       go_wp2_with fail
       refine (HR.out.pick (by omega) 2 (by omega) (by omega)).mono ?_
       rintro e w8 ⟨z, rfl, hz, hr1, hg1⟩
       replace HS := hid (HS.out.gb hg1 (by omega))
       replace HQ := hid (blk_gb HQ.out hg1 (by omega))
       replace HPB := hid (HPB.out.gb hg1 hRw hpb)
       replace HR := hid hr1
       clear hg1 hr1
       rcases Nat.eq_zero_or_pos z with rfl | hz0
       ·go_wp2_with fail
        refine Lt.begin 10 (fun w' => w'.heap[P]? = some (.cells #[v1, .slice (some ⟨g2, 0, none⟩) l2.length cp2] 26 (0, 0)) /\ w'.ownsRow w.heap.size 63 2 (.slice (some ⟨g2, 0, none⟩) l2.length cp2) l2.length (tcV l2)) (by kernel_rfl) ?_
        obtain ⟨wD, eD⟩ : ∃ y, w8.drew = y := ⟨_, rfl⟩
        rw [eD]
        have hbD : Below w8.heap.size w8 wD := by rw [<- eD]; exact (Below.refl _ _).drew
        clear eD
        replace HS := hid (HS.out.below hbD)
        replace HR := hid (HR.out.below hBw hbD)
        replace HQ := hid (blk_below HQ.out hbD)
        replace HPB := hid (HPB.out.below hbD)
        have hS0 : (fun w' => w'.heap[P]? = some (.cells #[v1, .slice (some ⟨g2, 0, none⟩) l2.length cp2] 26 (0, 0)) /\ w'.ownsRow w.heap.size 63 2 (.slice (some ⟨g2, 0, none⟩) l2.length cp2) l2.length (tcV l2)) wD := ⟨HS.out.blk, HS.out.dw.t⟩
        change K 0 _
        iterate 6
         refine Lt.ti (v := ?_) hS0 ?_ ?_
         rotate_left 1
         ·rintro w ⟨hs1, hs2⟩; obtain ⟨c0, c1⟩ := blk_c hs1; go_simp; first | done | with_reducible rfl
         simp only [gX]
        refine Lt.sp (i := 6) (fun K hK => ?_)
        go_simp
        refine (HR.out.pick (by omega) (l2.length : Int) (by omega) (by omega)).mono ?_
        rintro e wA ⟨j, rfl, hj, hrA, hgA⟩
        replace hj : j < l2.length := by omega
        replace HS := hid (HS.out.gb hgA (by omega))
        replace HR := hid hrA
        replace HQ := hid (blk_gb HQ.out hgA (by omega))
        replace HPB := hid (HPB.out.gb hgA hRw hpb)
        have hS1 : (fun w' => w'.heap[P]? = some (.cells #[v1, .slice (some ⟨g2, 0, none⟩) l2.length cp2] 26 (0, 0)) /\ w'.ownsRow w.heap.size 63 2 (.slice (some ⟨g2, 0, none⟩) l2.length cp2) l2.length (tcV l2)) wA := ⟨HS.out.blk, HS.out.dw.t⟩
        refine hK.out _ _ (fun _ => hS1) (fun _ => ?_)
        clear hK K hgA hrA
        try simp only [gX]
        have hjI : (j : Int) < (l2.length : Int) := by omega
        change K 7 _
        iterate 3
         refine Lt.ti (v := ?_) hS1 ?_ ?_
         rotate_left 1
         ·rintro w ⟨hs1, hs2⟩; obtain ⟨c0, c1⟩ := blk_c hs1; obtain ⟨c2, c3⟩ := own_row hs2 j hj rfl; go_simp; first | done | with_reducible rfl
         simp only [gX]
        refine Lt.sp (i := 10) (fun K hK => ?_)
        go_simp
        refine hK.out _ _ (fun h => absurd rfl h) (fun _ => ?_)
        clear hK K
        refine Lt.done (by kernel_rfl) ?_ _
        obtain ⟨nm, enm, hnm⟩ : ∃ y : ByteArray, (cx l2 j).t.name = y /\ y.size <= 50000 := ⟨_, rfl, (HS.out.bd.t _ (cx_mem hj)).1⟩
        rw [enm]
        clear enm
        try simp only [gX]
        go_wp2_with fail
        refine (l2Lit_any _ _).mono ?_
        rintro e y1 ⟨rfl, hb1⟩
        replace HS := hid (HS.out.below hb1)
        replace HR := hid (HR.out.below hBw hb1)
        replace HQ := hid (blk_below HQ.out hb1)
        replace HPB := hid (HPB.out.below hb1)
        clear hb1
        go_wp2_with fail
        refine (l2Op_any _ _).mono ?_
        rintro e y2 ⟨rfl, hb1⟩
        replace HS := hid (HS.out.below hb1)
        replace HR := hid (HR.out.below hBw hb1)
        replace HQ := hid (blk_below HQ.out hb1)
        replace HPB := hid (HPB.out.below hb1)
        clear hb1
        go_wp2_with fail
        refine (HR.out.text hBw (by omega)).mono ?_
        rintro e y3 ⟨t3, rfl, ht3, hr1, hg1⟩
        replace HS := hid (HS.out.gb hg1 (by omega))
        replace HQ := hid (blk_gb HQ.out hg1 (by omega))
        replace HPB := hid (HPB.out.gb hg1 hRw hpb)
        replace HR := hid hr1
        clear hg1 hr1
        go_wp2_with fail
        refine (l2Lit_any _ _).mono ?_
        rintro e y4 ⟨rfl, hb1⟩
        replace HS := hid (HS.out.below hb1)
        replace HR := hid (HR.out.below hBw hb1)
        replace HQ := hid (blk_below HQ.out hb1)
        replace HPB := hid (HPB.out.below hb1)
        clear hb1
        go_wp2_with fail
        refine (l2Op_any _ _).mono ?_
        rintro e y5 ⟨rfl, hb1⟩
        replace HS := hid (HS.out.below hb1)
        replace HR := hid (HR.out.below hBw hb1)
        replace HQ := hid (blk_below HQ.out hb1)
        replace HPB := hid (HPB.out.below hb1)
        clear hb1
        go_wp2_with fail
        refine (HR.out.pick (by omega) 9 (by omega) (by omega)).mono ?_
        rintro e y6 ⟨q9, rfl, hq9, hr1, hg1⟩
        replace HS := hid (HS.out.gb hg1 (by omega))
        replace HQ := hid (blk_gb HQ.out hg1 (by omega))
        replace HPB := hid (HPB.out.gb hg1 hRw hpb)
        replace HR := hid hr1
        clear hg1 hr1
        go_wp2_with fail
        refine (l2OpN_any _ _ _).mono ?_
        rintro e y7 ⟨rfl, hb1⟩
        replace HS := hid (HS.out.below hb1)
        replace HR := hid (HR.out.below hBw hb1)
        replace HQ := hid (blk_below HQ.out hb1)
        replace HPB := hid (HPB.out.below hb1)
        clear hb1
        go_wp2_with fail
        refine (l2Op_any _ _).mono ?_
        rintro e y8 ⟨rfl, hb1⟩
        replace HS := hid (HS.out.below hb1)
        replace HR := hid (HR.out.below hBw hb1)
        replace HQ := hid (blk_below HQ.out hb1)
        replace HPB := hid (HPB.out.below hb1)
        clear hb1
        obtain ⟨cb, hcb⟩ := HPB.out.t
        have hs8 := HR.out.size
        have hpl := blkW_lt hcb
        obtain ⟨y9, e9⟩ : ∃ y, y8.alloc (.cells #[.int .i64 1, .string nm, .int .i64 0, .int .i64 12, .string ⟨#[]⟩, .int .i64 0, .int .i64 1, .string t3, .int .i64 0, .int .i64 2, .string ⟨#[]⟩, .int .i64 0, .int .i64 3, .string ⟨#[]⟩, .int .i64 (1 + (q9 : Int)), .int .i64 15, .string ⟨#[]⟩, .int .i64 0] 91) = y := ⟨_, rfl⟩
        have hb9 : Below y8.heap.size y8 y9 := by rw [<- e9]; exact (Below.refl _ _).alloc (Nat.le_refl _) _
        have h9 : y9.heap[y8.heap.size]? = some (.cells #[.int .i64 1, .string nm, .int .i64 0, .int .i64 12, .string ⟨#[]⟩, .int .i64 0, .int .i64 1, .string t3, .int .i64 0, .int .i64 2, .string ⟨#[]⟩, .int .i64 0, .int .i64 3, .string ⟨#[]⟩, .int .i64 (1 + (q9 : Int)), .int .i64 15, .string ⟨#[]⟩, .int .i64 0] 91 (0, 0)) := by rw [<- e9]; exact heapW_new _ _
        replace hcb := blk_below hcb hb9
        replace HS := hid (HS.out.below hb9)
        replace HR := hid (HR.out.below hBw hb9)
        replace HQ := hid (blk_below HQ.out hb9)
        replace HPB := hid (HPB.out.below hb9)
        clear hb9
        have hc31 : ∃ c3, y9.heap[w5.heap.size]? = some (.cells #[c3] 37 (0, 0)) := by obtain ⟨c3, _, h3, _⟩ := HPB.out; exact ⟨c3, h3⟩
        obtain ⟨c3, h31⟩ := hc31
        have d31 := blk_c1 h31
        have f31 := fun j => Lib.frozen_of_heap h31 j
        have HP2 := hid (HPB.out.put (is := [⟨1, nm, 0⟩, ⟨12, ⟨#[]⟩, 0⟩, ⟨1, t3, 0⟩, ⟨2, ⟨#[]⟩, 0⟩, ⟨3, ⟨#[]⟩, 1 + (q9 : Int)⟩, ⟨15, ⟨#[]⟩, 0⟩]) (own_lit (n := 6) h9 hs8 rfl rfl (by omega)) (by simp) (by simp) (short6 hnm (Nat.zero_le _) (by show t3.size <= 50000; omega) (Nat.zero_le _) (Nat.zero_le _) (Nat.zero_le _)))
        have HS9 := hid (HS.out.set (j := 0) ⟨_, h31⟩ (by decide) (by decide) (by decide) (by omega) (.slice (some ⟨y8.heap.size, 0, none⟩) 6 6))
        have HQ9 := hid (blk_set HQ.out (c := w5.heap.size) (j := 0) (by omega) (.slice (some ⟨y8.heap.size, 0, none⟩) 6 6))
        have HR9 := hid (HR.out.set (b := w5.heap.size) (j := 0) hBw hpb (.slice (some ⟨y8.heap.size, 0, none⟩) 6 6))
        clear HS HQ HR HPB hcb h9 h31 hs8 hpl
        have HS := HS9; have HQ := HQ9; have HR := HR9; have HPB := HP2; clear HS9 HQ9 HR9 HP2
        go_wp2_with fail
        clear e9
        obtain ⟨yz, ez⟩ : ∃ y, y9.setCell ⟨w5.heap.size, 0, none⟩ (.slice (some ⟨y8.heap.size, 0, none⟩) 6 6) = y := ⟨_, rfl⟩
        rw [ez] at HS HQ HR HPB ⊢
        clear ez
        obtain ⟨cc, ci, hcb, hco, hc0, hc4, hct⟩ := HPB.out
        have HCB := hid hcb
        have HCO := hid hco
        have HCT := hid hct
        clear hcb hco hct HPB
        obtain ⟨ca, cp, rfl, _⟩ := row3_ownD rfl HCO.out
        refine Lt.begin 10 (fun w' => w'.heap[P]? = some (.cells #[v1, (.slice (some ⟨g2, 0, none⟩) l2.length cp2)] 26 (0, 0)) /\ w'.heap[w5.heap.size]? = some (.cells #[.slice ca ci.length cp] 37 (0, 0))) (by kernel_rfl) ?_
        obtain ⟨wD, eD⟩ : ∃ y, yz.drew = y := ⟨_, rfl⟩
        rw [eD]
        have hbD : Below yz.heap.size yz wD := by rw [<- eD]; exact (Below.refl _ _).drew
        clear eD
        replace HS := hid (HS.out.below hbD)
        replace HR := hid (HR.out.below hBw hbD)
        replace HQ := hid (blk_below HQ.out hbD)
        replace HCB := hid (blk_below HCB.out hbD)
        replace HCO := hid (own_bel HCO.out hbD)
        have hS0 : (fun w' => w'.heap[P]? = some (.cells #[v1, (.slice (some ⟨g2, 0, none⟩) l2.length cp2)] 26 (0, 0)) /\ w'.heap[w5.heap.size]? = some (.cells #[.slice ca ci.length cp] 37 (0, 0))) wD := ⟨HS.out.blk, HCB.out⟩
        change K 0 _
        iterate 3
         refine Lt.ti (v := ?_) hS0 ?_ ?_
         rotate_left 1
         ·rintro w ⟨hs1, hs2⟩; obtain ⟨c0, c1⟩ := blk_c hs1; have c2 := blk_c1 hs2; go_simp; first | done | with_reducible rfl
         simp only [gX]
        refine Lt.ti (i := 5) (v := ?_) hS0 ?_ ?_
        rotate_left 1
        ·rintro w ⟨hs1, hs2⟩; obtain ⟨c0, c1⟩ := blk_c hs1; have c2 := blk_c1 hs2; go_simp; first | done | with_reducible rfl
        simp only [gX]
        refine Lt.sp (i := 3) (fun K hK => ?_)
        go_simp
        refine (l2Dec_any l2.length _ (by omega)).mono ?_
        rintro e wA ⟨rfl, hbA⟩
        obtain ⟨q, eq, hq⟩ : ∃ q, (⟨(Lib.decDigits l2.length).toArray⟩ : ByteArray) = q /\ q.size <= 10 := ⟨_, rfl, by have := dec_length 2 l2.length (by omega); show (Lib.decDigits l2.length).toArray.size <= 10; rw [List.size_toArray]; omega⟩
        rw [eq]
        clear eq
        have hqm : ¬ 9223372036854775807 < 1 + q.size := by omega
        replace HS := hid (HS.out.below hbA)
        replace HR := hid (HR.out.below hBw hbA)
        replace HQ := hid (blk_below HQ.out hbA)
        replace HCB := hid (blk_below HCB.out hbA)
        replace HCO := hid (own_bel HCO.out hbA)
        have hS1 : (fun w' => w'.heap[P]? = some (.cells #[v1, (.slice (some ⟨g2, 0, none⟩) l2.length cp2)] 26 (0, 0)) /\ w'.heap[w5.heap.size]? = some (.cells #[.slice ca ci.length cp] 37 (0, 0))) wA := ⟨HS.out.blk, HCB.out⟩
        refine hK.out _ _ (fun _ => hS1) (fun _ => ?_)
        clear hK K hbA
        try simp only [gX]
        refine Lt.ti (i := 4) (v := ?_) hS1 ?_ ?_
        rotate_left 1
        ·rintro w ⟨hs1, hs2⟩; obtain ⟨c0, c1⟩ := blk_c hs1; have c2 := blk_c1 hs2; go_simp; first | done | with_reducible rfl
        simp only [gX]
        refine Lt.ti (i := 6) (v := ?_) hS1 ?_ ?_
        rotate_left 1
        ·rintro w ⟨hs1, hs2⟩; obtain ⟨c0, c1⟩ := blk_c hs1; have c2 := blk_c1 hs2; go_simp; first | done | with_reducible rfl
        simp only [gX]
        refine Lt.sp (i := 7) (fun K hK => ?_)
        go_simp
        refine name_alloc (Q := fun x => K _ x) ?_
        intro wG hbwG HG
        try dsimp only
        replace HS := hid (HS.out.below hbwG)
        replace HR := hid (HR.out.below hBw hbwG)
        replace HQ := hid (blk_below HQ.out hbwG)
        replace HCB := hid (blk_below HCB.out hbwG)
        replace HCO := hid (own_bel HCO.out hbwG)
        have hS2 : (fun w' => w'.heap[P]? = some (.cells #[v1, (.slice (some ⟨g2, 0, none⟩) l2.length cp2)] 26 (0, 0)) /\ w'.heap[w5.heap.size]? = some (.cells #[.slice ca ci.length cp] 37 (0, 0))) wG := ⟨HS.out.blk, HCB.out⟩
        refine hK.out _ _ (fun _ => hS2) (fun _ => ?_)
        clear hK K hbwG
        try simp only [gX]
        refine Lt.sp (i := 8) (fun K hK => ?_)
        refine step_appT rfl (by rfl) w.heap.size (.slice (some ⟨g2, 0, none⟩) l2.length cp2) _ (tcV l2) (by rfl) HS.out.dw.t wA.heap.size _ _ rfl (by rfl) HG.out HR.out.size (by omega) ?_
        intro g' cap' w7 hown7 hgrow
        have HN := hid (HS.out.putT (s := ⟨_, ci⟩) (HCO.out) hgrow hown7 (by omega) ⟨by show (_ ++ _ : ByteArray).size <= 50000; rw [ByteArray.size_append]; show 1 + q.size <= 50000; omega, hc4, HCT.out⟩)
        have hrow : ∀ j, Value.ownBlock (.slice (some ⟨g2, 0, none⟩) l2.length cp2) = some j -> w.heap.size <= j := fun j hj => (HS.out.dw.t.lt j hj).1
        have HP7 := hid (HS.out.app hgrow (Or.inr rfl))
        have HR7 := hid ((HR.out.grow hBw hgrow hrow).set (b := P) (j := 1) hBw hPw (.slice (some ⟨g', 0, none⟩) (l2.length + 1) cap'))
        have HQ7 := hid (blk_set (blk_grow HQ.out hgrow (HasT.ne ⟨_, HQ.out⟩ HS.out.dw.t (by decide))) (by omega) (c := P) (j := 1) (.slice (some ⟨g', 0, none⟩) (l2.length + 1) cap'))
        obtain ⟨c0, c1⟩ := blk_c HP7.out
        have fz := fun j => Lib.frozen_of_heap HP7.out j
        have hS7 : (fun w' => w'.heap[P]? = some (.cells #[v1, (.slice (some ⟨g2, 0, none⟩) l2.length cp2)] 26 (0, 0)) /\ w'.heap[w5.heap.size]? = some (.cells #[.slice ca ci.length cp] 37 (0, 0))) w7 := ⟨HP7.out, blk_grow HCB.out hgrow (HasT.ne ⟨_, HCB.out⟩ HS.out.dw.t (by decide))⟩
        refine hK.out _ _ (fun _ => hS7) (fun _ => ?_)
        clear hK K hgrow hown7 hrow
        simp only [gX]
        refine Lt.ti (i := 9) (v := ?_) hS7 ?_ ?_
        rotate_left 1
        ·rintro w ⟨hs1, hs2⟩; obtain ⟨c0, c1⟩ := blk_c hs1; have c2 := blk_c1 hs2; go_simp; first | done | with_reducible rfl
        simp only [gX]
        refine Lt.sp (i := 10) (fun K hK => ?_)
        go_simp
        refine hK.out _ _ (fun h => absurd rfl h) (fun _ => ?_)
        clear hK K
        refine Lt.done (by kernel_rfl) ?_ _
        go_wp2
        go_roundw
        case rel => exact ⟨l2.length + 1, _, _, by omega, by go_num, by simp, HN, hid (HR7.out.more (by omega)), HQ7, hid (all_snoc HC.out hc0)⟩
        case measure => simp [intOf]; omega
       ·have hz0I : ¬ ((z : Int) = 0) := by omega
        go_wp2_with fail
        obtain ⟨cc, ci, hcb, hco, hc0, hc4, hct⟩ := HPB.out
        have HCB := hid hcb
        have HCO := hid hco
        have HCT := hid hct
        clear hcb hco hct HPB
        obtain ⟨ca, cp, rfl, _⟩ := row3_ownD rfl HCO.out
        refine Lt.begin 10 (fun w' => w'.heap[P]? = some (.cells #[v1, (.slice (some ⟨g2, 0, none⟩) l2.length cp2)] 26 (0, 0)) /\ w'.heap[w5.heap.size]? = some (.cells #[.slice ca ci.length cp] 37 (0, 0))) (by kernel_rfl) ?_
        obtain ⟨wD, eD⟩ : ∃ y, w8.drew = y := ⟨_, rfl⟩
        rw [eD]
        have hbD : Below w8.heap.size w8 wD := by rw [<- eD]; exact (Below.refl _ _).drew
        clear eD
        replace HS := hid (HS.out.below hbD)
        replace HR := hid (HR.out.below hBw hbD)
        replace HQ := hid (blk_below HQ.out hbD)
        replace HCB := hid (blk_below HCB.out hbD)
        replace HCO := hid (own_bel HCO.out hbD)
        have hS0 : (fun w' => w'.heap[P]? = some (.cells #[v1, (.slice (some ⟨g2, 0, none⟩) l2.length cp2)] 26 (0, 0)) /\ w'.heap[w5.heap.size]? = some (.cells #[.slice ca ci.length cp] 37 (0, 0))) wD := ⟨HS.out.blk, HCB.out⟩
        change K 0 _
        iterate 3
         refine Lt.ti (v := ?_) hS0 ?_ ?_
         rotate_left 1
         ·rintro w ⟨hs1, hs2⟩; obtain ⟨c0, c1⟩ := blk_c hs1; have c2 := blk_c1 hs2; go_simp; first | done | with_reducible rfl
         simp only [gX]
        refine Lt.ti (i := 5) (v := ?_) hS0 ?_ ?_
        rotate_left 1
        ·rintro w ⟨hs1, hs2⟩; obtain ⟨c0, c1⟩ := blk_c hs1; have c2 := blk_c1 hs2; go_simp; first | done | with_reducible rfl
        simp only [gX]
        refine Lt.sp (i := 3) (fun K hK => ?_)
        go_simp
        refine (l2Dec_any l2.length _ (by omega)).mono ?_
        rintro e wA ⟨rfl, hbA⟩
        obtain ⟨q, eq, hq⟩ : ∃ q, (⟨(Lib.decDigits l2.length).toArray⟩ : ByteArray) = q /\ q.size <= 10 := ⟨_, rfl, by have := dec_length 2 l2.length (by omega); show (Lib.decDigits l2.length).toArray.size <= 10; rw [List.size_toArray]; omega⟩
        rw [eq]
        clear eq
        have hqm : ¬ 9223372036854775807 < 1 + q.size := by omega
        replace HS := hid (HS.out.below hbA)
        replace HR := hid (HR.out.below hBw hbA)
        replace HQ := hid (blk_below HQ.out hbA)
        replace HCB := hid (blk_below HCB.out hbA)
        replace HCO := hid (own_bel HCO.out hbA)
        have hS1 : (fun w' => w'.heap[P]? = some (.cells #[v1, (.slice (some ⟨g2, 0, none⟩) l2.length cp2)] 26 (0, 0)) /\ w'.heap[w5.heap.size]? = some (.cells #[.slice ca ci.length cp] 37 (0, 0))) wA := ⟨HS.out.blk, HCB.out⟩
        refine hK.out _ _ (fun _ => hS1) (fun _ => ?_)
        clear hK K hbA
        try simp only [gX]
        refine Lt.ti (i := 4) (v := ?_) hS1 ?_ ?_
        rotate_left 1
        ·rintro w ⟨hs1, hs2⟩; obtain ⟨c0, c1⟩ := blk_c hs1; have c2 := blk_c1 hs2; go_simp; first | done | with_reducible rfl
        simp only [gX]
        refine Lt.ti (i := 6) (v := ?_) hS1 ?_ ?_
        rotate_left 1
        ·rintro w ⟨hs1, hs2⟩; obtain ⟨c0, c1⟩ := blk_c hs1; have c2 := blk_c1 hs2; go_simp; first | done | with_reducible rfl
        simp only [gX]
        refine Lt.sp (i := 7) (fun K hK => ?_)
        go_simp
        refine name_alloc (Q := fun x => K _ x) ?_
        intro wG hbwG HG
        try dsimp only
        replace HS := hid (HS.out.below hbwG)
        replace HR := hid (HR.out.below hBw hbwG)
        replace HQ := hid (blk_below HQ.out hbwG)
        replace HCB := hid (blk_below HCB.out hbwG)
        replace HCO := hid (own_bel HCO.out hbwG)
        have hS2 : (fun w' => w'.heap[P]? = some (.cells #[v1, (.slice (some ⟨g2, 0, none⟩) l2.length cp2)] 26 (0, 0)) /\ w'.heap[w5.heap.size]? = some (.cells #[.slice ca ci.length cp] 37 (0, 0))) wG := ⟨HS.out.blk, HCB.out⟩
        refine hK.out _ _ (fun _ => hS2) (fun _ => ?_)
        clear hK K hbwG
        try simp only [gX]
        refine Lt.sp (i := 8) (fun K hK => ?_)
        refine step_appT rfl (by rfl) w.heap.size (.slice (some ⟨g2, 0, none⟩) l2.length cp2) _ (tcV l2) (by rfl) HS.out.dw.t wA.heap.size _ _ rfl (by rfl) HG.out HR.out.size (by omega) ?_
        intro g' cap' w7 hown7 hgrow
        have HN := hid (HS.out.putT (s := ⟨_, ci⟩) (HCO.out) hgrow hown7 (by omega) ⟨by show (_ ++ _ : ByteArray).size <= 50000; rw [ByteArray.size_append]; show 1 + q.size <= 50000; omega, hc4, HCT.out⟩)
        have hrow : ∀ j, Value.ownBlock (.slice (some ⟨g2, 0, none⟩) l2.length cp2) = some j -> w.heap.size <= j := fun j hj => (HS.out.dw.t.lt j hj).1
        have HP7 := hid (HS.out.app hgrow (Or.inr rfl))
        have HR7 := hid ((HR.out.grow hBw hgrow hrow).set (b := P) (j := 1) hBw hPw (.slice (some ⟨g', 0, none⟩) (l2.length + 1) cap'))
        have HQ7 := hid (blk_set (blk_grow HQ.out hgrow (HasT.ne ⟨_, HQ.out⟩ HS.out.dw.t (by decide))) (by omega) (c := P) (j := 1) (.slice (some ⟨g', 0, none⟩) (l2.length + 1) cap'))
        obtain ⟨c0, c1⟩ := blk_c HP7.out
        have fz := fun j => Lib.frozen_of_heap HP7.out j
        have hS7 : (fun w' => w'.heap[P]? = some (.cells #[v1, (.slice (some ⟨g2, 0, none⟩) l2.length cp2)] 26 (0, 0)) /\ w'.heap[w5.heap.size]? = some (.cells #[.slice ca ci.length cp] 37 (0, 0))) w7 := ⟨HP7.out, blk_grow HCB.out hgrow (HasT.ne ⟨_, HCB.out⟩ HS.out.dw.t (by decide))⟩
        refine hK.out _ _ (fun _ => hS7) (fun _ => ?_)
        clear hK K hgrow hown7 hrow
        simp only [gX]
        refine Lt.ti (i := 9) (v := ?_) hS7 ?_ ?_
        rotate_left 1
        ·rintro w ⟨hs1, hs2⟩; obtain ⟨c0, c1⟩ := blk_c hs1; have c2 := blk_c1 hs2; go_simp; first | done | with_reducible rfl
        simp only [gX]
        refine Lt.sp (i := 10) (fun K hK => ?_)
        go_simp
        refine hK.out _ _ (fun h => absurd rfl h) (fun _ => ?_)
        clear hK K
        refine Lt.done (by kernel_rfl) ?_ _
        go_wp2
        go_roundw
        case rel => exact ⟨l2.length + 1, _, _, by omega, by go_num, by simp, HN, hid (HR7.out.more (by omega)), HQ7, hid (all_snoc HC.out hc0)⟩
        case measure => simp [intOf]; omega
      ·have hy0I : ¬ ((y : Int) = 0) := by omega
       go_wp2_with fail
       refine (HR.out.pick (by omega) 2 (by omega) (by omega)).mono ?_
       rintro e w8 ⟨z, rfl, hz, hr1, hg1⟩
       replace HS := hid (HS.out.gb hg1 (by omega))
       replace HQ := hid (blk_gb HQ.out hg1 (by omega))
       replace HPB := hid (HPB.out.gb hg1 hRw hpb)
       replace HR := hid hr1
       clear hg1 hr1
       rcases Nat.eq_zero_or_pos z with rfl | hz0
       ·go_wp2_with fail
        refine Lt.begin 10 (fun w' => w'.heap[P]? = some (.cells #[v1, .slice (some ⟨g2, 0, none⟩) l2.length cp2] 26 (0, 0)) /\ w'.ownsRow w.heap.size 63 2 (.slice (some ⟨g2, 0, none⟩) l2.length cp2) l2.length (tcV l2)) (by kernel_rfl) ?_
        obtain ⟨wD, eD⟩ : ∃ y, w8.drew = y := ⟨_, rfl⟩
        rw [eD]
        have hbD : Below w8.heap.size w8 wD := by rw [<- eD]; exact (Below.refl _ _).drew
        clear eD
        replace HS := hid (HS.out.below hbD)
        replace HR := hid (HR.out.below hBw hbD)
        replace HQ := hid (blk_below HQ.out hbD)
        replace HPB := hid (HPB.out.below hbD)
        have hS0 : (fun w' => w'.heap[P]? = some (.cells #[v1, .slice (some ⟨g2, 0, none⟩) l2.length cp2] 26 (0, 0)) /\ w'.ownsRow w.heap.size 63 2 (.slice (some ⟨g2, 0, none⟩) l2.length cp2) l2.length (tcV l2)) wD := ⟨HS.out.blk, HS.out.dw.t⟩
        change K 0 _
        iterate 6
         refine Lt.ti (v := ?_) hS0 ?_ ?_
         rotate_left 1
         ·rintro w ⟨hs1, hs2⟩; obtain ⟨c0, c1⟩ := blk_c hs1; go_simp; first | done | with_reducible rfl
         simp only [gX]
        refine Lt.sp (i := 6) (fun K hK => ?_)
        go_simp
        refine (HR.out.pick (by omega) (l2.length : Int) (by omega) (by omega)).mono ?_
        rintro e wA ⟨j, rfl, hj, hrA, hgA⟩
        replace hj : j < l2.length := by omega
        replace HS := hid (HS.out.gb hgA (by omega))
        replace HR := hid hrA
        replace HQ := hid (blk_gb HQ.out hgA (by omega))
        replace HPB := hid (HPB.out.gb hgA hRw hpb)
        have hS1 : (fun w' => w'.heap[P]? = some (.cells #[v1, .slice (some ⟨g2, 0, none⟩) l2.length cp2] 26 (0, 0)) /\ w'.ownsRow w.heap.size 63 2 (.slice (some ⟨g2, 0, none⟩) l2.length cp2) l2.length (tcV l2)) wA := ⟨HS.out.blk, HS.out.dw.t⟩
        refine hK.out _ _ (fun _ => hS1) (fun _ => ?_)
        clear hK K hgA hrA
        try simp only [gX]
        have hjI : (j : Int) < (l2.length : Int) := by omega
        change K 7 _
        iterate 3
         refine Lt.ti (v := ?_) hS1 ?_ ?_
         rotate_left 1
         ·rintro w ⟨hs1, hs2⟩; obtain ⟨c0, c1⟩ := blk_c hs1; obtain ⟨c2, c3⟩ := own_row hs2 j hj rfl; go_simp; first | done | with_reducible rfl
         simp only [gX]
        refine Lt.sp (i := 10) (fun K hK => ?_)
        go_simp
        refine hK.out _ _ (fun h => absurd rfl h) (fun _ => ?_)
        clear hK K
        refine Lt.done (by kernel_rfl) ?_ _
        obtain ⟨nm, enm, hnm⟩ : ∃ y : ByteArray, (cx l2 j).t.name = y /\ y.size <= 50000 := ⟨_, rfl, (HS.out.bd.t _ (cx_mem hj)).1⟩
        rw [enm]
        clear enm
        try simp only [gX]
        go_wp2_with fail
        refine (l2Lit_any _ _).mono ?_
        rintro e y1 ⟨rfl, hb1⟩
        replace HS := hid (HS.out.below hb1)
        replace HR := hid (HR.out.below hBw hb1)
        replace HQ := hid (blk_below HQ.out hb1)
        replace HPB := hid (HPB.out.below hb1)
        clear hb1
        go_wp2_with fail
        refine (l2Op_any _ _).mono ?_
        rintro e y2 ⟨rfl, hb1⟩
        replace HS := hid (HS.out.below hb1)
        replace HR := hid (HR.out.below hBw hb1)
        replace HQ := hid (blk_below HQ.out hb1)
        replace HPB := hid (HPB.out.below hb1)
        clear hb1
        go_wp2_with fail
        refine (HR.out.text hBw (by omega)).mono ?_
        rintro e y3 ⟨t3, rfl, ht3, hr1, hg1⟩
        replace HS := hid (HS.out.gb hg1 (by omega))
        replace HQ := hid (blk_gb HQ.out hg1 (by omega))
        replace HPB := hid (HPB.out.gb hg1 hRw hpb)
        replace HR := hid hr1
        clear hg1 hr1
        go_wp2_with fail
        refine (l2Lit_any _ _).mono ?_
        rintro e y4 ⟨rfl, hb1⟩
        replace HS := hid (HS.out.below hb1)
        replace HR := hid (HR.out.below hBw hb1)
        replace HQ := hid (blk_below HQ.out hb1)
        replace HPB := hid (HPB.out.below hb1)
        clear hb1
        go_wp2_with fail
        refine (l2Op_any _ _).mono ?_
        rintro e y5 ⟨rfl, hb1⟩
        replace HS := hid (HS.out.below hb1)
        replace HR := hid (HR.out.below hBw hb1)
        replace HQ := hid (blk_below HQ.out hb1)
        replace HPB := hid (HPB.out.below hb1)
        clear hb1
        go_wp2_with fail
        refine (HR.out.pick (by omega) 9 (by omega) (by omega)).mono ?_
        rintro e y6 ⟨q9, rfl, hq9, hr1, hg1⟩
        replace HS := hid (HS.out.gb hg1 (by omega))
        replace HQ := hid (blk_gb HQ.out hg1 (by omega))
        replace HPB := hid (HPB.out.gb hg1 hRw hpb)
        replace HR := hid hr1
        clear hg1 hr1
        go_wp2_with fail
        refine (l2OpN_any _ _ _).mono ?_
        rintro e y7 ⟨rfl, hb1⟩
        replace HS := hid (HS.out.below hb1)
        replace HR := hid (HR.out.below hBw hb1)
        replace HQ := hid (blk_below HQ.out hb1)
        replace HPB := hid (HPB.out.below hb1)
        clear hb1
        go_wp2_with fail
        refine (l2Op_any _ _).mono ?_
        rintro e y8 ⟨rfl, hb1⟩
        replace HS := hid (HS.out.below hb1)
        replace HR := hid (HR.out.below hBw hb1)
        replace HQ := hid (blk_below HQ.out hb1)
        replace HPB := hid (HPB.out.below hb1)
        clear hb1
        obtain ⟨cb, hcb⟩ := HPB.out.t
        have hs8 := HR.out.size
        have hpl := blkW_lt hcb
        obtain ⟨y9, e9⟩ : ∃ y, y8.alloc (.cells #[.int .i64 1, .string nm, .int .i64 0, .int .i64 12, .string ⟨#[]⟩, .int .i64 0, .int .i64 1, .string t3, .int .i64 0, .int .i64 2, .string ⟨#[]⟩, .int .i64 0, .int .i64 3, .string ⟨#[]⟩, .int .i64 (1 + (q9 : Int)), .int .i64 15, .string ⟨#[]⟩, .int .i64 0] 91) = y := ⟨_, rfl⟩
        have hb9 : Below y8.heap.size y8 y9 := by rw [<- e9]; exact (Below.refl _ _).alloc (Nat.le_refl _) _
        have h9 : y9.heap[y8.heap.size]? = some (.cells #[.int .i64 1, .string nm, .int .i64 0, .int .i64 12, .string ⟨#[]⟩, .int .i64 0, .int .i64 1, .string t3, .int .i64 0, .int .i64 2, .string ⟨#[]⟩, .int .i64 0, .int .i64 3, .string ⟨#[]⟩, .int .i64 (1 + (q9 : Int)), .int .i64 15, .string ⟨#[]⟩, .int .i64 0] 91 (0, 0)) := by rw [<- e9]; exact heapW_new _ _
        replace hcb := blk_below hcb hb9
        replace HS := hid (HS.out.below hb9)
        replace HR := hid (HR.out.below hBw hb9)
        replace HQ := hid (blk_below HQ.out hb9)
        replace HPB := hid (HPB.out.below hb9)
        clear hb9
        have hc31 : ∃ c3, y9.heap[w5.heap.size]? = some (.cells #[c3] 37 (0, 0)) := by obtain ⟨c3, _, h3, _⟩ := HPB.out; exact ⟨c3, h3⟩
        obtain ⟨c3, h31⟩ := hc31
        have d31 := blk_c1 h31
        have f31 := fun j => Lib.frozen_of_heap h31 j
        have HP2 := hid (HPB.out.put (is := [⟨1, nm, 0⟩, ⟨12, ⟨#[]⟩, 0⟩, ⟨1, t3, 0⟩, ⟨2, ⟨#[]⟩, 0⟩, ⟨3, ⟨#[]⟩, 1 + (q9 : Int)⟩, ⟨15, ⟨#[]⟩, 0⟩]) (own_lit (n := 6) h9 hs8 rfl rfl (by omega)) (by simp) (by simp) (short6 hnm (Nat.zero_le _) (by show t3.size <= 50000; omega) (Nat.zero_le _) (Nat.zero_le _) (Nat.zero_le _)))
        have HS9 := hid (HS.out.set (j := 0) ⟨_, h31⟩ (by decide) (by decide) (by decide) (by omega) (.slice (some ⟨y8.heap.size, 0, none⟩) 6 6))
        have HQ9 := hid (blk_set HQ.out (c := w5.heap.size) (j := 0) (by omega) (.slice (some ⟨y8.heap.size, 0, none⟩) 6 6))
        have HR9 := hid (HR.out.set (b := w5.heap.size) (j := 0) hBw hpb (.slice (some ⟨y8.heap.size, 0, none⟩) 6 6))
        clear HS HQ HR HPB hcb h9 h31 hs8 hpl
        have HS := HS9; have HQ := HQ9; have HR := HR9; have HPB := HP2; clear HS9 HQ9 HR9 HP2
        go_wp2_with fail
        clear e9
        obtain ⟨yz, ez⟩ : ∃ y, y9.setCell ⟨w5.heap.size, 0, none⟩ (.slice (some ⟨y8.heap.size, 0, none⟩) 6 6) = y := ⟨_, rfl⟩
        rw [ez] at HS HQ HR HPB ⊢
        clear ez
        obtain ⟨cc, ci, hcb, hco, hc0, hc4, hct⟩ := HPB.out
        have HCB := hid hcb
        have HCO := hid hco
        have HCT := hid hct
        clear hcb hco hct HPB
        obtain ⟨ca, cp, rfl, _⟩ := row3_ownD rfl HCO.out
        refine Lt.begin 10 (fun w' => w'.heap[P]? = some (.cells #[v1, (.slice (some ⟨g2, 0, none⟩) l2.length cp2)] 26 (0, 0)) /\ w'.heap[w5.heap.size]? = some (.cells #[.slice ca ci.length cp] 37 (0, 0))) (by kernel_rfl) ?_
        obtain ⟨wD, eD⟩ : ∃ y, yz.drew = y := ⟨_, rfl⟩
        rw [eD]
        have hbD : Below yz.heap.size yz wD := by rw [<- eD]; exact (Below.refl _ _).drew
        clear eD
        replace HS := hid (HS.out.below hbD)
        replace HR := hid (HR.out.below hBw hbD)
        replace HQ := hid (blk_below HQ.out hbD)
        replace HCB := hid (blk_below HCB.out hbD)
        replace HCO := hid (own_bel HCO.out hbD)
        have hS0 : (fun w' => w'.heap[P]? = some (.cells #[v1, (.slice (some ⟨g2, 0, none⟩) l2.length cp2)] 26 (0, 0)) /\ w'.heap[w5.heap.size]? = some (.cells #[.slice ca ci.length cp] 37 (0, 0))) wD := ⟨HS.out.blk, HCB.out⟩
        change K 0 _
        iterate 3
         refine Lt.ti (v := ?_) hS0 ?_ ?_
         rotate_left 1
         ·rintro w ⟨hs1, hs2⟩; obtain ⟨c0, c1⟩ := blk_c hs1; have c2 := blk_c1 hs2; go_simp; first | done | with_reducible rfl
         simp only [gX]
        refine Lt.ti (i := 5) (v := ?_) hS0 ?_ ?_
        rotate_left 1
        ·rintro w ⟨hs1, hs2⟩; obtain ⟨c0, c1⟩ := blk_c hs1; have c2 := blk_c1 hs2; go_simp; first | done | with_reducible rfl
        simp only [gX]
        refine Lt.sp (i := 3) (fun K hK => ?_)
        go_simp
        refine (l2Dec_any l2.length _ (by omega)).mono ?_
        rintro e wA ⟨rfl, hbA⟩
        obtain ⟨q, eq, hq⟩ : ∃ q, (⟨(Lib.decDigits l2.length).toArray⟩ : ByteArray) = q /\ q.size <= 10 := ⟨_, rfl, by have := dec_length 2 l2.length (by omega); show (Lib.decDigits l2.length).toArray.size <= 10; rw [List.size_toArray]; omega⟩
        rw [eq]
        clear eq
        have hqm : ¬ 9223372036854775807 < 1 + q.size := by omega
        replace HS := hid (HS.out.below hbA)
        replace HR := hid (HR.out.below hBw hbA)
        replace HQ := hid (blk_below HQ.out hbA)
        replace HCB := hid (blk_below HCB.out hbA)
        replace HCO := hid (own_bel HCO.out hbA)
        have hS1 : (fun w' => w'.heap[P]? = some (.cells #[v1, (.slice (some ⟨g2, 0, none⟩) l2.length cp2)] 26 (0, 0)) /\ w'.heap[w5.heap.size]? = some (.cells #[.slice ca ci.length cp] 37 (0, 0))) wA := ⟨HS.out.blk, HCB.out⟩
        refine hK.out _ _ (fun _ => hS1) (fun _ => ?_)
        clear hK K hbA
        try simp only [gX]
        refine Lt.ti (i := 4) (v := ?_) hS1 ?_ ?_
        rotate_left 1
        ·rintro w ⟨hs1, hs2⟩; obtain ⟨c0, c1⟩ := blk_c hs1; have c2 := blk_c1 hs2; go_simp; first | done | with_reducible rfl
        simp only [gX]
        refine Lt.ti (i := 6) (v := ?_) hS1 ?_ ?_
        rotate_left 1
        ·rintro w ⟨hs1, hs2⟩; obtain ⟨c0, c1⟩ := blk_c hs1; have c2 := blk_c1 hs2; go_simp; first | done | with_reducible rfl
        simp only [gX]
        refine Lt.sp (i := 7) (fun K hK => ?_)
        go_simp
        refine name_alloc (Q := fun x => K _ x) ?_
        intro wG hbwG HG
        try dsimp only
        replace HS := hid (HS.out.below hbwG)
        replace HR := hid (HR.out.below hBw hbwG)
        replace HQ := hid (blk_below HQ.out hbwG)
        replace HCB := hid (blk_below HCB.out hbwG)
        replace HCO := hid (own_bel HCO.out hbwG)
        have hS2 : (fun w' => w'.heap[P]? = some (.cells #[v1, (.slice (some ⟨g2, 0, none⟩) l2.length cp2)] 26 (0, 0)) /\ w'.heap[w5.heap.size]? = some (.cells #[.slice ca ci.length cp] 37 (0, 0))) wG := ⟨HS.out.blk, HCB.out⟩
        refine hK.out _ _ (fun _ => hS2) (fun _ => ?_)
        clear hK K hbwG
        try simp only [gX]
        refine Lt.sp (i := 8) (fun K hK => ?_)
        refine step_appT rfl (by rfl) w.heap.size (.slice (some ⟨g2, 0, none⟩) l2.length cp2) _ (tcV l2) (by rfl) HS.out.dw.t wA.heap.size _ _ rfl (by rfl) HG.out HR.out.size (by omega) ?_
        intro g' cap' w7 hown7 hgrow
        have HN := hid (HS.out.putT (s := ⟨_, ci⟩) (HCO.out) hgrow hown7 (by omega) ⟨by show (_ ++ _ : ByteArray).size <= 50000; rw [ByteArray.size_append]; show 1 + q.size <= 50000; omega, hc4, HCT.out⟩)
        have hrow : ∀ j, Value.ownBlock (.slice (some ⟨g2, 0, none⟩) l2.length cp2) = some j -> w.heap.size <= j := fun j hj => (HS.out.dw.t.lt j hj).1
        have HP7 := hid (HS.out.app hgrow (Or.inr rfl))
        have HR7 := hid ((HR.out.grow hBw hgrow hrow).set (b := P) (j := 1) hBw hPw (.slice (some ⟨g', 0, none⟩) (l2.length + 1) cap'))
        have HQ7 := hid (blk_set (blk_grow HQ.out hgrow (HasT.ne ⟨_, HQ.out⟩ HS.out.dw.t (by decide))) (by omega) (c := P) (j := 1) (.slice (some ⟨g', 0, none⟩) (l2.length + 1) cap'))
        obtain ⟨c0, c1⟩ := blk_c HP7.out
        have fz := fun j => Lib.frozen_of_heap HP7.out j
        have hS7 : (fun w' => w'.heap[P]? = some (.cells #[v1, (.slice (some ⟨g2, 0, none⟩) l2.length cp2)] 26 (0, 0)) /\ w'.heap[w5.heap.size]? = some (.cells #[.slice ca ci.length cp] 37 (0, 0))) w7 := ⟨HP7.out, blk_grow HCB.out hgrow (HasT.ne ⟨_, HCB.out⟩ HS.out.dw.t (by decide))⟩
        refine hK.out _ _ (fun _ => hS7) (fun _ => ?_)
        clear hK K hgrow hown7 hrow
        simp only [gX]
        refine Lt.ti (i := 9) (v := ?_) hS7 ?_ ?_
        rotate_left 1
        ·rintro w ⟨hs1, hs2⟩; obtain ⟨c0, c1⟩ := blk_c hs1; have c2 := blk_c1 hs2; go_simp; first | done | with_reducible rfl
        simp only [gX]
        refine Lt.sp (i := 10) (fun K hK => ?_)
        go_simp
        refine hK.out _ _ (fun h => absurd rfl h) (fun _ => ?_)
        clear hK K
        refine Lt.done (by kernel_rfl) ?_ _
        go_wp2
        go_roundw
        case rel => exact ⟨l2.length + 1, _, _, by omega, by go_num, by simp, HN, hid (HR7.out.more (by omega)), HQ7, hid (all_snoc HC.out hc0)⟩
        case measure => simp [intOf]; omega
       ·have hz0I : ¬ ((z : Int) = 0) := by omega
        go_wp2_with fail
        obtain ⟨cc, ci, hcb, hco, hc0, hc4, hct⟩ := HPB.out
        have HCB := hid hcb
        have HCO := hid hco
        have HCT := hid hct
        clear hcb hco hct HPB
        obtain ⟨ca, cp, rfl, _⟩ := row3_ownD rfl HCO.out
        refine Lt.begin 10 (fun w' => w'.heap[P]? = some (.cells #[v1, (.slice (some ⟨g2, 0, none⟩) l2.length cp2)] 26 (0, 0)) /\ w'.heap[w5.heap.size]? = some (.cells #[.slice ca ci.length cp] 37 (0, 0))) (by kernel_rfl) ?_
        obtain ⟨wD, eD⟩ : ∃ y, w8.drew = y := ⟨_, rfl⟩
        rw [eD]
        have hbD : Below w8.heap.size w8 wD := by rw [<- eD]; exact (Below.refl _ _).drew
        clear eD
        replace HS := hid (HS.out.below hbD)
        replace HR := hid (HR.out.below hBw hbD)
        replace HQ := hid (blk_below HQ.out hbD)
        replace HCB := hid (blk_below HCB.out hbD)
        replace HCO := hid (own_bel HCO.out hbD)
        have hS0 : (fun w' => w'.heap[P]? = some (.cells #[v1, (.slice (some ⟨g2, 0, none⟩) l2.length cp2)] 26 (0, 0)) /\ w'.heap[w5.heap.size]? = some (.cells #[.slice ca ci.length cp] 37 (0, 0))) wD := ⟨HS.out.blk, HCB.out⟩
        change K 0 _
        iterate 3
         refine Lt.ti (v := ?_) hS0 ?_ ?_
         rotate_left 1
         ·rintro w ⟨hs1, hs2⟩; obtain ⟨c0, c1⟩ := blk_c hs1; have c2 := blk_c1 hs2; go_simp; first | done | with_reducible rfl
         simp only [gX]
        refine Lt.ti (i := 5) (v := ?_) hS0 ?_ ?_
        rotate_left 1
        ·rintro w ⟨hs1, hs2⟩; obtain ⟨c0, c1⟩ := blk_c hs1; have c2 := blk_c1 hs2; go_simp; first | done | with_reducible rfl
        simp only [gX]
        refine Lt.sp (i := 3) (fun K hK => ?_)
        go_simp
        refine (l2Dec_any l2.length _ (by omega)).mono ?_
        rintro e wA ⟨rfl, hbA⟩
        obtain ⟨q, eq, hq⟩ : ∃ q, (⟨(Lib.decDigits l2.length).toArray⟩ : ByteArray) = q /\ q.size <= 10 := ⟨_, rfl, by have := dec_length 2 l2.length (by omega); show (Lib.decDigits l2.length).toArray.size <= 10; rw [List.size_toArray]; omega⟩
        rw [eq]
        clear eq
        have hqm : ¬ 9223372036854775807 < 1 + q.size := by omega
        replace HS := hid (HS.out.below hbA)
        replace HR := hid (HR.out.below hBw hbA)
        replace HQ := hid (blk_below HQ.out hbA)
        replace HCB := hid (blk_below HCB.out hbA)
        replace HCO := hid (own_bel HCO.out hbA)
        have hS1 : (fun w' => w'.heap[P]? = some (.cells #[v1, (.slice (some ⟨g2, 0, none⟩) l2.length cp2)] 26 (0, 0)) /\ w'.heap[w5.heap.size]? = some (.cells #[.slice ca ci.length cp] 37 (0, 0))) wA := ⟨HS.out.blk, HCB.out⟩
        refine hK.out _ _ (fun _ => hS1) (fun _ => ?_)
        clear hK K hbA
        try simp only [gX]
        refine Lt.ti (i := 4) (v := ?_) hS1 ?_ ?_
        rotate_left 1
        ·rintro w ⟨hs1, hs2⟩; obtain ⟨c0, c1⟩ := blk_c hs1; have c2 := blk_c1 hs2; go_simp; first | done | with_reducible rfl
        simp only [gX]
        refine Lt.ti (i := 6) (v := ?_) hS1 ?_ ?_
        rotate_left 1
        ·rintro w ⟨hs1, hs2⟩; obtain ⟨c0, c1⟩ := blk_c hs1; have c2 := blk_c1 hs2; go_simp; first | done | with_reducible rfl
        simp only [gX]
        refine Lt.sp (i := 7) (fun K hK => ?_)
        go_simp
        refine name_alloc (Q := fun x => K _ x) ?_
        intro wG hbwG HG
        try dsimp only
        replace HS := hid (HS.out.below hbwG)
        replace HR := hid (HR.out.below hBw hbwG)
        replace HQ := hid (blk_below HQ.out hbwG)
        replace HCB := hid (blk_below HCB.out hbwG)
        replace HCO := hid (own_bel HCO.out hbwG)
        have hS2 : (fun w' => w'.heap[P]? = some (.cells #[v1, (.slice (some ⟨g2, 0, none⟩) l2.length cp2)] 26 (0, 0)) /\ w'.heap[w5.heap.size]? = some (.cells #[.slice ca ci.length cp] 37 (0, 0))) wG := ⟨HS.out.blk, HCB.out⟩
        refine hK.out _ _ (fun _ => hS2) (fun _ => ?_)
        clear hK K hbwG
        try simp only [gX]
        refine Lt.sp (i := 8) (fun K hK => ?_)
        refine step_appT rfl (by rfl) w.heap.size (.slice (some ⟨g2, 0, none⟩) l2.length cp2) _ (tcV l2) (by rfl) HS.out.dw.t wA.heap.size _ _ rfl (by rfl) HG.out HR.out.size (by omega) ?_
        intro g' cap' w7 hown7 hgrow
        have HN := hid (HS.out.putT (s := ⟨_, ci⟩) (HCO.out) hgrow hown7 (by omega) ⟨by show (_ ++ _ : ByteArray).size <= 50000; rw [ByteArray.size_append]; show 1 + q.size <= 50000; omega, hc4, HCT.out⟩)
        have hrow : ∀ j, Value.ownBlock (.slice (some ⟨g2, 0, none⟩) l2.length cp2) = some j -> w.heap.size <= j := fun j hj => (HS.out.dw.t.lt j hj).1
        have HP7 := hid (HS.out.app hgrow (Or.inr rfl))
        have HR7 := hid ((HR.out.grow hBw hgrow hrow).set (b := P) (j := 1) hBw hPw (.slice (some ⟨g', 0, none⟩) (l2.length + 1) cap'))
        have HQ7 := hid (blk_set (blk_grow HQ.out hgrow (HasT.ne ⟨_, HQ.out⟩ HS.out.dw.t (by decide))) (by omega) (c := P) (j := 1) (.slice (some ⟨g', 0, none⟩) (l2.length + 1) cap'))
        obtain ⟨c0, c1⟩ := blk_c HP7.out
        have fz := fun j => Lib.frozen_of_heap HP7.out j
        have hS7 : (fun w' => w'.heap[P]? = some (.cells #[v1, (.slice (some ⟨g2, 0, none⟩) l2.length cp2)] 26 (0, 0)) /\ w'.heap[w5.heap.size]? = some (.cells #[.slice ca ci.length cp] 37 (0, 0))) w7 := ⟨HP7.out, blk_grow HCB.out hgrow (HasT.ne ⟨_, HCB.out⟩ HS.out.dw.t (by decide))⟩
        refine hK.out _ _ (fun _ => hS7) (fun _ => ?_)
        clear hK K hgrow hown7 hrow
        simp only [gX]
        refine Lt.ti (i := 9) (v := ?_) hS7 ?_ ?_
        rotate_left 1
        ·rintro w ⟨hs1, hs2⟩; obtain ⟨c0, c1⟩ := blk_c hs1; have c2 := blk_c1 hs2; go_simp; first | done | with_reducible rfl
        simp only [gX]
        refine Lt.sp (i := 10) (fun K hK => ?_)
        go_simp
        refine hK.out _ _ (fun h => absurd rfl h) (fun _ => ?_)
        clear hK K
        refine Lt.done (by kernel_rfl) ?_ _
        go_wp2
        go_roundw
        case rel => exact ⟨l2.length + 1, _, _, by omega, by go_num, by simp, HN, hid (HR7.out.more (by omega)), HQ7, hid (all_snoc HC.out hc0)⟩
        case measure => simp [intOf]; omega
    ·have ek : l2.length = 1 + x := by omega
     obtain ⟨d0, d1, _⟩ := HS.out.c
     obtain ⟨r0, r1⟩ := blk_c HQ.out
     have fr := fun j => Lib.frozen_of_heap HQ.out j
     obtain ⟨a1, p1, rfl⟩ := HS.out.dw.s1
     obtain ⟨a2, p2, rfl⟩ := HS.out.dw.s2
     have HE := hid ek
     have hkI : ¬ (l2.length : Int) < 1 + (x : Int) := by omega
     clear ek
     go_wp2
     refine bodyPost_ret (v := .agg #[.slice a1 l1.length p1, .slice a2 l2.length p2]) (by simp [results, Tryz.results52, go_sem, r0, r1]) rfl ?_
     exact ⟨.slice a1 l1.length p1, .slice a2 l2.length p2, rfl, l1, l2, HS.out.dw.ret HQ.out, HS.out.bd, ((HR.out.set hBw (Nat.le_refl _) _).set hBw (Nat.le_refl _) _).more (by omega), hl1, by omega, HC.out⟩
end Go.Proofs.YtmanoabocelpeaaGreatDoor
