/-
  impl.PutText.
-/
import Derived.Test.YtcdbhdcojklkladDoorPxB
import Derived.Test.YtcdbhdcojklkladDoorCpI
import Derived.Test.YtcdbhdcojklkladDoorInX
namespace Go.Proofs.YtcdbhdcojklkladDoor
open Go.RowKit Go.Deep
set_option linter.unusedVariables false

set_option maxRecDepth 100000 in
set_option maxHeartbeats 8000000 in
theorem implPut_any (n : Int) (b off tc : Nat) (ra : Option Addr) (rc : Nat) (ts : List ByteArray) (rs : List T3) (x : ByteArray) (w : World) (hT : Tab w) (h : StIn w (some ⟨b, off, none⟩) ts ra rs) (rp : RowP w ra rs) (hx : x.size ≤ 1048576) :
    Calls Tryd.prog 7 #[.agg #[.int .i64 n, .slice (some ⟨b, off, none⟩) ts.length tc, .slice ra rs.length rc], .string x] w fun e w' => Below w.heap.size w w' ∧ KpOut w.heap.size w' e n ts rs x := by
  obtain ⟨W, eW⟩ : ∃ W, (w.alloc (.cells #[.int .i64 n, .slice (some ⟨b, off, none⟩) ts.length tc, .slice ra rs.length rc] 29)).alloc (.cells #[.int .i64 0, .int .i64 0, .slice none 0 0, .slice none 0 0, .string ⟨#[]⟩, .string ⟨#[]⟩] 31) = W := ⟨_, rfl⟩
  have hb0 : Below w.heap.size w W := by rw [← eW]; exact ((Below.refl _ _).alloc (Nat.le_refl _) _).alloc (by simp) _
  have hk0 : W.heap[w.heap.size]? = some (.cells #[.int .i64 n, .slice (some ⟨b, off, none⟩) ts.length tc, .slice ra rs.length rc] 29 (0, 0)) := by rw [← eW]; exact heapW_old2 _ _ _
  have hk1 : W.heap[w.heap.size + 1]? = some (.cells #[.int .i64 0, .int .i64 0, .slice none 0 0, .slice none 0 0, .string ⟨#[]⟩, .string ⟨#[]⟩] 31 (0, 0)) := by rw [← eW]; exact heapW_new2 _ _ _
  have hWs : w.heap.size + 1 + 1 ≤ W.heap.size := by rw [← eW]; simp
  obtain ⟨c0, c1, c2⟩ := blk_c3 hk0
  have HK0 : Hid (W.heap[w.heap.size]? = some (.cells #[.int .i64 n, .slice (some ⟨b, off, none⟩) ts.length tc, .slice ra rs.length rc] 29 (0, 0))) := hk0
  have HK1 : Hid (W.heap[w.heap.size + 1]? = some (.cells #[.int .i64 0, .int .i64 0, .slice none 0 0, .slice none 0 0, .string ⟨#[]⟩, .string ⟨#[]⟩] 31 (0, 0))) := hk1
  have HI : Hid (StIn w (some ⟨b, off, none⟩) ts ra rs) := h
  have HRP : Hid (RowP w ra rs) := rp
  have hln := h.lt
  have HT : Hid (Tab w) := hT
  clear hT
  clear h rp hk0 hk1
  go_enter Tryd.func7, Tryd.ntmps7
  go_wp2_with fail
  clear eW
  refine (implValidStore_any n _ ra tc rc ts rs W (HT.out.below hb0) (HI.out.below hb0)).mono ?_
  rintro e w1 ⟨hb1, v, rfl, hv⟩
  have hB1 := bt hb0 hb1
  have HR1 : Hid (w1.heap[w.heap.size + 1]? = some (.cells #[.int .i64 0, .int .i64 0, .slice none 0 0, .slice none 0 0, .string ⟨#[]⟩, .string ⟨#[]⟩] 31 (0, 0))) := blk_below HK1.out hb1
  have HA1 : Hid (w1.heap[w.heap.size]? = some (.cells #[.int .i64 n, .slice (some ⟨b, off, none⟩) ts.length tc, .slice ra rs.length rc] 29 (0, 0))) := blk_below HK0.out hb1
  have hW1 : W.heap.size ≤ w1.heap.size := hb1.size
  clear hb1 c0 c1 c2 HK0 HK1
  obtain ⟨r0, r1, r2, r3, r4, r5⟩ := blk_c6 HR1.out
  have rf := (fun j => Lib.frozen_of_heap HR1.out j)
  obtain ⟨c0, c1, c2⟩ := blk_c3 HA1.out
  by_cases hok : WdOk n ts rs ∧ x.size ≤ 2002
  · obtain ⟨hok1, hok2⟩ := hok
    have dv : v = true := hv.2 hok1
    subst dv
    have d20 : decide ((2002 : Int) < (x.size : Int)) = false := by simp; omega
    have HOK : Hid (WdOk n ts rs) := hok1
    obtain ⟨m, rfl⟩ := Int.eq_ofNat_of_zero_le (show 0 ≤ n by have := hok1.1; omega)
    have hm1 : 1 ≤ m := by have := hok1.1; omega
    have hm8 : m ≤ 8 := by have := hok1.2.1; omega
    have hl5 : ts.length ≤ 5000 := hok1.2.2.1.1
    have hr2 : rs.length ≤ 2000 := hok1.2.2.2.1
    have HSZ : Hid (∀ i, i < ts.length → (nx ts i).size ≤ 2002) := hok1.2.2.1.2.1
    have HASC : Hid (Asc (ts.map (sumB m))) := hok1.2.2.1.2.2
    have HKP : Hid (∀ (cd wd : Int) (ts' : List ByteArray) (rs' : List T3) (A B : ByteArray) (r : Nat), PlT m ts (sumB m x) r →
      ((There m ts x r ∧ nx ts r ≠ x ∧ cd = 2 ∧ wd = 0 ∧ ts' = [] ∧ rs' = [] ∧ A = nx ts r ∧ B = x) ∨
       (There m ts x r ∧ nx ts r = x ∧ cd = 0 ∧ wd = m ∧ ts' = ts ∧ rs' = rs ∧ A = ⟨#[]⟩ ∧ B = ⟨#[]⟩) ∨
       (¬ There m ts x r ∧ 5000 ≤ ts.length ∧ cd = 3 ∧ wd = 0 ∧ ts' = [] ∧ rs' = [] ∧ A = ⟨#[]⟩ ∧ B = ⟨#[]⟩) ∨
       (¬ There m ts x r ∧ ¬ 5000 ≤ ts.length ∧ cd = 0 ∧ wd = m ∧ ts' = insX ts x r ∧ rs' = rs ∧ A = ⟨#[]⟩ ∧ B = ⟨#[]⟩)) → KpP (m : Int) ts rs x cd wd ts' rs' A B) := fun cd wd ts' rs' A B r h1 h2 => Or.inr ⟨⟨hok1, hok2⟩, r, h1, h2⟩
    clear hv hok1 hok2
    have HSUM : Hid (∀ W' : World, Calls Tryd.prog 22 #[.string x, .int .i64 (m : Int)] W' fun e w' => e = .returned (.string (sumB m x)) ∧ Below W'.heap.size W' w') := fun W' => implSum_yes x m W' hx hm1 hm8
    have HF : Hid (∀ W' : World, Below w1.heap.size w1 W' → Calls Tryd.prog 21 #[.agg #[.int .i64 (m : Int), .slice (some ⟨b, off, none⟩) ts.length tc, .slice ra rs.length rc], .string (sumB m x)] W' fun e w' => Below W'.heap.size W' w' ∧ ∃ (r : Nat) (b : Bool), e = .returned (.tuple #[.int .i64 r, .bool b]) ∧ PlT m ts (sumB m x) r ∧ (b = true ↔ (r < ts.length ∧ sumB m (nx ts r) = sumB m x))) := fun W' hW => findText_any m _ ra tc _ rc ts _ W' hm1 hm8 (HI.out.st.below (bt hB1 hW)) hln HSZ.out HASC.out
    have HCY : Hid (∀ W' : World, Below w1.heap.size w1 W' → Calls Tryd.prog 23 #[.agg #[.int .i64 (m : Int), .slice (some ⟨b, off, none⟩) ts.length tc, .slice ra rs.length rc]] W' fun e w' => Below W'.heap.size W' w' ∧ ∃ g1 p1 v2, e = .returned (.agg #[.int .i64 (m : Int), .slice (some ⟨g1, 0, none⟩) ts.length p1, v2]) ∧ OwnX w' W'.heap.size w'.heap.size (.slice (some ⟨g1, 0, none⟩) ts.length p1) ts ∧ OwnQ w' W'.heap.size w'.heap.size v2 rs) := fun W' hW => copyStore_any m b off tc ra rc ts rs W' (HI.out.st.below (bt hB1 hW)) (HRP.out.below (bt hB1 hW)) hln hr2 HOK.out.recs
    obtain ⟨sm, esm⟩ : ∃ sm, sumB m x = sm := ⟨_, rfl⟩
    rw [esm] at HSUM HF
    have ESM : Hid (sumB m x = sm) := esm
    clear esm
    have hbd : Below w1.heap.size w1 w1.drew := (Below.refl _ _).drew
    go_wp2_with fail
    clear d20
    go_cut [5, 6] (fun p q wx => ∃ (r : Nat) (t : Bool), p = .int .i64 r ∧ q = .bool t ∧ Hid (PlT m ts sm r) ∧ Hid (t = true ↔ (r < ts.length ∧ sumB m (nx ts r) = sm)) ∧ Below w1.heap.size w1 wx)
    case first =>
      go_region_held3 (fun w' => w'.cell? ⟨w.heap.size, 0, none⟩ = some (.int .i64 (m : Int)) ∧ w'.cell? ⟨w.heap.size, 1, none⟩ = some (.slice (some ⟨b, off, none⟩) ts.length tc) ∧ w'.cell? ⟨w.heap.size, 2, none⟩ = some (.slice ra rs.length rc))
        (first | (with_reducible exact ⟨t0, t1, t2⟩) | (with_reducible exact ⟨s0, s1, s2⟩) | exact ⟨c0, c1, c2⟩)
        (first | (go_at_call 22; refine (HSUM.out _).mono ?_; rintro e w2 ⟨rfl, hb2⟩; have hB2 := bt hbd hb2; have s0 := cell_below hB2 c0; have s1 := cell_below hB2 c1; have s2 := cell_below hB2 c2) | (go_at_call 21; refine (HF.out _ hB2).mono ?_; rintro e w3 ⟨hb3, r, t, rfl, hp, hr⟩; have HPL : Hid (PlT m ts sm r) := hp; have HTR : Hid (t = true ↔ (r < ts.length ∧ sumB m (nx ts r) = sm)) := hr; clear hp hr; have hB3 := bt hB2 hb3; have t0 := cell_below hB3 c0; have t1 := cell_below hB3 c1; have t2 := cell_below hB3 c2))
      all_goals
        go_wp2_with fail
        go_meet
        exact ⟨r, t, rfl, rfl, HPL.out, HTR.out, hB3⟩
    case rest =>
      obtain ⟨r, t, rfl, rfl, HPL, HTR, hbx⟩ := hcut
      have hBx := bt hB1 hbx
      have HRX : Hid (wc.heap[w.heap.size + 1]? = some (.cells #[.int .i64 0, .int .i64 0, .slice none 0 0, .slice none 0 0, .string ⟨#[]⟩, .string ⟨#[]⟩] 31 (0, 0))) := blk_below HR1.out hbx
      have HAX : Hid (wc.heap[w.heap.size]? = some (.cells #[.int .i64 (m : Int), .slice (some ⟨b, off, none⟩) ts.length tc, .slice ra rs.length rc] 29 (0, 0))) := blk_below HA1.out hbx
      have hWx : w1.heap.size ≤ wc.heap.size := hbx.size
      clear r0 r1 r2 r3 r4 r5 rf c0 c1 c2 hbd HR1 HA1 HF HSUM
      obtain ⟨r0, r1, r2, r3, r4, r5⟩ := blk_c6 HRX.out
      have rf := (fun j => Lib.frozen_of_heap HRX.out j)
      obtain ⟨c0, c1, c2⟩ := blk_c3 HAX.out
      rw [← ESM.out] at HPL HTR
      have hrl := HPL.out.le
      cases t
      · have HNT : Hid (¬ There m ts x r) := fun h => by have := HTR.out.2 h; cases this
        by_cases h5 : 5000 ≤ ts.length
        · have HK : Hid (KpP (m : Int) ts rs x 3 0 [] [] ⟨#[]⟩ ⟨#[]⟩) := HKP.out _ _ _ _ _ _ r HPL.out (Or.inr (Or.inr (Or.inl ⟨HNT.out, h5, rfl, rfl, rfl, rfl, rfl, rfl⟩)))
          have e5 : ts.length = 5000 := by omega
          have d5 : (((ts.length : Nat) : Int) == 5000) = true := by rw [e5]; rfl
          clear e5 HTR HKP
          go_wp2
          refine bodyPost_ret (v := .agg #[.int .i64 3, .int .i64 0, .slice none 0 0, .slice none 0 0, .string ⟨#[]⟩, .string ⟨#[]⟩]) (by simp [results, Tryd.results7, go_sem, r0, r1, r2, r3, r4, r5]) rfl ⟨below_set6 hBx (Nat.le_succ _) _ _ _ _ _ _, KpOut.zero HK.out⟩
        · have HK : Hid (KpP (m : Int) ts rs x 0 m (insX ts x r) rs ⟨#[]⟩ ⟨#[]⟩) := HKP.out _ _ _ _ _ _ r HPL.out (Or.inr (Or.inr (Or.inr ⟨HNT.out, h5, rfl, rfl, rfl, rfl, rfl, rfl⟩)))
          have d5 : (((ts.length : Nat) : Int) == 5000) = false := by rw [beq_eq_false_iff_ne]; omega
          have HCX : Hid (Calls Tryd.prog 23 #[.agg #[.int .i64 (m : Int), .slice (some ⟨b, off, none⟩) ts.length tc, .slice ra rs.length rc]] wc fun e w' => Below wc.heap.size wc w' ∧ ∃ g1 p1 v2, e = .returned (.agg #[.int .i64 (m : Int), .slice (some ⟨g1, 0, none⟩) ts.length p1, v2]) ∧ OwnX w' wc.heap.size w'.heap.size (.slice (some ⟨g1, 0, none⟩) ts.length p1) ts ∧ OwnQ w' wc.heap.size w'.heap.size v2 rs) := HCY.out wc hbx
          clear HTR HKP HCY HNT
          go_wp2_with fail
          refine HCX.out.mono ?_
          rintro e w5 ⟨hb5, g1, p1, v2, rfl, o1, o2⟩
          obtain ⟨a2, p2, rfl, _⟩ := o2.sl
          have hB5 := bt hBx hb5
          have hs5 : wc.heap.size ≤ w5.heap.size := hb5.size
          obtain ⟨w6, e6⟩ : ∃ y, w5.alloc (.cells #[.int .i64 (m : Int), .slice (some ⟨g1, 0, none⟩) ts.length p1, .slice a2 rs.length p2] 29) = y := ⟨_, rfl⟩
          have hb6 : Below w5.heap.size w5 w6 := by rw [← e6]; exact (Below.refl _ _).alloc (Nat.le_refl _) _
          have HQ6 : Hid (w6.heap[w5.heap.size]? = some (.cells #[.int .i64 (m : Int), .slice (some ⟨g1, 0, none⟩) ts.length p1, .slice a2 rs.length p2] 29 (0, 0))) := by show _ = _; rw [← e6]; exact heapW_new _ _
          have HR6 : Hid (w6.heap[w.heap.size + 1]? = some (.cells #[.int .i64 0, .int .i64 0, .slice none 0 0, .slice none 0 0, .string ⟨#[]⟩, .string ⟨#[]⟩] 31 (0, 0))) := blk_below (blk_below HRX.out hb5) hb6
          have HX6 : Hid (OwnX w6 wc.heap.size w5.heap.size (.slice (some ⟨g1, 0, none⟩) ts.length p1) ts) := o1.below hb6
          have HQQ : Hid (OwnQ w6 wc.heap.size w5.heap.size (.slice a2 rs.length p2) rs) := o2.below hb6
          have hB6 := bt hB5 hb6
          have hs6 : w5.heap.size < w6.heap.size := blkW_lt HQ6.out
          obtain ⟨q0, q1, q2⟩ := blk_c3 HQ6.out
          clear r0 r1 r2 r3 r4 r5 rf c0 c1 c2 hb5 hb6 o1 o2 HAX HRX HCX
          obtain ⟨w7, e7⟩ : ∃ y, w6.alloc (.cells #[.string x] 9) = y := ⟨_, rfl⟩
          have hb7 : Below w6.heap.size w6 w7 := by rw [← e7]; exact (Below.refl _ _).alloc (Nat.le_refl _) _
          have HV7 : Hid (w7.heap[w6.heap.size]? = some (.cells #[.string x] 9 (0, 0))) := by show _ = _; rw [← e7]; exact heapW_new _ _
          have HINS : Hid (Calls Tryd.prog 24 #[.slice (some ⟨g1, 0, none⟩) ts.length p1, .int .i64 r, .slice (some ⟨w6.heap.size, 0, none⟩) 1 1] w7 fun e w' => ∃ g' cp, e = .returned (.slice (some ⟨g', 0, none⟩) (ts.length + 1) cp) ∧ w'.ownsRow wc.heap.size 9 1 (.slice (some ⟨g', 0, none⟩) (ts.length + 1) cp) (ts.length + 1) ((ts.map Value.string).take r ++ [.string x] ++ (ts.map Value.string).drop r) ∧ Below wc.heap.size w7 w' ∧ KeepO (Value.slice (some ⟨g1, 0, none⟩) ts.length p1).ownBlock w7 w') :=
            insertX_own wc.heap.size ts.length r w6.heap.size _ _ (.string x) w7 (ownsRow_below HX6.out.own hb7) (by have := hb7.size; omega) hrl hl5 HV7.out (fun e => by have := (HX6.out.own.lt _ e).2; omega) (txV_one ts) (by intro u hu; simp at hu; rw [hu]; rfl)
          have hB7 := bt hB6 hb7
          have HQ7 : Hid (w7.heap[w5.heap.size]? = _) := blk_below HQ6.out hb7
          have HR7 : Hid (w7.heap[w.heap.size + 1]? = _) := blk_below HR6.out hb7
          have HX7 : Hid (OwnX w7 wc.heap.size w5.heap.size (.slice (some ⟨g1, 0, none⟩) ts.length p1) ts) := HX6.out.below hb7
          have HQQ7 : Hid (OwnQ w7 wc.heap.size w5.heap.size (.slice a2 rs.length p2) rs) := HQQ.out.below hb7
          have hs7 : w6.heap.size < w7.heap.size := blkW_lt HV7.out
          clear hb7 HQ6 HR6 HX6 HQQ
          go_wp2_with fail
          clear e6 e7
          refine HINS.out.mono ?_
          rintro e w8 ⟨g', cp, rfl, ho8, hb8, hk8⟩
          rw [← insX_map] at ho8
          have hB8 : Below w.heap.size w w8 := hB7.trans (hb8.mono (by omega))
          have kq8 : w8.heap[w5.heap.size]? = some (.cells #[.int .i64 (m : Int), .slice (some ⟨g1, 0, none⟩) ts.length p1, .slice a2 rs.length p2] 29 (0, 0)) := by rw [hk8 _ (by omega) (fun e => HasT.ne (T := 29) ⟨_, HQ7.out⟩ HX7.out.own (by decide) e.symm)]; exact HQ7.out
          have kr8 : w8.heap[w.heap.size + 1]? = some (.cells #[.int .i64 0, .int .i64 0, .slice none 0 0, .slice none 0 0, .string ⟨#[]⟩, .string ⟨#[]⟩] 31 (0, 0)) := by rw [hb8.block _ (by omega)]; exact HR7.out
          have HO8 : Hid (OwnQ w8 wc.heap.size w8.heap.size (.slice a2 rs.length p2) rs) := (HQQ7.out.keepO HX7.out.own hk8 (by decide) (by decide) (by decide)).wide (Nat.le_refl _) (by have := hb8.size; omega)
          have HX8 : Hid (OwnX w8 wc.heap.size w8.heap.size (.slice (some ⟨g', 0, none⟩) (ts.length + 1) cp) (insX ts x r)) := by
            have h := RowO.new ho8
            unfold OwnX
            rw [insX_length ts x r hrl]
            exact h
          have hs8 : w7.heap.size ≤ w8.heap.size := hb8.size
          obtain ⟨q0, q1, q2⟩ := blk_c3 kq8
          have qf := (fun j => Lib.frozen_of_heap kq8 j)
          obtain ⟨r0, r1, r2, r3, r4, r5⟩ := blk_c6 kr8
          have rf := (fun j => Lib.frozen_of_heap kr8 j)
          have hne : w.heap.size + 1 ≠ w5.heap.size := by omega
          have HTQ : Hid (HasT w8 w5.heap.size 29) := ⟨_, kq8⟩
          clear hb8 hk8 ho8 kq8 kr8 HQ7 HR7 HX7 HQQ7 HINS
          go_wp2
          refine bodyPost_ret (v := .agg #[.int .i64 0, .int .i64 (m : Int), .slice (some ⟨g', 0, none⟩) (ts.length + 1) cp, .slice a2 rs.length p2, .string ⟨#[]⟩, .string ⟨#[]⟩]) (by simp [results, Tryd.results7, go_sem, r0, r1, r2, r3, r4, r5]) rfl ⟨below_set6 (hB8.setCell (p := ⟨w5.heap.size, 1, none⟩) (by simp; omega) _) (Nat.le_succ _) _ _ _ _ _ _, KpOut.full HK.out (HX8.out.setT HTQ.out (by decide) _) (HO8.out.setT HTQ.out (by decide) (by decide) (by decide) _) (by omega) (by omega) (by simp) _ _ _ _ _ _⟩
      · obtain ⟨h3, h4⟩ := HTR.out.1 rfl
        have HTH : Hid (There m ts x r) := ⟨h3, h4⟩
        have hrI : (r : Int) < (ts.length : Int) := by omega
        have k1 : wc.cell? ⟨b, off + r, none⟩ = some (.string (nx ts r)) := by
          obtain ⟨b', off', ea, c⟩ := (HI.out.st.below hBx) r h3
          cases ea
          exact c
        by_cases hne : nx ts r = x
        · have HK : Hid (KpP (m : Int) ts rs x 0 m ts rs ⟨#[]⟩ ⟨#[]⟩) := HKP.out _ _ _ _ _ _ r HPL.out (Or.inr (Or.inl ⟨HTH.out, hne, rfl, rfl, rfl, rfl, rfl, rfl⟩))
          have heq := str_eq hne
          have HCX : Hid (Calls Tryd.prog 23 #[.agg #[.int .i64 (m : Int), .slice (some ⟨b, off, none⟩) ts.length tc, .slice ra rs.length rc]] wc fun e w' => Below wc.heap.size wc w' ∧ ∃ g1 p1 v2, e = .returned (.agg #[.int .i64 (m : Int), .slice (some ⟨g1, 0, none⟩) ts.length p1, v2]) ∧ OwnX w' wc.heap.size w'.heap.size (.slice (some ⟨g1, 0, none⟩) ts.length p1) ts ∧ OwnQ w' wc.heap.size w'.heap.size v2 rs) := HCY.out wc hbx
          clear HTR HKP HCY HTH h4 hne
          generalize nx ts r = z at k1 heq
          go_wp2_with fail
          refine HCX.out.mono ?_
          rintro e w5 ⟨hb5, g1, p1, v2, rfl, o1, o2⟩
          obtain ⟨a2, p2, rfl, _⟩ := o2.sl
          have hB5 := bt hBx hb5
          have hs5 : wc.heap.size ≤ w5.heap.size := hb5.size
          have kr5 := blk_below HRX.out hb5
          have HX5 : Hid (OwnX w5 wc.heap.size w5.heap.size (.slice (some ⟨g1, 0, none⟩) ts.length p1) ts) := o1
          have HQ5 : Hid (OwnQ w5 wc.heap.size w5.heap.size (.slice a2 rs.length p2) rs) := o2
          clear r0 r1 r2 r3 r4 r5 rf c0 c1 c2 o1 o2 HAX HRX HCX hb5
          obtain ⟨w6, e6⟩ : ∃ y, w5.alloc (.cells #[.int .i64 (m : Int), .slice (some ⟨g1, 0, none⟩) ts.length p1, .slice a2 rs.length p2] 29) = y := ⟨_, rfl⟩
          have hb6 : Below w5.heap.size w5 w6 := by rw [← e6]; exact (Below.refl _ _).alloc (Nat.le_refl _) _
          have kq6 : w6.heap[w5.heap.size]? = some (.cells #[.int .i64 (m : Int), .slice (some ⟨g1, 0, none⟩) ts.length p1, .slice a2 rs.length p2] 29 (0, 0)) := by rw [← e6]; exact heapW_new _ _
          have kr6 := blk_below kr5 hb6
          have HX6 : Hid (OwnX w6 wc.heap.size w5.heap.size (.slice (some ⟨g1, 0, none⟩) ts.length p1) ts) := HX5.out.below hb6
          have HQ6 : Hid (OwnQ w6 wc.heap.size w5.heap.size (.slice a2 rs.length p2) rs) := HQ5.out.below hb6
          have hB6 := bt hB5 hb6
          have hs6 : w5.heap.size ≤ w6.heap.size := hb6.size
          obtain ⟨q0, q1, q2⟩ := blk_c3 kq6
          obtain ⟨r0, r1, r2, r3, r4, r5⟩ := blk_c6 kr6
          have rf := (fun j => Lib.frozen_of_heap kr6 j)
          clear hb6 kq6 kr6 kr5 HX5 HQ5
          go_wp2
          refine bodyPost_ret (v := .agg #[.int .i64 0, .int .i64 (m : Int), .slice (some ⟨g1, 0, none⟩) ts.length p1, .slice a2 rs.length p2, .string ⟨#[]⟩, .string ⟨#[]⟩]) (by simp [results, Tryd.results7, go_sem, r0, r1, r2, r3, r4, r5]) rfl ⟨below_set6 hB6 (Nat.le_succ _) _ _ _ _ _ _, KpOut.full HK.out HX6.out HQ6.out (by omega) (by omega) hs6 _ _ _ _ _ _⟩
        · have HK : Hid (KpP (m : Int) ts rs x 2 0 [] [] (nx ts r) x) := HKP.out _ _ _ _ _ _ r HPL.out (Or.inl ⟨HTH.out, hne, rfl, rfl, rfl, rfl, rfl, rfl⟩)
          have heq := str_ne hne
          clear HTR HKP HCY HTH h4 hne
          generalize nx ts r = z at k1 heq HK
          go_wp2
          refine bodyPost_ret (v := .agg #[.int .i64 2, .int .i64 0, .slice none 0 0, .slice none 0 0, .string z, .string x]) (by simp [results, Tryd.results7, go_sem, r0, r1, r2, r3, r4, r5]) rfl ⟨below_set6 hBx (Nat.le_succ _) _ _ _ _ _ _, KpOut.zero HK.out⟩
  · have HKP : Hid (KpP n ts rs x 1 0 [] [] ⟨#[]⟩ ⟨#[]⟩) := Or.inl ⟨hok, rfl, rfl, rfl, rfl, rfl, rfl⟩
    cases v
    · clear hok hv HI HRP
      go_wp2
      refine bodyPost_ret (v := .agg #[.int .i64 1, .int .i64 0, .slice none 0 0, .slice none 0 0, .string ⟨#[]⟩, .string ⟨#[]⟩]) (by simp [results, Tryd.results7, go_sem, r0, r1, r2, r3, r4, r5]) rfl ⟨below_set6 hB1 (Nat.le_succ _) _ _ _ _ _ _, KpOut.zero HKP.out⟩
    · have d20 : decide ((2002 : Int) < (x.size : Int)) = true := by
        have : ¬ x.size ≤ 2002 := fun h => hok ⟨hv.1 rfl, h⟩
        simp; omega
      clear hok hv HI HRP
      go_wp2
      refine bodyPost_ret (v := .agg #[.int .i64 1, .int .i64 0, .slice none 0 0, .slice none 0 0, .string ⟨#[]⟩, .string ⟨#[]⟩]) (by simp [results, Tryd.results7, go_sem, r0, r1, r2, r3, r4, r5]) rfl ⟨below_set6 hB1 (Nat.le_succ _) _ _ _ _ _ _, KpOut.zero HKP.out⟩

end Go.Proofs.YtcdbhdcojklkladDoor
