/-
  spec.PutText.
-/
import Derived.Test.YtmeojnaoljgieadDoorPxS
import Derived.Test.YtmeojnaoljgieadDoorCpS
namespace Go.Proofs.YtmeojnaoljgieadDoor
open Go.RowKit Go.Deep
set_option linter.unusedVariables false

set_option maxRecDepth 100000 in
set_option maxHeartbeats 8000000 in
theorem specPut_any (n : Int) (b off tc : Nat) (ra : Option Addr) (rc : Nat) (ts : List ByteArray) (rs : List T3) (x : ByteArray) (w : World) (h : StIn w (some ⟨b, off, none⟩) ts ra rs) (rp : RowP w ra rs) (hx : x.size ≤ 1048576) :
    Calls Tryd.prog 5 #[.agg #[.int .i64 n, .slice (some ⟨b, off, none⟩) ts.length tc, .slice ra rs.length rc], .string x] w fun e w' => Below w.heap.size w w' ∧ KpOut w.heap.size w' e n ts rs x := by
  obtain ⟨W, eW⟩ : ∃ W, (w.alloc (.cells #[.int .i64 n, .slice (some ⟨b, off, none⟩) ts.length tc, .slice ra rs.length rc] 29)).alloc (.cells #[.int .i64 0, .int .i64 0, .slice none 0 0, .slice none 0 0, .string ⟨#[]⟩, .string ⟨#[]⟩] 31) = W := ⟨_, rfl⟩
  have hb0 : Below w.heap.size w W := by rw [← eW]; exact ((Below.refl _ _).alloc (Nat.le_refl _) _).alloc (by simp) _
  have hk0 : W.heap[w.heap.size]? = some (.cells #[.int .i64 n, .slice (some ⟨b, off, none⟩) ts.length tc, .slice ra rs.length rc] 29 (0, 0)) := by rw [← eW]; exact heapW_old2 _ _ _
  have hk1 : W.heap[w.heap.size + 1]? = some (.cells #[.int .i64 0, .int .i64 0, .slice none 0 0, .slice none 0 0, .string ⟨#[]⟩, .string ⟨#[]⟩] 31 (0, 0)) := by rw [← eW]; exact heapW_new2 _ _ _
  have hWs : w.heap.size + 1 + 1 ≤ W.heap.size := by rw [← eW]; simp
  obtain ⟨c0, c1, c2⟩ := blk_c3 hk0
  have HK0 : Hid (W.heap[w.heap.size]? = some (.cells #[.int .i64 n, .slice (some ⟨b, off, none⟩) ts.length tc, .slice ra rs.length rc] 29 (0, 0))) := hk0
  have HK1 : Hid (W.heap[w.heap.size + 1]? = some (.cells #[.int .i64 0, .int .i64 0, .slice none 0 0, .slice none 0 0, .string ⟨#[]⟩, .string ⟨#[]⟩] 31 (0, 0))) := hk1
  have HI : Hid (StIn w (some ⟨b, off, none⟩) ts ra rs) := h
  have HRP : Hid (RowP w ra rs) := rp
  have hln := h.lt
  clear h rp hk0 hk1
  go_enter Tryd.func5, Tryd.ntmps5
  go_wp2_with fail
  clear eW
  refine (specValidStore_any n _ ra tc rc ts rs W (HI.out.below hb0)).mono ?_
  rintro e w1 ⟨hb1, v, rfl, hv⟩
  have hB1 := bt hb0 hb1
  have HR1 : Hid (w1.heap[w.heap.size + 1]? = some (.cells #[.int .i64 0, .int .i64 0, .slice none 0 0, .slice none 0 0, .string ⟨#[]⟩, .string ⟨#[]⟩] 31 (0, 0))) := blk_below HK1.out hb1
  have HA1 : Hid (w1.heap[w.heap.size]? = some (.cells #[.int .i64 n, .slice (some ⟨b, off, none⟩) ts.length tc, .slice ra rs.length rc] 29 (0, 0))) := blk_below HK0.out hb1
  have hW1 : W.heap.size ≤ w1.heap.size := hb1.size
  clear hb1 c0 c1 c2 HK0 HK1
  obtain ⟨r0, r1, r2, r3, r4, r5⟩ := blk_c6 HR1.out
  have rf := (fun j => Lib.frozen_of_heap HR1.out j)
  obtain ⟨c0, c1, c2⟩ := blk_c3 HA1.out
  by_cases hok : WdOk n ts rs ∧ x.size ≤ 2002
  · obtain ⟨hok1, hok2⟩ := hok
    have dv : v = true := hv.2 hok1
    subst dv
    have d20 : decide ((2002 : Int) < (x.size : Int)) = false := by simp; omega
    have HOK : Hid (WdOk n ts rs) := hok1
    obtain ⟨m, rfl⟩ := Int.eq_ofNat_of_zero_le (show 0 ≤ n by have := hok1.1; omega)
    have hm1 : 1 ≤ m := by have := hok1.1; omega
    have hm8 : m ≤ 8 := by have := hok1.2.1; omega
    have hl5 : ts.length ≤ 5000 := hok1.2.2.1.1
    have hr2 : rs.length ≤ 2000 := hok1.2.2.2.1
    have HSZ : Hid (∀ i, i < ts.length → (nx ts i).size ≤ 2002) := hok1.2.2.1.2.1
    have HASC : Hid (Asc (ts.map (sumB m))) := hok1.2.2.1.2.2
    have HKP : Hid (∀ (cd wd : Int) (ts' : List ByteArray) (rs' : List T3) (A B : ByteArray) (r : Nat), PlT m ts (sumB m x) r →
      ((There m ts x r ∧ nx ts r ≠ x ∧ cd = 2 ∧ wd = 0 ∧ ts' = [] ∧ rs' = [] ∧ A = nx ts r ∧ B = x) ∨
       (There m ts x r ∧ nx ts r = x ∧ cd = 0 ∧ wd = m ∧ ts' = ts ∧ rs' = rs ∧ A = ⟨#[]⟩ ∧ B = ⟨#[]⟩) ∨
       (¬ There m ts x r ∧ 5000 ≤ ts.length ∧ cd = 3 ∧ wd = 0 ∧ ts' = [] ∧ rs' = [] ∧ A = ⟨#[]⟩ ∧ B = ⟨#[]⟩) ∨
       (¬ There m ts x r ∧ ¬ 5000 ≤ ts.length ∧ cd = 0 ∧ wd = m ∧ ts' = insX ts x r ∧ rs' = rs ∧ A = ⟨#[]⟩ ∧ B = ⟨#[]⟩)) → KpP (m : Int) ts rs x cd wd ts' rs' A B) := fun cd wd ts' rs' A B r h1 h2 => Or.inr ⟨⟨hok1, hok2⟩, r, h1, h2⟩
    have HX2 : Hid (x.size ≤ 2002) := hok2
    clear hv hok1 hok2
    have HCY : Hid (Calls Tryd.prog 17 #[.agg #[.int .i64 (m : Int), .slice (some ⟨b, off, none⟩) ts.length tc, .slice ra rs.length rc]] w1 fun e w' => Below w1.heap.size w1 w' ∧ ∃ g1 p1 v2, e = .returned (.agg #[.int .i64 (m : Int), .slice (some ⟨g1, 0, none⟩) ts.length p1, v2]) ∧ OwnX w' w1.heap.size w'.heap.size (.slice (some ⟨g1, 0, none⟩) ts.length p1) ts ∧ OwnQ w' w1.heap.size w'.heap.size v2 rs) := l4Copy_any m b off tc ra rc ts rs w1 (HI.out.st.below hB1) (HRP.out.below hB1) hln hr2 HOK.out.recs
    have hx2 : x.size ≤ 2002 := HX2.out
    clear HKP HSZ HASC HX2
    go_wp2_with fail
    clear d20
    refine HCY.out.mono ?_
    rintro e w2 ⟨hb2, g1, p1, v2, rfl, o1, o2⟩
    obtain ⟨a2, p2, rfl, _⟩ := o2.sl
    have hB2 := bt hB1 hb2
    have HR2 : Hid (w2.heap[w.heap.size + 1]? = some (.cells #[.int .i64 0, .int .i64 0, .slice none 0 0, .slice none 0 0, .string ⟨#[]⟩, .string ⟨#[]⟩] 31 (0, 0))) := blk_below HR1.out hb2
    have hs2 : w1.heap.size ≤ w2.heap.size := hb2.size
    clear r0 r1 r2 r3 r4 r5 rf c0 c1 c2 hb2 HR1 HA1 HCY
    have HPUT : Hid (Calls Tryd.prog 16 #[.agg #[.int .i64 (m : Int), .slice (some ⟨g1, 0, none⟩) ts.length p1, .slice a2 rs.length p2], .string x] w2 fun e w' => Below w2.heap.size w2 w' ∧ KpOut w1.heap.size w' e m ts rs x) := l4Put_any m w1.heap.size w2.heap.size g1 p1 a2 p2 ts rs x w2 o1 o2 hs2 (Nat.le_refl _) HOK.out hx2
    clear o1 o2
    go_wp2_with fail
    refine HPUT.out.mono ?_
    rintro e w3 ⟨hb3, cd, wd, ts', rs', A, B, v1, v2, rfl, hk, o1, o2⟩
    obtain ⟨a1, q1, rfl, _⟩ := o1.sl
    obtain ⟨a3, q2, rfl, _⟩ := o2.sl
    have hB3 := bt hB2 hb3
    have kr := blk_below HR2.out hb3
    obtain ⟨r0, r1, r2, r3, r4, r5⟩ := blk_c6 kr
    have rf := (fun j => Lib.frozen_of_heap kr j)
    have HK : Hid (KpP (m : Int) ts rs x cd wd ts' rs' A B) := hk
    have HO1 : Hid (OwnX w3 w1.heap.size w3.heap.size (.slice a1 ts'.length q1) ts') := o1
    have HO2 : Hid (OwnQ w3 w1.heap.size w3.heap.size (.slice a3 rs'.length q2) rs') := o2
    clear hb3 o1 o2 hk kr HPUT
    go_wp2
    refine bodyPost_ret (v := .agg #[.int .i64 cd, .int .i64 wd, .slice a1 ts'.length q1, .slice a3 rs'.length q2, .string A, .string B]) (by simp [results, Tryd.results5, go_sem, r0, r1, r2, r3, r4, r5]) rfl ⟨below_set6P hB3 (Nat.le_succ _) _ _ _ _ _ _, KpOut.full HK.out HO1.out HO2.out (by omega) (by omega) (Nat.le_refl _) _ _ _ _ _ _⟩
  · have HKP : Hid (KpP n ts rs x 1 0 [] [] ⟨#[]⟩ ⟨#[]⟩) := Or.inl ⟨hok, rfl, rfl, rfl, rfl, rfl, rfl⟩
    cases v
    · clear hok hv HI HRP
      go_wp2
      refine bodyPost_ret (v := .agg #[.int .i64 1, .int .i64 0, .slice none 0 0, .slice none 0 0, .string ⟨#[]⟩, .string ⟨#[]⟩]) (by simp [results, Tryd.results5, go_sem, r0, r1, r2, r3, r4, r5]) rfl ⟨below_set6P hB1 (Nat.le_succ _) _ _ _ _ _ _, KpOut.zero HKP.out⟩
    · have d20 : decide ((2002 : Int) < (x.size : Int)) = true := by
        have : ¬ x.size ≤ 2002 := fun h => hok ⟨hv.1 rfl, h⟩
        simp; omega
      clear hok hv HI HRP
      go_wp2
      refine bodyPost_ret (v := .agg #[.int .i64 1, .int .i64 0, .slice none 0 0, .slice none 0 0, .string ⟨#[]⟩, .string ⟨#[]⟩]) (by simp [results, Tryd.results5, go_sem, r0, r1, r2, r3, r4, r5]) rfl ⟨below_set6P hB1 (Nat.le_succ _) _ _ _ _ _ _, KpOut.zero HKP.out⟩

end Go.Proofs.YtmeojnaoljgieadDoor
