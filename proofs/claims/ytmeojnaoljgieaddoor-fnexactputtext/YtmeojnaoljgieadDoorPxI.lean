/-
  impl.PutText.
-/
import Derived.Test.YtmeojnaoljgieadDoorPut
namespace Go.Proofs.YtmeojnaoljgieadDoor
open Go.RowKit Go.Deep
set_option linter.unusedVariables false

theorem KpP.put {n : Nat} {ts ts' : List ByteArray} {rs : List T3} {x A B : ByteArray} {r : Nat} {cd : Int} (hok : WdOk n ts rs ∧ x.size ≤ 2002) (hp : PlT n ts (sumB n x) r) (h : PutR n ts x r cd ts' A B) : (cd = 0 ∧ A = ⟨#[]⟩ ∧ B = ⟨#[]⟩ ∧ KpP (n : Int) ts rs x 0 n ts' rs ⟨#[]⟩ ⟨#[]⟩) ∨ (cd ≠ 0 ∧ KpP (n : Int) ts rs x cd 0 [] [] A B) := by
  rcases h with ⟨a, b, rfl, rfl, rfl, rfl⟩ | ⟨a, b, rfl, rfl, rfl, rfl⟩ | ⟨a, b, rfl, rfl, rfl, rfl⟩ | ⟨a, b, rfl, rfl, rfl, rfl⟩
  · exact Or.inr ⟨by decide, Or.inr ⟨hok, r, hp, Or.inl ⟨a, b, rfl, rfl, rfl, rfl, rfl, rfl⟩⟩⟩
  · exact Or.inl ⟨rfl, rfl, rfl, Or.inr ⟨hok, r, hp, Or.inr (Or.inl ⟨a, b, rfl, rfl, rfl, rfl, rfl, rfl⟩)⟩⟩
  · exact Or.inr ⟨by decide, Or.inr ⟨hok, r, hp, Or.inr (Or.inr (Or.inl ⟨a, b, rfl, rfl, rfl, rfl, rfl, rfl⟩))⟩⟩
  · exact Or.inl ⟨rfl, rfl, rfl, Or.inr ⟨hok, r, hp, Or.inr (Or.inr (Or.inr ⟨a, b, rfl, rfl, rfl, rfl, rfl, rfl⟩))⟩⟩

set_option maxRecDepth 100000 in
set_option maxHeartbeats 8000000 in
theorem implPut_any (n : Int) (b off tc : Nat) (ra : Option Addr) (rc : Nat) (ts : List ByteArray) (rs : List T3) (x : ByteArray) (w : World) (hT : Tab w) (h : StIn w (some ⟨b, off, none⟩) ts ra rs) (rp : RowP w ra rs) (hx : x.size ≤ 1048576) :
    Calls Tryd.prog 7 #[.agg #[.int .i64 n, .slice (some ⟨b, off, none⟩) ts.length tc, .slice ra rs.length rc], .string x] w fun e w' => Below w.heap.size w w' ∧ KpOut w.heap.size w' e n ts rs x := by
  obtain ⟨W, eW⟩ : ∃ W, (w.alloc (.cells #[.int .i64 n, .slice (some ⟨b, off, none⟩) ts.length tc, .slice ra rs.length rc] 29)).alloc (.cells #[.int .i64 0, .int .i64 0, .slice none 0 0, .slice none 0 0, .string ⟨#[]⟩, .string ⟨#[]⟩] 31) = W := ⟨_, rfl⟩
  have hb0 : Below w.heap.size w W := by rw [← eW]; exact ((Below.refl _ _).alloc (Nat.le_refl _) _).alloc (by simp) _
  have hk0 : W.heap[w.heap.size]? = some (.cells #[.int .i64 n, .slice (some ⟨b, off, none⟩) ts.length tc, .slice ra rs.length rc] 29 (0, 0)) := by rw [← eW]; exact heapW_old2 _ _ _
  have hk1 : W.heap[w.heap.size + 1]? = some (.cells #[.int .i64 0, .int .i64 0, .slice none 0 0, .slice none 0 0, .string ⟨#[]⟩, .string ⟨#[]⟩] 31 (0, 0)) := by rw [← eW]; exact heapW_new2 _ _ _
  have hWs : w.heap.size + 1 + 1 ≤ W.heap.size := by rw [← eW]; simp
  obtain ⟨c0, c1, c2⟩ := blk_c3 hk0
  have HK1 : Hid (W.heap[w.heap.size + 1]? = some (.cells #[.int .i64 0, .int .i64 0, .slice none 0 0, .slice none 0 0, .string ⟨#[]⟩, .string ⟨#[]⟩] 31 (0, 0))) := hk1
  have HI : Hid (StIn w (some ⟨b, off, none⟩) ts ra rs) := h
  have HRP : Hid (RowP w ra rs) := rp
  have HT : Hid (Tab w) := hT
  clear hT h rp hk0 hk1
  go_enter Tryd.func7, Tryd.ntmps7
  go_wp2_with fail
  clear eW
  refine (shelfOf_any n b off tc ra rc ts rs W (HT.out.below hb0) (HI.out.below hb0) (HRP.out.below hb0)).mono ?_
  rintro e w1 ⟨hb1, hcs⟩
  have hB1 := bt hb0 hb1
  have HR1 : Hid (w1.heap[w.heap.size + 1]? = some (.cells #[.int .i64 0, .int .i64 0, .slice none 0 0, .slice none 0 0, .string ⟨#[]⟩, .string ⟨#[]⟩] 31 (0, 0))) := blk_below HK1.out hb1
  have hW1 : W.heap.size ≤ w1.heap.size := hb1.size
  clear hb1 c0 c1 c2 HK1 hb0
  obtain ⟨r0, r1, r2, r3, r4, r5⟩ := blk_c6 HR1.out
  have rf := (fun j => Lib.frozen_of_heap HR1.out j)
  rcases hcs with ⟨hw, rfl⟩ | ⟨hw, g, g1, p1, sv, qv, rfl, hge, hsh⟩
  · have HKP : Hid (KpP n ts rs x 1 0 [] [] ⟨#[]⟩ ⟨#[]⟩) := Or.inl ⟨fun h => hw h.1, rfl, rfl, rfl, rfl, rfl, rfl⟩
    clear hw
    go_wp2
    refine bodyPost_ret (v := .agg #[.int .i64 1, .int .i64 0, .slice none 0 0, .slice none 0 0, .string ⟨#[]⟩, .string ⟨#[]⟩]) (by simp [results, Tryd.results7, go_sem, r0, r1, r2, r3, r4, r5]) rfl ⟨below_set6P hB1 (Nat.le_succ _) _ _ _ _ _ _, KpOut.zero HKP.out⟩
  · by_cases hx2 : x.size ≤ 2002
    · have d20 : decide ((2002 : Int) < (x.size : Int)) = false := by simp; omega
      obtain ⟨m, rfl⟩ := Int.eq_ofNat_of_zero_le (show 0 ≤ n by have := hw.1; omega)
      have HSH : Hid (ShO w1 g W.heap.size w1.heap.size m sv (.slice (some ⟨g1, 0, none⟩) ts.length p1) qv ts rs) := hsh
      have HPUT : Hid (Calls Tryd.prog 21 #[.pointer (some ⟨g, 0, none⟩), .string x] w1 fun e w' => PutO w1 g W.heap.size m sv g1 qv ts rs x e w') := put_any g W.heap.size w1.heap.size m g1 p1 sv qv ts rs x w1 (by have := hw.1; omega) (by have := hw.2.1; omega) hx hw.2.2.1.1 hw.2.2.1.2.2 hge (Nat.le_refl _) hsh
      have HOK : Hid (WdOk m ts rs ∧ x.size ≤ 2002) := ⟨hw, hx2⟩
      clear hw hsh
      go_wp2_with fail
      refine HPUT.out.mono ?_
      rintro e w2 ⟨r, cd, ts', A, B, sv', g1', p1', rfl, hp, hr, hbl, hso, hks, _, _⟩
      have HKP : Hid ((cd = 0 ∧ A = ⟨#[]⟩ ∧ B = ⟨#[]⟩ ∧ KpP (m : Int) ts rs x 0 m ts' rs ⟨#[]⟩ ⟨#[]⟩) ∨ (cd ≠ 0 ∧ KpP (m : Int) ts rs x cd 0 [] [] A B)) := KpP.put HOK.out hp hr
      have HSO : Hid (ShG w2 g W.heap.size w2.heap.size m sv' (.slice (some ⟨g1', 0, none⟩) ts'.length p1') qv (ts'.map (sumB m)) ts' rs) := hso
      have hs2 : w1.heap.size ≤ w2.heap.size := hbl.size
      have HB2 : Hid (Below w.heap.size w w2) := hB1.trans (hbl.mono (by omega))
      have HR2 : Hid (w2.heap[w.heap.size + 1]? = some (.cells #[.int .i64 0, .int .i64 0, .slice none 0 0, .slice none 0 0, .string ⟨#[]⟩, .string ⟨#[]⟩] 31 (0, 0))) := by show _ = _; rw [hbl.block _ (by omega)]; exact HR1.out
      obtain ⟨qa, qc, rfl, _⟩ := hso.qs.sl
      clear r0 r1 r2 r3 r4 r5 rf hp hr hbl hso hks HPUT
      obtain ⟨w3, e3⟩ : ∃ y, w2.alloc (.cells #[.int .i64 cd, .int .i64 0, .slice none 0 0, .slice none 0 0, .string A, .string B] 31) = y := ⟨_, rfl⟩
      have hb3 : Below w2.heap.size w2 w3 := by rw [← e3]; exact (Below.refl _ _).alloc (Nat.le_refl _) _
      have kk : w3.heap[w2.heap.size]? = some (.cells #[.int .i64 cd, .int .i64 0, .slice none 0 0, .slice none 0 0, .string A, .string B] 31 (0, 0)) := by rw [← e3]; exact heapW_new _ _
      have kr := blk_below HR2.out hb3
      have HS3 : Hid (ShG w3 g W.heap.size w2.heap.size m sv' (.slice (some ⟨g1', 0, none⟩) ts'.length p1') (.slice qa rs.length qc) (ts'.map (sumB m)) ts' rs) := HSO.out.below hb3
      have HB3 : Hid (Below w.heap.size w w3) := bt HB2.out hb3
      have hs3 : w2.heap.size < w3.heap.size := blkW_lt kk
      obtain ⟨r0, r1, r2, r3, r4, r5⟩ := blk_c6 kr
      have rf := (fun j => Lib.frozen_of_heap kr j)
      obtain ⟨q0, q1, q2, q3, q4, q5⟩ := blk_c6 kk
      have qf := (fun j => Lib.frozen_of_heap kk j)
      have HTK : Hid (HasT w3 w2.heap.size 31) := ⟨_, kk⟩
      have HTR : Hid (HasT w3 (w.heap.size + 1) 31) := ⟨_, kr⟩
      obtain ⟨c0, c1, c2, c3, cf⟩ := blk_c4 HS3.out.blk
      clear kk kr hb3
      go_upto_region 5 with fail
      clear e3
      rcases HKP.out with ⟨hc, hA, hB, hkp⟩ | ⟨hc, hkp⟩
      · subst hc hA hB
        have HK : Hid (KpP (m : Int) ts rs x 0 m ts' rs ⟨#[]⟩ ⟨#[]⟩) := hkp
        clear hkp HKP
        have hne : w.heap.size + 1 ≠ w2.heap.size := by omega
        have hgl : g < w2.heap.size := ShG.lt HSO.out
        go_wp2_with fail
        have HX : Hid (OwnX (((w3.setCell ⟨w2.heap.size, 1, none⟩ (.int .i64 (m : Int))).setCell ⟨w2.heap.size, 2, none⟩ (.slice (some ⟨g1', 0, none⟩) ts'.length p1')).setCell ⟨w2.heap.size, 3, none⟩ (.slice qa rs.length qc)) W.heap.size w2.heap.size (.slice (some ⟨g1', 0, none⟩) ts'.length p1') ts') := ((HS3.out.tx.setT HTK.out (by decide) _).setT (HTK.out.set _) (by decide) _).setT ((HTK.out.set _).set _) (by decide) _
        have HQ : Hid (OwnQ (((w3.setCell ⟨w2.heap.size, 1, none⟩ (.int .i64 (m : Int))).setCell ⟨w2.heap.size, 2, none⟩ (.slice (some ⟨g1', 0, none⟩) ts'.length p1')).setCell ⟨w2.heap.size, 3, none⟩ (.slice qa rs.length qc)) W.heap.size w2.heap.size (.slice qa rs.length qc) rs) := ((HS3.out.qs.setT HTK.out (by decide) (by decide) (by decide) _).setT (HTK.out.set _) (by decide) (by decide) (by decide) _).setT ((HTK.out.set _).set _) (by decide) (by decide) (by decide) _
        have HB4 : Hid (Below w.heap.size w (((w3.setCell ⟨w2.heap.size, 1, none⟩ (.int .i64 (m : Int))).setCell ⟨w2.heap.size, 2, none⟩ (.slice (some ⟨g1', 0, none⟩) ts'.length p1')).setCell ⟨w2.heap.size, 3, none⟩ (.slice qa rs.length qc))) := ((HB3.out.setCell (p := ⟨w2.heap.size, 1, none⟩) (by show w.heap.size ≤ w2.heap.size; omega) _).setCell (p := ⟨w2.heap.size, 2, none⟩) (by show w.heap.size ≤ w2.heap.size; omega) _).setCell (p := ⟨w2.heap.size, 3, none⟩) (by show w.heap.size ≤ w2.heap.size; omega) _
        refine bodyPost_ret (v := .agg #[.int .i64 0, .int .i64 (m : Int), .slice (some ⟨g1', 0, none⟩) ts'.length p1', .slice qa rs.length qc, .string ⟨#[]⟩, .string ⟨#[]⟩]) (by simp [results, Tryd.results7, go_sem, r0, r1, r2, r3, r4, r5]) rfl ⟨below_set6P HB4.out (Nat.le_succ _) _ _ _ _ _ _, KpOut.full HK.out HX.out HQ.out (by omega) (by omega) (by simp; omega) _ _ _ _ _ _⟩
      · have HK : Hid (KpP (m : Int) ts rs x cd 0 [] [] A B) := hkp
        have dc : (cd == 0) = false := by simpa using hc
        clear hkp HKP hc
        go_wp2
        refine bodyPost_ret (v := .agg #[.int .i64 cd, .int .i64 0, .slice none 0 0, .slice none 0 0, .string A, .string B]) (by simp [results, Tryd.results7, go_sem, r0, r1, r2, r3, r4, r5]) rfl ⟨below_set6P HB3.out (Nat.le_succ _) _ _ _ _ _ _, KpOut.zero HK.out⟩
    · have HKP : Hid (KpP n ts rs x 1 0 [] [] ⟨#[]⟩ ⟨#[]⟩) := Or.inl ⟨fun h => hx2 h.2, rfl, rfl, rfl, rfl, rfl, rfl⟩
      have d20 : decide ((2002 : Int) < (x.size : Int)) = true := by simp; omega
      clear hw hsh
      go_wp2
      refine bodyPost_ret (v := .agg #[.int .i64 1, .int .i64 0, .slice none 0 0, .slice none 0 0, .string ⟨#[]⟩, .string ⟨#[]⟩]) (by simp [results, Tryd.results7, go_sem, r0, r1, r2, r3, r4, r5]) rfl ⟨below_set6P hB1 (Nat.le_succ _) _ _ _ _ _ _, KpOut.zero HKP.out⟩

end Go.Proofs.YtmeojnaoljgieadDoor
