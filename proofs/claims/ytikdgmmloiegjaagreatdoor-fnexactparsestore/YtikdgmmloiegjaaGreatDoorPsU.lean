import Derived.Test.YtikdgmmloiegjaaGreatDoorMkI
import Derived.Test.YtikdgmmloiegjaaGreatDoorMkK
namespace Go.Proofs.YtikdgmmloiegjaaGreatDoor
open Go.RowKit
set_option linter.unusedVariables false

def e00 : Ent := (.slice none 0 0, .slice none 0 0, q00)
theorem FS.own {F : Nat} {s : Sta} {tv qv pv : Value} {es : List Ent} {w : World} (h : FS F s tv qv pv es [] w) : OwnX w (F + 1) w.heap.size tv s.ts ∧ OwnQ w (F + 1) w.heap.size qv s.rs := by
  have hel : es.length = s.rs.length := by rw [← h.er, List.length_map]
  have hat : ∀ i (hi : i < s.rs.length), es.getD i e00 = es[i]'(by omega) ∧ qx s.rs i = (es.getD i e00).2.2 ∧ es.getD i e00 ∈ es ++ [] := fun i hi => by
    have hi' : i < es.length := by omega
    have e : es.getD i e00 = es[i] := by rw [List.getD_eq_getElem?_getD, List.getElem?_eq_getElem hi']; rfl
    refine ⟨e, ?_, by rw [e]; simp⟩
    rw [e]
    unfold qx
    rw [← h.er, List.getD_eq_getElem?_getD, List.getElem?_map, List.getElem?_eq_getElem hi']; rfl
  refine ⟨RowO.new h.txt, es.flatMap entC, fun i => (es.getD i e00).1, fun i => (es.getD i e00).2.1, RowO.new (hel ▸ h.row), fun i hi => ?_, fun i hi => ?_, fun i hi => ?_, fun i j hij hj b hb hb2 => ?_, fun i j hij hj b hb hb2 => ?_⟩
  · obtain ⟨h1, h2, h3⟩ := hat i hi
    have e : ∀ j, j < 3 → (es.flatMap entC)[i * 3 + j]? = (entC (es.getD i e00))[j]? := fun j hj => flat3_get entC (fun _ => rfl) e00 es i j (by omega) hj
    rw [h2]
    exact ⟨e 0 (by omega), e 1 (by omega), e 2 (by omega)⟩
  · obtain ⟨h1, h2, h3⟩ := hat i hi
    rw [h2]
    refine ⟨_, RowO.new (h.cod _ h3), fun j hj => ?_⟩
    have e : ∀ k, k < 3 → _ := fun k hk => insC_get (es.getD i e00).2.2.code j k hj hk
    exact ⟨e 0 (by omega), e 1 (by omega), e 2 (by omega)⟩
  · obtain ⟨h1, h2, h3⟩ := hat i hi
    rw [h2]
    refine ⟨_, RowO.new (h.loo _ h3), fun j hj => ?_⟩
    have e : ∀ k, k < 3 → _ := fun k hk => flat3_get gloC1 (fun _ => rfl) g00 (es.getD i e00).2.2.looks j k hj hk
    exact ⟨e 0 (by omega), e 1 (by omega), e 2 (by omega)⟩
  · have hp := h.apc
    rw [List.append_nil] at hp
    have := List.pairwise_iff_getElem.1 hp i j (by omega) (by omega) hij
    rw [(hat i (by omega)).1] at hb
    rw [(hat j hj).1] at hb2
    exact this b hb hb2
  · have hp := h.apl
    rw [List.append_nil] at hp
    have := List.pairwise_iff_getElem.1 hp i j (by omega) (by omega) hij
    rw [(hat i (by omega)).1] at hb
    rw [(hat j hj).1] at hb2
    exact this b hb hb2
theorem acc_small {S : List UInt8} {s : Sta} (h : Acc S s) : SoSm s.ts s.rs := by
  obtain ⟨_, _, _, _, _, _, h4⟩ := h
  have hst := h4.2.2
  refine ⟨by have := hst.1.1; omega, by have := hst.2.1; omega, fun i hi => ?_⟩
  have := hst.2.2 i hi
  have h1 := this.1
  simp only [progOk, Bool.and_eq_true, decide_eq_true_eq] at h1
  have h2 := this.2.2.1
  exact ⟨by have := h1.1.2; omega, by omega⟩
def SpecQ (sb : ByteArray) (b : Bool) (n : Int) (ts : List ByteArray) (rs : List T3) : Prop := ∀ w, Calls Tryz.prog 4 #[.string sb] w fun e w' => Below w.heap.size w w' ∧ ∃ ta tc ra rc, e = .returned (.tuple #[.agg #[.int .i64 n, .slice ta ts.length tc, .slice ra rs.length rc], .bool b]) ∧ Strs w' ta ts ∧ RowQ w' ra rs
def ImplQ (p : Nat → Addr) (sb : ByteArray) (b : Bool) (n : Int) (ts : List ByteArray) (rs : List T3) : Prop := ∀ w, Env p w → Calls Tryz.prog 5 #[.string sb] w fun e w' => Below w.heap.size w w' ∧ ∃ ta tc ra rc, e = .returned (.tuple #[.agg #[.int .i64 n, .slice ta ts.length tc, .slice ra rs.length rc], .bool b]) ∧ OwnX w' w.heap.size w'.heap.size (.slice ta ts.length tc) ts ∧ OwnQ w' w.heap.size w'.heap.size (.slice ra rs.length rc) rs
theorem both (p : Nat → Addr) (sb : ByteArray) : ∃ b n ts rs, SoSm ts rs ∧ SpecQ sb b n ts rs ∧ ImplQ p sb b n ts rs := by
  have esb : (⟨sb.data.toList.toArray⟩ : ByteArray) = sb := by simp
  by_cases h : ∃ s, Acc sb.data.toList s
  · obtain ⟨s, hs⟩ := h
    refine ⟨true, s.w, s.ts, s.rs, acc_small hs, fun w => ?_, fun w hE => ?_⟩
    · have := specParse_any sb.data.toList w
      rw [esb] at this
      refine this.mono ?_
      rintro e w' ⟨hb, ⟨hno, _⟩ | ⟨s', hs', ta, tc, ra, rc, rfl, hin⟩⟩
      · exact absurd hs (hno s)
      · obtain rfl := hs'.unique hs
        exact ⟨hb, ta, tc, ra, rc, rfl, hin.st, hin.qs.1⟩
    · have := implParse_any stInP p sb.data.toList w hE
      rw [esb] at this
      refine this.mono ?_
      rintro e w' ⟨hb, ⟨hno, _⟩ | ⟨s', hs', tv, qv, es, w2, hF, rfl, rfl⟩⟩
      · exact absurd hs (hno s)
      · obtain rfl := hs'.unique hs
        obtain ⟨o1, o2⟩ := hF.own
        obtain ⟨ta, tc, rfl, _⟩ := o1.sl
        obtain ⟨ra, rc, rfl, _⟩ := o2.sl
        exact ⟨hb, ta, tc, ra, rc, rfl, (((o1.set (by omega) _).set (by omega) _).set (by omega) _).wide (by omega) (by simp), (((o2.set (by omega) _).set (by omega) _).set (by omega) _).wide (by omega) (by simp)⟩
  · have h' : ∀ s, ¬ Acc sb.data.toList s := fun s hs => h ⟨s, hs⟩
    refine ⟨false, 0, [], [], ⟨by simp, by simp, fun i hi => by simp at hi⟩, fun w => ?_, fun w hE => ?_⟩
    · have := specParse_any sb.data.toList w
      rw [esb] at this
      refine this.mono ?_
      rintro e w' ⟨hb, ⟨_, rfl⟩ | ⟨s', hs', _⟩⟩
      · exact ⟨hb, none, 0, none, 0, rfl, fun i hi => by simp at hi, fun i hi => by simp at hi⟩
      · exact absurd hs' (h' s')
    · have := implParse_any stInP p sb.data.toList w hE
      rw [esb] at this
      refine this.mono ?_
      rintro e w' ⟨hb, ⟨_, rfl⟩ | ⟨s', hs', _⟩⟩
      · exact ⟨hb, none, 0, none, 0, rfl, OwnX.nil _ _ _, OwnQ.nil _ _ _⟩
      · exact absurd hs' (h' s')
/-- A store's three cells. -/
def S3 (b : Nat) (n : Int) (tv qv : Value) (w : World) : Prop := w.heap[b]? = some (.cells #[.int .i64 n, tv, qv] 25 (0, 0))
theorem S3.cells {b : Nat} {n : Int} {tv qv : Value} {w : World} (h : S3 b n tv qv w) : w.cell? ⟨b, 0, none⟩ = some (.int .i64 n) ∧ w.cell? ⟨b, 1, none⟩ = some tv ∧ w.cell? ⟨b, 2, none⟩ = some qv := ⟨by rw [Lib.cell_of_heap h]; rfl, by rw [Lib.cell_of_heap h]; rfl, by rw [Lib.cell_of_heap h]; rfl⟩
theorem S3.below {b B : Nat} {n : Int} {tv qv : Value} {w w' : World} (h : S3 b n tv qv w) (hb : Below B w w') (hB : b < B) : S3 b n tv qv w' := by
  unfold S3; rw [hb.block b hB]; exact h
theorem S3.keep {b lo hi : Nat} {n : Int} {tv qv : Value} {w w' : World} (h : S3 b n tv qv w) (hk : KeepR lo hi w w') (hB : hi ≤ b) : S3 b n tv qv w' := by
  unfold S3; rw [hk b (hlt h) (Or.inr hB)]; exact h

set_option maxRecDepth 100000 in
set_option maxHeartbeats 4000000 in
theorem storeLaw (p : Nat → Addr) (s : ByteArray) (w : World) (hE : Env p w) (hs0 : s.size ≤ 9223372036854775807) :
    Calls Tryz.prog 3 #[.string s] w fun e w' => e = .returned (.bool true) ∧ Below w.heap.size w w' := by
  by_cases hs : s.size ≤ 1048576
  · have d0 : decide ((1048576 : Int) < (s.size : Int)) = false := by simp; omega
    obtain ⟨b, n, ts, rs, hsm, hsp, him⟩ := both p s
    have HSP := hid hsp
    have HIM := hid him
    have HSM := hid hsm
    have HE := hid hE
    clear hsp him hsm hE
    go_enter Tryz.func3, Tryz.ntmps3
    go_wp2_with fail
    refine (HSP.out _).mono ?_
    rintro e w1 ⟨hb1, ta, tc, ra, rc, rfl, hst, hrq⟩
    obtain ⟨A, eA⟩ : ∃ A, w1.alloc (.cells #[.int .i64 n, .slice ta ts.length tc, .slice ra rs.length rc] 25) = A := ⟨_, rfl⟩
    have hbA : Below w1.heap.size w1 A := eA ▸ (Below.refl _ _).alloc (Nat.le_refl _) _
    have HA := hid (show S3 w1.heap.size n (.slice ta ts.length tc) (.slice ra rs.length rc) A by unfold S3; rw [← eA]; exact alloc_here _ _)
    have HBA := hid (hb1.trans (hbA.mono hb1.size))
    have HST := hid (hst.below hbA)
    have HRQ := hid (hrq.below hbA)
    have HEA := hid eA
    have hlA := hlt HA.out
    clear hb1 hbA hst hrq eA HSP
    go_upto_region 4 with fail
    rw [HEA.out]
    clear HEA
    go_wp2_with fail
    refine (HIM.out A (HE.out.below HBA.out)).mono ?_
    rintro e w2 ⟨hb2, ga, gc, qa, qc, rfl, hox, hoq⟩
    obtain ⟨C, eC⟩ : ∃ C, w2.alloc (.cells #[.int .i64 n, .slice ga ts.length gc, .slice qa rs.length qc] 25) = C := ⟨_, rfl⟩
    have hbC : Below w2.heap.size w2 C := eC ▸ (Below.refl _ _).alloc (Nat.le_refl _) _
    have HC := hid (show S3 w2.heap.size n (.slice ga ts.length gc) (.slice qa rs.length qc) C by unfold S3; rw [← eC]; exact alloc_here _ _)
    have HAC := hid (hb2.trans (hbC.mono hb2.size))
    have HOX := hid (hox.below hbC)
    have HOQ := hid (hoq.below hbC)
    have HEC := hid eC
    have hlC := hlt HC.out
    have h2A := hb2.size
    clear hb2 hbC hox hoq eC
    go_upto_region 5 with fail
    rw [HEC.out]
    clear HEC
    obtain ⟨x0, x1, x2⟩ := HC.out.cells
    obtain ⟨y0, y1, y2⟩ := (HA.out.below HAC.out hlA).cells
    have HEQ := hid (eqStore_same n ga qa ta ra gc qc tc rc ts rs C (by obtain ⟨a, c, e, h⟩ := HOX.out.sl; cases e; exact h) (HST.out.below HAC.out) (by obtain ⟨a, c, e, h⟩ := HOQ.out.sl; cases e; exact h) (HRQ.out.below HAC.out) HSM.out.1 HSM.out.2)
    have hbb : (b != b) = false := by simp
    go_wp2_with fail
    refine HEQ.out.mono ?_
    rintro e w3 ⟨hb3, rfl⟩
    have HC3 := hid (HC.out.below hb3 hlC)
    have HA3 := hid (HAC.out.trans (hb3.mono HAC.out.size))
    have HOX3 := hid (HOX.out.below hb3)
    have HOQ3 := hid (HOQ.out.below hb3)
    have h3C := hb3.size
    clear x0 x1 x2 y0 y1 y2 HEQ hb3 HAC HOX HOQ HC
    obtain ⟨x0, x1, x2⟩ := HC3.out.cells
    have HMK := hid (markStore_own n HOX3.out HOQ3.out (by omega) HSM.out)
    obtain ⟨K, eK⟩ : ∃ K, kS ts rs = K := ⟨_, rfl⟩
    rw [eK] at HMK
    have HEK := hid eK
    clear eK
    go_wp2_with fail
    refine HMK.out.mono ?_
    rintro e w4 ⟨rfl, hb4, hk4, hm4⟩
    have HC4 := hid (HC3.out.keep hk4 (Nat.le_refl _))
    have HA4 := hid (HA3.out.trans hb4)
    have HM4 := hid hm4
    have h43 := hb4.size
    clear x0 x1 x2 HMK hb4 hk4 hm4 HC3 HA3 HOX3 HOQ3
    obtain ⟨x0, x1, x2⟩ := HC4.out.cells
    have HHD := hid (heldStore_own n HM4.out HSM.out)
    rw [HEK.out] at HHD
    go_wp2_with fail
    refine HHD.out.mono ?_
    rintro e w5 ⟨rfl, hb5⟩
    have HC5 := hid (HC4.out.below hb5 (hlt HC4.out))
    have HA5 := hid (HA4.out.trans (hb5.mono HA4.out.size))
    have HM5 := hid (HM4.out.below hb5)
    have hKK : ((K : Int) != (K : Int)) = false := by simp
    have hK0 : decide ((K : Int) < 0) = false := by simp
    clear x0 x1 x2 HHD hb5 HC4 HA4 HM4
    go_wp2_with fail
    refine (HIM.out w5 (HE.out.below (HBA.out.trans (HA5.out.mono HBA.out.size)))).mono ?_
    rintro e w6 ⟨hb6, ka, kc, la, lc, rfl, hox, hoq⟩
    obtain ⟨D, eD⟩ : ∃ D, w6.alloc (.cells #[.int .i64 n, .slice ka ts.length kc, .slice la rs.length lc] 25) = D := ⟨_, rfl⟩
    have hbD : Below w6.heap.size w6 D := eD ▸ (Below.refl _ _).alloc (Nat.le_refl _) _
    have hb65 : Below w5.heap.size w5 D := hb6.trans (hbD.mono hb6.size)
    have HD := hid (show S3 w6.heap.size n (.slice ka ts.length kc) (.slice la rs.length lc) D by unfold S3; rw [← eD]; exact alloc_here _ _)
    have HC6 := hid (HC5.out.below hb65 (hlt HC5.out))
    have HA6 := hid (HA5.out.trans (hb65.mono HA5.out.size))
    have HM6 := hid (HM5.out.below hb65)
    have HOX := hid (hox.below hbD)
    have HOQ := hid (hoq.below hbD)
    have HED := hid eD
    clear hb6 hbD hox hoq eD hb65 HC5 HA5 HM5
    go_upto_region 16 with fail
    rw [HED.out]
    clear HED
    obtain ⟨x0, x1, x2⟩ := HD.out.cells
    obtain ⟨y0, y1, y2⟩ := (HA.out.below HA6.out hlA).cells
    have HEQ := hid (eqStore_same n ka la ta ra kc lc tc rc ts rs D (by obtain ⟨a, c, e, h⟩ := HOX.out.sl; cases e; exact h) (HST.out.below HA6.out) (by obtain ⟨a, c, e, h⟩ := HOQ.out.sl; cases e; exact h) (HRQ.out.below HA6.out) HSM.out.1 HSM.out.2)
    go_wp2_with fail
    refine HEQ.out.mono ?_
    rintro e w7 ⟨hb7, rfl⟩
    have HC7 := hid (HC6.out.below hb7 (hlt HC6.out))
    have HA7 := hid (HA6.out.trans (hb7.mono HA6.out.size))
    have HM7 := hid (HM6.out.below hb7)
    clear x0 x1 x2 y0 y1 y2 HEQ hb7 HC6 HA6 HM6 HOX HOQ
    obtain ⟨x0, x1, x2⟩ := HC7.out.cells
    have HHD := hid (heldStore_own n HM7.out HSM.out)
    rw [HEK.out] at HHD
    go_wp2_with fail
    refine HHD.out.mono ?_
    rintro e w8 ⟨rfl, hb8⟩
    have hB8 := HBA.out.trans ((HA7.out.trans (hb8.mono HA7.out.size)).mono HBA.out.size)
    clear x0 x1 x2 HHD hb8 HC7 HA7 HM7
    go_wp2
    go_ret
    exact ⟨rfl, hB8⟩
  · have d0 : decide ((1048576 : Int) < (s.size : Int)) = true := by simp; omega
    go_enter Tryz.func3, Tryz.ntmps3
    go_wp2
    go_ret
    exact ⟨rfl, Below.refl _ _⟩

end Go.Proofs.YtikdgmmloiegjaaGreatDoor
