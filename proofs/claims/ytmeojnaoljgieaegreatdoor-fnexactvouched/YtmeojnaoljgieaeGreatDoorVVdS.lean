import Derived.Test.YtmeojnaoljgieaeGreatDoorVVdA
import Derived.Test.YtmeojnaoljgieaeGreatDoorVCpS
namespace Go.Proofs.YtmeojnaoljgieaeGreatDoor
open Go.RowKit
set_option linter.unusedVariables false
set_option maxHeartbeats 8000000
set_option maxRecDepth 100000
section
open Go.Deep
theorem specVouched_any (n : Int) (b off tc : Nat) (ra : Option Addr) (rc : Nat) (ts : List ByteArray) (rs : List T3) (w : World) (h : StIn w (some ⟨b, off, none⟩) ts ra rs) (rp : RowP w ra rs) :
    Calls Tryz.prog 41 #[.agg #[.int .i64 n, .slice (some ⟨b, off, none⟩) ts.length tc, .slice ra rs.length rc]] w fun e w' => Below w.heap.size w w' /\ VdOut w.heap.size w' e n ts rs := by
  obtain ⟨V, eV⟩ : ∃ V, (w.alloc (.cells #[.int .i64 n, .slice (some ⟨b, off, none⟩) ts.length tc, .slice ra rs.length rc] 56)).alloc (.cells #[.int .i64 0, .slice none 0 0, .slice none 0 0] 56) = V := ⟨_, rfl⟩
  have hbv : Below w.heap.size w V := by rw [<- eV]; exact ((Below.refl _ _).alloc (Nat.le_refl _) _).alloc (by simp) _
  have hk0 : V.heap[w.heap.size]? = some (.cells #[.int .i64 n, .slice (some ⟨b, off, none⟩) ts.length tc, .slice ra rs.length rc] 56 (0, 0)) := by rw [<- eV]; exact heapW_old2 _ _ _
  have hk1 : V.heap[w.heap.size + 1]? = some (.cells #[.int .i64 0, .slice none 0 0, .slice none 0 0] 56 (0, 0)) := by rw [<- eV]; exact heapW_new2 _ _ _
  have hVs : w.heap.size + 1 + 1 <= V.heap.size := by rw [<- eV]; simp
  obtain ⟨c0, c1, c2⟩ := blk_c3 hk0
  have HV0 : Hid (V.heap[w.heap.size]? = some (.cells #[.int .i64 n, .slice (some ⟨b, off, none⟩) ts.length tc, .slice ra rs.length rc] 56 (0, 0))) := hk0
  have HV1 : Hid (V.heap[w.heap.size + 1]? = some (.cells #[.int .i64 0, .slice none 0 0, .slice none 0 0] 56 (0, 0))) := hk1
  have HI : Hid (StIn w (some ⟨b, off, none⟩) ts ra rs) := h
  have HRP : Hid (RowP w ra rs) := rp
  have st := h.st
  have ht := h.lt
  clear h rp hk0 hk1
  go_enter Tryz.func41, Tryz.ntmps41
  go_wp2_with fail
  clear eV
  refine (specValidStore_any n _ ra tc rc ts rs V (HI.out.below hbv)).mono ?_
  rintro e W ⟨hbW, v, rfl, hv⟩
  have hb0 : Below w.heap.size w W := bt hbv hbW
  have HK0 : Hid (W.heap[w.heap.size]? = some (.cells #[.int .i64 n, .slice (some ⟨b, off, none⟩) ts.length tc, .slice ra rs.length rc] 56 (0, 0))) := blk_below HV0.out hbW
  have HK1 : Hid (W.heap[w.heap.size + 1]? = some (.cells #[.int .i64 0, .slice none 0 0, .slice none 0 0] 56 (0, 0))) := blk_below HV1.out hbW
  have hWs : w.heap.size + 1 + 1 <= W.heap.size := Nat.le_trans hVs hbW.size
  clear c0 c1 c2 hbv hbW HV0 HV1 hVs
  obtain ⟨c0, c1, c2⟩ := blk_c3 HK0.out
  rcases b_iff hv with ⟨hok, rfl⟩ | ⟨hno, rfl⟩
  rotate_left
  · have HN : Hid (¬ WdOk n ts rs) := hno
    obtain ⟨r0, r1, r2⟩ := blk_c3 HK1.out
    have fr : ∀ j, W.frozen? ⟨w.heap.size + 1, j, none⟩ = false := fun j => Lib.frozen_of_heap HK1.out j
    clear hno hv c0 c1 c2
    go_wp2
    refine bodyPost_ret (v := .agg #[.int .i64 0, .slice none 0 0, .slice none 0 0]) (by simp [results, Tryz.results41, go_sem, r0, r1, r2]) rfl ⟨((hb0.setCell (p := ⟨w.heap.size + 1, 0, none⟩) (by simp) _).setCell (p := ⟨w.heap.size + 1, 1, none⟩) (by simp) _).setCell (p := ⟨w.heap.size + 1, 2, none⟩) (by simp) _, 0, [], [], _, _, rfl, Or.inr ⟨HN.out, rfl, rfl, rfl⟩, OwnX.nil _ _ _, OwnQ.nil _ _ _⟩
  obtain ⟨wd, rfl⟩ := Int.eq_ofNat_of_zero_le (show 0 <= n by have := hok.1; omega)
  have HOK : Hid (WdOk wd ts rs) := hok
  have h1 : 1 <= wd := by have := hok.1; omega
  have h8 : wd <= 8 := by have := hok.2.1; omega
  have hr : rs.length <= 2000 := hok.2.2.2.1
  have hk : ∀ i, i < rs.length -> 1 <= (qx rs i).code.length /\ (qx rs i).code.length <= 1048576 /\ (qx rs i).looks.length <= 1048576 := hok.recs
  obtain ⟨KL, eK⟩ : ∃ KL, kept wd ts rs rs.length = KL := ⟨_, rfl⟩
  have HEK : Hid (kept wd ts rs rs.length = KL) := eK
  have hKl : KL.length <= rs.length := by rw [<- eK]; exact kept_length _ _ _ _
  clear hok hv eK
  have HKK : Hid (∀ i, i < rs.length -> 1 <= (qx rs i).code.length /\ (qx rs i).code.length <= 1048576 /\ (qx rs i).looks.length <= 1048576) := hk
  have hbd : Below W.heap.size W W.drew := (Below.refl _ _).drew
  obtain ⟨i0, hi, hz0, hz1, hz2⟩ := info_parts Tryz.info9b
  have HN : Hid (∀ W' : World, Below W.heap.size W W' -> ∀ j u, (ts.map Value.string)[j]? = some u -> W'.cell? ((⟨b, off, none⟩ : Addr).add j) = some u) := fun W' hW => txV_news (st.below (bt hb0 hW))
  have HL : Hid ((ts.map Value.string).length = ts.length * 1) := by show _ = _; simp
  have HO : Hid (∀ u ∈ ts.map Value.string, u.oneCell' = true) := txV_one ts
  have hbC : Below W.heap.size W (W.drew.alloc (.cells #[] 9)) := hbd.alloc (by simp) _
  have hbB : Below W.heap.size W ((W.drew.alloc (.cells #[] 9)).alloc (.cells #[.int .i64 0, .slice none 0 0, .slice none 0 0] 56)) := (hbd.alloc (by simp) _).alloc (by simp) _
  have hbA : Below W.heap.size W ((W.drew.alloc (.cells #[.int .i64 0, .slice none 0 0, .slice none 0 0] 56)).alloc (.cells #[] 9)) := (hbd.alloc (by simp) _).alloc (by simp) _
  have LC : Hid ((W.drew.alloc (.cells #[] 9)).ownsRow W.heap.size 9 1 (.slice (some ⟨W.heap.size, 0, none⟩) 0 0) 0 []) := lit_own W.drew W.heap.size 9 1 (by simp)
  have LB : Hid (((W.drew.alloc (.cells #[] 9)).alloc (.cells #[.int .i64 0, .slice none 0 0, .slice none 0 0] 56)).ownsRow W.heap.size 9 1 (.slice (some ⟨W.heap.size, 0, none⟩) 0 0) 0 []) := (lit_own W.drew W.heap.size 9 1 (by simp)).alloc _
  have LA : Hid (((W.drew.alloc (.cells #[.int .i64 0, .slice none 0 0, .slice none 0 0] 56)).alloc (.cells #[] 9)).ownsRow W.heap.size 9 1 (.slice (some ⟨W.heap.size + 1, 0, none⟩) 0 0) 0 []) := by
    have h := lit_own (W.drew.alloc (.cells #[.int .i64 0, .slice none 0 0, .slice none 0 0] 56)) W.heap.size 9 1 (by simp)
    rw [show (W.drew.alloc (.cells #[.int .i64 0, .slice none 0 0, .slice none 0 0] 56)).heap.size = W.heap.size + 1 from by simp] at h
    exact h
  have ZA : Hid (((W.drew.alloc (.cells #[.int .i64 0, .slice none 0 0, .slice none 0 0] 56)).alloc (.cells #[] 9)).heap[W.heap.size]? = some (.cells #[.int .i64 0, .slice none 0 0, .slice none 0 0] 56 (0, 0))) := by show _ = _; rw [Lib.alloc_old _ _ _ (by simp)]; exact heapW_new W.drew _
  have ZB : Hid (((W.drew.alloc (.cells #[] 9)).alloc (.cells #[.int .i64 0, .slice none 0 0, .slice none 0 0] 56)).heap[W.heap.size + 1]? = some (.cells #[.int .i64 0, .slice none 0 0, .slice none 0 0] 56 (0, 0))) := by
    have h := heapW_new (W.drew.alloc (.cells #[] 9)) (.cells #[.int .i64 0, .slice none 0 0, .slice none 0 0] 56)
    rw [show (W.drew.alloc (.cells #[] 9)).heap.size = W.heap.size + 1 from by simp] at h
    exact h
  clear st hk
  go_wp2_with fail
  go_cut [3] (fun p wx => ∃ (P g1 p1 : Nat), p = .pointer (some ⟨P, 0, none⟩) /\ Hid (wx.heap[P]? = some (.cells #[.int .i64 (wd : Int), .slice (some ⟨g1, 0, none⟩) ts.length p1, .slice none 0 0] 56 (0, 0))) /\ Hid (wx.ownsRow W.heap.size 9 1 (.slice (some ⟨g1, 0, none⟩) ts.length p1) ts.length (ts.map Value.string)) /\ W.heap.size <= P /\ Below W.heap.size W wx)
  case first =>
    go_region_held3 (fun w' => w'.cell? ⟨w.heap.size, 0, none⟩ = some (.int .i64 (wd : Int)) /\ w'.cell? ⟨w.heap.size, 1, none⟩ = some (.slice (some ⟨b, off, none⟩) ts.length tc))
      (first | (with_reducible exact ⟨t0, t1⟩) | (with_reducible exact ⟨cellW t0, cellW t1⟩) | (refine ⟨?_, ?_⟩ <;> (rw [World.cell?_setCell_far _ _ _ _ (by simp; omega), World.cell?_setCell_far _ _ _ _ (by simp; omega), World.cell?_setCell_far _ _ _ _ (by simp; omega)]; assumption)) | exact ⟨c0, c1⟩ | exact ⟨cellW (w := W.drew) c0, cellW (w := W.drew) c1⟩ | exact ⟨cellW (cellW (w := W.drew) c0), cellW (cellW (w := W.drew) c1)⟩)
      (first
        | (refine step_appO (w := W.drew.alloc (.cells #[] 9)) rfl (.tmp 11) (.tmp 13) 30 rfl W.heap.size 9 i0 (.string ⟨#[]⟩) 1 16 Tryz.underlying30 hi hz0 hz1 hz2 rfl (by decide) W.heap.size 0 0 [] (by rfl) LC.out ⟨b, off, none⟩ ts.length tc (ts.map Value.string) (by rfl) HL.out (HN.out _ hbC) HO.out (by unfold maxLen; omega) (by omega) (by simp; try omega) ?_; intro g1 p1 x ho2 hgx; have hB2 : Below W.heap.size W x := Below.grown hbC hgx (by simp; try omega) (fun k hk => by simp at hk; omega); have HO1 : Hid (x.ownsRow W.heap.size 9 1 (.slice (some ⟨g1, 0, none⟩) ts.length p1) ts.length (ts.map Value.string)) := (by rw [Nat.zero_add, List.nil_append] at ho2; exact ho2); have t0 := cell_below hB2 c0; have t1 := cell_below hB2 c1;  rw [Nat.zero_add])
        | (refine step_appO (w := (W.drew.alloc (.cells #[] 9)).alloc (.cells #[.int .i64 0, .slice none 0 0, .slice none 0 0] 56)) rfl (.tmp 11) (.tmp 13) 30 rfl W.heap.size 9 i0 (.string ⟨#[]⟩) 1 16 Tryz.underlying30 hi hz0 hz1 hz2 rfl (by decide) W.heap.size 0 0 [] (by rfl) LB.out ⟨b, off, none⟩ ts.length tc (ts.map Value.string) (by rfl) HL.out (HN.out _ hbB) HO.out (by unfold maxLen; omega) (by omega) (by simp; try omega) ?_; intro g1 p1 x ho2 hgx; have hB2 : Below W.heap.size W x := Below.grown hbB hgx (by simp; try omega) (fun k hk => by simp at hk; omega); have HO1 : Hid (x.ownsRow W.heap.size 9 1 (.slice (some ⟨g1, 0, none⟩) ts.length p1) ts.length (ts.map Value.string)) := (by rw [Nat.zero_add, List.nil_append] at ho2; exact ho2); have t0 := cell_below hB2 c0; have t1 := cell_below hB2 c1; have z2 := (show x.heap[W.heap.size + 1]? = _ from (hgx.block _ (blkW_lt ZB.out) (fun e => by simp at e)).trans ZB.out); obtain ⟨k0, k1, k2⟩ := blk_c3 z2; have kf := (fun j => Lib.frozen_of_heap z2 j); rw [Nat.zero_add])
        | (refine step_appO (w := (W.drew.alloc (.cells #[.int .i64 0, .slice none 0 0, .slice none 0 0] 56)).alloc (.cells #[] 9)) rfl (.tmp 11) (.tmp 13) 30 rfl W.heap.size 9 i0 (.string ⟨#[]⟩) 1 16 Tryz.underlying30 hi hz0 hz1 hz2 rfl (by decide) (W.heap.size + 1) 0 0 [] (by rfl) LA.out ⟨b, off, none⟩ ts.length tc (ts.map Value.string) (by rfl) HL.out (HN.out _ hbA) HO.out (by unfold maxLen; omega) (by omega) (by simp; try omega) ?_; intro g1 p1 x ho2 hgx; have hB2 : Below W.heap.size W x := Below.grown hbA hgx (by simp; try omega) (fun k hk => by simp at hk; omega); have HO1 : Hid (x.ownsRow W.heap.size 9 1 (.slice (some ⟨g1, 0, none⟩) ts.length p1) ts.length (ts.map Value.string)) := (by rw [Nat.zero_add, List.nil_append] at ho2; exact ho2); have t0 := cell_below hB2 c0; have t1 := cell_below hB2 c1; have z2 := (show x.heap[W.heap.size]? = _ from (hgx.block _ (blkW_lt ZA.out) (fun e => by simp at e)).trans ZA.out); obtain ⟨k0, k1, k2⟩ := blk_c3 z2; have kf := (fun j => Lib.frozen_of_heap z2 j); rw [Nat.zero_add]))
    all_goals
      go_wp2_with fail
      go_meet
      first
        | exact ⟨W.heap.size, g1, p1, rfl, blk_set3 z2 _ _ _, own_setT (own_setT (own_setT HO1.out ⟨_, z2⟩ (by decide) _) (HasT.set ⟨_, z2⟩ _) (by decide) _) (HasT.set (HasT.set ⟨_, z2⟩ _) _) (by decide) _, Nat.le_refl _, ((hB2.setCell (p := ⟨W.heap.size, 0, none⟩) (Nat.le_refl _) _).setCell (p := ⟨W.heap.size, 1, none⟩) (Nat.le_refl _) _).setCell (p := ⟨W.heap.size, 2, none⟩) (Nat.le_refl _) _⟩
        | exact ⟨W.heap.size + 1, g1, p1, rfl, blk_set3 z2 _ _ _, own_setT (own_setT (own_setT HO1.out ⟨_, z2⟩ (by decide) _) (HasT.set ⟨_, z2⟩ _) (by decide) _) (HasT.set (HasT.set ⟨_, z2⟩ _) _) (by decide) _, Nat.le_succ _, ((hB2.setCell (p := ⟨W.heap.size + 1, 0, none⟩) (Nat.le_succ _) _).setCell (p := ⟨W.heap.size + 1, 1, none⟩) (Nat.le_succ _) _).setCell (p := ⟨W.heap.size + 1, 2, none⟩) (Nat.le_succ _) _⟩
        | exact ⟨x.heap.size, g1, p1, rfl, heapW_new _ _, HO1.out.alloc _, hB2.size, hB2.alloc hB2.size _⟩
  case rest =>
    obtain ⟨P, g1, p1, rfl, HP, HO1, hPl, hbx⟩ := hcut
    have HC0 : Hid (CS wc P W.heap.size (wd : Int) (.slice (some ⟨g1, 0, none⟩) ts.length p1) (.slice none 0 0) ts KL 0) := CS.zero KL HP.out HO1.out
    have HBX : Hid (Below W.heap.size W wc) := hbx
    clear HP HO1 c0 c1 c2 hbd hbx HN LA LB LC ZA ZB hbA hbB hbC
    go_wp2
    go_loopw [4] (fun i wr => ∃ (k j : Nat) (v2 : Value), k <= rs.length /\ i = .int .i64 k /\ Hid ((kept wd ts rs k).length = j) /\ Hid (CS wr P W.heap.size (wd : Int) (.slice (some ⟨g1, 0, none⟩) ts.length p1) v2 ts KL j) /\ Below W.heap.size W wr) (fun i _ => rs.length - (intOf i).toNat)
    case atStart => exact ⟨0, 0, _, Nat.zero_le _, rfl, (rfl : (kept wd ts rs 0).length = 0), HC0.out, HBX.out⟩
    case round =>
      obtain ⟨k, jj, v2, hk, rfl, HJJ, HW, hbr⟩ := hrel
      have hw : Below w.heap.size w wr := bt hb0 hbr
      obtain ⟨e0, e1, e2⟩ := blk_c3 (blk_below HK0.out hbr)
      clear HC0
      by_cases hlt : k < rs.length
      · obtain ⟨rb, ro, rfl, ca, cc, lb, lf, lc, c1', c2', c3', r1, r2⟩ := HRP.out k hlt
        obtain ⟨hk1, hk2, hk3⟩ := HKK.out k hlt
        have hkI : (k : Int) < (rs.length : Int) := by omega
        have hrb : rb < w.heap.size := World.block_lt_of_cell? _ _ c1'
        replace c1' := cell_below hw c1'
        replace c2' := cell_below hw c2'
        replace c3' := cell_below hw c3'
        have hRC := HOK.out.2.2.2.2 k hlt
        obtain ⟨rv, erv⟩ : ∃ rv, vouV wd ts (qx rs k) = rv := ⟨_, rfl⟩
        have HVO : Hid (∀ W' : World, Below wr.heap.size wr W' -> Calls Tryz.prog 59 #[.agg #[.int .i64 (wd : Int), .slice (some ⟨b, off, none⟩) ts.length tc, .slice (some ⟨rb, ro, none⟩) rs.length rc], .agg #[.slice ca (qx rs k).code.length cc, .slice (some ⟨lb, lf, none⟩) (qx rs k).looks.length lc, .string (qx rs k).out]] W' fun e w' => Below W'.heap.size W' w' /\ e = .returned (.int .i64 rv)) := fun W' hW' => by
          rw [<- erv]
          exact l4Vouch_v wd _ _ ca _ tc _ rc cc lc ts (qx rs k) W' h1 h8 (HI.out.st.below (bt hw hW')) HI.out.lt HOK.out.2.2.1.2.1 HOK.out.2.2.1.2.2 hRC.1 (r1.below (bt hw hW')) (r2.below (bt hw hW')) hRC.2.2.1 (HI.out.qs.ok.xc k)
        have HST : Hid (stayB wd ts rs k = (rv == 0)) := by show _ = _; unfold stayB; rw [erv]
        have HR1 : Hid (Row3 w ca (qx rs k).code) := r1
        have HR2 : Hid (RowG w (some ⟨lb, lf, none⟩) (qx rs k).looks) := r2
        have HAT : Hid (rv = 0 -> qx KL jj = qx rs k) := fun h => by
          rw [<- HEK.out, <- HJJ.out]; exact (kept_at hlt (by rw [HST.out, h]; rfl)).1
        have HJ1 : Hid (rv = 0 -> (kept wd ts rs (k + 1)).length = jj + 1) := fun h => by
          rw [kept_yes (by rw [HST.out, h]; rfl), List.length_append, List.length_singleton, HJJ.out]
        have HJ0 : Hid (¬ rv = 0 -> (kept wd ts rs (k + 1)).length = jj) := fun h => by
          rw [kept_no (by rw [HST.out]; simpa using h), HJJ.out]
        have hjk : jj <= k := by rw [<- HJJ.out]; exact kept_length _ _ _ _
        clear r1 r2 hRC erv HST
        generalize qx rs k = s at *
        have hbd5 : Below wr.heap.size wr wr.drew := (Below.refl _ _).drew
        by_cases hr0 : rv = 0
        · have dr : ((rv : Int) == 0) = true := by simp [hr0]
          have HQ : Hid (qx KL jj = s) := HAT.out hr0
          have HJN : Hid ((kept wd ts rs (k + 1)).length = jj + 1) := HJ1.out hr0
          clear hr0 HAT HJ1 HJ0
          go_wp2_with fail
          go_region_held3 (fun w' => (w'.cell? ⟨w.heap.size, 0, none⟩ = some (.int .i64 (wd : Int)) /\ w'.cell? ⟨w.heap.size, 1, none⟩ = some (.slice (some ⟨b, off, none⟩) ts.length tc) /\ w'.cell? ⟨w.heap.size, 2, none⟩ = some (.slice (some ⟨rb, ro, none⟩) rs.length rc)) /\ w'.cell? ⟨rb, ro + k * 3, none⟩ = some (.slice ca s.code.length cc) /\ w'.cell? ⟨rb, ro + k * 3 + 1, none⟩ = some (.slice (some ⟨lb, lf, none⟩) s.looks.length lc) /\ w'.cell? ⟨rb, ro + k * 3 + 2, none⟩ = some (.string s.out))
            (first | exact ⟨⟨e0, e1, e2⟩, c1', c2', c3'⟩ | (with_reducible exact ⟨⟨f0, f1, f2⟩, f3, f4, f5⟩))
            (first | (go_at_call 59; refine (HVO.out _ hbd5).mono ?_; rintro e w5 ⟨hb5, rfl⟩; have hb5 := bt hbd5 hb5; have f0 := cell_below hb5 e0; have f1 := cell_below hb5 e1; have f2 := cell_below hb5 e2; have f3 := cell_below hb5 c1'; have f4 := cell_below hb5 c2'; have f5 := cell_below hb5 c3'))
          have HW5 : Hid (CS w5 P W.heap.size (wd : Int) (.slice (some ⟨g1, 0, none⟩) ts.length p1) v2 ts KL jj) := HW.out.below hb5
          have hb6 := bt hbr hb5
          have r1' := HR1.out.below (bt hw hb5)
          have r2' := HR2.out.below (bt hw hb5)
          have hw5 := bt hw hb5
          clear hbr hb5 f0 f1 e0 e1 e2 c1' c2' c3' hbd5 hw
          have HWX : Hid (CS w5 P W.heap.size (wd : Int) (.slice (some ⟨g1, 0, none⟩) ts.length p1) v2 ts KL jj) := HW5.out
          have dP := HWX.out.cell.2.2
          have hXW : W.heap.size <= w5.heap.size := hb6.size
          have hPq : P < w5.heap.size := blkW_lt HW5.out.blk
          obtain ⟨ys0, cv0, lv0, hy0, _⟩ := HW5.out.t
          have HVR : Hid (some rb ≠ v2.ownBlock) := fun e => by have := (hy0.lt rb e.symm).1; omega
          have HVA : Hid (some w.heap.size ≠ v2.ownBlock) := fun e => by have := (hy0.lt _ e.symm).1; omega
          have HVP : Hid (some P ≠ v2.ownBlock) := fun e => HasT.ne (T := 56) ⟨_, HW5.out.blk⟩ hy0 (by decide) e.symm
          have hbP : Below W.heap.size W w5 := hb6
          have HCP : Hid (∀ W' : World, Below w5.heap.size w5 W' -> Calls Tryz.prog 96 #[.agg #[.slice ca s.code.length cc, .slice (some ⟨lb, lf, none⟩) s.looks.length lc, .string s.out]] W' fun e w' => Below W'.heap.size W' w' /\ RecOut W'.heap.size w' e s.code s.looks s.out) := fun W' hW' => l4Record_any ca cc lb lf lc s.code s.looks s.out W' (r1'.below hW') (r2'.below hW') hk1 hk2 hk3
          clear hy0 HW HW5 hb6 r1' r2'
          obtain ⟨ys, cv, lv, hys, hpt⟩ := HWX.out.t
          have HYS : Hid (w5.ownsRow W.heap.size 63 3 v2 jj ys) := hys
          have HPT : Hid (PartQ w5 W.heap.size KL jj ys cv lv) := hpt
          have HPUT : Hid (∀ (Y Z : World) (nv c d : Value) (zs us : List Value), Below w5.heap.size w5 Y -> Y.ownsRow w5.heap.size 209 3 c s.code.length zs -> Filled3 s.code s.code.length zs -> Y.ownsRow w5.heap.size 170 3 d s.looks.length us -> FilledG s.looks s.looks.length us -> (∃ g cap, d = .slice (some ⟨g, 0, none⟩) s.looks.length cap) -> Y.grownBy Z v2.ownBlock -> Z.ownsRow W.heap.size 63 3 nv (jj + 1) (ys ++ [c, d, .string s.out]) -> CS (Z.setCell ⟨P, 2, none⟩ nv) P W.heap.size (wd : Int) (.slice (some ⟨g1, 0, none⟩) ts.length p1) nv ts KL (jj + 1)) := fun Y Z nv c d zs us j1 j2 j3 j4 j5 j6 j7 j8 => by
            have hq := HQ.out
            subst hq
            exact CS.put HWX.out j1 hXW HYS.out HPT.out j2 j3 j4 j5 j6 j7 j8
          clear hys hpt
          clear HQ
          go_wp2_with fail
          refine Lt.begin 11 (fun w' => w'.cell? ⟨P, 2, none⟩ = some v2 /\ w'.cell? ⟨w.heap.size, 2, none⟩ = some (.slice (some ⟨rb, ro, none⟩) rs.length rc) /\ w'.cell? ⟨rb, ro + k * 3, none⟩ = some (.slice ca s.code.length cc) /\ w'.cell? ⟨rb, ro + k * 3 + 1, none⟩ = some (.slice (some ⟨lb, lf, none⟩) s.looks.length lc) /\ w'.cell? ⟨rb, ro + k * 3 + 2, none⟩ = some (.string s.out)) (by kernel_rfl) ?_
          have hS0 : w5.drew.cell? ⟨P, 2, none⟩ = some v2 /\ w5.drew.cell? ⟨w.heap.size, 2, none⟩ = some (.slice (some ⟨rb, ro, none⟩) rs.length rc) /\ w5.drew.cell? ⟨rb, ro + k * 3, none⟩ = some (.slice ca s.code.length cc) /\ w5.drew.cell? ⟨rb, ro + k * 3 + 1, none⟩ = some (.slice (some ⟨lb, lf, none⟩) s.looks.length lc) /\ w5.drew.cell? ⟨rb, ro + k * 3 + 2, none⟩ = some (.string s.out) := ⟨dP, f2, f3, f4, f5⟩
          refine Lt.take (i := 0) (oi := { dst := some 31, op := Op.fieldAddr 56 (Operand.tmp 3) 2, type := 0, pos := "l6_keep.go:112", after := #[], guard := none }) (v := ?_) rfl (by kernel_rfl) (by kernel_rfl) (by kernel_rfl) (by kernel_rfl) (fun _ _ _ h => h) hS0 (Or.inl ⟨by rfl, ?_⟩) ?_
          rotate_left 1
          · intro w hSw
            try dsimp only at hSw
            go_simp
            first | done | with_reducible rfl
          simp only [Act.put, List.setIfInBounds_toArray, List.set_cons_zero, List.set_cons_succ]
          refine Lt.take (i := 1) (oi := { dst := some 32, op := Op.load 54 (Operand.tmp 31), type := 54, pos := "l6_keep.go:112", after := #[{ on := 0, ground := Ground.data }], guard := none }) (v := ?_) rfl (by kernel_rfl) (by kernel_rfl) (by kernel_rfl) (by kernel_rfl) (fun _ _ _ h => h) hS0 (Or.inl ⟨by rfl, ?_⟩) ?_
          rotate_left 1
          · intro w hSw
            try dsimp only at hSw
            go_simp
            first | done | with_reducible rfl
          simp only [Act.put, List.setIfInBounds_toArray, List.set_cons_zero, List.set_cons_succ]
          refine Lt.take (i := 2) (oi := { dst := some 33, op := Op.fieldAddr 56 (Operand.tmp 1) 2, type := 0, pos := "l6_keep.go:112", after := #[], guard := none }) (v := ?_) rfl (by kernel_rfl) (by kernel_rfl) (by kernel_rfl) (by kernel_rfl) (fun _ _ _ h => h) hS0 (Or.inl ⟨by rfl, ?_⟩) ?_
          rotate_left 1
          · intro w hSw
            try dsimp only at hSw
            go_simp
            first | done | with_reducible rfl
          simp only [Act.put, List.setIfInBounds_toArray, List.set_cons_zero, List.set_cons_succ]
          refine Lt.take (i := 3) (oi := { dst := some 34, op := Op.load 54 (Operand.tmp 33), type := 54, pos := "l6_keep.go:112", after := #[{ on := 2, ground := Ground.data }], guard := none }) (v := ?_) rfl (by kernel_rfl) (by kernel_rfl) (by kernel_rfl) (by kernel_rfl) (fun _ _ _ h => h) hS0 (Or.inl ⟨by rfl, ?_⟩) ?_
          rotate_left 1
          · intro w hSw
            try dsimp only at hSw
            go_simp
            first | done | with_reducible rfl
          simp only [Act.put, List.setIfInBounds_toArray, List.set_cons_zero, List.set_cons_succ]
          refine Lt.take (i := 4) (oi := { dst := some 35, op := Op.move (Operand.tmp 4), type := 3, pos := "l6_keep.go:112", after := #[], guard := none }) (v := ?_) rfl (by kernel_rfl) (by kernel_rfl) (by kernel_rfl) (by kernel_rfl) (fun _ _ _ h => h) hS0 (Or.inl ⟨by rfl, ?_⟩) ?_
          rotate_left 1
          · intro w hSw
            try dsimp only at hSw
            go_simp
            first | done | with_reducible rfl
          simp only [Act.put, List.setIfInBounds_toArray, List.set_cons_zero, List.set_cons_succ]
          refine Lt.take (i := 5) (oi := { dst := some 36, op := Op.indexAddr 54 (Operand.tmp 34) (Operand.tmp 35), type := 0, pos := "l6_keep.go:112", after := #[{ on := 3, ground := Ground.data }, { on := 4, ground := Ground.data }], guard := none }) (v := ?_) rfl (by kernel_rfl) (by kernel_rfl) (by kernel_rfl) (by kernel_rfl) (fun _ _ _ h => h) hS0 (Or.inl ⟨by rfl, ?_⟩) ?_
          rotate_left 1
          · intro w hSw
            try dsimp only at hSw
            go_simp
            first | done | with_reducible rfl
          simp only [Act.put, List.setIfInBounds_toArray, List.set_cons_zero, List.set_cons_succ]
          refine Lt.take (i := 6) (oi := { dst := some 37, op := Op.load 63 (Operand.tmp 36), type := 63, pos := "l6_keep.go:112", after := #[{ on := 5, ground := Ground.data }], guard := none }) (v := ?_) rfl (by kernel_rfl) (by kernel_rfl) (by kernel_rfl) (by kernel_rfl) (fun _ _ _ h => h) hS0 (Or.inl ⟨by rfl, ?_⟩) ?_
          rotate_left 1
          · intro w hSw
            try dsimp only at hSw
            go_simp
            first | done | with_reducible rfl
          simp only [Act.put, List.setIfInBounds_toArray, List.set_cons_zero, List.set_cons_succ]
          refine Lt.step (i := 7) (o := { dst := some 38, op := Op.call { callee := Callee.value (Operand.func 96), args := #[Operand.tmp 37], argTypes := #[63] }, type := 63, pos := "l6_keep.go:112", after := #[{ on := 6, ground := Ground.data }], guard := none }) (by kernel_rfl) rfl (fun K hK => ?_)
          go_simp
          refine (HCP.out _ ((Below.refl _ _).drew)).mono ?_
          rintro e w6 ⟨hb6, gc, cpc, gd, cpd, rfl, hoc, hod⟩
          have hb7 : Below w5.heap.size w5 w6 := (Below.drew (Below.refl _ _)).trans (hb6.mono (by simp))
          have HOC : Hid (w6.ownsRow w5.heap.size 209 3 (.slice (some ⟨gc, 0, none⟩) s.code.length cpc) s.code.length (insV s.code)) := own_base hoc (by simp)
          have HOD : Hid (w6.ownsRow w5.heap.size 170 3 (.slice (some ⟨gd, 0, none⟩) s.looks.length cpd) s.looks.length (gloV s.looks)) := own_base hod (by simp)
          refine hK.out _ _ (fun _ => ⟨cell_below hb7 dP, cell_below hb7 f2, cell_below hb7 f3, cell_below hb7 f4, cell_below hb7 f5⟩) (fun hS6 => ?_)
          replace hS6 := hS6 (by decide)
          clear hK K hS0 hb6 hoc hod
          refine Lt.step (i := 8) (o := { dst := some 39, op := Op.buildSlice 54 1 #[(0, Operand.tmp 38)], type := 54, pos := "l6_keep.go:112", after := #[{ on := 7, ground := Ground.data }], guard := none }) (by kernel_rfl) rfl (fun K hK => ?_)
          go_simp
          refine hK.out _ _ (fun _ => ⟨cellW hS6.1, cellW hS6.2.1, cellW hS6.2.2.1, cellW hS6.2.2.2.1, cellW hS6.2.2.2.2⟩) (fun hS8 => ?_)
          replace hS8 := hS8 (by decide)
          clear hK K hS6
          refine Lt.step (i := 9) (o := { dst := some 40, op := Op.call { callee := Callee.builtin Builtin.append, args := #[Operand.tmp 32, Operand.tmp 39], argTypes := #[54, 54] }, type := 54, pos := "l6_keep.go:112", after := #[{ on := 1, ground := Ground.data }, { on := 8, ground := Ground.data }, { on := 7, ground := Ground.chain }], guard := none }) (by kernel_rfl) rfl (fun K hK => ?_)
          refine step_appQ rfl (by rfl) W.heap.size v2 _ ys (by rfl) ((ownsRow_below HYS.out hb7).alloc _) w6.heap.size (.slice (some ⟨gc, 0, none⟩) s.code.length cpc) (.slice (some ⟨gd, 0, none⟩) s.looks.length cpd) s.out rfl rfl (by rfl) (heapW_new _ _) (by have := hb7.size; simp; omega) (by omega) ?_
          intro g' cap' w7 hown7 hgrow
          have hsz6 := hb7.size
          have x0 : w7.cell? ⟨P, 2, none⟩ = some v2 := by rw [hgrow.cell_far ⟨P, 2, none⟩ (by simp; omega) HVP.out]; exact hS8.1
          have x1 : w7.cell? ⟨w.heap.size, 2, none⟩ = some (.slice (some ⟨rb, ro, none⟩) rs.length rc) := by rw [hgrow.cell_far ⟨w.heap.size, 2, none⟩ (by simp; omega) HVA.out]; exact hS8.2.1
          have x2 : w7.cell? ⟨rb, ro + k * 3, none⟩ = some (.slice ca s.code.length cc) := by rw [hgrow.cell_far ⟨rb, ro + k * 3, none⟩ (by simp; omega) HVR.out]; exact hS8.2.2.1
          have x3 : w7.cell? ⟨rb, ro + k * 3 + 1, none⟩ = some (.slice (some ⟨lb, lf, none⟩) s.looks.length lc) := by rw [hgrow.cell_far ⟨rb, ro + k * 3 + 1, none⟩ (by simp; omega) HVR.out]; exact hS8.2.2.2.1
          have x4 : w7.cell? ⟨rb, ro + k * 3 + 2, none⟩ = some (.string s.out) := by rw [hgrow.cell_far ⟨rb, ro + k * 3 + 2, none⟩ (by simp; omega) HVR.out]; exact hS8.2.2.2.2
          have HNP : Hid (CS (w7.setCell ⟨P, 2, none⟩ (.slice (some ⟨g', 0, none⟩) (jj + 1) cap')) P W.heap.size (wd : Int) (.slice (some ⟨g1, 0, none⟩) ts.length p1) (.slice (some ⟨g', 0, none⟩) (jj + 1) cap') ts KL (jj + 1)) := HPUT.out _ w7 _ _ _ _ _ (hb7.alloc (by omega) _) (HOC.out.alloc _) (insV_filled _) (HOD.out.alloc _) (gloV_filled _) ⟨_, _, rfl⟩ hgrow hown7
          have hbP7 : Below W.heap.size W w7 := ((hbP.trans (hb7.mono (by omega))).alloc (by omega) _).grown hgrow (by simp; omega) (fun m hm => by have := (HYS.out.lt m hm).1; omega)
          have fz : w7.frozen? ⟨P, 2, none⟩ = false := by rw [hgrow.frozen_far ⟨P, 2, none⟩ (by simp; omega) HVP.out]; exact Lib.frozen_of_heap (by rw [Lib.alloc_old _ _ _ (by omega)]; exact (HWX.out.below hb7).blk) 2
          refine hK.out _ _ (fun _ => ⟨x0, x1, x2, x3, x4⟩) (fun hS9 => ?_)
          replace hS9 := hS9 (by decide)
          clear hK K hS8 hgrow hown7
          simp only [Act.put, List.setIfInBounds_toArray, List.set_cons_zero, List.set_cons_succ]
          refine Lt.take (i := 10) (oi := { dst := some 41, op := Op.fieldAddr 56 (Operand.tmp 3) 2, type := 0, pos := "l6_keep.go:112", after := #[{ on := 0, ground := Ground.phase }, { on := 1, ground := Ground.phase }, { on := 2, ground := Ground.phase }, { on := 3, ground := Ground.phase }, { on := 4, ground := Ground.phase }, { on := 5, ground := Ground.phase }, { on := 6, ground := Ground.phase }, { on := 7, ground := Ground.phase }, { on := 8, ground := Ground.phase }, { on := 9, ground := Ground.phase }], guard := none }) (v := ?_) rfl (by kernel_rfl) (by kernel_rfl) (by kernel_rfl) (by kernel_rfl) (fun _ _ _ h => h) hS9 (Or.inl ⟨by rfl, ?_⟩) ?_
          rotate_left 1
          · intro w hSw
            try dsimp only at hSw
            go_simp
            first | done | with_reducible rfl
          simp only [Act.put, List.setIfInBounds_toArray, List.set_cons_zero, List.set_cons_succ]
          refine Lt.step (i := 11) (o := { dst := none, op := Op.store 54 (Operand.tmp 41) (Operand.tmp 40), type := 0, pos := "l6_keep.go:112", after := #[{ on := 10, ground := Ground.data }, { on := 9, ground := Ground.data }, { on := 9, ground := Ground.chain }, { on := 0, ground := Ground.phase }, { on := 1, ground := Ground.phase }, { on := 2, ground := Ground.phase }, { on := 3, ground := Ground.phase }, { on := 4, ground := Ground.phase }, { on := 5, ground := Ground.phase }, { on := 6, ground := Ground.phase }, { on := 7, ground := Ground.phase }, { on := 8, ground := Ground.phase }, { on := 9, ground := Ground.phase }], guard := none }) (by kernel_rfl) rfl (fun K hK => ?_)
          go_simp
          refine hK.out _ _ (fun h => absurd rfl h) (fun _ => ?_)
          clear hK K hS9
          refine Lt.done (by kernel_rfl) ?_ _
          go_wp2
          go_roundw
          case rel => exact ⟨k + 1, jj + 1, _, by omega, by go_num, HJN.out, HNP.out, hbP7.setCell (p := ⟨P, 2, none⟩) hPl _⟩
          case measure => simp [intOf]; omega
        · have dr : ((rv : Int) == 0) = false := by simp [hr0]
          have HJN : Hid ((kept wd ts rs (k + 1)).length = jj) := HJ0.out hr0
          clear hr0 HAT HJ1 HJ0
          go_wp2_with fail
          go_region_held3 (fun w' => (w'.cell? ⟨w.heap.size, 0, none⟩ = some (.int .i64 (wd : Int)) /\ w'.cell? ⟨w.heap.size, 1, none⟩ = some (.slice (some ⟨b, off, none⟩) ts.length tc) /\ w'.cell? ⟨w.heap.size, 2, none⟩ = some (.slice (some ⟨rb, ro, none⟩) rs.length rc)) /\ w'.cell? ⟨rb, ro + k * 3, none⟩ = some (.slice ca s.code.length cc) /\ w'.cell? ⟨rb, ro + k * 3 + 1, none⟩ = some (.slice (some ⟨lb, lf, none⟩) s.looks.length lc) /\ w'.cell? ⟨rb, ro + k * 3 + 2, none⟩ = some (.string s.out))
            (first | exact ⟨⟨e0, e1, e2⟩, c1', c2', c3'⟩ | (with_reducible exact ⟨⟨f0, f1, f2⟩, f3, f4, f5⟩))
            (first | (go_at_call 59; refine (HVO.out _ hbd5).mono ?_; rintro e w5 ⟨hb5, rfl⟩; have hb5 := bt hbd5 hb5; have f0 := cell_below hb5 e0; have f1 := cell_below hb5 e1; have f2 := cell_below hb5 e2; have f3 := cell_below hb5 c1'; have f4 := cell_below hb5 c2'; have f5 := cell_below hb5 c3'))
          all_goals
            have HW5 : Hid (CS w5 P W.heap.size (wd : Int) (.slice (some ⟨g1, 0, none⟩) ts.length p1) v2 ts KL jj) := HW.out.below hb5
            have hb6 := bt hbr hb5
            clear HW hbr hb5 f0 f1 f2 f3 f4 f5 e0 e1 e2 c1' c2' c3' hbd5
            go_wp2
            go_roundw
            case rel => exact ⟨k + 1, jj, v2, by omega, by go_num, HJN.out, HW5.out, hb6⟩
            case measure => simp [intOf]; omega
      · have ek : k = rs.length := by omega
        subst ek
        have hj : jj = KL.length := by rw [<- HEK.out, <- HJJ.out]
        subst hj
        have kbr : wr.heap[w.heap.size + 1]? = some (.cells #[.int .i64 0, .slice none 0 0, .slice none 0 0] 56 (0, 0)) := blk_below HK1.out hbr
        obtain ⟨r0, r1, r2⟩ := blk_c3 kbr
        have fr : ∀ j, wr.frozen? ⟨w.heap.size + 1, j, none⟩ = false := fun j => Lib.frozen_of_heap kbr j
        obtain ⟨d0, d1, d2⟩ := HW.out.cell
        obtain ⟨o1, o2⟩ := HW.out.own (lo := W.heap.size) (hi := wr.heap.size) (Nat.le_refl _) (Nat.le_refl _)
        have HO1 : Hid (OwnX wr W.heap.size wr.heap.size (.slice (some ⟨g1, 0, none⟩) ts.length p1) ts) := o1
        have HO2 : Hid (OwnQ wr W.heap.size wr.heap.size v2 KL) := o2
        obtain ⟨a2, p2, rfl, _⟩ := o2.sl
        have hsw := hbr.size
        clear kbr hbr o1 o2 HW
        go_wp2
        refine bodyPost_ret (v := .agg #[.int .i64 (wd : Int), .slice (some ⟨g1, 0, none⟩) ts.length p1, .slice a2 KL.length p2]) (by simp [results, Tryz.results41, go_sem, r0, r1, r2]) rfl ⟨((hw.setCell (p := ⟨w.heap.size + 1, 0, none⟩) (by simp) _).setCell (p := ⟨w.heap.size + 1, 1, none⟩) (by simp) _).setCell (p := ⟨w.heap.size + 1, 2, none⟩) (by simp) _, wd, ts, KL, _, _, rfl, Or.inl ⟨HOK.out, rfl, rfl, HEK.out.symm⟩, ?_, ?_⟩
        · exact (((HO1.out.set (by omega) _).set (by omega) _).set (by omega) _).wide (by omega) (by simp)
        · exact (((HO2.out.set (by omega) _).set (by omega) _).set (by omega) _).wide (by omega) (by simp)
end
end Go.Proofs.YtmeojnaoljgieaeGreatDoor
