import Derived.Test.YtoghclfemkmeiaaGreatDoorFtF
import Derived.BigQuiet
namespace Go.Proofs.YtoghclfemkmeiaaGreatDoor
open Go.RowKit Go.Deep
set_option linter.unusedVariables false
set_option linter.unusedSimpArgs false
theorem asked_small {w : World} {sa ta : Option Addr} {ss : List S2} {ts : List T2} (ho : SpOk w sa ss ta ts) (hS : Shal ts) {nm : ByteArray} {ls : List G3} {c : Int} {t : ByteArray} {ch : List ByteArray} (h : TrailP ss ts nm ls c t ch) {k : Nat} (hk : k < ls.length) (ha : (gx ls k).ask = true) : (gx ls k).name.size <= 9223372036854775807 := by
 rcases h with ⟨_, rfl, _⟩ | ⟨hc, hnb, ms, a, hd, q⟩
 ·simp at hk
 ·have hE := env_of ho hc
  cases a with
  | circle l => obtain ⟨rfl, _⟩ := q; simp at hk
  | deep x => obtain ⟨rfl, _⟩ := q; simp at hk
  | ok d =>
   obtain ⟨rfl, _⟩ := q
   have hm : gx d.ls k ∈ d.ls := by unfold gx; rw [List.getD_eq_getElem?_getD, List.getElem?_eq_getElem hk]; exact List.getElem_mem _
   obtain ⟨_, _, _, _, h3⟩ := looks_clean hE.v hS hd _ hm ha
   have := h3.2.1
   omega
theorem blk_c3 {w : World} {b T : Nat} {v1 v2 v3 : Value} (h : w.heap[b]? = some (.cells #[v1, v2, v3] T (0, 0))) : w.cell? ⟨b, 0, none⟩ = some v1 /\ w.cell? ⟨b, 1, none⟩ = some v2 /\ w.cell? ⟨b, 2, none⟩ = some v3 := by
 refine ⟨?_, ?_, ?_⟩ <;> rw [Lib.cell_of_heap h] <;> rfl
set_option maxRecDepth 100000 in
set_option maxHeartbeats 16000000 in
theorem fnTrailLaw (a : Option Addr) (len cap : Nat) (w : World) (hT : Tab w) (hP : P10 w) (h : Bytes w a len) (hlc : len <= cap) :
  Calls Tryz.prog 3 #[.slice a len cap] w fun e w' => e = .returned (.bool true) /\ Below w.heap.size w w' := by
 by_cases hbig : 1048576 < len
 ·have hI : (1048576 : Int) < (len : Int) := by omega
  go_enter Tryz.func3, Tryz.ntmps3
  go_wp2
  go_ret
  exact ⟨rfl, Below.refl _ _⟩
 have hI : (len : Int) <= 1048576 := by omega
 have HD0 := hid (drawTrail_any w a len cap h hlc (by omega))
 clear h hlc hbig
 go_enter Tryz.func3, Tryz.ntmps3
 go_wp2_with fail
 refine HD0.out.mono ?_
 rintro e w2 ⟨hb2, v1, v2, l1, l2, nm, rfl, hd, hbd, hnm, hsh⟩
 obtain ⟨sa, c1, ta, c2, rfl, rfl, hok, hsm⟩ := hd.ok hbd
 obtain ⟨ts, ets⟩ : ∃ ts, l2.map (·.t) = ts := ⟨_, rfl⟩
 rw [ets] at hok hsm hsh ⊢
 clear ets hd hbd HD0
 obtain ⟨P, eP⟩ : ∃ P, w2.heap.size = P := ⟨_, rfl⟩
 obtain ⟨w3, e3⟩ : ∃ y, w2.alloc (.cells #[.slice sa l1.length c1, .slice ta ts.length c2] 26) = y := ⟨_, rfl⟩
 have hb3 : Below w2.heap.size w2 w3 := by rw [<- e3]; exact (Below.refl _ _).alloc (Nat.le_refl _) _
 have HPB : Hid (w3.heap[P]? = some (.cells #[.slice sa l1.length c1, .slice ta ts.length c2] 26 (0, 0))) := by show _ = _; rw [<- e3, <- eP]; exact heapW_new _ _
 have HT := hid ((hT.below hb2).below hb3)
 have HP := hid ((hP.below hb2).below hb3)
 have HOK := hid (hok.below hb3)
 have HB := hid (bN hb2 hb3)
 have HSH := hid hsh
 have HSM := hid hsm
 clear hT hP hok hb2 hb3 hsh hsm
 obtain ⟨d0, d1⟩ := blk_c HPB.out
 go_wp2_with fail
 clear e3 eP d0 d1
 refine (implTrail_any sa ta c1 c2 l1 ts nm w3 HT.out HP.out HOK.out HSM.out (by omega)).mono ?_
 rintro e w4 ⟨hb4, ls, c, t, ch, ca, cn, cc, la, ln, lc, rfl, htr, hch, hlo⟩
 obtain ⟨rfl, hst⟩ := own_strs hch
 obtain ⟨rfl, hrg⟩ := looks_rowG hlo
 replace HPB := hid (blk_below HPB.out hb4)
 replace HT := hid (HT.out.below hb4)
 replace HP := hid (HP.out.below hb4)
 replace HOK := hid (HOK.out.below hb4)
 replace HB := hid (bN HB.out hb4)
 have HTR := hid htr
 have HS1 := hid hst
 have HG1 := hid hrg
 clear hb4 hch hlo htr hst hrg
 obtain ⟨Q6, eQ6⟩ : ∃ P, w4.heap.size = P := ⟨_, rfl⟩
 obtain ⟨w5, e5⟩ : ∃ y, w4.alloc (.cells #[.int .i64 c, .string t, .slice ca ch.length cc] 32) = y := ⟨_, rfl⟩
 have hb5 : Below w4.heap.size w4 w5 := by rw [<- e5]; exact (Below.refl _ _).alloc (Nat.le_refl _) _
 have H6 : Hid (w5.heap[Q6]? = some (.cells #[.int .i64 c, .string t, .slice ca ch.length cc] 32 (0, 0))) := by show _ = _; rw [<- e5, <- eQ6]; exact heapW_new _ _
 replace HPB := hid (blk_below HPB.out hb5)
 replace HT := hid (HT.out.below hb5)
 replace HP := hid (HP.out.below hb5)
 replace HOK := hid (HOK.out.below hb5)
 replace HB := hid (bN HB.out hb5)
 replace HS1 := hid (HS1.out.below hb5)
 replace HG1 := hid (HG1.out.below hb5)
 clear hb5
 obtain ⟨d0, d1⟩ := blk_c HPB.out
 go_wp2_with fail
 clear e5 eQ6 d0 d1
 refine (specTrail_any sa ta c1 c2 l1 ts nm w5 HOK.out HSM.out (by omega)).mono ?_
 unfold TrailS
 rintro e w6 ⟨hb6, ls', c', t', ch', ca', cc', la', lc', rfl, htr', hch', hlo'⟩
 obtain ⟨e1, e2, e3, e4⟩ := TrailP.uniq HOK.out HTR.out htr'
 subst e1; subst e2; subst e3; subst e4
 replace HPB := hid (blk_below HPB.out hb6)
 replace HT := hid (HT.out.below hb6)
 replace HP := hid (HP.out.below hb6)
 replace HOK := hid (HOK.out.below hb6)
 replace HB := hid (bN HB.out hb6)
 replace HS1 := hid (HS1.out.below hb6)
 replace HG1 := hid (HG1.out.below hb6)
 replace H6 := hid (blk_below H6.out hb6)
 have HS2 := hid hch'
 have HG2 := hid hlo'
 clear hb6 htr' hch' hlo'
 obtain ⟨Q8, eQ8⟩ : ∃ P, w6.heap.size = P := ⟨_, rfl⟩
 obtain ⟨w7, e7⟩ : ∃ y, w6.alloc (.cells #[.int .i64 c', .string t', .slice ca' ch'.length cc'] 32) = y := ⟨_, rfl⟩
 have hb7 : Below w6.heap.size w6 w7 := by rw [<- e7]; exact (Below.refl _ _).alloc (Nat.le_refl _) _
 have H8 : Hid (w7.heap[Q8]? = some (.cells #[.int .i64 c', .string t', .slice ca' ch'.length cc'] 32 (0, 0))) := by show _ = _; rw [<- e7, <- eQ8]; exact heapW_new _ _
 replace HPB := hid (blk_below HPB.out hb7)
 replace HT := hid (HT.out.below hb7)
 replace HP := hid (HP.out.below hb7)
 replace HOK := hid (HOK.out.below hb7)
 replace HB := hid (bN HB.out hb7)
 replace HS1 := hid (HS1.out.below hb7)
 replace HG1 := hid (HG1.out.below hb7)
 replace H6 := hid (blk_below H6.out hb7)
 replace HS2 := hid (HS2.out.below hb7)
 replace HG2 := hid (HG2.out.below hb7)
 clear hb7
 obtain ⟨hln, hcn⟩ := HTR.out.len HOK.out
 skip
 go_wp2_with fail
 clear e7 eQ8
 refine Lt.begin 99 (fun w' => w'.heap[P]? = some (.cells #[.slice sa l1.length c1, .slice ta ts.length c2] 26 (0, 0)) /\ w'.heap[Q6]? = some (.cells #[.int .i64 c', .string t', .slice ca ch'.length cc] 32 (0, 0)) /\ w'.heap[Q8]? = some (.cells #[.int .i64 c', .string t', .slice ca' ch'.length cc'] 32 (0, 0))) (by kernel_rfl) ?_
 obtain ⟨wD, eD⟩ : ∃ y, w7.drew = y := ⟨_, rfl⟩
 rw [eD]
 have hbD : Below w7.heap.size w7 wD := by rw [<- eD]; exact (Below.refl _ _).drew
 clear eD
 replace HPB := hid (blk_below HPB.out hbD)
 replace HT := hid (HT.out.below hbD)
 replace HP := hid (HP.out.below hbD)
 replace HOK := hid (HOK.out.below hbD)
 replace HB := hid (bt HB.out hbD)
 replace HS1 := hid (HS1.out.below hbD)
 replace HG1 := hid (HG1.out.below hbD)
 replace H6 := hid (blk_below H6.out hbD)
 replace HS2 := hid (HS2.out.below hbD)
 replace HG2 := hid (HG2.out.below hbD)
 replace H8 := hid (blk_below H8.out hbD)
 have hS0 : (fun w' => w'.heap[P]? = some (.cells #[.slice sa l1.length c1, .slice ta ts.length c2] 26 (0, 0)) /\ w'.heap[Q6]? = some (.cells #[.int .i64 c', .string t', .slice ca ch'.length cc] 32 (0, 0)) /\ w'.heap[Q8]? = some (.cells #[.int .i64 c', .string t', .slice ca' ch'.length cc'] 32 (0, 0))) wD := ⟨HPB.out, H6.out, H8.out⟩
 change K 0 _
 iterate 2
  refine Lt.ti (v := ?_) hS0 ?_ ?_
  rotate_left 1
  ·rintro w ⟨s1, s2, s3⟩; obtain ⟨c0, c1⟩ := blk_c s1; obtain ⟨x0, x1, x2⟩ := blk_c3 s2; obtain ⟨y0, y1, y2⟩ := blk_c3 s3; go_simp; first | done | with_reducible rfl
  simp only [gX]
 refine Lt.sp (i := 2) (fun K hK => ?_)
 go_simp
 refine (wSeen_same la la' lc lc' ls'.length ls' _ rfl HG1.out HG2.out (by omega)).mono ?_
 rintro e wA ⟨rfl, hbA⟩
 replace HPB := hid (blk_below HPB.out hbA)
 replace HT := hid (HT.out.below hbA)
 replace HP := hid (HP.out.below hbA)
 replace HOK := hid (HOK.out.below hbA)
 replace HB := hid (bt HB.out hbA)
 replace HS1 := hid (HS1.out.below hbA)
 replace HG1 := hid (HG1.out.below hbA)
 replace H6 := hid (blk_below H6.out hbA)
 replace HS2 := hid (HS2.out.below hbA)
 replace HG2 := hid (HG2.out.below hbA)
 replace H8 := hid (blk_below H8.out hbA)
 have hS1 : (fun w' => w'.heap[P]? = some (.cells #[.slice sa l1.length c1, .slice ta ts.length c2] 26 (0, 0)) /\ w'.heap[Q6]? = some (.cells #[.int .i64 c', .string t', .slice ca ch'.length cc] 32 (0, 0)) /\ w'.heap[Q8]? = some (.cells #[.int .i64 c', .string t', .slice ca' ch'.length cc'] 32 (0, 0))) wA := ⟨HPB.out, H6.out, H8.out⟩
 refine hK.out _ _ (fun _ => hS1) (fun _ => ?_)
 clear hK K hbA
 try simp only [gX]
 change K 3 _
 iterate 4
  refine Lt.ti (v := ?_) hS1 ?_ ?_
  rotate_left 1
  ·rintro w ⟨s1, s2, s3⟩; obtain ⟨c0, c1⟩ := blk_c s1; obtain ⟨x0, x1, x2⟩ := blk_c3 s2; obtain ⟨y0, y1, y2⟩ := blk_c3 s3; go_simp; first | done | with_reducible rfl
  simp only [gX]
 refine Lt.sp (i := 7) (fun K hK => ?_)
 go_simp
 refine (wResult_eq c' t' ca ca' cc cc' ch'.length ch' _ rfl HS1.out HS2.out (by omega)).mono ?_
 rintro e wB ⟨rfl, hbB⟩
 replace HPB := hid (blk_below HPB.out hbB)
 replace HT := hid (HT.out.below hbB)
 replace HP := hid (HP.out.below hbB)
 replace HOK := hid (HOK.out.below hbB)
 replace HB := hid (bt HB.out hbB)
 replace HS1 := hid (HS1.out.below hbB)
 replace HG1 := hid (HG1.out.below hbB)
 replace H6 := hid (blk_below H6.out hbB)
 replace HS2 := hid (HS2.out.below hbB)
 replace HG2 := hid (HG2.out.below hbB)
 replace H8 := hid (blk_below H8.out hbB)
 have hS2 : (fun w' => w'.heap[P]? = some (.cells #[.slice sa l1.length c1, .slice ta ts.length c2] 26 (0, 0)) /\ w'.heap[Q6]? = some (.cells #[.int .i64 c', .string t', .slice ca ch'.length cc] 32 (0, 0)) /\ w'.heap[Q8]? = some (.cells #[.int .i64 c', .string t', .slice ca' ch'.length cc'] 32 (0, 0))) wB := ⟨HPB.out, H6.out, H8.out⟩
 refine hK.out _ _ (fun _ => hS2) (fun _ => ?_)
 clear hK K hbB
 try simp only [gX]
 change K 8 _
 iterate 5
  refine Lt.ti (v := ?_) hS2 ?_ ?_
  rotate_left 1
  ·rintro w ⟨s1, s2, s3⟩; obtain ⟨c0, c1⟩ := blk_c s1; obtain ⟨x0, x1, x2⟩ := blk_c3 s2; obtain ⟨y0, y1, y2⟩ := blk_c3 s3; go_simp; first | done | with_reducible rfl
  simp only [gX]
 refine Lt.ti (i := 14) (v := ?_) hS2 ?_ ?_
 rotate_left 1
 ·rintro w ⟨s1, s2, s3⟩; obtain ⟨c0, c1⟩ := blk_c s1; obtain ⟨x0, x1, x2⟩ := blk_c3 s2; obtain ⟨y0, y1, y2⟩ := blk_c3 s3; go_simp; first | done | with_reducible rfl
 simp only [gX]
 refine Lt.sp (i := 13) (fun K hK => ?_)
 go_simp
 refine (implClean_any sa ta c1 c2 l1 ts nm _ HT.out HP.out HOK.out HSM.out (by omega)).mono ?_
 rintro e wC ⟨hbC, c9, t9, ch9, ca9, cn9, cc9, rfl, hcl, hch9⟩
 obtain ⟨e1, e2, e3⟩ := clean_uniq HOK.out HTR.out.clean hcl
 replace e1 := e1.symm; replace e2 := e2.symm; replace e3 := e3.symm; subst e1; subst e2; subst e3
 obtain ⟨rfl, hst9⟩ := own_strs hch9
 replace HPB := hid (blk_below HPB.out hbC)
 replace HT := hid (HT.out.below hbC)
 replace HP := hid (HP.out.below hbC)
 replace HOK := hid (HOK.out.below hbC)
 replace HB := hid (bt HB.out hbC)
 replace HS1 := hid (HS1.out.below hbC)
 replace HG1 := hid (HG1.out.below hbC)
 replace H6 := hid (blk_below H6.out hbC)
 replace HS2 := hid (HS2.out.below hbC)
 replace HG2 := hid (HG2.out.below hbC)
 replace H8 := hid (blk_below H8.out hbC)
 have hS3 : (fun w' => w'.heap[P]? = some (.cells #[.slice sa l1.length c1, .slice ta ts.length c2] 26 (0, 0)) /\ w'.heap[Q6]? = some (.cells #[.int .i64 c', .string t', .slice ca ch'.length cc] 32 (0, 0)) /\ w'.heap[Q8]? = some (.cells #[.int .i64 c', .string t', .slice ca' ch'.length cc'] 32 (0, 0))) wC := ⟨HPB.out, H6.out, H8.out⟩
 have HS9 := hid hst9
 refine hK.out _ _ (fun _ => hS3) (fun _ => ?_)
 clear hK K hbC hcl hch9 hst9
 try simp only [gX]
 refine Lt.sp (i := 15) (fun K hK => ?_)
 go_simp
 refine (wResult_eq _ _ ca9 ca' cc9 cc' _ _ _ rfl HS9.out HS2.out (by omega)).mono ?_
 rintro e wE ⟨rfl, hbE⟩
 replace HPB := hid (blk_below HPB.out hbE)
 replace HT := hid (HT.out.below hbE)
 replace HP := hid (HP.out.below hbE)
 replace HOK := hid (HOK.out.below hbE)
 replace HB := hid (bt HB.out hbE)
 replace HS1 := hid (HS1.out.below hbE)
 replace HG1 := hid (HG1.out.below hbE)
 replace H6 := hid (blk_below H6.out hbE)
 replace HS2 := hid (HS2.out.below hbE)
 replace HG2 := hid (HG2.out.below hbE)
 replace H8 := hid (blk_below H8.out hbE)
 replace HS9 := hid (HS9.out.below hbE)
 have hS4 : (fun w' => w'.heap[P]? = some (.cells #[.slice sa l1.length c1, .slice ta ts.length c2] 26 (0, 0)) /\ w'.heap[Q6]? = some (.cells #[.int .i64 c', .string t', .slice ca ch'.length cc] 32 (0, 0)) /\ w'.heap[Q8]? = some (.cells #[.int .i64 c', .string t', .slice ca' ch'.length cc'] 32 (0, 0))) wE := ⟨HPB.out, H6.out, H8.out⟩
 refine hK.out _ _ (fun _ => hS4) (fun _ => ?_)
 clear hK K hbE
 try simp only [gX]
 change K 16 _
 iterate 2
  refine Lt.ti (v := ?_) hS4 ?_ ?_
  rotate_left 1
  ·rintro w ⟨s1, s2, s3⟩; obtain ⟨c0, c1⟩ := blk_c s1; obtain ⟨x0, x1, x2⟩ := blk_c3 s2; obtain ⟨y0, y1, y2⟩ := blk_c3 s3; go_simp; first | done | with_reducible rfl
  simp only [gX]
 refine Lt.done (by kernel_rfl) ?_ _
 go_wp2_with fail
 obtain ⟨n, en⟩ : ∃ n, ls'.length = n := ⟨_, rfl⟩
 rw [en] at hln ⊢
 have EN := hid en
 clear en
 go_loopw [9] (fun i wr => ∃ k : Nat, k <= n /\ i = .int .i64 k /\ Hid (wr.heap[P]? = some (.cells #[.slice sa l1.length c1, .slice ta ts.length c2] 26 (0, 0))) /\ Hid (Tab wr) /\ Hid (P10 wr) /\ Hid (SpOk wr sa l1 ta ts) /\ Hid (Below w.heap.size w wr) /\ Hid (RowG wr la' ls')) (fun i _ => n - (intOf i).toNat)
 case atStart => exact ⟨0, Nat.zero_le _, rfl, HPB, HT, HP, HOK, HB, HG2⟩
 case round =>
  clear HPB HT HP HOK HB HG2 HS1 HG1 H6 HS2 H8 HS9
  obtain ⟨k, hk, rfl, HPB, HT, HP, HOK, HB, HG2⟩ := hrel
  by_cases hlt : k < n
  ·have hkI : (k : Int) < (n : Int) := by omega
   have hk0 : (0 : Int) <= (k : Int) := by omega
   have hkl : k < ls'.length := by rw [EN.out]; exact hlt
   have HSAID := hid (fun (ha : (gx ls' k).ask = true) {c' : Int} {t' : ByteArray} {ch' : List ByteArray} (h' : CleanP l1 ts (gx ls' k).name c' t' ch') => said_of HOK.out HSH.out HTR.out hkl ha h')
   obtain ⟨b, off, rfl, g1, g2, g3⟩ := HG2.out k hkl
   have HSN := hid (fun (ha : (gx ls' k).ask = true) => asked_small HOK.out HSH.out HTR.out hkl ha)
   generalize (gx ls' k).name = x at *
   generalize (gx ls' k).sum = z at *
   generalize (gx ls' k).ask = y at *
   cases y
   ·go_wp2_with fail
    go_quiet (fail)
    go_wp2_with fail
    obtain ⟨wq, ewq⟩ : ∃ y, wr.drewN nq = y := ⟨_, rfl⟩
    have hbq : Below wr.heap.size wr wq := by rw [<- ewq]; exact below_drewN (Below.refl _ _) _
    rw [ewq]
    go_roundw
    case rel => exact ⟨k + 1, by omega, by go_num, hid (blk_below HPB.out hbq), hid (HT.out.below hbq), hid (HP.out.below hbq), hid (HOK.out.below hbq), hid (bN HB.out hbq), hid (HG2.out.below hbq)⟩
    case measure => simp [intOf]; omega
   ·have HC1 := hid g1
    have HC2 := hid g2
    have HC3 := hid g3
    clear g1 g2 g3
    go_wp2_with fail
    refine Lt.begin 99 (fun w' => w'.heap[P]? = some (.cells #[.slice sa l1.length c1, .slice ta ts.length c2] 26 (0, 0)) /\ w'.cell? ⟨b, off + k * 3, none⟩ = some (.string x) /\ w'.cell? ⟨b, off + k * 3 + 1, none⟩ = some (.bool true) /\ w'.cell? ⟨b, off + k * 3 + 2, none⟩ = some (.string z)) (by kernel_rfl) ?_
    obtain ⟨wD, eD⟩ : ∃ y, wr.drew = y := ⟨_, rfl⟩
    rw [eD]
    have hbD : Below wr.heap.size wr wD := by rw [<- eD]; exact (Below.refl _ _).drew
    clear eD
    replace HPB := hid (blk_below HPB.out hbD)
    replace HT := hid (HT.out.below hbD)
    replace HP := hid (HP.out.below hbD)
    replace HOK := hid (HOK.out.below hbD)
    replace HB := hid (bt HB.out hbD)
    replace HG2 := hid (HG2.out.below hbD)
    replace HC1 := hid (cell_below hbD HC1.out)
    replace HC2 := hid (cell_below hbD HC2.out)
    replace HC3 := hid (cell_below hbD HC3.out)
    have hS0 : (fun w' => w'.heap[P]? = some (.cells #[.slice sa l1.length c1, .slice ta ts.length c2] 26 (0, 0)) /\ w'.cell? ⟨b, off + k * 3, none⟩ = some (.string x) /\ w'.cell? ⟨b, off + k * 3 + 1, none⟩ = some (.bool true) /\ w'.cell? ⟨b, off + k * 3 + 2, none⟩ = some (.string z)) wD := ⟨HPB.out, HC1.out, HC2.out, HC3.out⟩
    change K 0 _
    iterate 12
     refine Lt.ti (v := ?_) hS0 ?_ ?_
     rotate_left 1
     ·rintro w ⟨s1, k1, k2, k3⟩; obtain ⟨c0, c1⟩ := blk_c s1; go_simp; first | done | with_reducible rfl
     simp only [gX]
    change K 14 _
    iterate 5
     refine Lt.ti (v := ?_) hS0 ?_ ?_
     rotate_left 1
     ·rintro w ⟨s1, k1, k2, k3⟩; obtain ⟨c0, c1⟩ := blk_c s1; go_simp; first | done | with_reducible rfl
     simp only [gX]
    refine Lt.sp (i := 12) (fun K hK => ?_)
    go_simp
    refine (implClean_any sa ta c1 c2 l1 ts x _ HT.out HP.out HOK.out HSM.out (HSN.out (by simp))).mono ?_
    rintro e wF ⟨hbF, c9, t9, ch9, ca9, cn9, cc9, rfl, hcl, hch9⟩
    obtain ⟨h0, h5, ht9, he9, hz⟩ := HSAID.out (by simp) hcl
    obtain ⟨hcn, _⟩ := own_strs hch9
    replace hcn : cn9 = 0 := by rw [hcn, he9]; rfl
    subst hcn
    obtain ⟨m, rfl⟩ := Int.eq_ofNat_of_zero_le h0
    replace HPB := hid (blk_below HPB.out hbF)
    replace HT := hid (HT.out.below hbF)
    replace HP := hid (HP.out.below hbF)
    replace HOK := hid (HOK.out.below hbF)
    replace HB := hid (bt HB.out hbF)
    replace HG2 := hid (HG2.out.below hbF)
    replace HC1 := hid (cell_below hbF HC1.out)
    replace HC2 := hid (cell_below hbF HC2.out)
    replace HC3 := hid (cell_below hbF HC3.out)
    have hS1 : (fun w' => w'.heap[P]? = some (.cells #[.slice sa l1.length c1, .slice ta ts.length c2] 26 (0, 0)) /\ w'.cell? ⟨b, off + k * 3, none⟩ = some (.string x) /\ w'.cell? ⟨b, off + k * 3 + 1, none⟩ = some (.bool true) /\ w'.cell? ⟨b, off + k * 3 + 2, none⟩ = some (.string z)) wF := ⟨HPB.out, HC1.out, HC2.out, HC3.out⟩
    refine hK.out _ _ (fun _ => hS1) (fun _ => ?_)
    clear hK K hbF hcl hch9 he9 h0
    try simp only [gX]
    obtain ⟨fz, efz⟩ : ∃ y, digB m ++ (⟨#[58]⟩ : ByteArray) ++ t9 = y := ⟨_, rfl⟩
    have hzf : z = fz := hz.trans efz
    have HFR := hid (implForm_yes m t9 ca9 cc9 wF (by omega) ht9)
    rw [efz] at HFR
    clear efz hz HSAID
    subst hzf
    refine Lt.sp (i := 13) (fun K hK => ?_)
    go_simp
    refine HFR.out.mono ?_
    rintro e wG ⟨rfl, hbG⟩
    replace HPB := hid (blk_below HPB.out hbG)
    replace HT := hid (HT.out.below hbG)
    replace HP := hid (HP.out.below hbG)
    replace HOK := hid (HOK.out.below hbG)
    replace HB := hid (bt HB.out hbG)
    replace HG2 := hid (HG2.out.below hbG)
    replace HC1 := hid (cell_below hbG HC1.out)
    replace HC2 := hid (cell_below hbG HC2.out)
    replace HC3 := hid (cell_below hbG HC3.out)
    have hS2 : (fun w' => w'.heap[P]? = some (.cells #[.slice sa l1.length c1, .slice ta ts.length c2] 26 (0, 0)) /\ w'.cell? ⟨b, off + k * 3, none⟩ = some (.string x) /\ w'.cell? ⟨b, off + k * 3 + 1, none⟩ = some (.bool true) /\ w'.cell? ⟨b, off + k * 3 + 2, none⟩ = some (.string z)) wG := ⟨HPB.out, HC1.out, HC2.out, HC3.out⟩
    refine hK.out _ _ (fun _ => hS2) (fun _ => ?_)
    clear hK K hbG
    try simp only [gX]
    change K 19 _
    iterate 2
     refine Lt.ti (v := ?_) hS2 ?_ ?_
     rotate_left 1
     ·rintro w ⟨s1, k1, k2, k3⟩; obtain ⟨c0, c1⟩ := blk_c s1; go_simp; first | done | with_reducible rfl
     simp only [gX]
    refine Lt.done (by kernel_rfl) ?_ _
    go_wp2_with fail
    go_roundw
    case rel => exact ⟨k + 1, by omega, by go_num, HPB, HT, HP, HOK, HB, HG2⟩
    case measure => simp [intOf]; omega
  ·obtain rfl : k = n := by omega
   go_wp2
   go_ret
   exact ⟨rfl, HB.out⟩
end Go.Proofs.YtoghclfemkmeiaaGreatDoor
