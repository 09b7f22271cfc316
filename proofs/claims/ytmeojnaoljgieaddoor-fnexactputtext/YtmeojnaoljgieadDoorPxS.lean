/-
  spec.l4Put.
-/
import Derived.Test.YtmeojnaoljgieadDoorPxB
import Derived.Test.YtmeojnaoljgieadDoorInX
import Derived.BigQuiet
namespace Go.Proofs.YtmeojnaoljgieadDoor
open Go.RowKit Go.Deep
set_option linter.unusedVariables false

theorem one_takeX (ts : List ByteArray) (k : Nat) : ∀ u ∈ (ts.map Value.string).take k, u.oneCell' = true := fun u hu => txV_one ts u (List.mem_of_mem_take hu)
theorem one_dropX (ts : List ByteArray) (k : Nat) : ∀ u ∈ (ts.map Value.string).drop k, u.oneCell' = true := fun u hu => txV_one ts u (List.mem_of_mem_drop hu)
theorem OwnX.set6T {w : World} {lo hi R : Nat} {v : Value} {ts : List ByteArray} (h : OwnX w lo hi v ts) (ht : HasT w R 31) (u1 u2 u3 u4 u5 u6 : Value) : OwnX ((((((w.setCell ⟨R, 0, none⟩ u1).setCell ⟨R, 1, none⟩ u2).setCell ⟨R, 2, none⟩ u3).setCell ⟨R, 3, none⟩ u4).setCell ⟨R, 4, none⟩ u5).setCell ⟨R, 5, none⟩ u6) lo hi v ts :=
  (((((h.setT ht (by decide) _).setT (ht.set _) (by decide) _).setT ((ht.set _).set _) (by decide) _).setT (((ht.set _).set _).set _) (by decide) _).setT ((((ht.set _).set _).set _).set _) (by decide) _).setT (((((ht.set _).set _).set _).set _).set _) (by decide) _
theorem OwnQ.set6T {w : World} {lo hi R : Nat} {v : Value} {rs : List T3} (h : OwnQ w lo hi v rs) (ht : HasT w R 31) (u1 u2 u3 u4 u5 u6 : Value) : OwnQ ((((((w.setCell ⟨R, 0, none⟩ u1).setCell ⟨R, 1, none⟩ u2).setCell ⟨R, 2, none⟩ u3).setCell ⟨R, 3, none⟩ u4).setCell ⟨R, 4, none⟩ u5).setCell ⟨R, 5, none⟩ u6) lo hi v rs :=
  (((((h.setT ht (by decide) (by decide) (by decide) _).setT (ht.set _) (by decide) (by decide) (by decide) _).setT ((ht.set _).set _) (by decide) (by decide) (by decide) _).setT (((ht.set _).set _).set _) (by decide) (by decide) (by decide) _).setT ((((ht.set _).set _).set _).set _) (by decide) (by decide) (by decide) _).setT (((((ht.set _).set _).set _).set _).set _) (by decide) (by decide) (by decide) _
theorem KpOut.fullT {lo R : Nat} {w : World} {n : Int} {ts ts' : List ByteArray} {rs rs' : List T3} {x A B : ByteArray} {cd wd : Int} {v1 v2 : Value} (h : KpP n ts rs x cd wd ts' rs' A B) (h1 : OwnX w lo w.heap.size v1 ts') (h2 : OwnQ w lo w.heap.size v2 rs') (ht : HasT w R 31) (u1 u2 u3 u4 u5 u6 : Value) : KpOut lo ((((((w.setCell ⟨R, 0, none⟩ u1).setCell ⟨R, 1, none⟩ u2).setCell ⟨R, 2, none⟩ u3).setCell ⟨R, 3, none⟩ u4).setCell ⟨R, 4, none⟩ u5).setCell ⟨R, 5, none⟩ u6) (.returned (.agg #[.int .i64 cd, .int .i64 wd, v1, v2, .string A, .string B])) n ts rs x :=
  ⟨cd, wd, ts', rs', A, B, v1, v2, rfl, h, (h1.set6T ht _ _ _ _ _ _).wide (Nat.le_refl _) (by simp), (h2.set6T ht _ _ _ _ _ _).wide (Nat.le_refl _) (by simp)⟩

set_option maxRecDepth 100000 in
set_option maxHeartbeats 8000000 in
theorem l4Put_any (m lo hh g1 p1 : Nat) (a2 : Option Addr) (p2 : Nat) (ts : List ByteArray) (rs : List T3) (x : ByteArray) (w : World) (hX : OwnX w lo hh (.slice (some ⟨g1, 0, none⟩) ts.length p1) ts) (hQ : OwnQ w lo hh (.slice a2 rs.length p2) rs) (hlo : lo ≤ w.heap.size) (hhi : hh ≤ w.heap.size) (hok : WdOk (m : Int) ts rs) (hx : x.size ≤ 2002) :
    Calls Tryd.prog 16 #[.agg #[.int .i64 (m : Int), .slice (some ⟨g1, 0, none⟩) ts.length p1, .slice a2 rs.length p2], .string x] w fun e w' => Below w.heap.size w w' ∧ KpOut lo w' e m ts rs x := by
  obtain ⟨i0, hi, hz0, hz1, hz2⟩ := info_parts Tryd.info9b
  obtain ⟨W, eW⟩ : ∃ W, (w.alloc (.cells #[.int .i64 (m : Int), .slice (some ⟨g1, 0, none⟩) ts.length p1, .slice a2 rs.length p2] 29)).alloc (.cells #[.int .i64 0, .int .i64 0, .slice none 0 0, .slice none 0 0, .string ⟨#[]⟩, .string ⟨#[]⟩] 31) = W := ⟨_, rfl⟩
  have hb0 : Below w.heap.size w W := by rw [← eW]; exact ((Below.refl _ _).alloc (Nat.le_refl _) _).alloc (by simp) _
  have hk0 : W.heap[w.heap.size]? = some (.cells #[.int .i64 (m : Int), .slice (some ⟨g1, 0, none⟩) ts.length p1, .slice a2 rs.length p2] 29 (0, 0)) := by rw [← eW]; exact heapW_old2 _ _ _
  have hk1 : W.heap[w.heap.size + 1]? = some (.cells #[.int .i64 0, .int .i64 0, .slice none 0 0, .slice none 0 0, .string ⟨#[]⟩, .string ⟨#[]⟩] 31 (0, 0)) := by rw [← eW]; exact heapW_new2 _ _ _
  have hWs : w.heap.size + 1 + 1 ≤ W.heap.size := by rw [← eW]; simp
  obtain ⟨c0, c1, c2⟩ := blk_c3 hk0
  have HK0 : Hid (W.heap[w.heap.size]? = some (.cells #[.int .i64 (m : Int), .slice (some ⟨g1, 0, none⟩) ts.length p1, .slice a2 rs.length p2] 29 (0, 0))) := hk0
  have HK1 : Hid (W.heap[w.heap.size + 1]? = some (.cells #[.int .i64 0, .int .i64 0, .slice none 0 0, .slice none 0 0, .string ⟨#[]⟩, .string ⟨#[]⟩] 31 (0, 0))) := hk1
  have HX : Hid (OwnX w lo _ (.slice (some ⟨g1, 0, none⟩) ts.length p1) ts) := hX
  have HQ : Hid (OwnQ w lo _ (.slice a2 rs.length p2) rs) := hQ
  have hcap : ts.length ≤ p1 ∧ p1 ≤ maxLen := by
    rcases (RowO.own hX).2 with ⟨h, _⟩ | ⟨g', c', cur, hv, _, _, h1, h2, _⟩
    · cases h
    · cases hv; exact ⟨h1, h2⟩
  obtain ⟨hcp1, hcp2⟩ := hcap
  unfold maxLen at hcp2
  have HST : Hid (∀ W' : World, Below w.heap.size w W' → Strs W' (some ⟨g1, 0, none⟩) ts) := fun W' hW => by
    obtain ⟨a, c, ea, h⟩ := (hX.below hW).sl
    cases ea
    exact h
  have hm1 : 1 ≤ m := by have := hok.1; omega
  have hm8 : m ≤ 8 := by have := hok.2.1; omega
  have hl5 : ts.length ≤ 5000 := hok.2.2.1.1
  have hr2 : rs.length ≤ 2000 := hok.2.2.2.1
  have HSZ : Hid (∀ i, i < ts.length → (nx ts i).size ≤ 2002) := hok.2.2.1.2.1
  have HKP : Hid (∀ (cd wd : Int) (ts' : List ByteArray) (rs' : List T3) (A B : ByteArray) (r : Nat), PlT m ts (sumB m x) r →
      ((There m ts x r ∧ nx ts r ≠ x ∧ cd = 2 ∧ wd = 0 ∧ ts' = [] ∧ rs' = [] ∧ A = nx ts r ∧ B = x) ∨
       (There m ts x r ∧ nx ts r = x ∧ cd = 0 ∧ wd = m ∧ ts' = ts ∧ rs' = rs ∧ A = ⟨#[]⟩ ∧ B = ⟨#[]⟩) ∨
       (¬ There m ts x r ∧ 5000 ≤ ts.length ∧ cd = 3 ∧ wd = 0 ∧ ts' = [] ∧ rs' = [] ∧ A = ⟨#[]⟩ ∧ B = ⟨#[]⟩) ∨
       (¬ There m ts x r ∧ ¬ 5000 ≤ ts.length ∧ cd = 0 ∧ wd = m ∧ ts' = insX ts x r ∧ rs' = rs ∧ A = ⟨#[]⟩ ∧ B = ⟨#[]⟩)) → KpP (m : Int) ts rs x cd wd ts' rs' A B) := fun cd wd ts' rs' A B r h1 h2 => Or.inr ⟨⟨hok, hx⟩, r, h1, h2⟩
  have hx0 : x.size ≤ 1048576 := by omega
  obtain ⟨sm, esm⟩ : ∃ sm, sumB m x = sm := ⟨_, rfl⟩
  have ESM : Hid (sumB m x = sm) := esm
  have HSUM : Hid (∀ W' : World, Calls Tryd.prog 29 #[.string x, .int .i64 (m : Int)] W' fun e w' => e = .returned (.string sm) ∧ Below W'.heap.size W' w') := fun W' => by rw [← esm]; exact specSum_yes x m W' hx0 hm1 hm8
  have HPLC : Hid (∀ W' : World, Below w.heap.size w W' → Calls Tryd.prog 31 #[.agg #[.int .i64 (m : Int), .slice (some ⟨g1, 0, none⟩) ts.length p1, .slice a2 rs.length p2], .string sm] W' fun e w' => Below W'.heap.size W' w' ∧ ∃ k : Nat, e = .returned (.int .i64 k) ∧ PlT m ts sm k) := fun W' hW => (l4Place_any m _ a2 p1 _ p2 ts sm W' hm1 hm8 (HST.out W' hW) (by omega) HSZ.out).mono fun e w' ⟨j1, k, j2, j3, j4, j5⟩ => ⟨j1, k, j2, j3, j4, j5⟩
  clear hX hQ hk0 hk1 hok esm
  go_enter Tryd.func16, Tryd.ntmps16
  go_wp2_with fail
  clear eW
  refine (HSUM.out _).mono ?_
  rintro e w1 ⟨rfl, hb1⟩
  have hB1 := bt hb0 hb1
  have d0 := cell_below hb1 c0
  have d1 := cell_below hb1 c1
  have d2 := cell_below hb1 c2
  have HR1 : Hid (w1.heap[w.heap.size + 1]? = some (.cells #[.int .i64 0, .int .i64 0, .slice none 0 0, .slice none 0 0, .string ⟨#[]⟩, .string ⟨#[]⟩] 31 (0, 0))) := blk_below HK1.out hb1
  have HA1 : Hid (w1.heap[w.heap.size]? = some (.cells #[.int .i64 (m : Int), .slice (some ⟨g1, 0, none⟩) ts.length p1, .slice a2 rs.length p2] 29 (0, 0))) := blk_below HK0.out hb1
  have hW1 : W.heap.size ≤ w1.heap.size := hb1.size
  clear c0 c1 c2 hb1 HK0 HK1 hb0
  go_wp2_with fail
  refine (HPLC.out _ hB1).mono ?_
  rintro e w2 ⟨hb2, k, rfl, hpl⟩
  have hB2 := bt hB1 hb2
  have HR2 : Hid (w2.heap[w.heap.size + 1]? = some (.cells #[.int .i64 0, .int .i64 0, .slice none 0 0, .slice none 0 0, .string ⟨#[]⟩, .string ⟨#[]⟩] 31 (0, 0))) := blk_below HR1.out hb2
  have HA2 : Hid (w2.heap[w.heap.size]? = some (.cells #[.int .i64 (m : Int), .slice (some ⟨g1, 0, none⟩) ts.length p1, .slice a2 rs.length p2] 29 (0, 0))) := blk_below HA1.out hb2
  have hW2 : W.heap.size ≤ w2.heap.size := Nat.le_trans hW1 hb2.size
  have HPL : Hid (PlT m ts sm k) := hpl
  have hkl := hpl.le
  clear d0 d1 d2 hb2 HR1 HA1 hB1 hpl HPLC
  obtain ⟨c0, c1, c2⟩ := blk_c3 HA2.out
  have hbA : Below w2.heap.size w2 w2.drew := (Below.refl _ _).drew
  go_wp2_with fail
  go_cut [31] (fun c wx => ∃ t : Bool, c = .bool t ∧ Hid (t = true ↔ There m ts x k) ∧ Below w2.heap.size w2 wx)
  case first =>
    by_cases hlt : k < ts.length
    · have k1 : w2.cell? ⟨g1, k, none⟩ = some (.string (nx ts k)) := by
        obtain ⟨b', off', ea, c⟩ := (HST.out w2 hB2) k hlt
        cases ea
        rw [Nat.zero_add] at c
        exact c
      have hsk := HSZ.out k hlt
      have hkI : (k : Int) < (ts.length : Int) := by omega
      have hk0 : (0 : Int) ≤ (k : Int) := by omega
      have e1 : decide ((k : Int) < (ts.length : Int)) = true := by simp; omega
      have HYES : Hid (sumB m (nx ts k) = sm → There m ts x k) := fun h => ⟨hlt, by rw [h, ESM.out]⟩
      have HNO : Hid (¬ sumB m (nx ts k) = sm → ¬ There m ts x k) := fun h h' => h (by rw [h'.2, ESM.out])
      generalize nx ts k = z at *
      have hz0' : z.size ≤ 1048576 := by omega
      obtain ⟨q, eq⟩ : ∃ q, sumB m z = q := ⟨_, rfl⟩
      rw [eq] at HYES HNO
      have HSZ2 : Hid (∀ W : World, Calls Tryd.prog 29 #[.string z, .int .i64 (m : Int)] W fun e w' => e = .returned (.string q) ∧ Below W.heap.size W w') := fun W => by rw [← eq]; exact specSum_yes z m W hz0' hm1 hm8
      clear eq
      by_cases hq : q = sm
      · have dq := str_eq hq
        have HO : Hid (There m ts x k) := HYES.out hq
        clear hq HYES HNO
        go_region_held3 (fun w' => (w'.cell? ⟨w.heap.size, 0, none⟩ = some (.int .i64 (m : Int)) ∧ w'.cell? ⟨w.heap.size, 1, none⟩ = some (.slice (some ⟨g1, 0, none⟩) ts.length p1)) ∧ w'.cell? ⟨g1, k, none⟩ = some (.string z))
          (first | exact ⟨⟨c0, c1⟩, k1⟩ | (with_reducible exact ⟨⟨s0, s1⟩, s2⟩) | assumption)
          (first | (go_at_call 29; refine (HSZ2.out _).mono ?_; rintro e w3 ⟨rfl, hb3⟩; have hB3 := bt hbA hb3; have s0 := cell_below hB3 c0; have s1 := cell_below hB3 c1; have s2 := cell_below hB3 k1))
        all_goals
          go_wp2_with fail
          go_meet
          exact ⟨true, rfl, iff_yes HO.out, hB3⟩
      · have dq := str_ne hq
        have HO : Hid (¬ There m ts x k) := HNO.out hq
        clear hq HYES HNO
        go_region_held3 (fun w' => (w'.cell? ⟨w.heap.size, 0, none⟩ = some (.int .i64 (m : Int)) ∧ w'.cell? ⟨w.heap.size, 1, none⟩ = some (.slice (some ⟨g1, 0, none⟩) ts.length p1)) ∧ w'.cell? ⟨g1, k, none⟩ = some (.string z))
          (first | exact ⟨⟨c0, c1⟩, k1⟩ | (with_reducible exact ⟨⟨s0, s1⟩, s2⟩) | assumption)
          (first | (go_at_call 29; refine (HSZ2.out _).mono ?_; rintro e w3 ⟨rfl, hb3⟩; have hB3 := bt hbA hb3; have s0 := cell_below hB3 c0; have s1 := cell_below hB3 c1; have s2 := cell_below hB3 k1))
        all_goals
          go_wp2_with fail
          go_meet
          exact ⟨false, rfl, iff_no HO.out, hB3⟩
    · have e1 : decide (k < ts.length) = false := by simp; omega
      have HO : Hid (¬ There m ts x k) := fun h => hlt h.1
      clear hlt
      go_quiet (fail)
      go_wp2_with fail
      go_meet
      exact ⟨false, rfl, iff_no HO.out, below_drewN (Below.refl _ _) _⟩
  case rest =>
    obtain ⟨t, rfl, HTR, hbx⟩ := hcut
    have hBx := bt hB2 hbx
    have HRX : Hid (wc.heap[w.heap.size + 1]? = some (.cells #[.int .i64 0, .int .i64 0, .slice none 0 0, .slice none 0 0, .string ⟨#[]⟩, .string ⟨#[]⟩] 31 (0, 0))) := blk_below HR2.out hbx
    have HAX : Hid (wc.heap[w.heap.size]? = some (.cells #[.int .i64 (m : Int), .slice (some ⟨g1, 0, none⟩) ts.length p1, .slice a2 rs.length p2] 29 (0, 0))) := blk_below HA2.out hbx
    have hWx : W.heap.size ≤ wc.heap.size := Nat.le_trans hW2 hbx.size
    clear c0 c1 c2 hbA HR2 HA2 hbx
    rw [← ESM.out] at HPL
    cases t
    · have HNTH : Hid (¬ There m ts x k) := fun h => by have := HTR.out.2 h; cases this
      by_cases h5 : 5000 ≤ ts.length
      · have HK : Hid (KpP (m : Int) ts rs x 3 0 [] [] ⟨#[]⟩ ⟨#[]⟩) := HKP.out _ _ _ _ _ _ k HPL.out (Or.inr (Or.inr (Or.inl ⟨HNTH.out, h5, rfl, rfl, rfl, rfl, rfl, rfl⟩)))
        have d5 : decide ((5000 : Int) ≤ (ts.length : Int)) = true := by simp; omega
        obtain ⟨r0, r1, r2, r3, r4, r5⟩ := blk_c6 HRX.out
        have rf := (fun j => Lib.frozen_of_heap HRX.out j)
        obtain ⟨c0, c1, c2⟩ := blk_c3 HAX.out
        clear HTR HKP
        go_wp2
        refine bodyPost_ret (v := .agg #[.int .i64 3, .int .i64 0, .slice none 0 0, .slice none 0 0, .string ⟨#[]⟩, .string ⟨#[]⟩]) (by simp [results, Tryd.results16, go_sem, r0, r1, r2, r3, r4, r5]) rfl ⟨below_set6P hBx (Nat.le_succ _) _ _ _ _ _ _, KpOut.zero HK.out⟩
      · have HK : Hid (KpP (m : Int) ts rs x 0 m (insX ts x k) rs ⟨#[]⟩ ⟨#[]⟩) := HKP.out _ _ _ _ _ _ k HPL.out (Or.inr (Or.inr (Or.inr ⟨HNTH.out, h5, rfl, rfl, rfl, rfl, rfl, rfl⟩)))
        have d5 : decide ((5000 : Int) ≤ (ts.length : Int)) = false := by simp; omega
        obtain ⟨c0, c1, c2⟩ := blk_c3 HAX.out
        have HLIT : Hid ((wc.alloc (.cells #[] 9)).ownsRow wc.heap.size 9 1 (.slice (some ⟨wc.heap.size, 0, none⟩) 0 0) 0 []) := lit_own wc wc.heap.size 9 1 (Nat.le_refl _)
        have HNT : Hid (∀ j u, ((ts.map Value.string).take k)[j]? = some u → (wc.alloc (.cells #[] 9)).cell? ((⟨g1, 0, none⟩ : Addr).add j) = some u) := fun j u hu => by
          rw [List.getElem?_take] at hu
          split at hu
          · exact txV_news (HST.out _ (hBx.alloc hBx.size _)) j u hu
          · cases hu
        have hk1c : (k : Int) ≤ (p1 : Int) := by omega
        have c1l : (wc.alloc (.cells #[] 9)).cell? ⟨w.heap.size, 1, none⟩ = some (.slice (some ⟨g1, 0, none⟩) ts.length p1) := cellW c1
        clear HTR HKP HNTH HSUM
        by_cases hkp : p1 = k
        · subst hkp
          obtain rfl : p1 = ts.length := by omega
          go_wp2_with (first | (at_builtin; refine wpList_append_own _ rfl (.tmp 53) (.tmp 57) 22 rfl wc.heap.size 9 i0 (.string ⟨#[]⟩) 1 16 Tryd.underlying22 hi hz0 hz1 hz2 rfl (by decide) _ 0 [] rfl HLIT.out ⟨g1, 0, none⟩ ts.length ts.length ((ts.map Value.string).take ts.length) rfl (by rw [List.length_take, List.length_map]; omega) HNT.out (one_takeX ts ts.length) (by unfold maxLen; omega) (by omega) (by simp) ?_; intro v' w3 hown' hgrow hnil; obtain ⟨g3, p3, rfl⟩ := own_some hown' (fun e => by have := (hnil.1 e).1; cases this); rw [Nat.zero_add, List.nil_append] at hown'; rw [Nat.zero_add]; have HO3 : Hid (w3.ownsRow wc.heap.size 9 1 (.slice (some ⟨g3, 0, none⟩) ts.length p3) ts.length ((ts.map Value.string).take ts.length)) := hown'; have hB3 : Below wc.heap.size wc w3 := ((Below.refl _ _).alloc (Nat.le_refl _) _).grown hgrow (by simp) (fun j hj => (HLIT.out.lt j hj).1); clear hgrow hnil hown'))
          have s1 := cell_below hB3 c1
          have hs3 : wc.heap.size ≤ w3.heap.size := hB3.size
          have HV4 : Hid ((w3.drew.alloc (.cells #[.string x] 9)).heap[w3.heap.size]? = some (.cells #[.string x] 9 (0, 0))) := heapW_new w3.drew _
          have hB4 : Below wc.heap.size wc (w3.drew.alloc (.cells #[.string x] 9)) := hB3.drew.alloc (by simpa using hs3) _
          have HO4 : Hid ((w3.drew.alloc (.cells #[.string x] 9)).ownsRow wc.heap.size 9 1 (.slice (some ⟨g3, 0, none⟩) ts.length p3) ts.length ((ts.map Value.string).take ts.length)) := (own_same (w' := w3.drew) HO3.out (fun _ _ => rfl)).alloc _
          have t1 := cell_below hB4 c1
          have HN4 : Hid (∀ W' : World, Below wc.heap.size wc W' → ∀ j u, ((ts.map Value.string).drop ts.length)[j]? = some u → W'.cell? ((⟨g1, 0, none⟩ : Addr).add j) = some u) := fun W' hW j u hu => by rw [List.drop_of_length_le (by rw [List.length_map]; omega)] at hu; simp at hu
          go_region_held3 (fun w' => w'.cell? ⟨w.heap.size, 1, none⟩ = some (.slice (some ⟨g1, 0, none⟩) ts.length ts.length))
            (first | (with_reducible exact v1) | (with_reducible exact u1) | (with_reducible exact t1) | exact s1 | exact t1)
            (first
            | (refine step_appO (w := w3.drew.alloc (.cells #[.string x] 9)) rfl (.tmp 59) (.tmp 61) 22 rfl wc.heap.size 9 i0 (.string ⟨#[]⟩) 1 16 Tryd.underlying22 hi hz0 hz1 hz2 rfl (by decide) g3 ts.length p3 _ (by rfl) HO4.out ⟨w3.heap.size, 0, none⟩ 1 1 [.string x] (by rfl) rfl (World.news_of_block (cs := #[.string x]) (t := 9) (fr := (0, 0)) HV4.out) (by intro u hu; simp at hu; rw [hu]; rfl) (by unfold maxLen; omega) (by omega) hB4.size ?_; intro g4 p4 w5 ho5 hgx; have hB5 : Below wc.heap.size wc w5 := hB4.grown hgx hB4.size (fun j hj => by have hj2 : g3 = j := (by simpa using hj); rw [← hj2]; exact (HO4.out.lt g3 rfl).1); have v1 := cell_below hB5 c1; have hs5 : wc.heap.size ≤ w5.heap.size := hB5.size; have HO5 : Hid (w5.ownsRow wc.heap.size 9 1 (.slice (some ⟨g4, 0, none⟩) (ts.length + 1) p4) (ts.length + 1) ((ts.map Value.string).take ts.length ++ [.string x])) := ho5; have HN5 : Hid (∀ j u, ((ts.map Value.string).drop ts.length)[j]? = some u → w5.cell? ((⟨g1, 0, none⟩ : Addr).add j) = some u) := HN4.out w5 hB5)
            | (refine step_appO (w := w5) rfl (.tmp 62) (.tmp 66) 22 rfl wc.heap.size 9 i0 (.string ⟨#[]⟩) 1 16 Tryd.underlying22 hi hz0 hz1 hz2 rfl (by decide) g4 (ts.length + 1) p4 _ (by rfl) HO5.out ⟨g1, 0, none⟩ 0 0 ((ts.map Value.string).drop ts.length) (by rfl) (by rw [List.length_drop, List.length_map]; omega) (HN5.out) (one_dropX ts ts.length) (by unfold maxLen; omega) (by omega) hs5 ?_; intro g6 p6 w6 ho6 hgx6; have hB6 : Below wc.heap.size wc w6 := hB5.grown hgx6 hs5 (fun j hj => by have hj2 : g4 = j := (by simpa using hj); rw [← hj2]; exact (HO5.out.lt g4 rfl).1); have u1 := cell_below hB6 c1; have HO6 : Hid (w6.ownsRow wc.heap.size 9 1 (.slice (some ⟨g6, 0, none⟩) (ts.length + 1) p6) (ts.length + 1) ((insX ts x ts.length).map Value.string)) := (by rw [show ts.length + 1 + 0 = ts.length + 1 by omega] at ho6; rw [insX_map]; exact ho6); rw [show ts.length + 1 + 0 = ts.length + 1 by omega])
            )
          all_goals
            have HR6 := blk_below HRX.out hB6
            have HA6 := blk_below HAX.out hB6
            obtain ⟨r0, r1, r2, r3, r4, r5⟩ := blk_c6 HR6
            have rf := (fun j => Lib.frozen_of_heap HR6 j)
            obtain ⟨c0, c1, c2⟩ := blk_c3 HA6
            have qf := (fun j => Lib.frozen_of_heap HA6 j)
            have HTA : Hid (HasT w6 w.heap.size 29) := ⟨_, HA6⟩
            have HX6 : Hid (OwnX w6 lo w6.heap.size (.slice (some ⟨g6, 0, none⟩) (ts.length + 1) p6) (insX ts x ts.length)) := by
              have h := RowO.wide (RowO.new HO6.out) (lo' := lo) (by omega) (Nat.le_refl _)
              unfold OwnX
              rw [insX_length ts x ts.length hkl]
              exact h
            have HQ6 : Hid (OwnQ w6 lo w6.heap.size (.slice a2 rs.length p2) rs) := ((HQ.out.below hBx).below hB6).wide (Nat.le_refl _) (by have := hB6.size; have := hBx.size; omega)
            have hBw := bt hBx hB6
            clear HR6 HA6 HO6
            go_wp2
            refine bodyPost_ret (v := .agg #[.int .i64 0, .int .i64 (m : Int), .slice (some ⟨g6, 0, none⟩) (ts.length + 1) p6, .slice a2 rs.length p2, .string ⟨#[]⟩, .string ⟨#[]⟩]) (by simp [results, Tryd.results16, go_sem, r0, r1, r2, r3, r4, r5]) rfl ⟨below_set6P (hBw.setCell (p := ⟨w.heap.size, 1, none⟩) (by simp) _) (Nat.le_succ _) _ _ _ _ _ _, KpOut.fullT HK.out ((HX6.out.setT HTA.out (by decide) _).wide (Nat.le_refl _) (by simp)) ((HQ6.out.setT HTA.out (by decide) (by decide) (by decide) _).wide (Nat.le_refl _) (by simp)) (HasT.set ⟨_, blk_below HRX.out hB6⟩ _) _ _ _ _ _ _⟩
        · have hkp' : ¬ (p1 = k) := hkp
          go_wp2_with (first | (at_builtin; refine wpList_append_own _ rfl (.tmp 53) (.tmp 57) 22 rfl wc.heap.size 9 i0 (.string ⟨#[]⟩) 1 16 Tryd.underlying22 hi hz0 hz1 hz2 rfl (by decide) _ 0 [] rfl HLIT.out ⟨g1, 0, none⟩ k p1 ((ts.map Value.string).take k) rfl (by rw [List.length_take, List.length_map]; omega) HNT.out (one_takeX ts k) (by unfold maxLen; omega) (by omega) (by simp) ?_; intro v' w3 hown' hgrow hnil; obtain ⟨g3, p3, rfl⟩ := own_some hown' (fun e => by have := (hnil.1 e).1; cases this); rw [Nat.zero_add, List.nil_append] at hown'; rw [Nat.zero_add]; have HO3 : Hid (w3.ownsRow wc.heap.size 9 1 (.slice (some ⟨g3, 0, none⟩) k p3) k ((ts.map Value.string).take k)) := hown'; have hB3 : Below wc.heap.size wc w3 := ((Below.refl _ _).alloc (Nat.le_refl _) _).grown hgrow (by simp) (fun j hj => (HLIT.out.lt j hj).1); clear hgrow hnil hown'))
          have s1 := cell_below hB3 c1
          have hs3 : wc.heap.size ≤ w3.heap.size := hB3.size
          have HV4 : Hid ((w3.drew.alloc (.cells #[.string x] 9)).heap[w3.heap.size]? = some (.cells #[.string x] 9 (0, 0))) := heapW_new w3.drew _
          have hB4 : Below wc.heap.size wc (w3.drew.alloc (.cells #[.string x] 9)) := hB3.drew.alloc (by simpa using hs3) _
          have HO4 : Hid ((w3.drew.alloc (.cells #[.string x] 9)).ownsRow wc.heap.size 9 1 (.slice (some ⟨g3, 0, none⟩) k p3) k ((ts.map Value.string).take k)) := (own_same (w' := w3.drew) HO3.out (fun _ _ => rfl)).alloc _
          have t1 := cell_below hB4 c1
          have HN4 : Hid (∀ W' : World, Below wc.heap.size wc W' → ∀ j u, ((ts.map Value.string).drop k)[j]? = some u → W'.cell? ((⟨g1, k, none⟩ : Addr).add j) = some u) := fun W' hW j u hu => by
            rw [List.getElem?_drop] at hu
            have h := txV_news (HST.out _ (bt hBx hW)) (k + j) u hu
            rw [Addr.add_lit] at h ⊢
            rw [Nat.zero_add] at h
            exact h
          go_region_held3 (fun w' => w'.cell? ⟨w.heap.size, 1, none⟩ = some (.slice (some ⟨g1, 0, none⟩) ts.length p1))
            (first | (with_reducible exact v1) | (with_reducible exact u1) | (with_reducible exact t1) | exact s1 | exact t1)
            (first
            | (refine step_appO (w := w3.drew.alloc (.cells #[.string x] 9)) rfl (.tmp 59) (.tmp 61) 22 rfl wc.heap.size 9 i0 (.string ⟨#[]⟩) 1 16 Tryd.underlying22 hi hz0 hz1 hz2 rfl (by decide) g3 k p3 _ (by rfl) HO4.out ⟨w3.heap.size, 0, none⟩ 1 1 [.string x] (by rfl) rfl (World.news_of_block (cs := #[.string x]) (t := 9) (fr := (0, 0)) HV4.out) (by intro u hu; simp at hu; rw [hu]; rfl) (by unfold maxLen; omega) (by omega) hB4.size ?_; intro g4 p4 w5 ho5 hgx; have hB5 : Below wc.heap.size wc w5 := hB4.grown hgx hB4.size (fun j hj => by have hj2 : g3 = j := (by simpa using hj); rw [← hj2]; exact (HO4.out.lt g3 rfl).1); have v1 := cell_below hB5 c1; have hs5 : wc.heap.size ≤ w5.heap.size := hB5.size; have HO5 : Hid (w5.ownsRow wc.heap.size 9 1 (.slice (some ⟨g4, 0, none⟩) (k + 1) p4) (k + 1) ((ts.map Value.string).take k ++ [.string x])) := ho5; have HN5 : Hid (∀ j u, ((ts.map Value.string).drop k)[j]? = some u → w5.cell? ((⟨g1, k, none⟩ : Addr).add j) = some u) := HN4.out w5 hB5)
            | (refine step_appO (w := w5) rfl (.tmp 62) (.tmp 66) 22 rfl wc.heap.size 9 i0 (.string ⟨#[]⟩) 1 16 Tryd.underlying22 hi hz0 hz1 hz2 rfl (by decide) g4 (k + 1) p4 _ (by rfl) HO5.out ⟨g1, k, none⟩ (ts.length - k) (p1 - k) ((ts.map Value.string).drop k) (by rfl) (by rw [List.length_drop, List.length_map]; omega) (HN5.out) (one_dropX ts k) (by unfold maxLen; omega) (by omega) hs5 ?_; intro g6 p6 w6 ho6 hgx6; have hB6 : Below wc.heap.size wc w6 := hB5.grown hgx6 hs5 (fun j hj => by have hj2 : g4 = j := (by simpa using hj); rw [← hj2]; exact (HO5.out.lt g4 rfl).1); have u1 := cell_below hB6 c1; have HO6 : Hid (w6.ownsRow wc.heap.size 9 1 (.slice (some ⟨g6, 0, none⟩) (ts.length + 1) p6) (ts.length + 1) ((insX ts x k).map Value.string)) := (by rw [show k + 1 + (ts.length - k) = ts.length + 1 by omega] at ho6; rw [insX_map]; exact ho6); rw [show k + 1 + (ts.length - k) = ts.length + 1 by omega])
            )
          all_goals
            have HR6 := blk_below HRX.out hB6
            have HA6 := blk_below HAX.out hB6
            obtain ⟨r0, r1, r2, r3, r4, r5⟩ := blk_c6 HR6
            have rf := (fun j => Lib.frozen_of_heap HR6 j)
            obtain ⟨c0, c1, c2⟩ := blk_c3 HA6
            have qf := (fun j => Lib.frozen_of_heap HA6 j)
            have HTA : Hid (HasT w6 w.heap.size 29) := ⟨_, HA6⟩
            have HX6 : Hid (OwnX w6 lo w6.heap.size (.slice (some ⟨g6, 0, none⟩) (ts.length + 1) p6) (insX ts x k)) := by
              have h := RowO.wide (RowO.new HO6.out) (lo' := lo) (by omega) (Nat.le_refl _)
              unfold OwnX
              rw [insX_length ts x k hkl]
              exact h
            have HQ6 : Hid (OwnQ w6 lo w6.heap.size (.slice a2 rs.length p2) rs) := ((HQ.out.below hBx).below hB6).wide (Nat.le_refl _) (by have := hB6.size; have := hBx.size; omega)
            have hBw := bt hBx hB6
            clear HR6 HA6 HO6
            go_wp2
            refine bodyPost_ret (v := .agg #[.int .i64 0, .int .i64 (m : Int), .slice (some ⟨g6, 0, none⟩) (ts.length + 1) p6, .slice a2 rs.length p2, .string ⟨#[]⟩, .string ⟨#[]⟩]) (by simp [results, Tryd.results16, go_sem, r0, r1, r2, r3, r4, r5]) rfl ⟨below_set6P (hBw.setCell (p := ⟨w.heap.size, 1, none⟩) (by simp) _) (Nat.le_succ _) _ _ _ _ _ _, KpOut.fullT HK.out ((HX6.out.setT HTA.out (by decide) _).wide (Nat.le_refl _) (by simp)) ((HQ6.out.setT HTA.out (by decide) (by decide) (by decide) _).wide (Nat.le_refl _) (by simp)) (HasT.set ⟨_, blk_below HRX.out hB6⟩ _) _ _ _ _ _ _⟩
    · have HTH := HTR.out.1 rfl
      obtain ⟨h3, h4⟩ := HTH
      have HTH2 : Hid (There m ts x k) := ⟨h3, h4⟩
      have hkI : (k : Int) < (ts.length : Int) := by omega
      have k1 : wc.cell? ⟨g1, k, none⟩ = some (.string (nx ts k)) := by
        obtain ⟨b', off', ea, c⟩ := (HST.out wc hBx) k h3
        cases ea
        rw [Nat.zero_add] at c
        exact c
      obtain ⟨r0, r1, r2, r3, r4, r5⟩ := blk_c6 HRX.out
      have rf := (fun j => Lib.frozen_of_heap HRX.out j)
      obtain ⟨c0, c1, c2⟩ := blk_c3 HAX.out
      by_cases hne : nx ts k = x
      · have HK : Hid (KpP (m : Int) ts rs x 0 m ts rs ⟨#[]⟩ ⟨#[]⟩) := HKP.out _ _ _ _ _ _ k HPL.out (Or.inr (Or.inl ⟨HTH2.out, hne, rfl, rfl, rfl, rfl, rfl, rfl⟩))
        have heq := str_eq hne
        clear HTR HKP HTH2 h4 hne
        generalize nx ts k = z at k1 heq
        go_wp2
        refine bodyPost_ret (v := .agg #[.int .i64 0, .int .i64 (m : Int), .slice (some ⟨g1, 0, none⟩) ts.length p1, .slice a2 rs.length p2, .string ⟨#[]⟩, .string ⟨#[]⟩]) (by simp [results, Tryd.results16, go_sem, r0, r1, r2, r3, r4, r5]) rfl ⟨below_set6P hBx (Nat.le_succ _) _ _ _ _ _ _, KpOut.fullT HK.out ((HX.out.below hBx).wide (Nat.le_refl _) (by have := hBx.size; omega)) ((HQ.out.below hBx).wide (Nat.le_refl _) (by have := hBx.size; omega)) ⟨_, HRX.out⟩ _ _ _ _ _ _⟩
      · have HK : Hid (KpP (m : Int) ts rs x 2 0 [] [] (nx ts k) x) := HKP.out _ _ _ _ _ _ k HPL.out (Or.inl ⟨HTH2.out, hne, rfl, rfl, rfl, rfl, rfl, rfl⟩)
        have heq := str_ne hne
        clear HTR HKP HTH2 h4 hne
        generalize nx ts k = z at k1 heq HK
        go_wp2
        refine bodyPost_ret (v := .agg #[.int .i64 2, .int .i64 0, .slice none 0 0, .slice none 0 0, .string z, .string x]) (by simp [results, Tryd.results16, go_sem, r0, r1, r2, r3, r4, r5]) rfl ⟨below_set6P hBx (Nat.le_succ _) _ _ _ _ _ _, KpOut.zero HK.out⟩

end Go.Proofs.YtmeojnaoljgieadDoor
