import Derived.Test.YtikdgmmloiegjaaGreatDoorSLine
import Derived.Test.YtikdgmmloiegjaaGreatDoorPrT
namespace Go.Proofs.YtikdgmmloiegjaaGreatDoor
open Go.RowKit
set_option linter.unusedVariables false

theorem str_bcells (l : List UInt8) : Lib.strCells ⟨l.toArray⟩ = bcells l := by simp [Lib.strCells, bcells]

theorem shape_ne {w : World} {B n : Nat} {v : Value} {xs : List Value} (h : w.ownsRow B 5 1 v n xs) (hne : v ≠ .slice none 0 0) : ∃ g cap, v = .slice (some ⟨g, 0, none⟩) n cap ∧ B ≤ g ∧ w.ownsRow B 5 1 (.slice (some ⟨g, 0, none⟩) n cap) n xs := by
  rcases h.2 with ⟨h0, _⟩ | ⟨g, cap, cur, hv, hg, _⟩
  · exact absurd h0 hne
  · exact ⟨g, cap, hv, hg, by rw [← hv]; exact h⟩

end Go.Proofs.YtikdgmmloiegjaaGreatDoor
namespace Go.Proofs.YtikdgmmloiegjaaGreatDoor
open Go.RowKit
set_option linter.unusedVariables false

theorem sto_eq (m : Nat) : (⟨#[115, 116, 111, 114, 101, 32]⟩ : ByteArray) ++ (⟨(Lib.decDigits m).toArray⟩ : ByteArray) = bB (stoL m) := bB_cat (⟨#[115, 116, 111, 114, 101, 32]⟩ : ByteArray) (Lib.decDigits m)
theorem txt_eq (x : ByteArray) : (⟨#[116, 101, 120, 116, 32]⟩ : ByteArray) ++ (⟨(quoteL x.data.toList).toArray⟩ : ByteArray) = bB (txtL x) := bB_cat (⟨#[116, 101, 120, 116, 32]⟩ : ByteArray) (quoteL x.data.toList)
theorem recLs_length (r : T3) : (recLs r).length = r.code.length + r.looks.length + 2 := by simp [recLs]; omega

set_option maxRecDepth 100000 in
set_option maxHeartbeats 8000000 in
theorem l7Lines_any (m : Nat) (ta ra : Option Addr) (tc rc : Nat) (ts : List ByteArray) (rs : List T3) (w : World) (hst : Strs w ta ts) (hrq : RowQ w ra rs) (hok : WdOk m ts rs) :
    Calls Tryz.prog 28 #[.agg #[.int .i64 m, .slice ta ts.length tc, .slice ra rs.length rc]] w fun e w' => Below w.heap.size w w' ∧ ∃ g cap, e = .returned (.slice (some ⟨g, 0, none⟩) (stoLs m ts rs).length cap) ∧ w'.ownsRow w.heap.size 9 1 (.slice (some ⟨g, 0, none⟩) (stoLs m ts rs).length cap) (stoLs m ts rs).length (strV (stoLs m ts rs)) := by
  obtain ⟨i0, hi, hz0, hz1, hz2⟩ := info_parts Tryz.info9s
  have h8 : m ≤ 8 := by have := hok.2.1; omega
  have htl : ts.length ≤ 5000 := hok.2.2.1.1
  have hrl : rs.length ≤ 2000 := hok.2.2.2.1
  have HTZ : Hid (∀ i, i < ts.length → (nx ts i).size ≤ 2002) := hok.2.2.1.2.1
  have HRZ : Hid (∀ i, i < rs.length → RcOk m (qx rs i)) := by have := hok.2.2.2.2; rw [Int.toNat_natCast] at this; exact this
  obtain ⟨W, eW⟩ : ∃ y, w.alloc (.cells #[.int .i64 m, .slice ta ts.length tc, .slice ra rs.length rc] 25) = y := ⟨_, rfl⟩
  have hb0 : Below w.heap.size w W := by rw [← eW]; exact (Below.refl _ _).alloc (Nat.le_refl _) _
  have k0 : W.cell? ⟨w.heap.size, 0, none⟩ = some (.int .i64 m) := by rw [← eW]; simp [go_sem]
  have k1 : W.cell? ⟨w.heap.size, 1, none⟩ = some (.slice ta ts.length tc) := by rw [← eW]; simp [go_sem]
  have k2 : W.cell? ⟨w.heap.size, 2, none⟩ = some (.slice ra rs.length rc) := by rw [← eW]; simp [go_sem]
  have hW : w.heap.size < W.heap.size := World.block_lt_of_cell? _ _ k0
  have HC1 : Hid (W.cell? ⟨w.heap.size, 1, none⟩ = some (.slice ta ts.length tc)) := k1
  have HC2 : Hid (W.cell? ⟨w.heap.size, 2, none⟩ = some (.slice ra rs.length rc)) := k2
  have HX : Hid (∀ _ : Unit, Calls Tryz.prog 46 #[.int .i64 m] W fun e w' => e = .returned (.string ⟨(Lib.decDigits m).toArray⟩) ∧ Below W.heap.size W w') := fun _ => l2Dec_any m W (by omega)
  have HEQ : Hid ((⟨#[115, 116, 111, 114, 101, 32]⟩ : ByteArray) ++ (⟨(Lib.decDigits m).toArray⟩ : ByteArray) = bB (stoL m)) := sto_eq m
  have hq : (⟨(Lib.decDigits m).toArray⟩ : ByteArray).size ≤ 16 := by show (Lib.decDigits m).toArray.size ≤ 16; rw [List.size_toArray]; have := dec_length 3 m (by omega); omega
  have HST : Hid (Strs w ta ts) := hst
  have HRQ : Hid (RowQ w ra rs) := hrq
  clear hst hrq hok
  generalize (⟨(Lib.decDigits m).toArray⟩ : ByteArray) = q at *
  go_enter Tryz.func28, Tryz.ntmps28
  go_wp2_with fail
  clear eW
  refine (HX.out ()).mono ?_
  rintro e w1 ⟨rfl, hb1⟩
  have hs1 := hb1.size
  have HO1 : Hid ((w1.alloc (.cells #[.string ((⟨#[115, 116, 111, 114, 101, 32]⟩ : ByteArray) ++ q)] 9)).ownsRow W.heap.size 9 1 (.slice (some ⟨w1.heap.size, 0, none⟩) 1 1) 1 (strV ([stoL m] ++ (ts.take 0).map txtL))) := by
    have := World.ownsRow_lit (base := W.heap.size) (e := 9) (size := 1) w1 #[.string ((⟨#[115, 116, 111, 114, 101, 32]⟩ : ByteArray) ++ q)] 1 hs1 (by unfold maxLen; omega) (by simp)
    show World.ownsRow _ _ _ _ _ _ _
    rw [HEQ.out] at this ⊢
    simpa [strV] using this
  have HBa : Hid (Below W.heap.size W (w1.alloc (.cells #[.string ((⟨#[115, 116, 111, 114, 101, 32]⟩ : ByteArray) ++ q)] 9))) := hb1.alloc hs1 _
  clear k0 k1 k2 hb1 HX
  go_wp2
  go_loopw [3, 4] (fun o i wr => ∃ (k g cap : Nat), k ≤ ts.length ∧ i = .int .i64 k ∧ o = .slice (some ⟨g, 0, none⟩) (k + 1) cap ∧ W.heap.size ≤ g ∧ Hid (wr.ownsRow W.heap.size 9 1 (.slice (some ⟨g, 0, none⟩) (k + 1) cap) (k + 1) (strV ([stoL m] ++ (ts.take k).map txtL))) ∧ Hid (Below W.heap.size W wr)) (fun _ i _ => ts.length - (intOf i).toNat)
  case atStart => exact ⟨0, w1.heap.size, 1, Nat.zero_le _, rfl, rfl, hs1, HO1.out, HBa.out⟩
  case round =>
    clear HO1 HBa hs1
    obtain ⟨k, g, cap, hk, rfl, rfl, hg, HO, HB⟩ := hrel
    have d1 := cell_below HB.out HC1.out
    have hsr := HB.out.size
    by_cases hlt : k < ts.length
    · have hkI : (k : Int) < (ts.length : Int) := by omega
      obtain ⟨b, off, rfl, c1⟩ := (HST.out.below (bt hb0 HB.out)) k hlt
      replace c1 : wr.cell? ⟨b, off + k, none⟩ = some (.string (nx ts k)) := c1
      have hsx := HTZ.out k hlt
      obtain ⟨x, ex⟩ : ∃ x, nx ts k = x := ⟨_, rfl⟩
      rw [ex] at c1 hsx
      have HTK : Hid ([stoL m] ++ (ts.take (k + 1)).map txtL = [stoL m] ++ (ts.take k).map txtL ++ [txtL x]) := by
        show _ = _
        rw [List.take_succ_eq_append_getElem hlt, List.map_append, ← ex]
        simp [nx, List.getD_eq_getElem?_getD, List.getElem?_eq_getElem hlt]
      have HLN : Hid (∀ _ : Unit, Calls Tryz.prog 47 #[.string x] wr fun e w' => e = .returned (.string ⟨(quoteL x.data.toList).toArray⟩) ∧ Below wr.heap.size wr w') := fun _ => l2Quote_any x wr hsx
      have HDO : Hid ((⟨#[116, 101, 120, 116, 32]⟩ : ByteArray) ++ (⟨(quoteL x.data.toList).toArray⟩ : ByteArray) = bB (txtL x)) := txt_eq x
      have hzs : (⟨(quoteL x.data.toList).toArray⟩ : ByteArray).size ≤ 6100 := by
        show (quoteL x.data.toList).toArray.size ≤ _
        rw [List.size_toArray]
        have h1 := quoteL_length x.data.toList
        have h2 : x.data.toList.length = x.size := by rw [Array.length_toList]; rfl
        omega
      clear ex
      generalize (⟨(quoteL x.data.toList).toArray⟩ : ByteArray) = z at *
      go_wp2_with fail
      refine (HLN.out ()).mono ?_
      rintro e w2 ⟨rfl, hb2⟩
      have ho2 := ownsRow_below HO.out hb2
      have hB2 := bt HB.out hb2
      have hs2 := hb2.size
      clear HO HB hb2 HLN c1 d1
      go_wp2_with (first | (at_builtin; refine wpList_append_own _ rfl (.tmp 18) (.tmp 26) 22 rfl W.heap.size 9 i0 (.string ⟨#[]⟩) 1 16 Tryz.underlying22 hi hz0 hz1 hz2 rfl (by decide) _ _ _ rfl (ho2.alloc _) ⟨w2.heap.size, 0, none⟩ 1 1 [.string ((⟨#[116, 101, 120, 116, 32]⟩ : ByteArray) ++ z)] rfl rfl (cell_one_new _ _ _) (by intro u hu; simp at hu; subst hu; rfl) (by unfold maxLen; omega) (by omega) (by simp; omega) ?_; intro v' w3 hown' hgrow hnil; obtain ⟨g', cap2, hv', hg', hown2⟩ := shape9 hown' (by omega); have hB3 := Below.grown (hB2.alloc (by omega) _) hgrow (by simp; omega) (fun j hj => by have := (ho2.lt j hj).1; omega); clear hown' hnil hgrow; rw [hv']; clear hv'))
      go_roundw
      case rel =>
        refine ⟨k + 1, g', cap2, by omega, by go_num, rfl, hg', ?_, hB3⟩
        show World.ownsRow _ _ _ _ _ _ _
        rw [HTK.out, strV_append]
        rw [HDO.out] at hown2
        exact hown2
      case measure => simp [intOf]; omega
    · have ek : k = ts.length := by omega
      subst ek
      have HO2 : Hid (wr.ownsRow W.heap.size 9 1 (.slice (some ⟨g, 0, none⟩) (ts.length + 1) cap) (ts.length + 1) (strV ([stoL m] ++ ts.map txtL ++ (rs.take 0).flatMap recLs))) := by
        have := HO.out
        rw [List.take_length] at this
        show World.ownsRow _ _ _ _ _ _ _
        simpa using this
      have HB2 : Hid (Below W.heap.size W wr) := HB.out
      clear hlt HO HB
      go_wp2
      go_loopw [3, 5] (fun o i wq => ∃ (kk g cap M : Nat), kk ≤ rs.length ∧ i = .int .i64 kk ∧ Hid (([stoL m] ++ ts.map txtL ++ (rs.take kk).flatMap recLs).length = M) ∧ M ≤ 5001 + 402 * kk ∧ o = .slice (some ⟨g, 0, none⟩) M cap ∧ W.heap.size ≤ g ∧ Hid (wq.ownsRow W.heap.size 9 1 (.slice (some ⟨g, 0, none⟩) M cap) M (strV ([stoL m] ++ ts.map txtL ++ (rs.take kk).flatMap recLs))) ∧ Hid (Below W.heap.size W wq)) (fun _ i _ => rs.length - (intOf i).toNat)
      case atStart => exact ⟨0, g, cap, ts.length + 1, Nat.zero_le _, rfl, (by simp : ([stoL m] ++ ts.map txtL ++ (rs.take 0).flatMap recLs).length = ts.length + 1), by omega, rfl, hg, HO2.out, HB2.out⟩
      case round =>
        clear HO2 HB2 hsr d1 hg
        obtain ⟨kk, g, cap, M, hk, rfl, HM, hM, rfl, hg, HO, HB⟩ := hrel
        have d2 := cell_below HB.out HC2.out
        have hsr := HB.out.size
        by_cases hlt : kk < rs.length
        · have hkI : (kk : Int) < (rs.length : Int) := by omega
          obtain ⟨b, off, rfl, ca, cc, la, lc, c1, c2, c3, r1, r2⟩ := (HRQ.out.below (bt hb0 HB.out)) kk hlt
          have hrk := HRZ.out kk hlt
          obtain ⟨x, ex⟩ : ∃ x, qx rs kk = x := ⟨_, rfl⟩
          rw [ex] at c1 c2 c3 r1 r2 hrk
          have HTL : Hid ([stoL m] ++ ts.map txtL ++ (rs.take (kk + 1)).flatMap recLs = [stoL m] ++ ts.map txtL ++ (rs.take kk).flatMap recLs ++ recLs x) := by
            show _ = _
            rw [List.take_succ_eq_append_getElem hlt, List.flatMap_append, ← ex]
            simp [qx, List.getD_eq_getElem?_getD, List.getElem?_eq_getElem hlt]
          have hlx : (recLs x).length ≤ 402 ∧ 2 ≤ (recLs x).length := by
            have h1 := hrk.1
            simp only [progOk, Bool.and_eq_true, decide_eq_true_eq] at h1
            have h2 := hrk.2.2.1
            have h3 := h1.1.2
            rw [recLs_length]
            omega
          have HLR : Hid (∀ _ : Unit, Calls Tryz.prog 48 #[.agg #[.slice ca x.code.length cc, .slice la x.looks.length lc, .string x.out]] wr fun e w' => Below wr.heap.size wr w' ∧ ∃ g cap, e = .returned (.slice (some ⟨g, 0, none⟩) (recLs x).length cap) ∧ w'.ownsRow wr.heap.size 9 1 (.slice (some ⟨g, 0, none⟩) (recLs x).length cap) (recLs x).length (strV (recLs x))) := fun _ => l7Record_any m ca la cc lc x wr r1 r2 hrk h8
          obtain ⟨X, eX⟩ : ∃ X, recLs x = X := ⟨_, rfl⟩
          rw [eX] at HTL hlx HLR
          obtain ⟨hx1, hx2⟩ := hlx
          clear ex r1 r2 hrk eX
          go_wp2_with fail
          refine (HLR.out ()).mono ?_
          rintro e w2 ⟨hb2, g2, p2, rfl, ho2⟩
          have HN : Hid (∀ j u, (strV X)[j]? = some u → w2.cell? ((⟨g2, 0, none⟩ : Addr).add j) = some u) := fun j u hu => ho2.cells (g := g2) rfl j u hu
          have HSL : Hid ((strV X).length = X.length * 1) := by show _ = _; rw [strV_length, Nat.mul_one]
          have HS1 : Hid (∀ u ∈ strV X, u.oneCell' = true) := strV_one X
          have ho3 := ownsRow_below HO.out hb2
          have hB2 := bt HB.out hb2
          have hs2 := hb2.size
          clear HO HB hb2 HLR c1 c2 c3 d2 ho2
          go_wp2_with (first | (at_builtin; refine wpList_append_own _ rfl (.tmp 35) (.tmp 41) 22 rfl W.heap.size 9 i0 (.string ⟨#[]⟩) 1 16 Tryz.underlying22 hi hz0 hz1 hz2 rfl (by decide) _ _ _ rfl ho3 ⟨g2, 0, none⟩ X.length p2 (strV X) rfl HSL.out HN.out HS1.out (by unfold maxLen; omega) (by omega) (by omega) ?_; intro v' w3 hown' hgrow hnil; obtain ⟨g', cap2, hv', hg', hown2⟩ := shape9 hown' (by omega); have hB3 := Below.grown hB2 hgrow (by omega) (fun j hj => by have := (ho3.lt j hj).1; omega); clear hown' hnil hgrow; rw [hv']; clear hv'))
          go_roundw
          case rel =>
            refine ⟨kk + 1, g', cap2, M + X.length, by omega, by go_num, ?_, by omega, rfl, hg', ?_, hB3⟩
            · show _ = _
              rw [HTL.out, List.length_append, HM.out]
            · show World.ownsRow _ _ _ _ _ _ _
              rw [HTL.out, strV_append]
              exact hown2
          case measure => simp [intOf]; omega
        · have ek : kk = rs.length := by omega
          subst ek
          have HE : Hid ([stoL m] ++ ts.map txtL ++ (rs.take rs.length).flatMap recLs = stoLs m ts rs) := by show _ = _; rw [List.take_length]; rfl
          have HB2 : Hid (Below W.heap.size W wr) := HB.out
          clear hlt
          go_wp2
          go_ret
          have h1 := HM.out
          have h2 := HO.out
          rw [HE.out] at h1 h2
          rw [h1]
          exact ⟨bt hb0 HB2.out, g, cap, rfl, own9_low h2 (by omega)⟩

theorem line_len {m : Nat} {ts : List ByteArray} {rs : List T3} (h8 : m ≤ 8) (ht : ∀ i, i < ts.length → (nx ts i).size ≤ 2002) (hr : ∀ i, i < rs.length → RcOk m (qx rs i)) : ∀ l ∈ stoLs m ts rs, l.length ≤ 6200 := by
  intro l hl
  unfold stoLs at hl
  rw [List.mem_append, List.mem_append] at hl
  rcases hl with (hl | hl) | hl
  · simp at hl
    subst hl
    have := dec_length 3 m (by omega)
    simp only [stoL, List.length_append, List.length_cons, List.length_nil]
    omega
  · obtain ⟨x, hx, rfl⟩ := List.mem_map.1 hl
    obtain ⟨k, hk, e⟩ := List.getElem_of_mem hx
    have h1 := ht k hk
    rw [show nx ts k = x by simp [nx, List.getD_eq_getElem?_getD, List.getElem?_eq_getElem hk, e]] at h1
    have h2 := quoteL_length x.data.toList
    have h3 : x.data.toList.length = x.size := by rw [Array.length_toList]; rfl
    simp only [txtL, List.length_append, List.length_cons, List.length_nil]
    omega
  · obtain ⟨r, hx, hl⟩ := List.mem_flatMap.1 hl
    obtain ⟨k, hk, e⟩ := List.getElem_of_mem hx
    have h1 := hr k hk
    rw [show qx rs k = r by simp [qx, List.getD_eq_getElem?_getD, List.getElem?_eq_getElem hk, e]] at h1
    obtain ⟨p1, p2, p3, p4⟩ := h1
    simp only [progOk, Bool.and_eq_true, decide_eq_true_eq] at p1
    unfold recLs at hl
    rw [List.mem_append, List.mem_append, List.mem_append] at hl
    rcases hl with ((hl | hl) | hl) | hl
    · simp at hl
      subst hl
      have e1 : r.out.data.toList.length = r.out.size := by rw [Array.length_toList]; rfl
      have e2 := hexbL_length r.out.data.toList
      simp only [recHd, List.length_append, List.length_cons, List.length_nil]
      omega
    · obtain ⟨i, hi, rfl⟩ := List.mem_map.1 hl
      obtain ⟨j, hj, e⟩ := List.getElem_of_mem hi
      have h2 := p1.2 j hj
      rw [show ix r.code j = i by simp [ix, List.getD_eq_getElem?_getD, List.getElem?_eq_getElem hj, e]] at h2
      have := lineL_length h2
      simp only [doL, List.length_append, List.length_cons, List.length_nil]
      omega
    · obtain ⟨g, hi, rfl⟩ := List.mem_map.1 hl
      obtain ⟨j, hj, e⟩ := List.getElem_of_mem hi
      obtain ⟨h2, h3⟩ := p4 j hj
      rw [show gx r.looks j = g by simp [gx, List.getD_eq_getElem?_getD, List.getElem?_eq_getElem hj, e]] at h2 h3
      have h4 := h2.2.1
      have e1 : g.name.data.toList.length = g.name.size := by rw [Array.length_toList]; rfl
      have e2 : g.sum.data.toList.length = g.sum.size := by rw [Array.length_toList]; rfl
      have e3 := hexbL_length g.sum.data.toList
      unfold lookL
      cases g.ask <;> simp only [List.length_append, List.length_cons, List.length_nil, if_true, if_false, Bool.false_eq_true] <;> omega
    · simp at hl
      subst hl
      simp [endL]
theorem stoLs_len {m : Nat} {ts : List ByteArray} {rs : List T3} (ht : ts.length ≤ 5000) (hr : rs.length ≤ 2000) (hk : ∀ i, i < rs.length → RcOk m (qx rs i)) : (stoLs m ts rs).length ≤ 900000 := by
  have h : ∀ (l : List T3), (∀ r ∈ l, (recLs r).length ≤ 402) → (l.flatMap recLs).length ≤ 402 * l.length := by
    intro l
    induction l with
    | nil => simp
    | cons a l ih =>
      intro hl
      have h1 := hl a (by simp)
      have h2 := ih (fun r hr => hl r (by simp [hr]))
      rw [List.flatMap_cons, List.length_append, List.length_cons]
      omega
  have h1 := h rs (fun r hx => by
    obtain ⟨k, hk', e⟩ := List.getElem_of_mem hx
    have h1 := hk k hk'
    rw [show qx rs k = r by simp [qx, List.getD_eq_getElem?_getD, List.getElem?_eq_getElem hk', e]] at h1
    obtain ⟨p1, p2, p3, p4⟩ := h1
    simp only [progOk, Bool.and_eq_true, decide_eq_true_eq] at p1
    have := p1.1.2
    rw [recLs_length]
    omega)
  simp only [stoLs, List.length_append, List.length_cons, List.length_nil, List.length_map]
  omega

end Go.Proofs.YtikdgmmloiegjaaGreatDoor
