/-
  FnProgram: the walk of the law.
-/
import Derived.Test.YtmcafdobfmheaaaGreatDoorDrG
import Derived.Test.YtmcafdobfmheaaaGreatDoorPaF
import Derived.Test.YtmcafdobfmheaaaGreatDoorPaQ
namespace Go.Proofs.YtmcafdobfmheaaaGreatDoor
open Go.RowKit
set_option linter.unusedVariables false
set_option maxRecDepth 100000

theorem btP {w a b : World} (h : Below w.heap.size w a) (k : Below a.heap.size a b) : Below w.heap.size w b := h.trans (k.mono h.size)
theorem Row3.some3 {w : World} {a : Option Addr} {is : List I3} (h : Row3 w a is) (k : Nat) (hk : k < is.length) : ∃ b off, a = some ⟨b, off, none⟩ ∧ w.cell? ⟨b, off + k * 3, none⟩ = some (.int .i64 (ix is k).op) ∧ w.cell? ⟨b, off + k * 3 + 1, none⟩ = some (.string (ix is k).text) ∧ w.cell? ⟨b, off + k * 3 + 2, none⟩ = some (.int .i64 (ix is k).n) := h k hk

set_option maxHeartbeats 2000000 in
theorem wProgram_same (a a' : Option Addr) (cap cap' n : Nat) (is : List I3) (w : World) (hn : n = is.length) (hc : Row3 w a is) (hc' : Row3 w a' is) (hl : n ≤ 1048576) :
    Calls Tryz.prog 10 #[.agg #[.slice a n cap], .agg #[.slice a' n cap']] w fun e w' => e = .returned (.bool true) ∧ Below w.heap.size w w' := by
  obtain ⟨W, eW⟩ : ∃ W, (w.alloc (.cells #[.slice a n cap] 25)).alloc (.cells #[.slice a' n cap'] 25) = W := ⟨_, rfl⟩
  have hbW : Below w.heap.size w W := eW ▸ ((Below.refl _ _).alloc (Nat.le_refl _) _).alloc (by simp) _
  have c1 : W.cell? ⟨w.heap.size, 0, none⟩ = some (.slice a n cap) := by rw [← eW]; simp [go_sem]
  have c2 : W.cell? ⟨w.heap.size + 1, 0, none⟩ = some (.slice a' n cap') := by rw [← eW]; simp [go_sem]
  have HN : Hid (n = is.length) := hn
  clear hn
  go_enter Tryz.func10, Tryz.ntmps10
  go_wp2
  go_loopw [5] (fun i wr => ∃ k : Nat, k ≤ n ∧ i = .int .i64 k ∧ wr.cell? ⟨w.heap.size, 0, none⟩ = some (.slice a n cap) ∧ wr.cell? ⟨w.heap.size + 1, 0, none⟩ = some (.slice a' n cap') ∧ Below w.heap.size w wr) (fun i _ => n - (intOf i).toNat)
  case atStart => exact ⟨0, Nat.zero_le _, rfl, c1, c2, hbW⟩
  case round =>
    clear c1 c2 hbW eW
    obtain ⟨k, hk, rfl, c1, c2, hB⟩ := hrel
    by_cases hlt : k < n
    · obtain ⟨b, off, rfl, e1, e2, e3⟩ := (hc.below hB) k (by have := HN.out; omega)
      obtain ⟨b', off', rfl, f1, f2, f3⟩ := (hc'.below hB) k (by have := HN.out; omega)
      have hkI : (k : Int) < (n : Int) := by omega
      have hk0 : (0 : Int) ≤ (k : Int) := by omega
      generalize (ix is k).op = op at *
      generalize (ix is k).text = tx at *
      generalize (ix is k).n = nn at *
      go_wp2_with fail
      go_region_held3 (fun w' => w'.cell? ⟨w.heap.size, 0, none⟩ = some (.slice (some ⟨b, off, none⟩) n cap) ∧ w'.cell? ⟨w.heap.size + 1, 0, none⟩ = some (.slice (some ⟨b', off', none⟩) n cap') ∧ w'.cell? ⟨b, off + k * 3, none⟩ = some (.int .i64 op) ∧ w'.cell? ⟨b, off + k * 3 + 1, none⟩ = some (.string tx) ∧ w'.cell? ⟨b, off + k * 3 + 2, none⟩ = some (.int .i64 nn) ∧ w'.cell? ⟨b', off' + k * 3, none⟩ = some (.int .i64 op) ∧ w'.cell? ⟨b', off' + k * 3 + 1, none⟩ = some (.string tx) ∧ w'.cell? ⟨b', off' + k * 3 + 2, none⟩ = some (.int .i64 nn))
        (first | assumption | (simp [*]; done)) (fail)
      all_goals
        go_wp2
        exact ⟨⟨k + 1, by omega, by go_num, c1, c2, hB.drew⟩, by simp [intOf]; omega⟩
    · have ek : k = n := by omega
      subst ek
      go_wp2
      go_ret
      exact ⟨rfl, hB⟩

theorem dropLast_ext (s : ByteArray) : (s.extract 0 (s.size - 1)).data.toList = s.data.toList.dropLast := by
  rw [ext_list, List.drop_zero, List.dropLast_eq_take, toList_len]
theorem allOk_of {is : List I3} (h : progOk is = true) : allOk is ∧ is ≠ [] ∧ is.length ≤ 200 := by
  simp only [progOk, Bool.and_eq_true, decide_eq_true_eq] at h
  obtain ⟨⟨h1, h2⟩, h3⟩ := h
  refine ⟨fun i hi => ?_, fun e => by rw [e] at h1; simp at h1, h2⟩
  obtain ⟨j, hj, rfl⟩ := List.mem_iff_getElem.1 hi
  have := h3 j hj
  have e : ix is j = is[j] := by simp [ix, List.getD_eq_getElem?_getD, hj]
  rwa [e] at this

/-- A program and a fault in blocks of their own. -/
abbrev lwP (w : World) (x : Value) (c l : Int) : World := (w.alloc (.cells #[x] 25)).alloc (.cells #[.int .i64 c, .int .i64 l] 29)
theorem lwP_below (w : World) (x : Value) (c l : Int) : Below w.heap.size w (lwP w x c l) := ((Below.refl _ _).alloc (Nat.le_refl _) _).alloc (by simp) _
theorem lwP_cells (w : World) (x : Value) (c l : Int) (h1 : x.oneCell' = true) : (lwP w x c l).cell? ⟨w.heap.size, 0, none⟩ = some x ∧ (lwP w x c l).cell? ⟨w.heap.size + 1, 0, none⟩ = some (.int .i64 c) ∧ (lwP w x c l).cell? ⟨w.heap.size + 1, 1, none⟩ = some (.int .i64 l) := by
  have e0 : (lwP w x c l).heap[w.heap.size]? = some (.cells #[x] 25 (0, 0)) := by rw [Lib.alloc_old _ _ _ (by simp), alloc_here]
  have e1 : (lwP w x c l).heap[w.heap.size + 1]? = some (.cells #[.int .i64 c, .int .i64 l] 29 (0, 0)) := by
    have := alloc_here (w.alloc (.cells #[x] 25)) (.cells #[.int .i64 c, .int .i64 l] 29)
    simpa using this
  exact ⟨by rw [Lib.cell_of_heap e0]; rfl, by rw [Lib.cell_of_heap e1]; rfl, by rw [Lib.cell_of_heap e1]; rfl⟩

theorem RowI.row3P {B g : Nat} {cap : Nat} {is : List I3} {w : World} (h : RowI B (.slice (some ⟨g, 0, none⟩) is.length cap) is w) : Row3 w (some ⟨g, 0, none⟩) is := by
  intro i hi
  have h' : w.ownsRow B 47 3 (.slice (some ⟨g, 0, none⟩) is.length cap) is.length (insC is) := h
  have e : ∀ j, j < 3 → w.cell? ⟨g, i * 3 + j, none⟩ = (insC1 (ix is i))[j]? := fun j hj => by
    rw [h'.cellAt _ (by omega), insC_get is i j hi hj]
  refine ⟨g, 0, rfl, ?_, ?_, ?_⟩
  · rw [Nat.zero_add]; exact e 0 (by omega)
  · rw [Nat.zero_add]; exact e 1 (by omega)
  · rw [Nat.zero_add]; exact e 2 (by omega)

set_option maxHeartbeats 4000000 in
theorem programLaw (p : Nat → Addr) (a : Option Addr) (len cap : Nat) (w : World) (hE : Env p w) (hS : Sen p w) (hby : Bytes w a len) (hlc : len ≤ cap) (hl0 : len ≤ 9223372036854775807) :
    Calls Tryz.prog 3 #[.slice a len cap] w fun e w' => e = .returned (.bool true) ∧ Below w.heap.size w w' := by
  by_cases hl : len ≤ 1048576
  · have d0 : decide ((1048576 : Int) < (len : Int)) = false := by simp; omega
    have HE : Hid (Env p w) := hE
    have HS : Hid (Sen p w) := hS
    have HD : Hid (Calls Tryz.prog 5 #[.slice a len cap] w fun e w' => DrawnP w e w') := drawValid_any w a len cap hby hlc hl
    clear hE hS hby
    go_enter Tryz.func3, Tryz.ntmps3
    go_wp2_with fail
    refine HD.out.mono ?_
    rintro e w1 ⟨g, n, c, is, rfl, hn, hn4, htx, hrow, hB1⟩
    subst hn
    have hts : ∀ i, (ix is i).text.size ≤ 9223372036854775807 := fun i => by
      rcases Nat.lt_or_ge i is.length with q | q
      · have e : ix is i = is[i] := by simp [ix, List.getD_eq_getElem?_getD, q]
        rw [e]; have := htx _ (List.getElem_mem q); omega
      · have e : ix is i = i0 := by simp [ix, List.getD_eq_getElem?_getD, q]
        rw [e]; show 0 ≤ _; omega
    have HTS : Hid (∀ i, (ix is i).text.size ≤ 9223372036854775807) := hts
    obtain ⟨A1, eA1⟩ : ∃ A1, w1.alloc (.cells #[.slice (some ⟨g, 0, none⟩) is.length c] 25) = A1 := ⟨_, rfl⟩
    have hbA1 : Below w1.heap.size w1 A1 := eA1 ▸ (Below.refl _ _).alloc (Nat.le_refl _) _
    have hc1 : A1.cell? ⟨w1.heap.size, 0, none⟩ = some (.slice (some ⟨g, 0, none⟩) is.length c) := by rw [← eA1]; simp [go_sem]
    have hBA1 := btP hB1 hbA1
    have hrow1 := hrow.below hbA1
    have HEA := HE.out.below hBA1
    obtain ⟨s, HSs⟩ : ∃ s : ByteArray, Hid (s = if progOk is then ⟨(printL is is.length).toArray⟩ else ⟨#[]⟩) := ⟨_, rfl⟩
    have HPr : Hid (Calls Tryz.prog 6 #[.agg #[.slice (some ⟨g, 0, none⟩) is.length c]] A1 fun e w' => e = .returned (.string s) ∧ Below A1.heap.size A1 w') := by
      have q := implPrint_any (some ⟨g, 0, none⟩) c is A1 HEA.tab HEA.p10 hrow1 (by omega) HTS.out
      rw [← HSs.out] at q; exact q
    clear HD htx hts hrow hbA1 hB1 HEA
    go_wp2_with fail
    refine HPr.out.mono ?_
    rintro e w2 ⟨rfl, hb2⟩
    have hB2 := btP hBA1 hb2
    have hc2 := cell_below hb2 hc1
    have hrow2 := hrow1.below hb2
    have hsz : s.size ≤ 1500000 := by
      rw [HSs.out]
      by_cases hok : progOk is = true
      · rw [if_pos hok, bytes_size]
        have hh := hok
        simp only [progOk, Bool.and_eq_true, decide_eq_true_eq] at hh
        have := printL_length hh.2 is.length (Nat.le_refl _)
        omega
      · rw [if_neg hok]; show 0 ≤ _; omega
    have HPa : Hid (Calls Tryz.prog 7 #[.string s] w2 fun e w' => Below w2.heap.size w2 w' ∧ ∃ v, e = .returned v ∧ OutP w2.heap.size (parseP s.data.toList) v w') := implParse_any p s w2 (HE.out.below hB2) (HS.out.below hB2) hsz
    clear HPr hb2 hc1 hrow1 hBA1 eA1
    by_cases hok : progOk is = true
    · obtain ⟨hall, hne, hl2⟩ := allOk_of hok
      have es : s.data.toList = printP is := by rw [HSs.out, if_pos hok]; simpa using printL_P is
      have hpp : parseP s.data.toList = .good is := by rw [es]; exact parseP_print hall hne hl2
      obtain ⟨l2, hcut⟩ := parseP_cut hall hne
      have hs2 : 2 ≤ s.size := by rw [← toList_len, es]; exact printP_long hall hne
      have hpc : parseP (s.extract 0 (s.size - 1)).data.toList = .bad 2 l2 := by rw [dropLast_ext, es]; exact hcut
      have hcs : (s.extract 0 (s.size - 1)).size ≤ 1500000 := by rw [ext_size]; omega
      rw [hpp] at HPa
      have HPC : Hid (parseP (s.extract 0 (s.size - 1)).data.toList = .bad 2 l2) := hpc
      clear hpp hpc hcut es HSs hall
      go_wp2_with fail
      refine HPa.out.mono ?_
      rintro e w3 ⟨hb3, v, rfl, x, rfl, hrx, _, _⟩
      obtain ⟨gx, cx, rfl, hgx⟩ := hrx.shape hne
      have hB3 := btP hB2 hb3
      have hc3 := cell_below hb3 hc2
      have hrow3 := hrow2.below hb3
      obtain ⟨A3, eA3⟩ : ∃ A3, lwP w3 (.slice (some ⟨gx, 0, none⟩) is.length cx) 0 0 = A3 := ⟨_, rfl⟩
      have hbA3 : Below w3.heap.size w3 A3 := eA3 ▸ lwP_below _ _ _ _
      obtain ⟨k3, f3, g3⟩ := lwP_cells w3 (.slice (some ⟨gx, 0, none⟩) is.length cx) 0 0 rfl
      rw [eA3] at k3 f3 g3
      have hBA3 := btP hB3 hbA3
      have hc3' := cell_below hbA3 hc3
      have hrow3' := hrow3.below hbA3
      have hrx3 := (hrx.row3P).below hbA3
      have HSV : Hid (Calls Tryz.prog 8 #[.agg #[.slice (some ⟨g, 0, none⟩) is.length c]] A3 fun e w' => Below A3.heap.size A3 w' ∧ e = .returned (.bool true)) := by
        have q := specValid_any (some ⟨g, 0, none⟩) c is A3 hrow3' (by omega) HTS.out
        rw [hok] at q; exact q
      have HeA3 : Hid (((w3.alloc (.cells #[.slice (some ⟨gx, 0, none⟩) is.length cx] 25)).alloc (.cells #[.int .i64 0, .int .i64 0] 29)) = A3) := eA3
      have hcx : ((w3.alloc (.cells #[.slice (some ⟨gx, 0, none⟩) is.length cx] 25)).alloc (.cells #[.int .i64 0, .int .i64 0] 29)).cell? ⟨w1.heap.size, 0, none⟩ = some (.slice (some ⟨g, 0, none⟩) is.length c) := by rw [HeA3.out]; exact hc3'
      have HOK : Hid (progOk is = true) := hok
      have d2 : decide ((s.size : Int) < 2) = false := by simp; omega
      have hs1 : (s.size : Int) - 1 = ((s.size - 1 : Nat) : Int) := by omega
      clear HPa hb3 hc2 hc3 hrow2 hrow3 hbA3 hB2 hB3 eA3 hrx hok hgx
      dsimp only
      go_wp2_with fail
      rw [HeA3.out]
      refine HSV.out.mono ?_
      rintro e w4 ⟨hb4, rfl⟩
      clear hcx
      replace hc3' := cell_below hb4 hc3'
      replace k3 := cell_below hb4 k3
      replace f3 := cell_below hb4 f3
      replace g3 := cell_below hb4 g3
      have hrow4 := hrow3'.below hb4
      have hrx4 := hrx3.below hb4
      have hB4 := btP hBA3 hb4
      have HPb : Hid (Calls Tryz.prog 7 #[.string (s.extract 0 (s.size - 1))] w4 fun e w' => Below w4.heap.size w4 w' ∧ ∃ v, e = .returned v ∧ OutP w4.heap.size (.bad 2 l2) v w') := by
        have q := implParse_any p (s.extract 0 (s.size - 1)) w4 (HE.out.below hB4) (HS.out.below hB4) hcs
        rw [HPC.out] at q; exact q
      clear HSV hb4 hrow3' hBA3 hrx3 hcs
      go_wp2_with fail
      refine HPb.out.mono ?_
      rintro e w5 ⟨hb5, v, rfl, _, rfl⟩
      replace hc3' := cell_below hb5 hc3'
      replace k3 := cell_below hb5 k3
      replace f3 := cell_below hb5 f3
      replace g3 := cell_below hb5 g3
      have hrow5 := hrow4.below hb5
      have hrx5 := hrx4.below hb5
      have hB5 := btP hB4 hb5
      obtain ⟨A5, eA5⟩ : ∃ A5, lwP w5 (.slice none 0 0) 2 l2 = A5 := ⟨_, rfl⟩
      have hbA5 : Below w5.heap.size w5 A5 := eA5 ▸ lwP_below _ _ _ _
      obtain ⟨_, f5, _⟩ := lwP_cells w5 (.slice none 0 0) 2 l2 rfl
      rw [eA5] at f5
      replace hc3' := cell_below hbA5 hc3'
      replace k3 := cell_below hbA5 k3
      replace f3 := cell_below hbA5 f3
      replace g3 := cell_below hbA5 g3
      have hrow6 := hrow5.below hbA5
      have hrx6 := hrx5.below hbA5
      have hB6 := btP hB5 hbA5
      have HIV : Hid (Calls Tryz.prog 9 #[.agg #[.slice (some ⟨g, 0, none⟩) is.length c]] A5 fun e w' => Below A5.heap.size A5 w' ∧ e = .returned (.bool true)) := by
        have q := implValid_any (some ⟨g, 0, none⟩) c is A5 (HE.out.below hB6).tab hrow6 (by omega) HTS.out
        rw [HOK.out] at q; exact q
      have HeA5 : Hid (((w5.alloc (.cells #[.slice none 0 0] 25)).alloc (.cells #[.int .i64 2, .int .i64 l2] 29)) = A5) := eA5
      have hcx : ((w5.alloc (.cells #[.slice none 0 0] 25)).alloc (.cells #[.int .i64 2, .int .i64 l2] 29)).cell? ⟨w1.heap.size, 0, none⟩ = some (.slice (some ⟨g, 0, none⟩) is.length c) := by rw [HeA5.out]; exact hc3'
      clear HPb hb5 hrow4 hrx4 hB4 hrow5 hrx5 hB5 hbA5 eA5
      dsimp only
      go_wp2_with fail
      rw [HeA5.out]
      refine HIV.out.mono ?_
      rintro e w7 ⟨hb7, rfl⟩
      clear hcx
      replace hc3' := cell_below hb7 hc3'
      replace k3 := cell_below hb7 k3
      replace f3 := cell_below hb7 f3
      replace g3 := cell_below hb7 g3
      replace f5 := cell_below hb7 f5
      have hB7 := btP hB6 hb7
      have HW : Hid (Calls Tryz.prog 10 #[.agg #[.slice (some ⟨g, 0, none⟩) is.length c], .agg #[.slice (some ⟨gx, 0, none⟩) is.length cx]] w7 fun e w' => e = .returned (.bool true) ∧ Below w7.heap.size w7 w') := wProgram_same _ _ c cx is.length is w7 rfl (hrow6.below hb7) (hrx6.below hb7) (by omega)
      clear HIV hb7 hrow6 hrx6 hB6
      go_wp2_with fail
      refine HW.out.mono ?_
      rintro e w8 ⟨rfl, hb8⟩
      replace f5 := cell_below hb8 f5
      have hB8 := btP hB7 hb8
      clear HW hc3' k3 f3 g3
      go_wp2
      go_ret
      exact ⟨rfl, hB8⟩
    · have hokf : progOk is = false := by simpa using hok
      have es : s = ⟨#[]⟩ := by rw [HSs.out, if_neg hok]
      subst es
      have hpp : parseP (⟨#[]⟩ : ByteArray).data.toList = .bad 1 0 := by unfold parseP; rw [if_pos rfl]
      rw [hpp] at HPa
      clear hpp HSs hsz hok
      go_wp2_with fail
      refine HPa.out.mono ?_
      rintro e w3 ⟨hb3, v, rfl, _, rfl⟩
      have hB3 := btP hB2 hb3
      have hc3 := cell_below hb3 hc2
      have hrow3 := hrow2.below hb3
      obtain ⟨A3, eA3⟩ : ∃ A3, lwP w3 (.slice none 0 0) 1 0 = A3 := ⟨_, rfl⟩
      have hbA3 : Below w3.heap.size w3 A3 := eA3 ▸ lwP_below _ _ _ _
      obtain ⟨_, f3, g3⟩ := lwP_cells w3 (.slice none 0 0) 1 0 rfl
      rw [eA3] at f3 g3
      have hBA3 := btP hB3 hbA3
      have hc3' := cell_below hbA3 hc3
      have hrow3' := hrow3.below hbA3
      have HSV : Hid (Calls Tryz.prog 8 #[.agg #[.slice (some ⟨g, 0, none⟩) is.length c]] A3 fun e w' => Below A3.heap.size A3 w' ∧ e = .returned (.bool false)) := by
        have q := specValid_any (some ⟨g, 0, none⟩) c is A3 hrow3' (by omega) HTS.out
        rw [hokf] at q; exact q
      have HeA3 : Hid (((w3.alloc (.cells #[.slice none 0 0] 25)).alloc (.cells #[.int .i64 1, .int .i64 0] 29)) = A3) := eA3
      have hcx : ((w3.alloc (.cells #[.slice none 0 0] 25)).alloc (.cells #[.int .i64 1, .int .i64 0] 29)).cell? ⟨w1.heap.size, 0, none⟩ = some (.slice (some ⟨g, 0, none⟩) is.length c) := by rw [HeA3.out]; exact hc3'
      clear HPa hb3 hc2 hc3 hrow2 hrow3 hbA3 hB2 hB3 eA3
      dsimp only
      go_wp2_with fail
      rw [HeA3.out]
      refine HSV.out.mono ?_
      rintro e w4 ⟨hb4, rfl⟩
      clear hcx
      replace hc3' := cell_below hb4 hc3'
      replace f3 := cell_below hb4 f3
      replace g3 := cell_below hb4 g3
      have hrow4 := hrow3'.below hb4
      have hB4 := btP hBA3 hb4
      have HIV : Hid (Calls Tryz.prog 9 #[.agg #[.slice (some ⟨g, 0, none⟩) is.length c]] w4 fun e w' => Below w4.heap.size w4 w' ∧ e = .returned (.bool false)) := by
        have q := implValid_any (some ⟨g, 0, none⟩) c is w4 (HE.out.below hB4).tab hrow4 (by omega) HTS.out
        rw [hokf] at q; exact q
      clear HSV hb4 hrow3' hBA3
      go_wp2_with fail
      refine HIV.out.mono ?_
      rintro e w5 ⟨hb5, rfl⟩
      replace f3 := cell_below hb5 f3
      replace g3 := cell_below hb5 g3
      have hB5 := btP hB4 hb5
      clear HIV hb5 hB4 hrow4 hc3'
      go_wp2
      go_ret
      exact ⟨rfl, hB5⟩
  · have d0 : decide ((1048576 : Int) < (len : Int)) = true := by simp; omega
    clear hE hS hby
    go_enter Tryz.func3, Tryz.ntmps3
    go_wp2
    go_ret
    exact ⟨rfl, Below.refl _ _⟩
end Go.Proofs.YtmcafdobfmheaaaGreatDoor
