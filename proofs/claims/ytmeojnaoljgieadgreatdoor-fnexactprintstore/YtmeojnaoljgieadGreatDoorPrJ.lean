/-
  impl: the lists' writers, writeRecord, PrintStore.
-/
import Derived.Test.YtmeojnaoljgieadGreatDoorPrI
namespace Go.Proofs.YtmeojnaoljgieadGreatDoor
open Go.RowKit
set_option linter.unusedVariables false
theorem nl_length (l : List UInt8) : (nl l).length = l.length + 1 := by simp [nl]
theorem txt_len {x : ByteArray} (h : x.size ≤ 2002) : (nl (txtL x)).length ≤ 6100 := by
  have hq := quoteL_length x.data.toList
  have he : x.data.toList.length = x.size := by rw [Array.length_toList]; rfl
  rw [nl_length]
  simp only [txtL, List.length_append, List.length_cons, List.length_nil]
  omega
theorem do_len {i : I3} (h : insOk i = true) : (nl (doL i)).length ≤ 6200 := by
  have := lineL_length h
  rw [nl_length]
  simp only [doL, List.length_append, List.length_cons, List.length_nil]
  omega
theorem look_len {g : G3} (h1 : g.name.size ≤ 2002) (h2 : g.sum.size ≤ 2002) : (nl (lookL g)).length ≤ 6200 := by
  have e1 : g.name.data.toList.length = g.name.size := by rw [Array.length_toList]; rfl
  have e2 : g.sum.data.toList.length = g.sum.size := by rw [Array.length_toList]; rfl
  have e3 := hexbL_length g.sum.data.toList
  rw [nl_length]
  unfold lookL
  cases g.ask <;> simp only [List.length_append, List.length_cons, List.length_nil, if_true, if_false, Bool.false_eq_true] <;> omega

set_option maxRecDepth 100000 in
set_option maxHeartbeats 2000000 in
theorem writeTexts_any (v : World) (b : Nat) (c0 : List UInt8) (a : Option Addr) (cap : Nat) (ts : List ByteArray) (w : World) (hI : Lib.IsBuilder 91 5 v.heap.size b (Lib.byteCells c0) w) (hv : Below v.heap.size v w) (hc : Strs v a ts) (hl : ts.length ≤ 5000) (hs : ∀ i, i < ts.length → (nx ts i).size ≤ 2002) (hc0 : c0.length ≤ 210000) :
    Calls Tryz.prog 48 #[.pointer (some ⟨b, 0, none⟩), .slice a ts.length cap, .func (.func 49) #[] #[]] w fun e w' => WrP v.heap.size b w (wlist (fun x => nl (txtL x)) c0 ts) e w' ∧ (wlist (fun x => nl (txtL x)) c0 ts).length ≤ 210000 := by
  have HI0 : Hid (Lib.IsBuilder 91 5 v.heap.size b (Lib.byteCells c0) w) := hI
  have HV : Hid (Below v.heap.size v w) := hv
  have HC : Hid (Strs v a ts) := hc
  have HS : Hid (∀ i, i < ts.length → (nx ts i).size ≤ 2002) := hs
  clear hc hs
  clear hI hv
  obtain ⟨R, eR⟩ : ∃ R, wlist (fun x => nl (txtL x)) c0 ts = R := ⟨_, rfl⟩
  rw [eR]
  have HER : Hid (wlist (fun x => nl (txtL x)) c0 ts = R) := eR
  clear eR
  go_enter Tryz.func48, Tryz.ntmps48
  go_wp2
  go_loopw [10] (fun i wr => ∃ (k : Nat) (c : List UInt8), k ≤ ts.length ∧ i = .int .i64 k ∧ Hid (wlist (fun x => nl (txtL x)) c (ts.drop k) = R) ∧ Hid (Lib.IsBuilder 91 5 v.heap.size b (Lib.byteCells c) wr) ∧ c.length ≤ 210000 ∧ Hid (Below v.heap.size w wr) ∧ Hid (Keep5 b w wr)) (fun i _ => ts.length - (intOf i).toNat)
  case atStart => exact ⟨0, c0, Nat.zero_le _, rfl, HER.out, HI0.out, hc0, Below.refl _ _, Keep5.refl _ _⟩
  case round =>
    obtain ⟨k, c, hk, rfl, HR, HI, hcl, HB, HK⟩ := hrel
    have HBv : Hid (Below v.heap.size v wr) := HV.out.trans HB.out
    have hsr : v.heap.size ≤ wr.heap.size := HBv.out.size
    have HLEN : Hid (∀ W : World, Lib.IsBuilder 91 5 v.heap.size b (Lib.byteCells c) W → Calls Tryz.prog 52 #[.pointer (some ⟨b, 0, none⟩)] W fun e w' => e = .returned (.int .i64 (c.length : Nat)) ∧ W = w') := fun W hW => (Tryz.Builder_Len _ b _ W hW).mono (by
      rintro e w' ⟨rfl, rfl⟩
      exact ⟨by simp [Lib.byteCells], rfl⟩)
    by_cases hlt : k < ts.length
    · have hkI : (k : Int) < (ts.length : Int) := by omega
      obtain ⟨b', off, rfl, c1⟩ := (HC.out.below HBv.out) k hlt
      replace c1 : wr.cell? ⟨b', off + k, none⟩ = some (.string (nx ts k)) := c1
      have hsx := HS.out k hlt
      obtain ⟨x, ex⟩ : ∃ x, nx ts k = x := ⟨_, rfl⟩
      rw [ex] at c1 hsx
      have EX : Hid (nx ts k = x) := ex
      clear ex
      have HDR : Hid (ts.drop k = x :: ts.drop (k + 1)) := by
        show _ = _
        rw [List.drop_eq_getElem_cons hlt]
        congr 1
        rw [← EX.out]
        exact by simp [nx, List.getD_eq_getElem?_getD, List.getElem?_eq_getElem hlt]
      by_cases h2 : 200000 < c.length
      · have HRR : Hid (R = c) := by show _ = _; rw [← HR.out]; exact (by rw [HDR.out]; exact wlist_over (fun x => nl (txtL x)) c _ h2)
        have d2 : decide ((200000 : Int) < ((c.length : Nat) : Int)) = true := by simp; omega
        clear h2
        go_wp2_with fail
        refine (HLEN.out _ HI.out).mono ?_
        rintro e w3 ⟨rfl, rfl⟩
        go_wp2
        refine bodyPost_ret (results_none rfl _ _ _) rfl ?_
        rw [HRR.out]
        exact ⟨⟨rfl, HI.out, HB.out, HK.out⟩, hcl⟩
      · have HRN : Hid (wlist (fun x => nl (txtL x)) (c ++ nl (txtL x)) (ts.drop (k + 1)) = R) := by show _ = _; rw [← HR.out, HDR.out]; exact (wlist_under (fun x => nl (txtL x)) c _ _ h2).symm
        have hc2 : c.length ≤ 200000 := by omega
        have d2 : decide ((200000 : Int) < ((c.length : Nat) : Int)) = false := by simp; omega
        clear h2
        have HW : Hid (∀ _ : Unit, Calls Tryz.prog 49 #[.pointer (some ⟨b, 0, none⟩), .string x] wr fun e w' => WrP v.heap.size b wr (c ++ nl (txtL x)) e w') := fun _ => writeText_any _ b c x wr HI.out hsr hsx (by omega)

        go_wp2_with fail
        refine (HLEN.out _ HI.out).mono ?_
        rintro e w3 ⟨rfl, rfl⟩
        go_wp2_with fail
        refine (HW.out ()).mono ?_
        rintro e w4 ⟨rfl, k1, k2, k3⟩
        have HK4 : Hid (Keep5 b w w4) := HK.out.trans k3
        have HB4 : Hid (Below v.heap.size w w4) := HB.out.trans k2
        have HI4 : Hid _ := k1
        clear k1 k2 k3
        go_wp2
        go_roundw
        case rel => exact ⟨k + 1, _, by omega, by go_num, HRN.out, HI4.out, (by rw [List.length_append]; have := txt_len hsx; omega), HB4.out, HK4.out⟩
        case measure => simp [intOf]; omega
    · have ek : k = ts.length := by omega
      have HRR : Hid (R = c) := by
        show _ = _
        rw [← HR.out, List.drop_of_length_le (by omega)]
        rfl
      clear ek
      go_wp2
      refine bodyPost_end (v := .tuple #[]) (by simp [results, Tryz.results48, go_sem]) rfl ?_
      rw [HRR.out]
      exact ⟨⟨rfl, HI.out, HB.out, HK.out⟩, hcl⟩

set_option maxRecDepth 100000 in
set_option maxHeartbeats 2000000 in
theorem writeInss_any (v : World) (b : Nat) (c0 : List UInt8) (a : Option Addr) (cap : Nat) (is : List I3) (w : World) (hI : Lib.IsBuilder 91 5 v.heap.size b (Lib.byteCells c0) w) (hv : Below v.heap.size v w) (hT : Tab v) (hP : P10 v) (hc : Row3 v a is) (hl : is.length ≤ 5000) (hs : ∀ i, i < is.length → insOk (ix is i) = true) (hc0 : c0.length ≤ 210000) :
    Calls Tryz.prog 132 #[.pointer (some ⟨b, 0, none⟩), .slice a is.length cap, .func (.func 133) #[] #[]] w fun e w' => WrP v.heap.size b w (wlist (fun i => nl (doL i)) c0 is) e w' ∧ (wlist (fun i => nl (doL i)) c0 is).length ≤ 210000 := by
  have HI0 : Hid (Lib.IsBuilder 91 5 v.heap.size b (Lib.byteCells c0) w) := hI
  have HV : Hid (Below v.heap.size v w) := hv
  have HC : Hid (Row3 v a is) := hc
  have HT : Hid (Tab v) := hT
  have HP : Hid (P10 v) := hP
  have HS : Hid (∀ i, i < is.length → insOk (ix is i) = true) := hs
  clear hc hs hT hP
  clear hI hv
  obtain ⟨R, eR⟩ : ∃ R, wlist (fun i => nl (doL i)) c0 is = R := ⟨_, rfl⟩
  rw [eR]
  have HER : Hid (wlist (fun i => nl (doL i)) c0 is = R) := eR
  clear eR
  go_enter Tryz.func132, Tryz.ntmps132
  go_wp2
  go_loopw [10] (fun i wr => ∃ (k : Nat) (c : List UInt8), k ≤ is.length ∧ i = .int .i64 k ∧ Hid (wlist (fun i => nl (doL i)) c (is.drop k) = R) ∧ Hid (Lib.IsBuilder 91 5 v.heap.size b (Lib.byteCells c) wr) ∧ c.length ≤ 210000 ∧ Hid (Below v.heap.size w wr) ∧ Hid (Keep5 b w wr)) (fun i _ => is.length - (intOf i).toNat)
  case atStart => exact ⟨0, c0, Nat.zero_le _, rfl, HER.out, HI0.out, hc0, Below.refl _ _, Keep5.refl _ _⟩
  case round =>
    obtain ⟨k, c, hk, rfl, HR, HI, hcl, HB, HK⟩ := hrel
    have HBv : Hid (Below v.heap.size v wr) := HV.out.trans HB.out
    have hsr : v.heap.size ≤ wr.heap.size := HBv.out.size
    have HLEN : Hid (∀ W : World, Lib.IsBuilder 91 5 v.heap.size b (Lib.byteCells c) W → Calls Tryz.prog 52 #[.pointer (some ⟨b, 0, none⟩)] W fun e w' => e = .returned (.int .i64 (c.length : Nat)) ∧ W = w') := fun W hW => (Tryz.Builder_Len _ b _ W hW).mono (by
      rintro e w' ⟨rfl, rfl⟩
      exact ⟨by simp [Lib.byteCells], rfl⟩)
    by_cases hlt : k < is.length
    · have hkI : (k : Int) < (is.length : Int) := by omega
      obtain ⟨b', off, rfl, c1, c2, c3⟩ := (HC.out.below HBv.out) k hlt
      have hsx := HS.out k hlt
      obtain ⟨x, ex⟩ : ∃ x, ix is k = x := ⟨_, rfl⟩
      rw [ex] at c1 c2 c3 hsx
      have EX : Hid (ix is k = x) := ex
      clear ex
      obtain ⟨w1, e1⟩ : ∃ y, wr.alloc (.cells #[.int .i64 x.op, .string x.text, .int .i64 x.n] 207) = y := ⟨_, rfl⟩
      have hb1 : Below wr.heap.size wr w1 := by rw [← e1]; exact (Below.refl _ _).alloc (Nat.le_refl _) _
      have HBB : Hid (Below wr.heap.size wr w1) := hb1
      have HI1 : Hid (Lib.IsBuilder 91 5 v.heap.size b (Lib.byteCells c) w1) := builder_below HI.out hb1
      have x0 : w1.cell? ⟨wr.heap.size, 0, none⟩ = some (.int .i64 x.op) := by rw [← e1]; simp [go_sem]
      have x1 : w1.cell? ⟨wr.heap.size, 1, none⟩ = some (.string x.text) := by rw [← e1]; simp [go_sem]
      have x2 : w1.cell? ⟨wr.heap.size, 2, none⟩ = some (.int .i64 x.n) := by rw [← e1]; simp [go_sem]
      have hs1 : v.heap.size ≤ w1.heap.size := Nat.le_trans hsr hb1.size
      have HV1 : Hid (Below v.heap.size v w1) := HBv.out.trans (hb1.mono hsr)
      clear hb1
      have HDR : Hid (is.drop k = x :: is.drop (k + 1)) := by
        show _ = _
        rw [List.drop_eq_getElem_cons hlt]
        congr 1
        rw [← EX.out]
        exact by simp [ix, List.getD_eq_getElem?_getD, List.getElem?_eq_getElem hlt]
      by_cases h2 : 200000 < c.length
      · have HRR : Hid (R = c) := by show _ = _; rw [← HR.out]; exact (by rw [HDR.out]; exact wlist_over (fun i => nl (doL i)) c _ h2)
        have d2 : decide ((200000 : Int) < ((c.length : Nat) : Int)) = true := by simp; omega
        clear h2
        go_wp2_with fail
        refine (HLEN.out _ HI1.out).mono ?_
        rintro e w3 ⟨rfl, rfl⟩
        go_wp2
        refine bodyPost_ret (results_none rfl _ _ _) rfl ?_
        rw [HRR.out]
        exact ⟨⟨rfl, HI1.out, HB.out.trans (HBB.out.mono hsr), HK.out.trans (Keep5.below HBB.out)⟩, hcl⟩
      · have HRN : Hid (wlist (fun i => nl (doL i)) (c ++ nl (doL x)) (is.drop (k + 1)) = R) := by show _ = _; rw [← HR.out, HDR.out]; exact (wlist_under (fun i => nl (doL i)) c _ _ h2).symm
        have hc2 : c.length ≤ 200000 := by omega
        have d2 : decide ((200000 : Int) < ((c.length : Nat) : Int)) = false := by simp; omega
        clear h2
        have HW : Hid (∀ _ : Unit, Calls Tryz.prog 133 #[.pointer (some ⟨b, 0, none⟩), .agg #[.int .i64 x.op, .string x.text, .int .i64 x.n]] w1 fun e w' => WrP v.heap.size b w1 (c ++ nl (doL x)) e w') := fun _ => writeIns_any _ b c x w1 HI1.out hs1 hsx (HT.out.below HV1.out) (HP.out.below HV1.out) (by omega)

        go_wp2_with fail
        refine (HLEN.out _ HI1.out).mono ?_
        rintro e w3 ⟨rfl, rfl⟩
        go_wp2_with fail
        refine (HW.out ()).mono ?_
        rintro e w4 ⟨rfl, k1, k2, k3⟩
        have HK4 : Hid (Keep5 b w w4) := HK.out.trans ((Keep5.below HBB.out).trans k3)
        have HB4 : Hid (Below v.heap.size w w4) := HB.out.trans ((HBB.out.mono hsr).trans k2)
        have HI4 : Hid _ := k1
        clear k1 k2 k3
        go_wp2
        go_roundw
        case rel => exact ⟨k + 1, _, by omega, by go_num, HRN.out, HI4.out, (by rw [List.length_append]; have := do_len hsx; omega), HB4.out, HK4.out⟩
        case measure => simp [intOf]; omega
    · have ek : k = is.length := by omega
      have HRR : Hid (R = c) := by
        show _ = _
        rw [← HR.out, List.drop_of_length_le (by omega)]
        rfl
      clear ek
      go_wp2
      refine bodyPost_end (v := .tuple #[]) (by simp [results, Tryz.results132, go_sem]) rfl ?_
      rw [HRR.out]
      exact ⟨⟨rfl, HI.out, HB.out, HK.out⟩, hcl⟩

set_option maxRecDepth 100000 in
set_option maxHeartbeats 2000000 in
theorem writeLooks_any (v : World) (b : Nat) (c0 : List UInt8) (a : Option Addr) (cap : Nat) (gs : List G3) (w : World) (hI : Lib.IsBuilder 91 5 v.heap.size b (Lib.byteCells c0) w) (hv : Below v.heap.size v w) (hc : RowG v a gs) (hl : gs.length ≤ 5000) (hs : ∀ i, i < gs.length → (gx gs i).name.size ≤ 2002 ∧ (gx gs i).sum.size ≤ 2002) (hc0 : c0.length ≤ 210000) :
    Calls Tryz.prog 134 #[.pointer (some ⟨b, 0, none⟩), .slice a gs.length cap, .func (.func 135) #[] #[]] w fun e w' => WrP v.heap.size b w (wlist (fun g => nl (lookL g)) c0 gs) e w' ∧ (wlist (fun g => nl (lookL g)) c0 gs).length ≤ 210000 := by
  have HI0 : Hid (Lib.IsBuilder 91 5 v.heap.size b (Lib.byteCells c0) w) := hI
  have HV : Hid (Below v.heap.size v w) := hv
  have HC : Hid (RowG v a gs) := hc
  have HS : Hid (∀ i, i < gs.length → (gx gs i).name.size ≤ 2002 ∧ (gx gs i).sum.size ≤ 2002) := hs
  clear hc hs
  clear hI hv
  obtain ⟨R, eR⟩ : ∃ R, wlist (fun g => nl (lookL g)) c0 gs = R := ⟨_, rfl⟩
  rw [eR]
  have HER : Hid (wlist (fun g => nl (lookL g)) c0 gs = R) := eR
  clear eR
  go_enter Tryz.func134, Tryz.ntmps134
  go_wp2
  go_loopw [10] (fun i wr => ∃ (k : Nat) (c : List UInt8), k ≤ gs.length ∧ i = .int .i64 k ∧ Hid (wlist (fun g => nl (lookL g)) c (gs.drop k) = R) ∧ Hid (Lib.IsBuilder 91 5 v.heap.size b (Lib.byteCells c) wr) ∧ c.length ≤ 210000 ∧ Hid (Below v.heap.size w wr) ∧ Hid (Keep5 b w wr)) (fun i _ => gs.length - (intOf i).toNat)
  case atStart => exact ⟨0, c0, Nat.zero_le _, rfl, HER.out, HI0.out, hc0, Below.refl _ _, Keep5.refl _ _⟩
  case round =>
    obtain ⟨k, c, hk, rfl, HR, HI, hcl, HB, HK⟩ := hrel
    have HBv : Hid (Below v.heap.size v wr) := HV.out.trans HB.out
    have hsr : v.heap.size ≤ wr.heap.size := HBv.out.size
    have HLEN : Hid (∀ W : World, Lib.IsBuilder 91 5 v.heap.size b (Lib.byteCells c) W → Calls Tryz.prog 52 #[.pointer (some ⟨b, 0, none⟩)] W fun e w' => e = .returned (.int .i64 (c.length : Nat)) ∧ W = w') := fun W hW => (Tryz.Builder_Len _ b _ W hW).mono (by
      rintro e w' ⟨rfl, rfl⟩
      exact ⟨by simp [Lib.byteCells], rfl⟩)
    by_cases hlt : k < gs.length
    · have hkI : (k : Int) < (gs.length : Int) := by omega
      obtain ⟨b', off, rfl, c1, c2, c3⟩ := (HC.out.below HBv.out) k hlt
      have hsx := HS.out k hlt
      obtain ⟨x, ex⟩ : ∃ x, gx gs k = x := ⟨_, rfl⟩
      rw [ex] at c1 c2 c3 hsx
      have EX : Hid (gx gs k = x) := ex
      clear ex
      obtain ⟨w1, e1⟩ : ∃ y, wr.alloc (.cells #[.string x.name, .bool x.ask, .string x.sum] 211) = y := ⟨_, rfl⟩
      have hb1 : Below wr.heap.size wr w1 := by rw [← e1]; exact (Below.refl _ _).alloc (Nat.le_refl _) _
      have HBB : Hid (Below wr.heap.size wr w1) := hb1
      have HI1 : Hid (Lib.IsBuilder 91 5 v.heap.size b (Lib.byteCells c) w1) := builder_below HI.out hb1
      have x0 : w1.cell? ⟨wr.heap.size, 0, none⟩ = some (.string x.name) := by rw [← e1]; simp [go_sem]
      have x1 : w1.cell? ⟨wr.heap.size, 1, none⟩ = some (.bool x.ask) := by rw [← e1]; simp [go_sem]
      have x2 : w1.cell? ⟨wr.heap.size, 2, none⟩ = some (.string x.sum) := by rw [← e1]; simp [go_sem]
      have hs1 : v.heap.size ≤ w1.heap.size := Nat.le_trans hsr hb1.size
      have HV1 : Hid (Below v.heap.size v w1) := HBv.out.trans (hb1.mono hsr)
      clear hb1
      have HDR : Hid (gs.drop k = x :: gs.drop (k + 1)) := by
        show _ = _
        rw [List.drop_eq_getElem_cons hlt]
        congr 1
        rw [← EX.out]
        exact by simp [gx, List.getD_eq_getElem?_getD, List.getElem?_eq_getElem hlt]
      by_cases h2 : 200000 < c.length
      · have HRR : Hid (R = c) := by show _ = _; rw [← HR.out]; exact (by rw [HDR.out]; exact wlist_over (fun g => nl (lookL g)) c _ h2)
        have d2 : decide ((200000 : Int) < ((c.length : Nat) : Int)) = true := by simp; omega
        clear h2
        go_wp2_with fail
        refine (HLEN.out _ HI1.out).mono ?_
        rintro e w3 ⟨rfl, rfl⟩
        go_wp2
        refine bodyPost_ret (results_none rfl _ _ _) rfl ?_
        rw [HRR.out]
        exact ⟨⟨rfl, HI1.out, HB.out.trans (HBB.out.mono hsr), HK.out.trans (Keep5.below HBB.out)⟩, hcl⟩
      · have HRN : Hid (wlist (fun g => nl (lookL g)) (c ++ nl (lookL x)) (gs.drop (k + 1)) = R) := by show _ = _; rw [← HR.out, HDR.out]; exact (wlist_under (fun g => nl (lookL g)) c _ _ h2).symm
        have hc2 : c.length ≤ 200000 := by omega
        have d2 : decide ((200000 : Int) < ((c.length : Nat) : Int)) = false := by simp; omega
        clear h2
        have HW : Hid (∀ _ : Unit, Calls Tryz.prog 135 #[.pointer (some ⟨b, 0, none⟩), .agg #[.string x.name, .bool x.ask, .string x.sum]] w1 fun e w' => WrP v.heap.size b w1 (c ++ nl (lookL x)) e w') := fun _ => writeLook_any _ b c x w1 HI1.out hs1 hsx.1 hsx.2 (by omega)

        go_wp2_with fail
        refine (HLEN.out _ HI1.out).mono ?_
        rintro e w3 ⟨rfl, rfl⟩
        go_wp2_with fail
        refine (HW.out ()).mono ?_
        rintro e w4 ⟨rfl, k1, k2, k3⟩
        have HK4 : Hid (Keep5 b w w4) := HK.out.trans ((Keep5.below HBB.out).trans k3)
        have HB4 : Hid (Below v.heap.size w w4) := HB.out.trans ((HBB.out.mono hsr).trans k2)
        have HI4 : Hid _ := k1
        clear k1 k2 k3
        go_wp2
        go_roundw
        case rel => exact ⟨k + 1, _, by omega, by go_num, HRN.out, HI4.out, (by rw [List.length_append]; have := look_len hsx.1 hsx.2; omega), HB4.out, HK4.out⟩
        case measure => simp [intOf]; omega
    · have ek : k = gs.length := by omega
      have HRR : Hid (R = c) := by
        show _ = _
        rw [← HR.out, List.drop_of_length_le (by omega)]
        rfl
      clear ek
      go_wp2
      refine bodyPost_end (v := .tuple #[]) (by simp [results, Tryz.results134, go_sem]) rfl ?_
      rw [HRR.out]
      exact ⟨⟨rfl, HI.out, HB.out, HK.out⟩, hcl⟩

end Go.Proofs.YtmeojnaoljgieadGreatDoor
