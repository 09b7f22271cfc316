/-
  The walk of spec.l2Line.
-/
import Derived.Test.YtmcafdobfmheaaaGreatDoorIPrint
import Derived.Test.YtmcafdobfmheaaaGreatDoorSDec
import Derived.Test.YtmcafdobfmheaaaGreatDoorSQuote
namespace Go.Proofs.YtmcafdobfmheaaaGreatDoor
open Go.RowKit
set_option linter.unusedVariables false

set_option maxHeartbeats 1000000 in
theorem l2Line_in (o : Nat) (t : ByteArray) (n : Int) (w : World) (h1 : 1 ≤ o) (h2 : o ≤ 15) (hok : insOk ⟨o, t, n⟩ = true) :
    Calls Tryz.prog 52 #[.agg #[.int .i64 o, .string t, .int .i64 n]] w fun e w' => e = .returned (.string ⟨(lineL ⟨o, t, n⟩).toArray⟩) ∧ Below w.heap.size w w' := by
  rw [insOk_in o t n h1 h2] at hok
  simp only [Bool.and_eq_true, decide_eq_true_eq] at hok
  obtain ⟨⟨ht, hn0⟩, hn1⟩ := hok
  have hws := word_size o
  have hb0 : Below w.heap.size w (w.alloc (.cells #[.int .i64 o, .string t, .int .i64 n] 47)) := (Below.refl _ _).alloc (Nat.le_refl _) _
  have HW : Hid (∀ w, Calls Tryz.prog 47 #[.int .i64 o] w fun e w' => e = .returned (.tuple #[.string (wordB o), .int .i64 (kindOf o)]) ∧ w = w') := fun w => l2Word_in o w h1 h2
  rcases kind_cases o with hk | hk | hk | hk
  · have HL : Hid (wordB o = ⟨(lineL ⟨o, t, n⟩).toArray⟩) := line_bare o t n hk
    rw [hk] at HW
    clear hk ht hn1
    generalize wordB o = wd at *
    go_enter Tryz.func52, Tryz.ntmps52
    go_wp2_with (first | (go_at_call 47; refine ((HW.out) _).mono ?_; rintro e w' ⟨rfl, rfl⟩))
    go_ret
    exact ⟨by rw [← HL.out]; rfl, hb0⟩
  · have HL : Hid (wordB o ++ (⟨#[32]⟩ : ByteArray) ++ (⟨(quoteL t.data.toList).toArray⟩ : ByteArray) = ⟨(lineL ⟨o, t, n⟩).toArray⟩) := line_text o t n hk
    have ht' : t.size ≤ 2000 := by rw [hk] at ht; simp [mostT] at ht; omega
    rw [hk] at HW
    clear hk ht hn1
    have hq := quoteL_length t.data.toList
    have he : t.data.toList.length = t.size := Array.length_toList
    have hqs : (⟨(quoteL t.data.toList).toArray⟩ : ByteArray).size ≤ 6002 := by
      show (quoteL t.data.toList).toArray.size ≤ 6002
      rw [List.size_toArray]; omega
    have HQ : Hid (∀ w, Calls Tryz.prog 73 #[.string t] w fun e w' => e = .returned (.string ⟨(quoteL t.data.toList).toArray⟩) ∧ Below w.heap.size w w') := fun w => l2Quote_any t w ht'
    generalize (⟨(quoteL t.data.toList).toArray⟩ : ByteArray) = q at *
    generalize wordB o = wd at *
    clear hq he
    go_enter Tryz.func52, Tryz.ntmps52
    go_wp2_with (first | (go_at_call 47; refine ((HW.out) _).mono ?_; rintro e w' ⟨rfl, rfl⟩) | (go_at_call 73; refine ((HQ.out) _).mono ?_; rintro e w1 ⟨rfl, hb1⟩))
    go_ret
    exact ⟨by rw [← HL.out]; rfl, hb0.trans (hb1.mono hb0.size)⟩
  all_goals
    have HL : Hid (wordB o ++ (⟨#[32]⟩ : ByteArray) ++ (⟨(Lib.decDigits n.toNat).toArray⟩ : ByteArray) = ⟨(lineL ⟨o, t, n⟩).toArray⟩) := line_num o t n (by first | exact Or.inl hk | exact Or.inr hk)
    have hn' : n ≤ 2000 := by rw [hk] at hn1; simp [mostN] at hn1; omega
    have hd := dec_length 3 n.toNat (by omega)
    have hqs : (⟨(Lib.decDigits n.toNat).toArray⟩ : ByteArray).size ≤ 6002 := by
      show (Lib.decDigits n.toNat).toArray.size ≤ 6002
      rw [List.size_toArray]; omega
    have HQ : Hid (∀ w, Calls Tryz.prog 57 #[.int .i64 n] w fun e w' => e = .returned (.string ⟨(Lib.decDigits n.toNat).toArray⟩) ∧ Below w.heap.size w w') := fun w => by
      have := l2Dec_any n.toNat w (by omega)
      rwa [Int.toNat_of_nonneg hn0] at this
    rw [hk] at HW
    clear hk ht hn1 hd
    generalize (⟨(Lib.decDigits n.toNat).toArray⟩ : ByteArray) = q at *
    generalize wordB o = wd at *
    go_enter Tryz.func52, Tryz.ntmps52
    go_wp2_with (first | (go_at_call 47; refine ((HW.out) _).mono ?_; rintro e w' ⟨rfl, rfl⟩) | (go_at_call 57; refine ((HQ.out) _).mono ?_; rintro e w1 ⟨rfl, hb1⟩))
    go_ret
    exact ⟨by rw [← HL.out]; rfl, hb0.trans (hb1.mono hb0.size)⟩

theorem l2Line_any (i : I3) (w : World) (hok : insOk i = true) :
    Calls Tryz.prog 52 #[.agg #[.int .i64 i.op, .string i.text, .int .i64 i.n]] w fun e w' => e = .returned (.string ⟨(lineL i).toArray⟩) ∧ Below w.heap.size w w' := by
  obtain ⟨op, t, n⟩ := i
  have h : 1 ≤ op ∧ op ≤ 15 := by
    simp only [insOk, Bool.and_eq_true, decide_eq_true_eq] at hok
    exact ⟨hok.1.1.1.1, hok.1.1.1.2⟩
  obtain ⟨o, rfl⟩ := Int.eq_ofNat_of_zero_le (show 0 ≤ op by omega)
  exact l2Line_in o t n w (by omega) (by omega) hok

end Go.Proofs.YtmcafdobfmheaaaGreatDoor
