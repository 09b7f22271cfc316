/-
  The walks of impl.printIns and impl.PrintProgram.
-/
import Derived.Test.YtmeojnaoljgieadGreatDoorIQuote
import Derived.Lib.AppendIntMem
namespace Go.Proofs.YtmeojnaoljgieadGreatDoor
open Go.RowKit
set_option linter.unusedVariables false

def P10 (w : World) : Prop := Lib.TabIs Tryz.prog w "internal/strconv.uint64pow10" .u64 Lib.pow10Tab
theorem P10.below {w w' : World} (h : P10 w) (hb : Below w.heap.size w w') : P10 w' := Lib.tabBelow_of_tabIs h w' hb

theorem str_join (a b : ByteArray) (c : List UInt8) : a ++ b ++ (⟨c.toArray⟩ : ByteArray) = ⟨(a.data.toList ++ (b.data.toList ++ c)).toArray⟩ := by
  apply WideShapes.bytes_inj
  simp [ByteArray.data_append]

theorem word_size (o : Nat) : (wordB o).size ≤ 6 := by have := word_length o; rw [Array.length_toList] at this; exact this

theorem line_text (o : Nat) (t : ByteArray) (n : Int) (hk : kindOf o = 1) : wordB o ++ (⟨#[32]⟩ : ByteArray) ++ (⟨(quoteL t.data.toList).toArray⟩ : ByteArray) = ⟨(lineL ⟨o, t, n⟩).toArray⟩ := by
  rw [str_join]; simp [lineL, hk]
theorem line_num (o : Nat) (t : ByteArray) (n : Int) (hk : kindOf o = 2 ∨ kindOf o = 3) : wordB o ++ (⟨#[32]⟩ : ByteArray) ++ (⟨(Lib.decDigits n.toNat).toArray⟩ : ByteArray) = ⟨(lineL ⟨o, t, n⟩).toArray⟩ := by
  rw [str_join]; rcases hk with hk | hk <;> simp [lineL, hk]
theorem line_bare (o : Nat) (t : ByteArray) (n : Int) (hk : kindOf o = 0) : wordB o = ⟨(lineL ⟨o, t, n⟩).toArray⟩ := by
  apply WideShapes.bytes_inj
  simp [lineL, hk]

set_option maxHeartbeats 1000000 in
theorem printIns_in (o : Nat) (t : ByteArray) (n : Int) (w : World) (h1 : 1 ≤ o) (h2 : o ≤ 15) (hok : insOk ⟨o, t, n⟩ = true) (hT : Tab w) (hP : P10 w) :
    Calls Tryz.prog 212 #[.agg #[.int .i64 o, .string t, .int .i64 n]] w fun e w' => e = .returned (.string ⟨(lineL ⟨o, t, n⟩).toArray⟩) ∧ Below w.heap.size w w' := by
  rw [insOk_in o t n h1 h2] at hok
  simp only [Bool.and_eq_true, decide_eq_true_eq] at hok
  obtain ⟨⟨ht, hn0⟩, hn1⟩ := hok
  obtain ⟨cw, ck, _⟩ := hT o (by omega)
  have h0 : 0 < w.heap.size := World.block_lt_of_cell? w _ ck
  have hka : ∀ x, (w.alloc x).cell? ⟨0, o * 3 + 1, none⟩ = some (.int .i64 (kindOf o)) := fun x => by rw [World.cell?_alloc_lt _ _ _ h0]; exact ck
  have hwa : ∀ x, (w.alloc x).cell? ⟨0, o * 3, none⟩ = some (.string (wordB o)) := fun x => by rw [World.cell?_alloc_lt _ _ _ h0]; exact cw
  have hws := word_size o
  have hb0 : Below w.heap.size w (w.alloc (.cells #[.int .i64 o, .string t, .int .i64 n] 207)) := (Below.refl _ _).alloc (Nat.le_refl _) _
  rcases kind_cases o with hk | hk | hk | hk
  · have HL : Hid (wordB o = ⟨(lineL ⟨o, t, n⟩).toArray⟩) := line_bare o t n hk
    rw [hk] at hka
    clear hk ck cw ht hn1 hT hP
    go_enter Tryz.func212, Tryz.ntmps212
    go_wp2
    go_ret
    exact ⟨by rw [← HL.out]; rfl, hb0⟩
  · have HL : Hid (wordB o ++ (⟨#[32]⟩ : ByteArray) ++ (⟨(quoteL t.data.toList).toArray⟩ : ByteArray) = ⟨(lineL ⟨o, t, n⟩).toArray⟩) := line_text o t n hk
    have ht' : t.size ≤ 2000 := by rw [hk] at ht; simp [mostT] at ht; omega
    rw [hk] at hka
    clear hk ck cw ht hn1 hT hP
    have hq := quoteL_length t.data.toList
    have he : t.data.toList.length = t.size := Array.length_toList
    go_enter Tryz.func212, Tryz.ntmps212
    go_wp2_with fail
    refine (quote_any t _ (Nat.le_trans ht' (by decide))).mono ?_
    rintro e w1 ⟨rfl, hb1⟩
    have hqs : (⟨(quoteL t.data.toList).toArray⟩ : ByteArray).size ≤ 6002 := by
      show (quoteL t.data.toList).toArray.size ≤ 6002
      rw [List.size_toArray]; omega
    generalize (⟨(quoteL t.data.toList).toArray⟩ : ByteArray) = q at *
    go_wp2
    go_ret
    exact ⟨by rw [← HL.out]; rfl, hb0.trans (hb1.mono hb0.size)⟩
  · have HL : Hid (wordB o ++ (⟨#[32]⟩ : ByteArray) ++ (⟨(Lib.decDigits n.toNat).toArray⟩ : ByteArray) = ⟨(lineL ⟨o, t, n⟩).toArray⟩) := line_num o t n (Or.inl hk)
    have hn' : n ≤ 2000 := by rw [hk] at hn1; simp [mostN] at hn1; omega
    have hd := dec_length 3 n.toNat (by omega)
    have HI : Hid (Lib.itoa n = Lib.decDigits n.toNat) := by show Lib.itoa n = _; unfold Lib.itoa; rw [if_neg (by omega)]
    have hPa := hP.below hb0
    have HPa : Hid (P10 (w.alloc (.cells #[.int .i64 o, .string t, .int .i64 n] 207))) := hPa
    rw [hk] at hka
    clear hk ck cw ht hn1 hT hP hPa
    go_enter Tryz.func212, Tryz.ntmps212
    go_wp2_with fail
    refine (Tryz.strconv_Itoa n (by omega) (by omega) _ HPa.out).mono ?_
    rintro e w1 ⟨rfl, k', os', hw1⟩
    have hb1 := Lib.below_grow (w.alloc (.cells #[.int .i64 o, .string t, .int .i64 n] 207)).heap.size (w.alloc (.cells #[.int .i64 o, .string t, .int .i64 n] 207)) (Nat.le_refl _) k' os'
    rw [← hw1] at hb1
    clear hw1
    rw [HI.out]
    have hqs : (⟨(Lib.decDigits n.toNat).toArray⟩ : ByteArray).size ≤ 6002 := by
      show (Lib.decDigits n.toNat).toArray.size ≤ 6002
      rw [List.size_toArray]; omega
    generalize (⟨(Lib.decDigits n.toNat).toArray⟩ : ByteArray) = q at *
    go_wp2
    go_ret
    exact ⟨by rw [← HL.out]; rfl, hb0.trans (hb1.mono hb0.size)⟩
  · have HL : Hid (wordB o ++ (⟨#[32]⟩ : ByteArray) ++ (⟨(Lib.decDigits n.toNat).toArray⟩ : ByteArray) = ⟨(lineL ⟨o, t, n⟩).toArray⟩) := line_num o t n (Or.inr hk)
    have hn' : n ≤ 2000 := by rw [hk] at hn1; simp [mostN] at hn1; omega
    have hd := dec_length 3 n.toNat (by omega)
    have HI : Hid (Lib.itoa n = Lib.decDigits n.toNat) := by show Lib.itoa n = _; unfold Lib.itoa; rw [if_neg (by omega)]
    have hPa := hP.below hb0
    have HPa : Hid (P10 (w.alloc (.cells #[.int .i64 o, .string t, .int .i64 n] 207))) := hPa
    rw [hk] at hka
    clear hk ck cw ht hn1 hT hP hPa
    go_enter Tryz.func212, Tryz.ntmps212
    go_wp2_with fail
    refine (Tryz.strconv_Itoa n (by omega) (by omega) _ HPa.out).mono ?_
    rintro e w1 ⟨rfl, k', os', hw1⟩
    have hb1 := Lib.below_grow (w.alloc (.cells #[.int .i64 o, .string t, .int .i64 n] 207)).heap.size (w.alloc (.cells #[.int .i64 o, .string t, .int .i64 n] 207)) (Nat.le_refl _) k' os'
    rw [← hw1] at hb1
    clear hw1
    rw [HI.out]
    have hqs : (⟨(Lib.decDigits n.toNat).toArray⟩ : ByteArray).size ≤ 6002 := by
      show (Lib.decDigits n.toNat).toArray.size ≤ 6002
      rw [List.size_toArray]; omega
    generalize (⟨(Lib.decDigits n.toNat).toArray⟩ : ByteArray) = q at *
    go_wp2
    go_ret
    exact ⟨by rw [← HL.out]; rfl, hb0.trans (hb1.mono hb0.size)⟩

theorem printIns_any (i : I3) (w : World) (hok : insOk i = true) (hT : Tab w) (hP : P10 w) :
    Calls Tryz.prog 212 #[.agg #[.int .i64 i.op, .string i.text, .int .i64 i.n]] w fun e w' => e = .returned (.string ⟨(lineL i).toArray⟩) ∧ Below w.heap.size w w' := by
  obtain ⟨op, t, n⟩ := i
  have h : 1 ≤ op ∧ op ≤ 15 := by
    simp only [insOk, Bool.and_eq_true, decide_eq_true_eq] at hok
    exact ⟨hok.1.1.1.1, hok.1.1.1.2⟩
  obtain ⟨o, rfl⟩ := Int.eq_ofNat_of_zero_le (show 0 ≤ op by omega)
  exact printIns_in o t n w (by omega) (by omega) hok hT hP

theorem builder_below {T e : TypeId} {B b : Nat} {bs : List Value} {w w' : World} (h : Lib.IsBuilder T e B b bs w) (hb : Below w.heap.size w w') : Lib.IsBuilder T e B b bs w' := by
  have key : ∀ p, Lib.BuilderAt T e B b p bs w → Lib.BuilderAt T e B b p bs w' := by
    intro p h
    have hlt := h.lt
    obtain ⟨hB, v, hbk, hown, hne⟩ := h
    exact ⟨hB, v, by rw [hb.block b hlt]; exact hbk, ownsRow_below hown hb, hne⟩
  rcases h with h | h
  · exact Or.inl (key _ h)
  · exact Or.inr (key _ h)

theorem str_cells (l : List UInt8) : Lib.strCells ⟨l.toArray⟩ = Lib.byteCells l := by simp [Lib.strCells, Lib.byteCells]

end Go.Proofs.YtmeojnaoljgieadGreatDoor
