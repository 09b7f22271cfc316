/-
  The walks of impl.printIns and impl.PrintProgram.
-/
import Derived.Test.YtmcafdobfmheaaaGreatDoorIQuote
import Derived.Lib.AppendIntMem
namespace Go.Proofs.YtmcafdobfmheaaaGreatDoor
open Go.RowKit
set_option linter.unusedVariables false

def P10 (w : World) : Prop := Lib.TabIs Tryz.prog w "internal/strconv.uint64pow10" .u64 Lib.pow10Tab
theorem P10.below {w w' : World} (h : P10 w) (hb : Below w.heap.size w w') : P10 w' := Lib.tabBelow_of_tabIs h w' hb

theorem str_join (a b : ByteArray) (c : List UInt8) : a ++ b ++ (⟨c.toArray⟩ : ByteArray) = ⟨(a.data.toList ++ (b.data.toList ++ c)).toArray⟩ := by
  apply WideShapes.bytes_inj
  simp [ByteArray.data_append]

theorem word_size (o : Nat) : (wordB o).size ≤ 6 := by have := word_length o; rw [Array.length_toList] at this; exact this

theorem line_text (o : Nat) (t : ByteArray) (n : Int) (hk : kindOf o = 1) : wordB o ++ (⟨#[32]⟩ : ByteArray) ++ (⟨(quoteL t.data.toList).toArray⟩ : ByteArray) = ⟨(lineL ⟨o, t, n⟩).toArray⟩ := by
  rw [str_join]; simp [lineL, hk]
theorem line_num (o : Nat) (t : ByteArray) (n : Int) (hk : kindOf o = 2 ∨ kindOf o = 3) : wordB o ++ (⟨#[32]⟩ : ByteArray) ++ (⟨(Lib.decDigits n.toNat).toArray⟩ : ByteArray) = ⟨(lineL ⟨o, t, n⟩).toArray⟩ := by
  rw [str_join]; rcases hk with hk | hk <;> simp [lineL, hk]
theorem line_bare (o : Nat) (t : ByteArray) (n : Int) (hk : kindOf o = 0) : wordB o = ⟨(lineL ⟨o, t, n⟩).toArray⟩ := by
  apply WideShapes.bytes_inj
  simp [lineL, hk]

set_option maxHeartbeats 1000000 in
theorem printIns_in (o : Nat) (t : ByteArray) (n : Int) (w : World) (h1 : 1 ≤ o) (h2 : o ≤ 15) (hok : insOk ⟨o, t, n⟩ = true) (hT : Tab w) (hP : P10 w) :
    Calls Tryz.prog 21 #[.agg #[.int .i64 o, .string t, .int .i64 n]] w fun e w' => e = .returned (.string ⟨(lineL ⟨o, t, n⟩).toArray⟩) ∧ Below w.heap.size w w' := by
  rw [insOk_in o t n h1 h2] at hok
  simp only [Bool.and_eq_true, decide_eq_true_eq] at hok
  obtain ⟨⟨ht, hn0⟩, hn1⟩ := hok
  obtain ⟨cw, ck, _⟩ := hT o (by omega)
  have h0 : 0 < w.heap.size := World.block_lt_of_cell? w _ ck
  have hka : ∀ x, (w.alloc x).cell? ⟨0, o * 3 + 1, none⟩ = some (.int .i64 (kindOf o)) := fun x => by rw [World.cell?_alloc_lt _ _ _ h0]; exact ck
  have hwa : ∀ x, (w.alloc x).cell? ⟨0, o * 3, none⟩ = some (.string (wordB o)) := fun x => by rw [World.cell?_alloc_lt _ _ _ h0]; exact cw
  have hws := word_size o
  have hb0 : Below w.heap.size w (w.alloc (.cells #[.int .i64 o, .string t, .int .i64 n] 47)) := (Below.refl _ _).alloc (Nat.le_refl _) _
  rcases kind_cases o with hk | hk | hk | hk
  · have HL : Hid (wordB o = ⟨(lineL ⟨o, t, n⟩).toArray⟩) := line_bare o t n hk
    rw [hk] at hka
    clear hk ck cw ht hn1 hT hP
    go_enter Tryz.func21, Tryz.ntmps21
    go_wp2
    go_ret
    exact ⟨by rw [← HL.out]; rfl, hb0⟩
  · have HL : Hid (wordB o ++ (⟨#[32]⟩ : ByteArray) ++ (⟨(quoteL t.data.toList).toArray⟩ : ByteArray) = ⟨(lineL ⟨o, t, n⟩).toArray⟩) := line_text o t n hk
    have ht' : t.size ≤ 2000 := by rw [hk] at ht; simp [mostT] at ht; omega
    rw [hk] at hka
    clear hk ck cw ht hn1 hT hP
    have hq := quoteL_length t.data.toList
    have he : t.data.toList.length = t.size := Array.length_toList
    go_enter Tryz.func21, Tryz.ntmps21
    go_wp2_with fail
    refine (quote_any t _ ht').mono ?_
    rintro e w1 ⟨rfl, hb1⟩
    have hqs : (⟨(quoteL t.data.toList).toArray⟩ : ByteArray).size ≤ 6002 := by
      show (quoteL t.data.toList).toArray.size ≤ 6002
      rw [List.size_toArray]; omega
    generalize (⟨(quoteL t.data.toList).toArray⟩ : ByteArray) = q at *
    go_wp2
    go_ret
    exact ⟨by rw [← HL.out]; rfl, hb0.trans (hb1.mono hb0.size)⟩
  · have HL : Hid (wordB o ++ (⟨#[32]⟩ : ByteArray) ++ (⟨(Lib.decDigits n.toNat).toArray⟩ : ByteArray) = ⟨(lineL ⟨o, t, n⟩).toArray⟩) := line_num o t n (Or.inl hk)
    have hn' : n ≤ 2000 := by rw [hk] at hn1; simp [mostN] at hn1; omega
    have hd := dec_length 3 n.toNat (by omega)
    have HI : Hid (Lib.itoa n = Lib.decDigits n.toNat) := by show Lib.itoa n = _; unfold Lib.itoa; rw [if_neg (by omega)]
    have hPa := hP.below hb0
    have HPa : Hid (P10 (w.alloc (.cells #[.int .i64 o, .string t, .int .i64 n] 47))) := hPa
    rw [hk] at hka
    clear hk ck cw ht hn1 hT hP hPa
    go_enter Tryz.func21, Tryz.ntmps21
    go_wp2_with fail
    refine (Tryz.strconv_Itoa n (by omega) (by omega) _ HPa.out).mono ?_
    rintro e w1 ⟨rfl, k', os', hw1⟩
    have hb1 := Lib.below_grow (w.alloc (.cells #[.int .i64 o, .string t, .int .i64 n] 47)).heap.size (w.alloc (.cells #[.int .i64 o, .string t, .int .i64 n] 47)) (Nat.le_refl _) k' os'
    rw [← hw1] at hb1
    clear hw1
    rw [HI.out]
    have hqs : (⟨(Lib.decDigits n.toNat).toArray⟩ : ByteArray).size ≤ 6002 := by
      show (Lib.decDigits n.toNat).toArray.size ≤ 6002
      rw [List.size_toArray]; omega
    generalize (⟨(Lib.decDigits n.toNat).toArray⟩ : ByteArray) = q at *
    go_wp2
    go_ret
    exact ⟨by rw [← HL.out]; rfl, hb0.trans (hb1.mono hb0.size)⟩
  · have HL : Hid (wordB o ++ (⟨#[32]⟩ : ByteArray) ++ (⟨(Lib.decDigits n.toNat).toArray⟩ : ByteArray) = ⟨(lineL ⟨o, t, n⟩).toArray⟩) := line_num o t n (Or.inr hk)
    have hn' : n ≤ 2000 := by rw [hk] at hn1; simp [mostN] at hn1; omega
    have hd := dec_length 3 n.toNat (by omega)
    have HI : Hid (Lib.itoa n = Lib.decDigits n.toNat) := by show Lib.itoa n = _; unfold Lib.itoa; rw [if_neg (by omega)]
    have hPa := hP.below hb0
    have HPa : Hid (P10 (w.alloc (.cells #[.int .i64 o, .string t, .int .i64 n] 47))) := hPa
    rw [hk] at hka
    clear hk ck cw ht hn1 hT hP hPa
    go_enter Tryz.func21, Tryz.ntmps21
    go_wp2_with fail
    refine (Tryz.strconv_Itoa n (by omega) (by omega) _ HPa.out).mono ?_
    rintro e w1 ⟨rfl, k', os', hw1⟩
    have hb1 := Lib.below_grow (w.alloc (.cells #[.int .i64 o, .string t, .int .i64 n] 47)).heap.size (w.alloc (.cells #[.int .i64 o, .string t, .int .i64 n] 47)) (Nat.le_refl _) k' os'
    rw [← hw1] at hb1
    clear hw1
    rw [HI.out]
    have hqs : (⟨(Lib.decDigits n.toNat).toArray⟩ : ByteArray).size ≤ 6002 := by
      show (Lib.decDigits n.toNat).toArray.size ≤ 6002
      rw [List.size_toArray]; omega
    generalize (⟨(Lib.decDigits n.toNat).toArray⟩ : ByteArray) = q at *
    go_wp2
    go_ret
    exact ⟨by rw [← HL.out]; rfl, hb0.trans (hb1.mono hb0.size)⟩

theorem printIns_any (i : I3) (w : World) (hok : insOk i = true) (hT : Tab w) (hP : P10 w) :
    Calls Tryz.prog 21 #[.agg #[.int .i64 i.op, .string i.text, .int .i64 i.n]] w fun e w' => e = .returned (.string ⟨(lineL i).toArray⟩) ∧ Below w.heap.size w w' := by
  obtain ⟨op, t, n⟩ := i
  have h : 1 ≤ op ∧ op ≤ 15 := by
    simp only [insOk, Bool.and_eq_true, decide_eq_true_eq] at hok
    exact ⟨hok.1.1.1.1, hok.1.1.1.2⟩
  obtain ⟨o, rfl⟩ := Int.eq_ofNat_of_zero_le (show 0 ≤ op by omega)
  exact printIns_in o t n w (by omega) (by omega) hok hT hP

theorem builder_below {T e : TypeId} {B b : Nat} {bs : List Value} {w w' : World} (h : Lib.IsBuilder T e B b bs w) (hb : Below w.heap.size w w') : Lib.IsBuilder T e B b bs w' := by
  have key : ∀ p, Lib.BuilderAt T e B b p bs w → Lib.BuilderAt T e B b p bs w' := by
    intro p h
    have hlt := h.lt
    obtain ⟨hB, v, hbk, hown, hne⟩ := h
    exact ⟨hB, v, by rw [hb.block b hlt]; exact hbk, ownsRow_below hown hb, hne⟩
  rcases h with h | h
  · exact Or.inl (key _ h)
  · exact Or.inr (key _ h)

theorem str_cells (l : List UInt8) : Lib.strCells ⟨l.toArray⟩ = Lib.byteCells l := by simp [Lib.strCells, Lib.byteCells]

set_option maxHeartbeats 1000000 in
theorem implPrint_any (a : Option Addr) (cap : Nat) (is : List I3) (w : World) (hT : Tab w) (hP : P10 w) (hc : Row3 w a is) (hl : is.length ≤ 1048576) (hs : ∀ i, (ix is i).text.size ≤ 9223372036854775807) :
    Calls Tryz.prog 6 #[.agg #[.slice a is.length cap]] w fun e w' => e = .returned (.string (if progOk is then ⟨(printL is is.length).toArray⟩ else ⟨#[]⟩)) ∧ Below w.heap.size w w' := by
  have hb0 : Below w.heap.size w (w.alloc (.cells #[.slice a is.length cap] 25)) := (Below.refl _ _).alloc (Nat.le_refl _) _
  by_cases hok : progOk is = true
  · rw [if_pos hok]
    have hok' := hok
    simp only [progOk, Bool.and_eq_true, decide_eq_true_eq] at hok'
    obtain ⟨⟨hl1, hl2⟩, hall⟩ := hok'
    have HA : Hid (∀ i, i < is.length → insOk (ix is i) = true) := hall
    have hpl := printL_length hall
    clear hall
    go_enter Tryz.func6, Tryz.ntmps6
    go_wp2_with fail
    refine (implValid_any a cap is _ (hT.below hb0) (hc.below hb0) hl hs).mono ?_
    rintro e w1 ⟨hb1, rfl⟩
    have hB1 : Below w.heap.size w w1 := hb0.trans (hb1.mono hb0.size)
    have hcs : w1.cell? ⟨w.heap.size, 0, none⟩ = some (.slice a is.length cap) := cell_below hb1 (by simp [go_sem])
    have hz1 : w.heap.size < w1.heap.size := World.block_lt_of_cell? _ _ hcs
    have hI0 := Lib.fresh_isBuilder 45 5 w1
    have hB2 : Below w.heap.size w (w1.alloc (.cells #[.pointer none, .slice none 0 0] 45)) := hB1.alloc hB1.size _
    clear hb0 hb1
    go_wp2
    go_loopw [12] (fun i wr => ∃ k : Nat, k ≤ is.length ∧ i = .int .i64 k ∧ Lib.IsBuilder 45 5 w1.heap.size w1.heap.size (Lib.byteCells (printL is k)) wr ∧ w1.heap.size ≤ wr.heap.size ∧ Below w.heap.size w wr) (fun i _ => is.length - (intOf i).toNat)
    case atStart => exact ⟨0, Nat.zero_le _, rfl, by simpa [printL, Lib.byteCells] using hI0, by simp, hB2⟩
    case round =>
      clear hI0 hB2
      obtain ⟨k, hk, rfl, hI, hsr, hB⟩ := hrel
      by_cases hlt : k < is.length
      · obtain ⟨b, off, rfl, c1, c2, c3⟩ := (hc.below hB) k hlt
        have hik := HA.out k hlt
        have hps := printL_succ is k
        have hll := lineL_length hik
        have hpk := hpl k (by omega)
        obtain ⟨i, hi⟩ : ∃ i, i = ix is k := ⟨_, rfl⟩
        rw [← hi] at c1 c2 c3 hik hps hll
        have HPS : Hid (printL is (k + 1) = printL is k ++ (lineL i ++ [10])) := hps
        have hTr := hT.below hB
        have hPr := hP.below hB
        have HTP : Hid (Tab wr ∧ P10 wr) := ⟨hTr, hPr⟩
        have hbl : (Lib.byteCells (printL is k)).length = (printL is k).length := by simp [Lib.byteCells]
        have hsz : (⟨(lineL i).toArray⟩ : ByteArray).size ≤ 6100 := by
          show (lineL i).toArray.size ≤ 6100
          rw [List.size_toArray]; exact hll
        clear hi hps hTr hPr hc hT hP hs hpl hll
        go_wp2_with fail
        have hba : Below wr.heap.size wr (wr.alloc (.cells #[.int .i64 i.op, .string i.text, .int .i64 i.n] 47)) := (Below.refl _ _).alloc (Nat.le_refl _) _
        refine (printIns_any i _ hik (HTP.out.1.below hba) (HTP.out.2.below hba)).mono ?_
        rintro e w2 ⟨rfl, hb2⟩
        have hb2' : Below wr.heap.size wr w2 := hba.trans (hb2.mono hba.size)
        have hI2 := builder_below hI hb2'
        have hBw2 : Below w.heap.size w w2 := hB.trans (hb2'.mono hB.size)
        have hs2 : w1.heap.size ≤ w2.heap.size := by have := hb2'.size; omega
        clear hba hb2 hb2' hI hB
        go_wp2_with fail
        refine (writeString_any w1.heap.size w1.heap.size _ _ _ hI2 (by omega) hs2).mono ?_
        rintro e w3 ⟨rfl, hI3, hb3⟩
        rw [str_cells] at hI3
        have hB3 : Below w.heap.size w w3 := hBw2.trans (hb3.mono (by omega))
        have hs3 : w1.heap.size ≤ w3.heap.size := by have := hb3.size; omega
        clear hI2 hb3 hBw2
        go_wp2_with fail
        refine (writeByte_any w1.heap.size w1.heap.size _ _ _ hI3 (by simp [Lib.byteCells] at hbl ⊢; have : (lineL i).length ≤ 6100 := hsz; omega) hs3).mono ?_
        rintro e w4 ⟨rfl, hI4, hb4⟩
        have hB4 : Below w.heap.size w w4 := hB3.trans (hb4.mono (by omega))
        have hs4 : w1.heap.size ≤ w4.heap.size := by have := hb4.size; omega
        clear hI3 hb4 hB3
        go_wp2
        go_roundw
        case rel =>
          refine ⟨k + 1, by omega, by go_num, ?_, hs4, hB4⟩
          rw [HPS.out]
          simpa [Lib.byteCells] using hI4
        case measure => simp [intOf]; omega
      · have ek : k = is.length := by omega
        subst ek
        go_wp2_with fail
        refine (Tryz.Builder_String_any w1.heap.size w1.heap.size _ _ hI hsr).mono ?_
        rintro e w2 ⟨rfl, hb2⟩
        go_wp2
        go_ret
        exact ⟨rfl, hB.trans (hb2.mono (by omega))⟩
  · rw [if_neg hok]
    have hf : progOk is = false := by simpa using hok
    clear hok
    go_enter Tryz.func6, Tryz.ntmps6
    go_wp2_with fail
    refine (implValid_any a cap is _ (hT.below hb0) (hc.below hb0) hl hs).mono ?_
    rintro e w1 ⟨hb1, rfl⟩
    go_wp2
    go_ret
    exact ⟨rfl, hb0.trans (hb1.mono hb0.size)⟩

end Go.Proofs.YtmcafdobfmheaaaGreatDoor
