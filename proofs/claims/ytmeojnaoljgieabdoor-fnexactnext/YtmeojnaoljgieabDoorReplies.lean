/-
  Replies: rows of replies told of cells; the walks of laws.szReply, szReplyS, toReply, toReplyS, eqReply, eqReplyS.
-/
import Derived.Test.YtmeojnaoljgieabDoorCopy
namespace Go.Proofs.YtmeojnaoljgieabDoor
open Go.RowKit
set_option linter.unusedVariables false

structure R3 where
  has : Bool
  code : Int
  text : ByteArray
def rr0 : R3 := ⟨false, 0, ByteArray.empty⟩
def rx (is : List R3) (i : Nat) : R3 := is.getD i rr0

/-- The slice's address leads to the instructions, in w. -/
def RowR (w : World) (a : Option Addr) (is : List R3) : Prop :=
  ∀ i, i < is.length → ∃ b off, a = some ⟨b, off, none⟩ ∧ w.cell? ⟨b, off + i * 3, none⟩ = some (.bool (rx is i).has) ∧ w.cell? ⟨b, off + i * 3 + 1, none⟩ = some (.int .i64 (rx is i).code) ∧ w.cell? ⟨b, off + i * 3 + 2, none⟩ = some (.string (rx is i).text)

theorem RowR.below {w w' : World} {a : Option Addr} {is : List R3} (h : RowR w a is) (hb : Below w.heap.size w w') : RowR w' a is := by
  intro i hi
  obtain ⟨b, off, ha, h1, h2, h3⟩ := h i hi
  exact ⟨b, off, ha, cell_below hb h1, cell_below hb h2, cell_below hb h3⟩

def totalR (is : List R3) : Nat := (is.map fun i => i.text.size).sum
theorem totalR_take_succ (is : List R3) (k : Nat) (h : k < is.length) : totalR (is.take (k + 1)) = totalR (is.take k) + (rx is k).text.size := by
  have e : is.take (k + 1) = is.take k ++ [is[k]] := List.take_succ_eq_append_getElem h
  unfold totalR rx
  rw [e, List.map_append, List.sum_append, List.getD_eq_getElem?_getD, List.getElem?_eq_getElem h]
  simp

/-- The first k instructions lie in the row. -/
def FilledR (is : List R3) (k : Nat) (xs : List Value) : Prop :=
  ∀ i, i < k → xs[i * 3]? = some (.bool (rx is i).has) ∧ xs[i * 3 + 1]? = some (.int .i64 (rx is i).code) ∧ xs[i * 3 + 2]? = some (.string (rx is i).text)

theorem filledR_set {is : List R3} {k : Nat} {xs : List Value} (h : FilledR is k xs) (hx : k * 3 + 2 < xs.length) :
    FilledR is (k + 1) (((xs.set (k * 3) (.bool (rx is k).has)).set (k * 3 + 1) (.int .i64 (rx is k).code)).set (k * 3 + 2) (.string (rx is k).text)) := by
  intro i hi
  rcases Nat.lt_or_ge i k with hl | hl
  · obtain ⟨h1, h2, h3⟩ := h i hl
    simp only [List.getElem?_set]
    rw [if_neg (by omega), if_neg (by omega), if_neg (by omega), if_neg (by omega), if_neg (by omega), if_neg (by omega), if_neg (by omega), if_neg (by omega), if_neg (by omega)]
    exact ⟨h1, h2, h3⟩
  · obtain rfl : i = k := by omega
    simp [List.getElem?_set]
    omega

theorem rowR_own {w : World} {B g n cap : Nat} {is : List R3} {xs : List Value} (hn : n = is.length) (h : w.ownsRow B 94 3 (.slice (some ⟨g, 0, none⟩) n cap) n xs) (hf : FilledR is n xs) : RowR w (some ⟨g, 0, none⟩) is := by
  subst hn
  intro i hi
  obtain ⟨h1, h2, h3⟩ := hf i hi
  refine ⟨g, 0, rfl, ?_, ?_, ?_⟩
  · rw [Nat.zero_add, h.cellAt _ (by omega)]; exact h1
  · rw [Nat.zero_add, h.cellAt _ (by omega)]; exact h2
  · rw [Nat.zero_add, h.cellAt _ (by omega)]; exact h3

set_option maxHeartbeats 400000 in
theorem szReply_any (i : R3) (l : Int) (w : World) (h0 : 0 ≤ l) (h1 : l ≤ 1048576) (hs : i.text.size ≤ 9223372036854775807) :
    Calls Tryd.prog 47 #[.agg #[.bool i.has, .int .i64 i.code, .string i.text], .int .i64 l] w fun e w' => Below w.heap.size w w' ∧ ((l - i.text.size < 0 ∧ e = .returned (.int .i64 (-1))) ∨ (0 ≤ l - i.text.size ∧ e = .returned (.int .i64 (l - i.text.size)))) := by
  by_cases h : l - i.text.size < 0
  · go_enter Tryd.func47, Tryd.ntmps47
    go_wp2
    go_ret
    exact ⟨(Below.refl _ _).alloc (Nat.le_refl _) _, Or.inl ⟨h, rfl⟩⟩
  · go_enter Tryd.func47, Tryd.ntmps47
    go_wp2
    go_ret
    exact ⟨(Below.refl _ _).alloc (Nat.le_refl _) _, Or.inr ⟨by omega, rfl⟩⟩

set_option maxHeartbeats 400000 in
theorem szReplyS_any (a : Option Addr) (cap : Nat) (is : List R3) (lft : Int) (w : World) (hf0 : 0 ≤ lft) (hf1 : lft ≤ 1048576) (hc : RowR w a is) (hl : is.length ≤ maxLen) (hs : ∀ i, (rx is i).text.size ≤ maxLen) :
    Calls Tryd.prog 16 #[.slice a is.length cap, .int .i64 lft] w fun e w' => Below w.heap.size w w' ∧ ∃ r : Int, e = .returned (.int .i64 r) ∧ (r < 0 ∨ ((is.length : Int) + totalR is ≤ lft ∧ 0 ≤ r)) := by
  unfold maxLen at hl hs
  by_cases h0 : (is.length : Int) ≤ lft
  · go_enter Tryd.func16, Tryd.ntmps16
    go_wp2
    go_loopw [1, 5] (fun l i wr => ∃ k : Nat, k ≤ is.length ∧ i = .int .i64 k ∧ l = .int .i64 (lft - is.length - totalR (is.take k)) ∧ (is.length : Int) + totalR (is.take k) ≤ lft ∧ Below w.heap.size w wr) (fun _ i _ => is.length - (intOf i).toNat)
    case atStart => exact ⟨0, Nat.zero_le _, rfl, by simp [totalR], by simpa [totalR] using h0, Below.refl _ _⟩
    case round =>
      obtain ⟨k, hk, rfl, rfl, ht, hbr⟩ := hrel
      by_cases hlt : k < is.length
      · obtain ⟨b, off, rfl, c1, c2, c3⟩ := (hc.below hbr) k hlt
        have hts := totalR_take_succ is k hlt
        have hsk := hs k
        clear hs hc
        generalize rx is k = i at *
        have HT : Hid (totalR (is.take (k + 1)) = totalR (is.take k) + i.text.size) := hts
        clear hts
        go_wp2_with fail
        refine (szReply_any i _ _ (by omega) (by omega) hsk).mono ?_
        rintro e w1 ⟨hb1, ⟨hneg, rfl⟩ | ⟨hpos, rfl⟩⟩
        · go_wp2
          go_ret
          exact ⟨hbr.trans (hb1.mono hbr.size), -1, rfl, by omega⟩
        · go_wp2
          go_roundw
          case rel => exact ⟨k + 1, by omega, by go_num, by rw [HT.out]; go_num, by rw [HT.out]; omega, hbr.trans (hb1.mono hbr.size)⟩
          case measure => simp [intOf]; omega
      · go_wp2
        go_ret
        rw [List.take_of_length_le (show is.length ≤ k by omega)] at ht ⊢
        exact ⟨hbr, _, rfl, by omega⟩
  · go_enter Tryd.func16, Tryd.ntmps16
    go_wp2
    go_ret
    exact ⟨Below.refl _ _, -1, rfl, by omega⟩

set_option maxHeartbeats 400000 in
theorem toReply_any (i : R3) (w : World) :
    Calls Tryd.prog 49 #[.agg #[.bool i.has, .int .i64 i.code, .string i.text]] w fun e w' => Below w.heap.size w w' ∧ e = .returned (.agg #[.bool i.has, .int .i64 i.code, .string i.text]) := by
  go_enter Tryd.func49, Tryd.ntmps49
  go_wp2
  exact bodyPost_ret (v := .agg #[.bool i.has, .int .i64 i.code, .string i.text]) (by simp [results, Tryd.results49, go_sem]) rfl ⟨(((Below.refl _ _).alloc (Nat.le_refl _) _).alloc (by simp) _).alloc (by simp; omega) _, rfl⟩

theorem Tryd.info94 : (Tryd.prog.info? 94).map (fun i => (i.zero, i.size, i.bytes)) = some (some (.agg #[.bool false, .int .i64 0, .string ByteArray.empty]), 3, 32) := by kernel_rfl

theorem cell_of_lengthR {w : World} {B g n cap j : Nat} {xs : List Value} (h : w.ownsRow B 94 3 (.slice (some ⟨g, 0, none⟩) n cap) n xs) (hj : j < n * 3) : ∃ v, w.cell? ⟨g, j, none⟩ = some v := by
  have hl := h.1
  exact ⟨xs[j]'(by omega), by rw [h.cellAt j hj]; exact List.getElem?_eq_getElem _⟩

set_option maxHeartbeats 400000 in
theorem toReplyS_any (a : Option Addr) (cap : Nat) (is : List R3) (w : World) (hc : RowR w a is) (hl : is.length ≤ 1048576) :
    Calls Tryd.prog 18 #[.slice a is.length cap] w fun e w' => Below w.heap.size w w' ∧ ∃ g : Nat, e = .returned (.slice (some ⟨g, 0, none⟩) is.length is.length) ∧ w.heap.size ≤ g ∧ RowR w' (some ⟨g, 0, none⟩) is := by
  obtain ⟨z0, hi, hz0, hz1, hz2⟩ := info_parts Tryd.info94
  go_enter Tryd.func18, Tryd.ntmps18
  go_wp2_with (first | (at_make; refine wpList_make_full _ rfl (.tmp 6) (.tmp 6) 51 rfl w.heap.size 94 z0 (.agg #[.bool false, .int .i64 0, .string ByteArray.empty]) 3 Tryd.underlying51 hi hz0 hz1 .i64 .i64 _ _ is.length rfl rfl rfl rfl (by rw [hz2]; omega) (by unfold maxLen; omega) (Nat.le_refl _) ?_; intro w1 hown hgrow))
  have hbel1 : Below w.heap.size w w1 := (Below.refl _ _).grown hgrow (Nat.le_refl _) (by simp)
  clear hgrow
  go_loopw [4] (fun i wr => ∃ k : Nat, ∃ xs : List Value, k ≤ is.length ∧ i = .int .i64 k ∧ wr.ownsRow w.heap.size 94 3 (.slice (some ⟨w.heap.size, 0, none⟩) is.length is.length) is.length xs ∧ FilledR is k xs ∧ Below w.heap.size w wr) (fun i _ => is.length - (intOf i).toNat)
  case atStart => exact ⟨0, _, Nat.zero_le _, rfl, hown, fun i hi => by omega, hbel1⟩
  case round =>
    obtain ⟨k, xs, hk, rfl, hown, hfi, hbel⟩ := hrel
    by_cases hlt : k < is.length
    · obtain ⟨b, off, rfl, c1, c2, c3⟩ := (hc.below hbel) k hlt
      have hf2 := filledR_set hfi (show k * 3 + 2 < xs.length by rw [hown.1]; omega)
      generalize rx is k = i at *
      clear hbel1 hc hfi
      go_wp2_with fail
      refine (toReply_any i _).mono ?_
      rintro e w2 ⟨hb2, rfl⟩
      have hown2 := ownsRow_below hown hb2
      have hbw : Below w.heap.size w w2 := hbel.trans (hb2.mono hbel.size)
      have hfr := hown2.frozenAt
      obtain ⟨o1, d1⟩ := cell_of_lengthR hown2 (j := k * 3) (by omega)
      obtain ⟨o2, d2⟩ := cell_of_lengthR hown2 (j := k * 3 + 1) (by omega)
      obtain ⟨o3, d3⟩ := cell_of_lengthR hown2 (j := k * 3 + 2) (by omega)
      have HO : Hid (w2.ownsRow w.heap.size 94 3 (.slice (some ⟨w.heap.size, 0, none⟩) is.length is.length) is.length xs) := hown2
      clear hown hown2 hb2 hbel
      go_wp2
      go_roundw
      case rel => exact ⟨k + 1, _, by omega, by go_num, (((HO.out.stored _ _).1.stored _ _).1.stored _ _).1, hf2, ((hbw.setCell (Nat.le_refl _) _).setCell (Nat.le_refl _) _).setCell (Nat.le_refl _) _⟩
      case measure => simp [intOf]; omega
    · have ek : k = is.length := by omega
      subst ek
      go_wp2
      go_ret
      exact ⟨hbel, _, rfl, Nat.le_refl _, rowR_own rfl hown hfi⟩

set_option maxHeartbeats 400000 in
theorem eqReply_same (i : R3) (w : World) :
    Calls Tryd.prog 53 #[.agg #[.bool i.has, .int .i64 i.code, .string i.text], .agg #[.bool i.has, .int .i64 i.code, .string i.text]] w fun e w' => Below w.heap.size w w' ∧ e = .returned (.bool true) := by
  have e1 := str_eq (rfl : i.text = i.text)
  go_enter Tryd.func53, Tryd.ntmps53
  go_wp2
  go_ret
  exact ⟨((Below.refl _ _).alloc (Nat.le_refl _) _).alloc (by simp) _, rfl⟩

set_option maxHeartbeats 400000 in
theorem eqReplyS_same (a a' : Option Addr) (cap cap' : Nat) (is : List R3) (w : World) (hc : RowR w a is) (hc' : RowR w a' is) (hl : is.length ≤ 1048576) :
    Calls Tryd.prog 21 #[.slice a is.length cap, .slice a' is.length cap'] w fun e w' => Below w.heap.size w w' ∧ e = .returned (.bool true) := by
  go_enter Tryd.func21, Tryd.ntmps21
  go_wp2
  go_loopw [5] (fun i wr => ∃ k : Nat, k ≤ is.length ∧ i = .int .i64 k ∧ Below w.heap.size w wr) (fun i _ => is.length - (intOf i).toNat)
  case atStart => exact ⟨0, Nat.zero_le _, rfl, Below.refl _ _⟩
  case round =>
    obtain ⟨k, hk, rfl, hbel⟩ := hrel
    by_cases hlt : k < is.length
    · obtain ⟨b, off, rfl, c1, c2, c3⟩ := (hc.below hbel) k hlt
      obtain ⟨b', off', rfl, d1, d2, d3⟩ := (hc'.below hbel) k hlt
      generalize rx is k = i at *
      clear hc hc'
      have hkI : (k : Int) < (is.length : Int) := by omega
      have hk0 : (0 : Int) ≤ (k : Int) := by omega
      go_wp2_with fail
      go_region_held3 (fun w' => (w'.cell? ⟨b, off + k * 3, none⟩ = some (.bool i.has) ∧ w'.cell? ⟨b, off + k * 3 + 1, none⟩ = some (.int .i64 i.code) ∧ w'.cell? ⟨b, off + k * 3 + 2, none⟩ = some (.string i.text)) ∧ (w'.cell? ⟨b', off' + k * 3, none⟩ = some (.bool i.has) ∧ w'.cell? ⟨b', off' + k * 3 + 1, none⟩ = some (.int .i64 i.code) ∧ w'.cell? ⟨b', off' + k * 3 + 2, none⟩ = some (.string i.text)))
        (first | assumption | (simp [*]; done) | exact ⟨⟨cell_below hb1 (by simp [*]), cell_below hb1 (by simp [*]), cell_below hb1 (by simp [*])⟩, cell_below hb1 (by simp [*]), cell_below hb1 (by simp [*]), cell_below hb1 (by simp [*])⟩)
        (first | (go_at_call 53; refine (eqReply_same i _).mono ?_; rintro e w1 ⟨hb1, rfl⟩))
      all_goals
        go_wp2
        go_roundw
        case rel => exact ⟨k + 1, by omega, by go_num, hbel.trans (Below.trans (Below.drew (Below.refl _ _)) (hb1.mono (by simpa using hbel.size)))⟩
        case measure => simp [intOf]; omega
    · go_wp2
      go_ret
      exact ⟨hbel, rfl⟩

end Go.Proofs.YtmeojnaoljgieabDoor
