/-
  The walks of impl.plainByte and impl.quote.
-/
import Derived.Test.YtmcafdobfmheaaaGreatDoorBuilder
import Derived.Test.YtmcafdobfmheaaaGreatDoorShelf
import Derived.Laws.BitsAllLaws
namespace Go.Proofs.YtmcafdobfmheaaaGreatDoor
open Go.RowKit
set_option linter.unusedVariables false

set_option maxHeartbeats 400000 in
theorem plainByte_any (u : UInt8) (w : World) : Calls Tryz.prog 59 #[.int .u8 u.toNat] w fun e w' => e = .returned (.bool (plainB u)) ∧ w = w' := by
  generalize hm : u.toNat = m
  have hp : plainB u = (decide (32 ≤ m) && decide (m ≤ 126) && decide (m ≠ 34) && decide (m ≠ 92)) := by rw [plainB, hm]
  rw [hp]
  clear hp hm
  by_cases h1 : 32 ≤ m
  · have d1 : decide ((32 : Int) ≤ (m : Int)) = true := by simp; omega
    by_cases h2 : m ≤ 126
    · have d2 : decide ((m : Int) ≤ 126) = true := by simp; omega
      by_cases h3 : m = 34
      · have d3 : ((m : Int) != 34) = false := by simp; omega
        rw [show (decide (32 ≤ m) && decide (m ≤ 126) && decide (m ≠ 34) && decide (m ≠ 92)) = false from by simp [h3]]
        clear h1 h2 h3
        go_enter Tryz.func59, Tryz.ntmps59
        go_wp2
        go_ret
        exact ⟨rfl, rfl⟩
      · have d3 : ((m : Int) != 34) = true := by rw [bne_iff_ne]; omega
        by_cases h4 : m = 92
        · have d4 : ((m : Int) != 92) = false := by simp; omega
          rw [show (decide (32 ≤ m) && decide (m ≤ 126) && decide (m ≠ 34) && decide (m ≠ 92)) = false from by simp [h4]]
          clear h1 h2 h3 h4
          go_enter Tryz.func59, Tryz.ntmps59
          go_wp2
          go_ret
          exact ⟨rfl, rfl⟩
        · have d4 : ((m : Int) != 92) = true := by rw [bne_iff_ne]; omega
          rw [show (decide (32 ≤ m) && decide (m ≤ 126) && decide (m ≠ 34) && decide (m ≠ 92)) = true from by simp [h1, h2, h3, h4]]
          clear h1 h2 h3 h4
          go_enter Tryz.func59, Tryz.ntmps59
          go_wp2
          go_ret
          exact ⟨rfl, rfl⟩
    · have d2 : decide ((m : Int) ≤ 126) = false := by simp; omega
      rw [show (decide (32 ≤ m) && decide (m ≤ 126) && decide (m ≠ 34) && decide (m ≠ 92)) = false from by simp [h2]]
      clear h1 h2
      go_enter Tryz.func59, Tryz.ntmps59
      go_wp2
      go_ret
      exact ⟨rfl, rfl⟩
  · have d1 : decide ((32 : Int) ≤ (m : Int)) = false := by simp; omega
    rw [show (decide (32 ≤ m) && decide (m ≤ 126) && decide (m ≠ 34) && decide (m ≠ 92)) = false from by simp [h1]]
    clear h1
    go_enter Tryz.func59, Tryz.ntmps59
    go_wp2
    go_ret
    exact ⟨rfl, rfl⟩

theorem take_snoc (s : ByteArray) (k : Nat) (h : k < s.size) : s.data.toList.take (k + 1) = s.data.toList.take k ++ [s[k]] := by
  rw [List.take_succ_eq_append_getElem (by simpa using h)]; rfl

/-- What the first k bytes are written as, the opening quote ahead. -/
def qTo (s : ByteArray) (k : Nat) : List UInt8 := [34] ++ (s.data.toList.take k).flatMap qbyte
theorem qTo_succ (s : ByteArray) (k : Nat) (h : k < s.size) : qTo s (k + 1) = qTo s k ++ qbyte s[k] := by
  unfold qTo; rw [take_snoc s k h, List.flatMap_append]; simp
theorem qTo_length (s : ByteArray) (k : Nat) (h : k ≤ s.size) : (qTo s k).length ≤ 3 * k + 1 := by
  have := flat_length (s.data.toList.take k)
  have hl : (s.data.toList.take k).length ≤ k := List.length_take_le _ _
  unfold qTo; rw [List.length_append, List.length_singleton]; omega
theorem qTo_end (s : ByteArray) : qTo s s.size ++ [34] = quoteL s.data.toList := by
  unfold qTo quoteL
  rw [show s.data.toList.take s.size = s.data.toList from List.take_of_length_le (Nat.le_of_eq Array.length_toList)]

theorem and15 (u : UInt8) : bits BinOp.and IntKind.u8 (u.toNat : Int) 15 = ((u.toNat % 16 : Nat) : Int) := by
  have hu : u.toNat < 256 := UInt8.toNat_lt u
  have h := u8_and_nat u.toNat 15 hu (by omega)
  have e : u.toNat &&& 15 = u.toNat % 16 := Nat.and_two_pow_sub_one_eq_mod u.toNat 4
  rw [e] at h
  exact h

theorem byte_snoc (l : List UInt8) (u : UInt8) : Lib.byteCells l ++ [.int .u8 u.toNat] = Lib.byteCells (l ++ [u]) := by simp [Lib.byteCells]

set_option maxHeartbeats 1000000 in
theorem writeHex_any (B b : Nat) (bs : List UInt8) (u : UInt8) (w : World) (hI : Lib.IsBuilder 45 5 B b (Lib.byteCells bs) w) (hl : bs.length ≤ 9000000) (hB : B ≤ w.heap.size) :
    Calls Tryz.prog 60 #[.pointer (some ⟨b, 0, none⟩), .int .u8 u.toNat] w fun e w' => (∃ v, e = .returned v) ∧ Lib.IsBuilder 45 5 B b (Lib.byteCells (bs ++ [hexd (u.toNat / 16), hexd (u.toNat % 16)])) w' ∧ Below B w w' := by
  have hbl : (Lib.byteCells bs).length = bs.length := by simp [Lib.byteCells]
  have hu : u.toNat < 256 := UInt8.toNat_lt _
  obtain ⟨j1, e1, h1, r1⟩ : ∃ j : Nat, (u.toNat : Int) / 16 = (j : Int) ∧ j < 16 ∧ u.toNat / 16 = j := ⟨u.toNat / 16, by omega, by omega, rfl⟩
  obtain ⟨j2, e2, h2, r2⟩ : ∃ j : Nat, bits BinOp.and IntKind.u8 (u.toNat : Int) 15 = (j : Int) ∧ j < 16 ∧ u.toNat % 16 = j := ⟨u.toNat % 16, and15 _, by omega, rfl⟩
  have x1 := hexIdx j1 h1
  have x2 := hexIdx j2 h2
  have R12 : Hid (u.toNat / 16 = j1 ∧ u.toNat % 16 = j2) := ⟨r1, r2⟩
  clear r1 r2
  go_enter Tryz.func60, Tryz.ntmps60
  go_wp2_with fail
  refine (writeByte_any B b _ _ _ hI (by omega) hB).mono ?_
  rintro e w2 ⟨rfl, hI2, hb2⟩
  have hs2 : B ≤ w2.heap.size := Nat.le_trans hB hb2.size
  go_wp2_with fail
  refine (writeByte_any B b _ _ _ hI2 (by simp; omega) hs2).mono ?_
  rintro e w3 ⟨rfl, hI3, hb3⟩
  have hB3 := hb2.trans hb3
  have HI : Hid (Lib.IsBuilder 45 5 B b (Lib.byteCells (bs ++ [hexd (u.toNat / 16), hexd (u.toNat % 16)])) w3) := by
    show Lib.IsBuilder _ _ _ _ _ _
    rw [R12.out.1, R12.out.2]
    simpa [Lib.byteCells] using hI3
  clear hI hI2 hI3 hb2 hb3
  go_wp2
  exact bodyPost_end (v := .tuple #[]) (by simp [results, Tryz.results60, go_sem]) rfl ⟨⟨_, rfl⟩, HI.out, hB3⟩

set_option maxHeartbeats 1000000 in
theorem quote_any (s : ByteArray) (w : World) (hs : s.size ≤ 2000) :
    Calls Tryz.prog 41 #[.string s] w fun e w' => e = .returned (.string ⟨(quoteL s.data.toList).toArray⟩) ∧ Below w.heap.size w w' := by
  have hI0 := Lib.fresh_isBuilder 45 5 w
  have hb0 : Below w.heap.size w (w.alloc (.cells #[.pointer none, .slice none 0 0] 45)) := (Below.refl _ _).alloc (Nat.le_refl _) _
  go_enter Tryz.func41, Tryz.ntmps41
  go_wp2_with fail
  refine (writeByte_any w.heap.size w.heap.size [] 34 _ hI0 (by simp) (by simp)).mono ?_
  rintro e w1 ⟨rfl, hI1, hb1⟩
  have hB1 : Below w.heap.size w w1 := hb0.trans hb1
  clear hI0 hb0 hb1
  go_wp2
  go_loopw [9] (fun i wr => ∃ k : Nat, k ≤ s.size ∧ i = .int .i64 k ∧ Lib.IsBuilder 45 5 w.heap.size w.heap.size (Lib.byteCells (qTo s k)) wr ∧ Below w.heap.size w wr) (fun i _ => s.size - (intOf i).toNat)
  case atStart => exact ⟨0, Nat.zero_le _, rfl, by simpa [qTo, Lib.byteCells] using hI1, hB1⟩
  case round =>
    clear hI1 hB1
    obtain ⟨k, hk, rfl, hI, hB⟩ := hrel
    have hsz := hB.size
    have hql := qTo_length s k hk
    have hbl : (Lib.byteCells (qTo s k)).length = (qTo s k).length := by simp [Lib.byteCells]
    by_cases hlt : k < s.size
    · have hqs := qTo_succ s k hlt
      have HQ : Hid (qTo s (k + 1) = qTo s k ++ qbyte s[k]) := hqs
      clear hqs
      go_wp2_with fail
      refine (plainByte_any s[k] _).mono ?_
      rintro e w' ⟨rfl, rfl⟩
      by_cases hp : plainB s[k] = true
      · have HP : Hid (qbyte s[k] = [s[k]]) := by show qbyte s[k] = [s[k]]; simp [qbyte, hp]
        go_wp2_with fail
        refine (writeByte_any w.heap.size w.heap.size _ _ _ hI (by omega) hsz).mono ?_
        rintro e w2 ⟨rfl, hI2, hb2⟩
        rw [byte_snoc] at hI2
        go_wp2
        go_roundw
        case rel => exact ⟨k + 1, by omega, by go_num, by rw [HQ.out, HP.out]; exact hI2, hB.trans hb2⟩
        case measure => simp [intOf]; omega
      · have hp' : plainB s[k] = false := by simpa using hp
        clear hp
        have HP : Hid (qbyte s[k] = [92, hexd (s[k].toNat / 16), hexd (s[k].toNat % 16)]) := by show qbyte s[k] = _; simp [qbyte, hp']
        go_wp2_with fail
        refine (writeByte_any w.heap.size w.heap.size _ _ _ hI (by omega) hsz).mono ?_
        rintro e w2 ⟨rfl, hI2, hb2⟩
        have hB2 := hB.trans hb2
        have hs2 := hB2.size
        have HI2 : Hid (Lib.IsBuilder 45 5 w.heap.size w.heap.size (Lib.byteCells (qTo s k ++ [92])) w2) := by
          show Lib.IsBuilder _ _ _ _ _ _
          simpa [Lib.byteCells] using hI2
        clear hI2
        go_wp2_with fail
        refine (writeHex_any w.heap.size w.heap.size _ s[k] _ HI2.out (by simp; omega) hs2).mono ?_
        rintro e w4 ⟨⟨v4, rfl⟩, hI4, hb4⟩
        have hB4 := hB2.trans hb4
        clear hI HI2 hb2 hb4 hB hB2
        go_wp2
        go_roundw
        case rel =>
          refine ⟨k + 1, by omega, by go_num, ?_, hB4⟩
          rw [HQ.out, HP.out]
          simpa [Lib.byteCells] using hI4
        case measure => simp [intOf]; omega
    · have ek : k = s.size := by omega
      have HE : Hid (qTo s k ++ [34] = quoteL s.data.toList) := by show qTo s k ++ [34] = _; rw [ek]; exact qTo_end s
      clear ek
      go_wp2_with fail
      refine (writeByte_any w.heap.size w.heap.size _ _ _ hI (by omega) hsz).mono ?_
      rintro e w2 ⟨rfl, hI2, hb2⟩
      have hB2 := hB.trans hb2
      have hI3 : Lib.IsBuilder 45 5 w.heap.size w.heap.size (Lib.byteCells (quoteL s.data.toList)) w2 := by
        rw [← HE.out]; simpa [Lib.byteCells] using hI2
      clear hI hI2 hb2
      go_wp2_with fail
      refine (Tryz.Builder_String_any w.heap.size w.heap.size _ _ hI3 hB2.size).mono ?_
      rintro e w3 ⟨rfl, hb3⟩
      go_wp2
      go_ret
      exact ⟨rfl, hB2.trans hb3⟩

end Go.Proofs.YtmcafdobfmheaaaGreatDoor
