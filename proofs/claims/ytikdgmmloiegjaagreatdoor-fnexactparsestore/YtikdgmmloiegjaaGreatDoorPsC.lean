import Derived.Test.YtikdgmmloiegjaaGreatDoorPsB
namespace Go.Proofs.YtikdgmmloiegjaaGreatDoor
open Go.RowKit
set_option linter.unusedVariables false

theorem two_at (s : ByteArray) (h : 2 ≤ s.size) : s.data.toList = s[0]'(by omega) :: s[1]'(by omega) :: (s.extract 2 s.size).data.toList := by
  rw [ext_list, show s.data.toList.take s.size = s.data.toList from List.take_of_length_le (by rw [toList_len]; omega)]
  have h0 : 0 < s.data.toList.length := by rw [toList_len]; omega
  have h1 : 1 < s.data.toList.length := by rw [toList_len]; omega
  have e0 := List.drop_eq_getElem_cons h0
  have e1 := List.drop_eq_getElem_cons h1
  rw [List.drop_zero] at e0
  rw [e1] at e0
  exact e0
theorem unhexS_two (a b : UInt8) (r : List UInt8) : unhexS (a :: b :: r) = if hexI a < 0 ∨ hexI b < 0 then none else (unhexS r).map (UInt8.ofNat ((hexI a).toNat * 16 + (hexI b).toNat) :: ·) := by rw [unhexS]
set_option maxRecDepth 100000 in
set_option maxHeartbeats 1000000 in
theorem readSum_any (t : ByteArray) (w : World) (ht : t.size ≤ 1500000) :
    Calls Tryz.prog 68 #[.string t] w fun e w' => Below w.heap.size w w' ∧ ((∃ x : List UInt8, unhexS t.data.toList = some x ∧ e = .returned (.tuple #[.string ⟨x.toArray⟩, .bool true])) ∨ (unhexS t.data.toList = none ∧ e = .returned (.tuple #[.string ⟨#[]⟩, .bool false]))) := by
  have hI0 := Lib.fresh_isBuilder 105 5 w
  have hb0 : Below w.heap.size w (w.alloc (.cells #[.pointer none, .slice none 0 0] 105)) := (Below.refl _ _).alloc (Nat.le_refl _) _
  go_enter Tryz.func68, Tryz.ntmps68
  go_wp2_with fail
  go_loopw [0] (fun v wr => ∃ (s : ByteArray) (d : List UInt8), v = .string s ∧ Hid (unhexS t.data.toList = (unhexS s.data.toList).map (d ++ ·)) ∧ Hid (2 * d.length + s.size ≤ 1500000) ∧ Hid (Lib.IsBuilder 105 5 w.heap.size w.heap.size (Lib.byteCells d) wr) ∧ Below w.heap.size w wr) (fun v _ => strLen v)
  case atStart => exact ⟨t, [], rfl, (by show _ = _; simp), (by show _ ≤ _; simpa using ht), (show Lib.IsBuilder _ _ _ _ _ _ from by simpa [Lib.byteCells] using hI0), hb0⟩
  case round =>
    clear hI0 hb0
    obtain ⟨s, d, rfl, HS, HL, HI, hB⟩ := hrel
    have hsz := hB.size
    have hlen := HL.out
    by_cases h0 : s.size = 0
    · have e0 : s.toList.isEmpty = true := by rw [empty_iff]; simp [h0]
      have HD : Hid (unhexS t.data.toList = some d) := by
        show _ = _
        have e2 : s.data.toList = [] := List.eq_nil_of_length_eq_zero (by rw [toList_len]; exact h0)
        rw [HS.out, e2]; simp [unhexS]
      go_wp2_with fail
      refine (Tryz.Builder_String_any w.heap.size w.heap.size _ _ HI.out hsz).mono ?_
      rintro e w3 ⟨rfl, hb3⟩
      go_wp2
      go_ret2
      exact ⟨hB.trans hb3, Or.inl ⟨d, HD.out, rfl⟩⟩
    · have e0 : s.toList.isEmpty = false := by rw [empty_iff]; simp [h0]
      by_cases h1 : s.size < 2
      · have d1 : decide ((s.size : Int) < 2) = true := by simp; omega
        have HD : Hid (unhexS t.data.toList = none) := by
          show _ = _
          have hl := toList_len s
          rw [HS.out]
          match hq : s.data.toList with
          | [] => rw [hq] at hl; simp at hl; omega
          | [a] => simp [unhexS]
          | a :: b :: r => rw [hq] at hl; simp at hl; omega
        go_wp2_with fail
        go_ret2
        exact ⟨hB, Or.inr ⟨HD.out, rfl⟩⟩
      · have d1 : decide ((s.size : Int) < 2) = false := by simp; omega
        have hl0 : 0 < s.size := by omega
        have hl1 : 1 < s.size := by omega
        have hE := two_at s (by omega)
        by_cases hx : hexI s[0] < 0 ∨ hexI s[1] < 0
        · have HR : Hid (∀ w, Calls Tryz.prog 88 #[.int .u8 s[0].toNat, .int .u8 s[1].toNat] w fun e w' => e = .returned (.tuple #[.int .u8 0, .bool false]) ∧ w = w') := fun w => readHex_no _ _ w hx
          have HD : Hid (unhexS t.data.toList = none) := by
            show _ = _
            rw [HS.out, hE, unhexS_two, if_pos hx]; rfl
          clear hE hx
          go_wp2_with fail
          go_region_held3 (fun _ => True) (first | trivial | assumption) (first | (go_at_call 88; refine (HR.out _).mono ?_; rintro e w2 ⟨rfl, rfl⟩))
          all_goals
            go_wp2
            go_ret2
            exact ⟨hB.drew, Or.inr ⟨HD.out, rfl⟩⟩
        · obtain ⟨x, hx1, hax, hq0⟩ := (hexI_cases s[0]).resolve_left (by omega)
          obtain ⟨y, hy1, hby, hq1⟩ := (hexI_cases s[1]).resolve_left (by omega)
          have HR : Hid (∀ w, Calls Tryz.prog 88 #[.int .u8 s[0].toNat, .int .u8 s[1].toNat] w fun e w' => e = .returned (.tuple #[.int .u8 ((UInt8.ofNat (x * 16 + y)).toNat : Int), .bool true]) ∧ w = w') := fun w => by
            have := readHex_yes s[0] s[1] x y w hax hby hx1 hy1
            have e : ((UInt8.ofNat (x * 16 + y)).toNat : Int) = ((x * 16 + y : Nat) : Int) := by rw [UInt8.toNat_ofNat']; omega
            rw [e]; exact this
          have HS2 : Hid (unhexS t.data.toList = (unhexS (s.extract 2 s.size).data.toList).map ((d ++ [UInt8.ofNat (x * 16 + y)]) ++ ·)) := by
            show _ = _
            rw [HS.out, hE, unhexS_two, if_neg hx, hax, hby]
            simp [Option.map_map, Function.comp_def]
          have HX : Hid ((s.extract 2 s.size).size = min s.size s.size - 2) := ext_size s 2 s.size
          generalize UInt8.ofNat (x * 16 + y) = u at *
          have HBL : Hid ((Lib.byteCells d).length = d.length) := by show _ = _; simp [Lib.byteCells]
          have HL2 : Hid (2 * (d ++ [u]).length + (s.extract 2 s.size).size ≤ 1500000) := by
            show _ ≤ _
            rw [HX.out, List.length_append]; simp; omega
          clear hE hx hax hby HS HL hx1 hy1 hq0 hq1
          go_wp2_with fail
          go_region_held3 (fun _ => True) (first | trivial | assumption) (first | (go_at_call 88; refine (HR.out _).mono ?_; rintro e w2 ⟨rfl, rfl⟩))
          all_goals
            have hbl := HBL.out
            have hex := HX.out
            go_wp2_with fail
            refine (writeByte_any w.heap.size w.heap.size _ _ _ (builder_below HI.out (Below.refl _ _).drew) (by omega) hB.drew.size).mono ?_
            rintro e w3 ⟨rfl, hI3, hb3⟩
            have hB3 := hB.drew.trans hb3
            have HI3 : Hid (Lib.IsBuilder 105 5 w.heap.size w.heap.size (Lib.byteCells (d ++ [u])) w3) := by
              show Lib.IsBuilder _ _ _ _ _ _
              rw [byte_snoc] at hI3; exact hI3
            clear hI3 hb3 hB
            go_wp2
            go_roundw
            case rel => exact ⟨_, d ++ [u], rfl, HS2.out, HL2.out, HI3.out, hB3⟩
            case measure => simp [strLen]; omega

end Go.Proofs.YtikdgmmloiegjaaGreatDoor
