import Derived.Test.YtikdgmmloiegjaaGreatDoorPaC
import Derived.Test.YtikdgmmloiegjaaGreatDoorSLine
namespace Go.Proofs.YtikdgmmloiegjaaGreatDoor
open Go.RowKit
set_option linter.unusedVariables false

theorem hexI_nat : ∀ n, n < 256 → (48 ≤ n ∧ n ≤ 57 ∧ hexI (UInt8.ofNat n) = (n : Int) - 48) ∨ (97 ≤ n ∧ n ≤ 102 ∧ hexI (UInt8.ofNat n) = (n : Int) - 97 + 10) ∨ ((n < 48 ∨ (57 < n ∧ n < 97) ∨ 102 < n) ∧ hexI (UInt8.ofNat n) = -1) := by decide +kernel
set_option maxHeartbeats 1000000 in
theorem l2HexOf_any (u : UInt8) (w : World) : Calls Tryz.prog 39 #[.int .u8 u.toNat] w fun e w' => e = .returned (.int .i64 (hexI u)) ∧ w = w' := by
  have hu := UInt8.toNat_lt u
  have hh := hexI_nat u.toNat hu
  rw [UInt8.ofNat_toNat] at hh
  generalize hexI u = x at *
  generalize u.toNat = m at *
  rcases hh with ⟨h1, h2, h3⟩ | ⟨h1, h2, h3⟩ | ⟨h1, h3⟩
  · have H3 : Hid (x = (m : Int) - 48) := h3
    have d1 : decide ((48 : Int) ≤ (m : Int)) = true := by simp; omega
    have d2 : decide ((m : Int) ≤ 57) = true := by simp; omega
    clear h3
    go_enter Tryz.func39, Tryz.ntmps39
    go_wp2
    go_ret
    exact ⟨by rw [H3.out]; rfl, rfl⟩
  · have H3 : Hid (x = (m : Int) - 97 + 10) := h3
    have d1 : decide ((48 : Int) ≤ (m : Int)) = true := by simp; omega
    have d2 : decide ((m : Int) ≤ 57) = false := by simp; omega
    have d3 : decide ((97 : Int) ≤ (m : Int)) = true := by simp; omega
    have d4 : decide ((m : Int) ≤ 102) = true := by simp; omega
    clear h3
    go_enter Tryz.func39, Tryz.ntmps39
    go_wp2
    go_ret
    exact ⟨by rw [H3.out]; rfl, rfl⟩
  · have H3 : Hid (x = -1) := h3
    clear h3
    rcases h1 with h1 | h1 | h1
    · have d1 : decide ((48 : Int) ≤ (m : Int)) = false := by simp; omega
      have d3 : decide ((97 : Int) ≤ (m : Int)) = false := by simp; omega
      go_enter Tryz.func39, Tryz.ntmps39
      go_wp2
      go_ret
      exact ⟨by rw [H3.out]; rfl, rfl⟩
    · have d1 : decide ((48 : Int) ≤ (m : Int)) = true := by simp; omega
      have d2 : decide ((m : Int) ≤ 57) = false := by simp; omega
      have d3 : decide ((97 : Int) ≤ (m : Int)) = false := by simp; omega
      go_enter Tryz.func39, Tryz.ntmps39
      go_wp2
      go_ret
      exact ⟨by rw [H3.out]; rfl, rfl⟩
    · have d1 : decide ((48 : Int) ≤ (m : Int)) = true := by simp; omega
      have d2 : decide ((m : Int) ≤ 57) = false := by simp; omega
      have d3 : decide ((97 : Int) ≤ (m : Int)) = true := by simp; omega
      have d4 : decide ((m : Int) ≤ 102) = false := by simp; omega
      go_enter Tryz.func39, Tryz.ntmps39
      go_wp2
      go_ret
      exact ⟨by rw [H3.out]; rfl, rfl⟩

theorem num_step (l : List UInt8) (k : Nat) (h : k < l.length) : (l.take (k + 1)).foldl numF 0 = numF ((l.take k).foldl numF 0) l[k] := by
  rw [List.take_succ_eq_append_getElem h, List.foldl_append]; rfl
theorem pow_le6 {k : Nat} (h : k ≤ 6) : (1 : Int) ≤ (10 ^ k : Nat) ∧ ((10 ^ k : Nat) : Int) ≤ 1000000 := by
  rcases (show k = 0 ∨ k = 1 ∨ k = 2 ∨ k = 3 ∨ k = 4 ∨ k = 5 ∨ k = 6 by omega) with rfl | rfl | rfl | rfl | rfl | rfl | rfl <;> decide

set_option maxHeartbeats 1000000 in
theorem l2Number_any (s : ByteArray) (w : World) (hs : s.size ≤ 1048576) : Calls Tryz.prog 22 #[.string s] w fun e w' => e = .returned (.int .i64 (numL s.data.toList)) ∧ Below w.heap.size w w' := by
  go_enter Tryz.func22, Tryz.ntmps22
  go_wp2
  go_loopw [3, 4] (fun n i wr => ∃ (k : Nat) (x : Int), k ≤ s.size ∧ k ≤ 6 ∧ i = .int .i64 k ∧ n = .int .i64 x ∧ Hid (x = (s.data.toList.take k).foldl numF 0) ∧ Hid (-(25 * ((10 ^ k : Nat) : Int) - 25) ≤ x ∧ x ≤ 25 * ((10 ^ k : Nat) : Int) - 25) ∧ wr = w) (fun _ i _ => s.size - (intOf i).toNat)
  case atStart => exact ⟨0, 0, Nat.zero_le _, by omega, rfl, rfl, rfl, ⟨by simp, by simp⟩, rfl⟩
  case round =>
    obtain ⟨k, x, hk, hk6, rfl, rfl, HX, HB, rfl⟩ := hrel
    obtain ⟨p1, p2⟩ := pow_le6 hk6
    have hx1 : -25000000 ≤ x := by have := HB.out; omega
    have hx2 : x ≤ 25000000 := by have := HB.out; omega
    clear p1 p2
    by_cases hlt : k < s.size
    · by_cases h6 : k < 6
      · have d1 : decide ((k : Int) < (s.size : Int)) = true := by simp; omega
        have d2 : decide ((k : Int) < 6) = true := by simp; omega
        have hu := UInt8.toNat_lt s[k]
        have HN : Hid (x * 10 + (s[k].toNat : Int) - 48 = (s.data.toList.take (k + 1)).foldl numF 0) := by
          show _ = _
          rw [num_step _ k (by rw [toList_len]; exact hlt), ← HX.out]; rfl
        have HB2 : Hid (-(25 * ((10 ^ (k + 1) : Nat) : Int) - 25) ≤ x * 10 + (s[k].toNat : Int) - 48 ∧ x * 10 + (s[k].toNat : Int) - 48 ≤ 25 * ((10 ^ (k + 1) : Nat) : Int) - 25) := by
          have e : ((10 ^ (k + 1) : Nat) : Int) = 10 * ((10 ^ k : Nat) : Int) := by rw [Nat.pow_succ]; omega
          have := HB.out
          show _ ∧ _
          rw [e]; omega
        clear HX HB
        go_wp2
        go_roundw
        case rel => exact ⟨k + 1, _, by omega, by omega, by go_num, rfl, HN.out, HB2.out, trivial⟩
        case measure => simp [intOf]; omega
      · have HR : Hid (numL s.data.toList = x) := by
          show _ = _
          unfold numL; rw [show (6 : Nat) = k by omega]; exact HX.out.symm
        have d1 : decide ((k : Int) < (s.size : Int)) = true := by simp; omega
        have d2 : decide ((k : Int) < 6) = false := by simp; omega
        clear HX HB
        go_wp2
        go_ret
        exact ⟨by rw [HR.out]; rfl, Below.refl _ _⟩
    · have HR : Hid (numL s.data.toList = x) := by
        show _ = _
        unfold numL
        rw [HX.out, List.take_of_length_le (by rw [toList_len]; omega), List.take_of_length_le (by rw [toList_len]; omega)]
      have d1 : decide ((k : Int) < (s.size : Int)) = false := by simp; omega
      clear HX HB
      go_wp2
      go_ret
      exact ⟨by rw [HR.out]; rfl, Below.refl _ _⟩

theorem drop_at (s : ByteArray) (k : Nat) (h : k < s.size) : s.data.toList.drop k = s[k] :: s.data.toList.drop (k + 1) := by
  rw [List.drop_eq_getElem_cons (by rw [toList_len]; exact h)]; rfl
theorem loose_end (s : ByteArray) (k : Nat) (h : s.size ≤ k + 1) : looseF (s.data.toList.drop k) = [] := by
  by_cases hk : k < s.size
  · rw [drop_at s k hk, List.drop_eq_nil_of_le (by rw [toList_len]; omega)]; simp [looseF]
  · rw [List.drop_eq_nil_of_le (by rw [toList_len]; omega)]; simp [looseF]
theorem loose_hex (s : ByteArray) (k : Nat) (h3 : k + 3 < s.size) (h92 : s[k] = 92) (hx : 0 ≤ hexI s[k + 1]) (hy : 0 ≤ hexI s[k + 2]) :
    looseF (s.data.toList.drop k) = UInt8.ofNat (16 * (hexI s[k + 1]).toNat + (hexI s[k + 2]).toNat) :: looseF (s.data.toList.drop (k + 3)) := by
  rw [drop_at s k (by omega), drop_at s (k + 1) (by omega), drop_at s (k + 1 + 1) (by omega), drop_at s (k + 1 + 1 + 1) (by omega), looseF.eq_def]
  simp only [h92, if_true]
  rw [if_pos ⟨hx, hy⟩]
theorem loose_else (s : ByteArray) (k : Nat) (h1 : k + 1 < s.size) (h : s[k] ≠ 92 ∨ s.size ≤ k + 3 ∨ (∃ h1 : k + 1 < s.size, hexI s[k + 1] < 0) ∨ (∃ h2 : k + 2 < s.size, hexI s[k + 2] < 0)) :
    looseF (s.data.toList.drop k) = s[k] :: looseF (s.data.toList.drop (k + 1)) := by
  rw [drop_at s k (by omega), drop_at s (k + 1) (by omega)]
  by_cases h92 : s[k] = 92
  · by_cases h3 : k + 3 < s.size
    · rw [drop_at s (k + 1 + 1) (by omega), drop_at s (k + 1 + 1 + 1) (by omega)]
      rw [looseF.eq_def]
      simp only [h92, if_true]
      rw [if_neg]
      rintro ⟨hx, hy⟩
      rcases h with h | h | ⟨_, h⟩ | ⟨_, h⟩
      · exact h h92
      · omega
      · omega
      · have : hexI s[k + 1 + 1] < 0 := h
        omega
    · by_cases h2 : k + 2 < s.size
      · rw [drop_at s (k + 1 + 1) (by omega), List.drop_eq_nil_of_le (show s.data.toList.length ≤ k + 1 + 1 + 1 by rw [toList_len]; omega)]
        rw [looseF.eq_def]
        simp only [h92, if_true]
      · rw [List.drop_eq_nil_of_le (show s.data.toList.length ≤ k + 1 + 1 by rw [toList_len]; omega)]
        rw [looseF.eq_def]
        simp only [h92, if_true]
  · rw [looseF.eq_def]
    simp only [if_neg h92]

set_option maxRecDepth 100000 in
set_option maxHeartbeats 2000000 in
theorem l2Unquote_any (s : ByteArray) (w : World) (hs : s.size ≤ 1048576) :
    Calls Tryz.prog 23 #[.string s] w fun e w' => e = .returned (.string ⟨(looseF (s.data.toList.drop 1)).toArray⟩) ∧ Below w.heap.size w w' := by
  obtain ⟨i0, hi, hz0, hz1, hz2⟩ := info_parts Tryz.info5b
  generalize hT : looseF (s.data.toList.drop 1) = T
  have HT : Hid (looseF (s.data.toList.drop 1) = T) := hT
  clear hT
  go_enter Tryz.func23, Tryz.ntmps23
  go_wp2
  go_loopw [3, 4] (fun o i wr => ∃ (k g cap' n : Nat) (L : List UInt8), k ≤ s.size + 1 ∧ i = .int .i64 k ∧ o = .slice (some ⟨g, 0, none⟩) n cap' ∧ Hid (n = L.length) ∧ n < k ∧ w.heap.size ≤ g ∧ Hid (L ++ looseF (s.data.toList.drop k) = T) ∧
      Hid (wr.ownsRow w.heap.size 5 1 (.slice (some ⟨g, 0, none⟩) n cap') n (bcells L)) ∧ Below w.heap.size w wr) (fun _ i _ => s.size + 1 - (intOf i).toNat)
  case atStart =>
    refine ⟨1, w.heap.size, 0, 0, [], by omega, rfl, rfl, rfl, by omega, Nat.le_refl _, HT.out, ?_, (Below.refl _ _).alloc (Nat.le_refl _) _⟩
    exact World.ownsRow_lit (base := w.heap.size) (e := 5) (size := 1) w #[] 0 (Nat.le_refl _) (by unfold maxLen; omega) rfl
  case round =>
    clear HT
    obtain ⟨k, g, cap', n, L, hk, rfl, rfl, HL, hnk, hg, HT, HO, hB⟩ := hrel
    have hsz := hB.size
    by_cases hlt : k + 1 < s.size
    · have d0 : decide ((k : Int) + 1 < (s.size : Int)) = true := by simp; omega
      have hk0 : k < s.size := by omega
      have HELSE : Hid ((s[k] ≠ 92 ∨ s.size ≤ k + 3 ∨ (∃ h1 : k + 1 < s.size, hexI s[k + 1] < 0) ∨ (∃ h2 : k + 2 < s.size, hexI s[k + 2] < 0)) → (L ++ [s[k]]) ++ looseF (s.data.toList.drop (k + 1)) = T) := fun h => by
        rw [← HT.out, loose_else s k hlt h]; simp
      by_cases h92 : s[k] = 92
      · have d1 : ((s[k].toNat : Int) == 92) = true := by rw [h92]; rfl
        have e1 : (s[k].toNat : Int) = 92 := by rw [h92]; rfl
        by_cases h3 : k + 3 < s.size
        · have d2 : decide ((k : Int) + 3 < (s.size : Int)) = true := by simp; omega
          have h1l : k + 1 < s.size := by omega
          have h2l : k + 2 < s.size := by omega
          have HX : Hid (∀ w, Calls Tryz.prog 39 #[.int .u8 s[k + 1].toNat] w fun e w' => e = .returned (.int .i64 (hexI s[k + 1])) ∧ w = w') := fun w => l2HexOf_any _ w
          have HY : Hid (∀ w, Calls Tryz.prog 39 #[.int .u8 s[k + 2].toNat] w fun e w' => e = .returned (.int .i64 (hexI s[k + 2])) ∧ w = w') := fun w => l2HexOf_any _ w
          by_cases hx : hexI s[k + 1] < 0
          · have HS : Hid ((L ++ [(92 : UInt8)]) ++ looseF (s.data.toList.drop (k + 1)) = T) := h92 ▸ HELSE.out (Or.inr (Or.inr (Or.inl ⟨h1l, hx⟩)))
            generalize hexI s[k + 1] = x at *
            clear HELSE HT HY h92
            go_wp2_with fail
            refine (HX.out _).mono ?_
            rintro e w' ⟨rfl, rfl⟩
            go_wp2_with (first | (at_builtin; refine wpList_append_own _ rfl _ _ 62 rfl w.heap.size 5 i0 (.int .u8 0) 1 1 Tryz.underlying62 hi hz0 hz1 hz2 rfl (by decide) _ _ _ ?_ (HO.out.alloc _) ⟨wr.heap.size, 0, none⟩ 1 1 [.int .u8 92] ?_ rfl (cell_one_new _ _ _) (by intro u hu; simp at hu; subst hu; rfl) (by unfold maxLen; omega) (by omega) (by simp; omega) ?_; (focus (first | rfl | (simp [Act.eval]; done))); (focus (first | rfl | (simp [Act.eval]; done))); intro v' w1 hown' hgrow hnil; obtain ⟨g', cap2, hv', hg', hown2⟩ := shape_of hown' (by omega); have hB1 := grow_below (hB.alloc hsz _) hgrow hg; have HO2 : Hid (w1.ownsRow w.heap.size 5 1 (.slice (some ⟨g', 0, none⟩) (n + 1) cap2) (n + 1) (bcells (L ++ [(92 : UInt8)]))) := (show World.ownsRow _ _ _ _ _ _ _ from (by rw [bcells_append]; exact hown2)); clear hown' hnil hown2 hgrow; rw [hv']; clear hv'))
            go_roundw
            case rel => exact ⟨k + 1, g', cap2, n + 1, L ++ [(92 : UInt8)], by omega, by go_num, rfl, by show _ = _; rw [List.length_append, ← HL.out]; rfl, by omega, hg', HS.out, HO2.out, hB1⟩
            case measure => simp [intOf]; omega
          · by_cases hy : hexI s[k + 2] < 0
            · have HS : Hid ((L ++ [(92 : UInt8)]) ++ looseF (s.data.toList.drop (k + 1)) = T) := h92 ▸ HELSE.out (Or.inr (Or.inr (Or.inr ⟨h2l, hy⟩)))
              generalize hexI s[k + 1] = x at *
              generalize hexI s[k + 2] = y at *
              clear HELSE HT h92
              go_wp2_with fail
              refine (HX.out _).mono ?_
              rintro e w' ⟨rfl, rfl⟩
              go_wp2_with fail
              refine (HY.out _).mono ?_
              rintro e w' ⟨rfl, rfl⟩
              go_wp2_with (first | (at_builtin; refine wpList_append_own _ rfl _ _ 62 rfl w.heap.size 5 i0 (.int .u8 0) 1 1 Tryz.underlying62 hi hz0 hz1 hz2 rfl (by decide) _ _ _ ?_ (HO.out.alloc _) ⟨wr.heap.size, 0, none⟩ 1 1 [.int .u8 92] ?_ rfl (cell_one_new _ _ _) (by intro u hu; simp at hu; subst hu; rfl) (by unfold maxLen; omega) (by omega) (by simp; omega) ?_; (focus (first | rfl | (simp [Act.eval]; done))); (focus (first | rfl | (simp [Act.eval]; done))); intro v' w1 hown' hgrow hnil; obtain ⟨g', cap2, hv', hg', hown2⟩ := shape_of hown' (by omega); have hB1 := grow_below (hB.alloc hsz _) hgrow hg; have HO2 : Hid (w1.ownsRow w.heap.size 5 1 (.slice (some ⟨g', 0, none⟩) (n + 1) cap2) (n + 1) (bcells (L ++ [(92 : UInt8)]))) := (show World.ownsRow _ _ _ _ _ _ _ from (by rw [bcells_append]; exact hown2)); clear hown' hnil hown2 hgrow; rw [hv']; clear hv'))
              go_roundw
              case rel => exact ⟨k + 1, g', cap2, n + 1, L ++ [(92 : UInt8)], by omega, by go_num, rfl, by show _ = _; rw [List.length_append, ← HL.out]; rfl, by omega, hg', HS.out, HO2.out, hB1⟩
              case measure => simp [intOf]; omega
            · have HS := loose_hex s k h3 h92 (by omega) (by omega)
              have hxa : ∃ x y : Nat, x < 16 ∧ y < 16 ∧ hexI s[k + 1] = x ∧ hexI s[k + 2] = y := by
                rcases hexI_cases s[k + 1] with ha | ⟨x, hx1, hax, _⟩
                · omega
                · rcases hexI_cases s[k + 2] with hb | ⟨y, hy1, hby, _⟩
                  · omega
                  · exact ⟨x, y, hx1, hy1, hax, hby⟩
              obtain ⟨x, y, hx1, hy1, hax, hby⟩ := hxa
              rw [hax, hby] at HS
              rw [hax] at HX
              rw [hby] at HY
              have HV : Hid ((16 * (x : Int) + (y : Int)) % 256 = ((UInt8.ofNat (16 * x + y)).toNat : Int)) := by
                show _ = _
                rw [UInt8.toNat_ofNat']; omega
              have HS2 : Hid ((L ++ [UInt8.ofNat (16 * x + y)]) ++ looseF (s.data.toList.drop (k + 3)) = T) := by
                show _ = _
                rw [← HT.out, HS]; simp
              have hq : ((UInt8.ofNat (16 * x + y)).toNat : Int) = 16 * x + y := by rw [UInt8.toNat_ofNat']; omega
              clear HELSE HT h92 HS hax hby hx hy
              generalize UInt8.ofNat (16 * x + y) = q at *
              have HQ : Hid ((q.toNat : Int) = 16 * x + y) := hq
              clear hq
              go_wp2_with fail
              refine (HX.out _).mono ?_
              rintro e w' ⟨rfl, rfl⟩
              go_wp2_with fail
              refine (HY.out _).mono ?_
              rintro e w' ⟨rfl, rfl⟩
              have q1 : IntKind.i64.wrap ((k : Int) + 1) = ((k + 1 : Nat) : Int) := wrap_small _ (by omega) (by omega)
              have q2 : IntKind.i64.wrap ((k : Int) + 2) = ((k + 2 : Nat) : Int) := wrap_small _ (by omega) (by omega)
              have q3 : IntKind.i64.wrap (16 * (x : Int)) = 16 * (x : Int) := wrap_small _ (by omega) (by omega)
              have q4 : IntKind.i64.wrap (16 * (x : Int) + (y : Int)) = 16 * (x : Int) + (y : Int) := wrap_small _ (by omega) (by omega)
              have q5 : IntKind.u8.wrap (16 * (x : Int) + (y : Int)) = (q.toNat : Int) := by
                rw [HQ.out]; unfold IntKind.wrap; simp [IntKind.bits, IntKind.signed]; omega
              have b1 : ((k + 1 : Nat) : Int) < (s.size : Int) := by omega
              have b2 : ((k + 2 : Nat) : Int) < (s.size : Int) := by omega
              have T1 : Hid True := trivial
              have T2 : Hid True := trivial
              go_wp2_with fail
              go_region_held3 (fun _ => True) (trivial) (first | (clear T1; go_at_call 39; refine (HX.out _).mono ?_; rintro e w' ⟨rfl, rfl⟩) | (clear T2; go_at_call 39; refine (HY.out _).mono ?_; rintro e w' ⟨rfl, rfl⟩) | (refine step_app rfl rfl w.heap.size g n cap' (bcells L) ?_ (HO.out.alloc _) wr.heap.size 1 1 [q] ?_ rfl (Nat.le_refl _) ?_ (cell_new1 _ q (q.toNat : Int) rfl) ?_ ?_ ?_; (focus (simp [Act.eval]; done)); (focus (simp [Act.eval]; done)); (focus decide); (focus (simp; omega)); (focus omega); intro g1 cap1 w2 hown1 hgrow1 hor1))
              all_goals
                clear q1 q2 q3 q4 q5
                have HO2 : Hid (w2.ownsRow w.heap.size 5 1 (.slice (some ⟨g1, 0, none⟩) (n + 1) cap1) (n + 1) (bcells (L ++ [q]))) := (show World.ownsRow _ _ _ _ _ _ _ from (by rw [bcells_append]; exact hown1))
                have hB2 := grow_below (W := (wr.alloc (.cells #[.int .u8 q.toNat] 5)).drew) (hB.alloc hsz _).drew hgrow1 hg
                clear hown1 hgrow1 hor1 HO
                go_wp2
                go_roundw
                case rel => exact ⟨k + 3, g1, cap1, n + 1, L ++ [q], by omega, by go_num, rfl, by show _ = _; rw [List.length_append, ← HL.out]; rfl, by omega, own_ge HO2.out, HS2.out, HO2.out, hB2⟩
                case measure => simp [intOf]; omega
        · have HS : Hid ((L ++ [(92 : UInt8)]) ++ looseF (s.data.toList.drop (k + 1)) = T) := h92 ▸ HELSE.out (Or.inr (Or.inl (by omega)))
          have d2 : decide ((k : Int) + 3 < (s.size : Int)) = false := by simp; omega
          clear HELSE HT h92
          go_wp2_with (first | (at_builtin; refine wpList_append_own _ rfl _ _ 62 rfl w.heap.size 5 i0 (.int .u8 0) 1 1 Tryz.underlying62 hi hz0 hz1 hz2 rfl (by decide) _ _ _ ?_ (HO.out.alloc _) ⟨wr.heap.size, 0, none⟩ 1 1 [.int .u8 92] ?_ rfl (cell_one_new _ _ _) (by intro u hu; simp at hu; subst hu; rfl) (by unfold maxLen; omega) (by omega) (by simp; omega) ?_; (focus (first | rfl | (simp [Act.eval]; done))); (focus (first | rfl | (simp [Act.eval]; done))); intro v' w1 hown' hgrow hnil; obtain ⟨g', cap2, hv', hg', hown2⟩ := shape_of hown' (by omega); have hB1 := grow_below (hB.alloc hsz _) hgrow hg; have HO2 : Hid (w1.ownsRow w.heap.size 5 1 (.slice (some ⟨g', 0, none⟩) (n + 1) cap2) (n + 1) (bcells (L ++ [(92 : UInt8)]))) := (show World.ownsRow _ _ _ _ _ _ _ from (by rw [bcells_append]; exact hown2)); clear hown' hnil hown2 hgrow; rw [hv']; clear hv'))
          go_roundw
          case rel => exact ⟨k + 1, g', cap2, n + 1, L ++ [(92 : UInt8)], by omega, by go_num, rfl, by show _ = _; rw [List.length_append, ← HL.out]; rfl, by omega, hg', HS.out, HO2.out, hB1⟩
          case measure => simp [intOf]; omega
      · have HS : Hid ((L ++ [s[k]]) ++ looseF (s.data.toList.drop (k + 1)) = T) := HELSE.out (Or.inl h92)
        have e1 : ¬ ((s[k].toNat : Int) = 92) := fun e => h92 (u8_eq92.2 (by omega))
        clear HELSE h92 HT
        go_wp2_with (first | (at_builtin; refine wpList_append_own _ rfl _ _ 62 rfl w.heap.size 5 i0 (.int .u8 0) 1 1 Tryz.underlying62 hi hz0 hz1 hz2 rfl (by decide) _ _ _ ?_ (HO.out.alloc _) ⟨wr.heap.size, 0, none⟩ 1 1 [.int .u8 s[k].toNat] ?_ rfl (cell_one_new _ _ _) (by intro u hu; simp at hu; subst hu; rfl) (by unfold maxLen; omega) (by omega) (by simp; omega) ?_; (focus (first | rfl | (simp [Act.eval]; done))); (focus (first | rfl | (simp [Act.eval]; done))); intro v' w1 hown' hgrow hnil; obtain ⟨g', cap2, hv', hg', hown2⟩ := shape_of hown' (by omega); have hB1 := grow_below (hB.alloc hsz _) hgrow hg; have HO2 : Hid (w1.ownsRow w.heap.size 5 1 (.slice (some ⟨g', 0, none⟩) (n + 1) cap2) (n + 1) (bcells (L ++ [s[k]]))) := (show World.ownsRow _ _ _ _ _ _ _ from (by rw [bcells_append]; exact hown2)); clear hown' hnil hown2 hgrow; rw [hv']; clear hv'))
        go_roundw
        case rel => exact ⟨k + 1, g', cap2, n + 1, L ++ [s[k]], by omega, by go_num, rfl, by show _ = _; rw [List.length_append, ← HL.out]; rfl, by omega, hg', HS.out, HO2.out, hB1⟩
        case measure => simp [intOf]; omega
    · have d0 : decide ((k : Int) + 1 < (s.size : Int)) = false := by simp; omega
      have HQ : Hid (L = T) := by
        show _ = _
        rw [← HT.out, loose_end s k (by omega), List.append_nil]
      have hcv := conv_row (W := wr) (g := g) (n := n) (cap := cap') (B := w.heap.size) L HL.out.symm HO.out
      clear HT
      go_wp2
      go_ret
      exact ⟨by rw [← HQ.out]; rfl, hB⟩

def strC (ls : List (List UInt8)) : List Value := ls.map fun l => Value.string ⟨l.toArray⟩
theorem strC_snoc (ls : List (List UInt8)) (b : ByteArray) (l : List UInt8) (h : b.data.toList = l) : strC ls ++ [.string b] = strC (ls ++ [l]) := by
  have : b = ⟨l.toArray⟩ := bytes_of_list (by simpa using h)
  rw [this]; simp [strC]
theorem shapeS {w : World} {B n : Nat} {v : Value} {xs : List Value} (h : w.ownsRow B 9 1 v n xs) (hn : 0 < n) : ∃ g cap, v = .slice (some ⟨g, 0, none⟩) n cap ∧ B ≤ g ∧ w.ownsRow B 9 1 (.slice (some ⟨g, 0, none⟩) n cap) n xs := by
  rcases h.2 with ⟨_, h0⟩ | ⟨g, cap, cur, hv, hg, _⟩
  · omega
  · exact ⟨g, cap, hv, hg, by rw [← hv]; exact h⟩
theorem piece_at (s : ByteArray) (f i : Nat) (hf : f ≤ i) (hi : i < s.size) (h10 : s[i] = 10) (hno : (10 : UInt8) ∉ (s.data.toList.drop f).take (i - f)) :
    splitL (s.data.toList.drop f) = (s.extract f i).data.toList :: splitL (s.data.toList.drop (i + 1)) := by
  have e1 : (s.extract f i).data.toList = (s.data.toList.drop f).take (i - f) := by rw [ext_list, List.drop_take]
  have e2 : s.data.toList.drop f = (s.data.toList.drop f).take (i - f) ++ 10 :: s.data.toList.drop (i + 1) := by
    have := List.take_append_drop (i - f) (s.data.toList.drop f)
    rw [List.drop_drop, show f + (i - f) = i by omega, drop_at s i hi, h10] at this
    exact this.symm
  rw [e1]
  conv => lhs; rw [e2]
  exact split_at _ hno
theorem no10_step (s : ByteArray) (f i : Nat) (hf : f ≤ i) (hi : i < s.size) (h10 : s[i] ≠ 10) (hno : (10 : UInt8) ∉ (s.data.toList.drop f).take (i - f)) : (10 : UInt8) ∉ (s.data.toList.drop f).take (i + 1 - f) := by
  rw [show i + 1 - f = i - f + 1 by omega, List.take_succ_eq_append_getElem (by rw [List.length_drop, toList_len]; omega)]
  intro h
  rcases List.mem_append.1 h with h | h
  · exact hno h
  · rw [List.mem_singleton] at h
    apply h10
    rw [h, List.getElem_drop]
    have : f + (i - f) = i := by omega
    simp only [this]; rfl

set_option maxRecDepth 100000 in
set_option maxHeartbeats 2000000 in
theorem l2Cut_any (s : ByteArray) (w : World) (hs : s.size ≤ 1048576) :
    Calls Tryz.prog 20 #[.string s] w fun e w' => Below w.heap.size w w' ∧ ∃ g cap, w.heap.size ≤ g ∧ e = .returned (.slice (some ⟨g, 0, none⟩) (splitL s.data.toList).length cap) ∧ w'.ownsRow w.heap.size 9 1 (.slice (some ⟨g, 0, none⟩) (splitL s.data.toList).length cap) (splitL s.data.toList).length (strC (splitL s.data.toList)) ∧ (splitL s.data.toList).length ≤ 1048577 := by
  obtain ⟨i0, hi, hz0, hz1, hz2⟩ := info_parts Tryz.info9b
  generalize hT : splitL s.data.toList = T
  have HT : Hid (splitL s.data.toList = T) := hT
  clear hT
  go_enter Tryz.func20, Tryz.ntmps20
  go_wp2
  go_loopw [3, 4, 5] (fun o vf vi wr => ∃ (i f g cap' n : Nat) (P : List (List UInt8)), i ≤ s.size ∧ f ≤ i ∧ vi = .int .i64 i ∧ vf = .int .i64 f ∧ o = .slice (some ⟨g, 0, none⟩) n cap' ∧ Hid (n = P.length) ∧ n ≤ i ∧ w.heap.size ≤ g ∧ Hid (P ++ splitL (s.data.toList.drop f) = T) ∧ Hid ((10 : UInt8) ∉ (s.data.toList.drop f).take (i - f)) ∧
      Hid (wr.ownsRow w.heap.size 9 1 (.slice (some ⟨g, 0, none⟩) n cap') n (strC P)) ∧ Below w.heap.size w wr) (fun _ _ i _ => s.size - (intOf i).toNat)
  case atStart =>
    refine ⟨0, 0, w.heap.size, 0, 0, [], by omega, by omega, rfl, rfl, rfl, rfl, by omega, Nat.le_refl _, HT.out, (show (10 : UInt8) ∉ _ by simp), ?_, (Below.refl _ _).alloc (Nat.le_refl _) _⟩
    exact World.ownsRow_lit (base := w.heap.size) (e := 9) (size := 1) w #[] 0 (Nat.le_refl _) (by unfold maxLen; omega) rfl
  case round =>
    clear HT
    obtain ⟨i, f, g, cap', n, P, hi0, hf, rfl, rfl, rfl, HL, hn, hg, HT, HN, HO, hB⟩ := hrel
    have hsz := hB.size
    by_cases hlt : i < s.size
    · have d0 : decide ((i : Int) < (s.size : Int)) = true := by simp; omega
      by_cases h10 : s[i] = 10
      · have e1 : (s[i].toNat : Int) = 10 := by rw [h10]; rfl
        have HS : Hid ((P ++ [(s.extract f i).data.toList]) ++ splitL (s.data.toList.drop (i + 1)) = T) := by
          show _ = _
          rw [← HT.out, piece_at s f i hf hlt h10 HN.out]; simp
        clear HT HN h10
        have hext : Hid (strC P ++ [.string (s.extract f i)] = strC (P ++ [(s.extract f i).data.toList])) := strC_snoc P _ _ rfl
        go_wp2_with (first | (at_builtin; refine wpList_append_own _ rfl _ _ 22 rfl w.heap.size 9 i0 (.string ⟨#[]⟩) 1 16 Tryz.underlying22 hi hz0 hz1 hz2 rfl (by decide) _ _ _ ?_ (HO.out.alloc _) ⟨wr.heap.size, 0, none⟩ 1 1 [.string (s.extract f i)] ?_ rfl (cell_one_new _ _ _) (by intro u hu; simp at hu; subst hu; rfl) (by unfold maxLen; omega) (by omega) (by simp; omega) ?_; (focus (first | rfl | (simp [Act.eval]; done))); (focus (first | rfl | (simp [Act.eval]; done))); intro v' w1 hown' hgrow hnil; obtain ⟨g', cap2, hv', hg', hown2⟩ := shapeS hown' (by omega); have hB1 := grow_below (hB.alloc hsz _) hgrow hg; have HO2 : Hid (w1.ownsRow w.heap.size 9 1 (.slice (some ⟨g', 0, none⟩) (n + 1) cap2) (n + 1) (strC (P ++ [(s.extract f i).data.toList]))) := (show World.ownsRow _ _ _ _ _ _ _ from (by rw [← hext.out]; exact hown2)); clear hown' hnil hown2 hgrow; rw [hv']; clear hv'))
        go_roundw
        case rel => exact ⟨i + 1, i + 1, g', cap2, n + 1, _, by omega, by omega, by go_num, by go_num, rfl, by show _ = _; rw [List.length_append, ← HL.out]; rfl, by omega, hg', HS.out, (show (10 : UInt8) ∉ _ by simp), HO2.out, hB1⟩
        case measure => simp [intOf]; omega
      · have e1 : ¬ ((s[i].toNat : Int) = 10) := fun e => h10 (UInt8.toNat_inj.1 (by show _ = 10; omega))
        have HN2 : Hid ((10 : UInt8) ∉ (s.data.toList.drop f).take (i + 1 - f)) := no10_step s f i hf hlt h10 HN.out
        clear h10 HN
        go_wp2
        go_roundw
        case rel => exact ⟨i + 1, f, g, cap', n, P, by omega, by omega, by go_num, rfl, rfl, HL.out, by omega, hg, HT.out, HN2.out, HO.out, hB⟩
        case measure => simp [intOf]; omega
    · have d0 : decide ((i : Int) < (s.size : Int)) = false := by simp; omega
      have HQ : Hid (P ++ [(s.extract f s.size).data.toList] = T) := by
        show _ = _
        have hno := HN.out
        rw [List.take_of_length_le (by rw [List.length_drop, toList_len]; omega)] at hno
        rw [← HT.out, split_free hno, ext_list, List.take_of_length_le (by rw [toList_len]; omega)]
      have hext : Hid (strC P ++ [.string (s.extract f s.size)] = strC (P ++ [(s.extract f s.size).data.toList])) := strC_snoc P _ _ rfl
      have hfs : f ≤ s.size := by omega
      clear HT HN
      go_wp2_with (first | (at_builtin; refine wpList_append_own _ rfl _ _ 22 rfl w.heap.size 9 i0 (.string ⟨#[]⟩) 1 16 Tryz.underlying22 hi hz0 hz1 hz2 rfl (by decide) _ _ _ ?_ (HO.out.alloc _) ⟨wr.heap.size, 0, none⟩ 1 1 [.string (s.extract f s.size)] ?_ rfl (cell_one_new _ _ _) (by intro u hu; simp at hu; subst hu; rfl) (by unfold maxLen; omega) (by omega) (by simp; omega) ?_; (focus (first | rfl | (simp [Act.eval]; done))); (focus (first | rfl | (simp [Act.eval]; done))); intro v' w1 hown' hgrow hnil; obtain ⟨g', cap2, hv', hg', hown2⟩ := shapeS hown' (by omega); have hB1 := grow_below (hB.alloc hsz _) hgrow hg; have HO2 : Hid (w1.ownsRow w.heap.size 9 1 (.slice (some ⟨g', 0, none⟩) (n + 1) cap2) (n + 1) (strC (P ++ [(s.extract f s.size).data.toList]))) := (show World.ownsRow _ _ _ _ _ _ _ from (by rw [← hext.out]; exact hown2)); clear hown' hnil hown2 hgrow; rw [hv']; clear hv'))
      go_ret
      have hTl : T.length = n + 1 := by rw [← HQ.out, List.length_append, ← HL.out]; rfl
      have hO3 := HO2.out
      rw [HQ.out] at hO3
      rw [hTl]
      exact ⟨hB1, g', cap2, hg', rfl, hO3, by omega⟩
end Go.Proofs.YtikdgmmloiegjaaGreatDoor
