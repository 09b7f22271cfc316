import Derived.Test.YtikdgmmloiegjaaGreatDoorPrU
namespace Go.Proofs.YtikdgmmloiegjaaGreatDoor
open Go.RowKit
set_option linter.unusedVariables false

theorem flatN_take {ls : List (List UInt8)} {k : Nat} (h : k < ls.length) : flatN (ls.take (k + 1)) = flatN (ls.take k) ++ (ls[k] ++ [10]) := by
  rw [List.take_succ_eq_append_getElem h, flatN_append]
  simp [flatN, nl]
theorem strV_at {ls : List (List UInt8)} {k : Nat} (h : k < ls.length) : (strV ls)[k]? = some (.string (bB ls[k])) := by
  unfold strV
  rw [List.getElem?_map, List.getElem?_eq_getElem h]
  rfl

theorem row9_grown {w w' : World} {B B' n m : Nat} {u v : Value} {xs ys : List Value} (h : w.ownsRow B 9 1 u n xs) (ho : w.ownsRow B' 5 1 v m ys) (hg : w.grownBy w' v.ownBlock) : w'.ownsRow B 9 1 u n xs := by
  refine h.kept hg ?_
  rcases h.2 with ⟨rfl, _⟩ | ⟨g, cap, cur, rfl, _, hh, _⟩
  · exact Or.inl rfl
  · refine Or.inr (fun e => ?_)
    rcases ho.2 with ⟨rfl, _⟩ | ⟨g', cap', cur', rfl, _, hh', _⟩
    · simp [Value.ownBlock] at e
    · obtain rfl : g = g' := by simpa [Value.ownBlock] using e
      rw [hh] at hh'
      simp at hh'

set_option maxRecDepth 100000 in
set_option maxHeartbeats 8000000 in
theorem specPrintStore_any (n : Int) (ta ra : Option Addr) (tc rc : Nat) (ts : List ByteArray) (rs : List T3) (w : World) (h : StIn w ta ts ra rs) :
    Calls Tryz.prog 10 #[.agg #[.int .i64 n, .slice ta ts.length tc, .slice ra rs.length rc]] w fun e w' => e = .returned (.string (prB n ts rs)) ∧ Below w.heap.size w w' := by
  obtain ⟨i0, hi, hz0, hz1, hz2⟩ := info_parts Tryz.info5b
  obtain ⟨W, eW⟩ : ∃ y, w.alloc (.cells #[.int .i64 n, .slice ta ts.length tc, .slice ra rs.length rc] 25) = y := ⟨_, rfl⟩
  have hb0 : Below w.heap.size w W := by rw [← eW]; exact (Below.refl _ _).alloc (Nat.le_refl _) _
  have k0 : W.cell? ⟨w.heap.size, 0, none⟩ = some (.int .i64 n) := by rw [← eW]; simp [go_sem]
  have k1 : W.cell? ⟨w.heap.size, 1, none⟩ = some (.slice ta ts.length tc) := by rw [← eW]; simp [go_sem]
  have k2 : W.cell? ⟨w.heap.size, 2, none⟩ = some (.slice ra rs.length rc) := by rw [← eW]; simp [go_sem]
  have HI : Hid (StIn w ta ts ra rs) := h
  clear h
  go_enter Tryz.func10, Tryz.ntmps10
  go_wp2_with fail
  clear eW
  refine (specValidStore_any n ta ra tc rc ts rs W (HI.out.below hb0)).mono ?_
  rintro e w1 ⟨hb1, v, rfl, hv⟩
  have hB1 := bt hb0 hb1
  have c0 := cell_below hb1 k0
  have c1 := cell_below hb1 k1
  have c2 := cell_below hb1 k2
  clear k0 k1 k2 hb0 hb1
  rcases b_iff hv with ⟨hok, rfl⟩ | ⟨hno, rfl⟩
  · obtain ⟨m, rfl⟩ := Int.eq_ofNat_of_zero_le (show 0 ≤ n by have := hok.1; omega)
    have hr5 := hok.2.2.2.2
    rw [Int.toNat_natCast] at hr5
    have h8 : m ≤ 8 := by have := hok.2.1; omega
    have HLL : Hid (∀ l ∈ stoLs m ts rs, l.length ≤ 6200) := line_len h8 hok.2.2.1.2.1 hr5
    have hsl := stoLs_len hok.2.2.1.1 hok.2.2.2.1 hr5
    have HPB : Hid (prB (m : Int) ts rs = if (flatN (stoLs m ts rs)).length ≤ 200000 then bB (flatN (stoLs m ts rs)) else ⟨#[]⟩) := by
      show _ = _
      unfold prB
      rw [Int.toNat_natCast]
      by_cases hc : (flatN (stoLs m ts rs)).length ≤ 200000
      · rw [if_pos ⟨hok, hc⟩, if_pos hc]
      · rw [if_neg (fun k => hc k.2), if_neg hc]
    obtain ⟨w2, e2⟩ : ∃ y, w1.alloc (.cells #[] 5) = y := ⟨_, rfl⟩
    have hb2 : Below w1.heap.size w1 w2 := by rw [← e2]; exact (Below.refl _ _).alloc (Nat.le_refl _) _
    have HO2 : Hid (w2.ownsRow w1.heap.size 5 1 (.slice (some ⟨w1.heap.size, 0, none⟩) 0 0) 0 (bcells [])) := by
      have := World.ownsRow_lit (base := w1.heap.size) (e := 5) (size := 1) w1 #[] 0 (Nat.le_refl _) (by unfold maxLen; omega) (by simp)
      show World.ownsRow _ _ _ _ _ _ _
      rw [← e2]
      simpa [bcells] using this
    have hI2 := (HI.out.below hB1).below hb2
    have HLN : Hid (∀ _ : Unit, Calls Tryz.prog 28 #[.agg #[.int .i64 (m : Int), .slice ta ts.length tc, .slice ra rs.length rc]] w2 fun e w' => Below w2.heap.size w2 w' ∧ ∃ g cap, e = .returned (.slice (some ⟨g, 0, none⟩) (stoLs m ts rs).length cap) ∧ w'.ownsRow w2.heap.size 9 1 (.slice (some ⟨g, 0, none⟩) (stoLs m ts rs).length cap) (stoLs m ts rs).length (strV (stoLs m ts rs))) := fun _ => l7Lines_any m ta ra tc rc ts rs w2 hI2.st hI2.qs.rq hok
    obtain ⟨ls, els⟩ : ∃ ls, stoLs m ts rs = ls := ⟨_, rfl⟩
    rw [els] at HLL hsl HPB HLN
    have x0 := cell_below hb2 c0
    have x1 := cell_below hb2 c1
    have x2 := cell_below hb2 c2
    have HB2 : Hid (Below w1.heap.size w1 w2) := hb2
    clear hok hv els hb2 hr5 hI2 c0 c1 c2
    go_wp2_with fail
    clear e2
    refine (HLN.out ()).mono ?_
    rintro e w3 ⟨hb3, gl, pl, rfl, ho3⟩
    have HB3 : Hid (Below w1.heap.size w1 w3) := bt HB2.out hb3
    have HO3 : Hid (w3.ownsRow w1.heap.size 5 1 (.slice (some ⟨w1.heap.size, 0, none⟩) 0 0) 0 (bcells [])) := ownsRow_below HO2.out hb3
    have HS3 : Hid (w3.ownsRow w2.heap.size 9 1 (.slice (some ⟨gl, 0, none⟩) ls.length pl) ls.length (strV ls)) := ho3
    have hgl : gl < w3.heap.size := (ho3.lt gl rfl).2
    have hs2 : w1.heap.size ≤ w2.heap.size := HB2.out.size
    have hs3 : w2.heap.size ≤ w3.heap.size := hb3.size
    clear hb3 ho3 HLN x0 x1 x2
    go_wp2
    go_loopw [3, 5] (fun o i wr => ∃ (k g cap : Nat) (L : List UInt8), k ≤ ls.length ∧ i = .int .i64 k ∧ Hid (flatN (ls.take k) = L) ∧ L.length ≤ 6201 * k ∧ o = .slice (some ⟨g, 0, none⟩) L.length cap ∧ w1.heap.size ≤ g ∧ Hid (wr.ownsRow w1.heap.size 5 1 (.slice (some ⟨g, 0, none⟩) L.length cap) L.length (bcells L)) ∧ Hid (wr.ownsRow w2.heap.size 9 1 (.slice (some ⟨gl, 0, none⟩) ls.length pl) ls.length (strV ls)) ∧ Hid (Below w1.heap.size w1 wr)) (fun _ i _ => ls.length - (intOf i).toNat)
    case atStart => exact ⟨0, w1.heap.size, 0, [], Nat.zero_le _, rfl, (rfl : flatN (ls.take 0) = []), by simp, rfl, Nat.le_refl _, HO3.out, HS3.out, HB3.out⟩
    case round =>
      clear HO3 HS3 HB3 hgl hs3
      obtain ⟨k, g, cap, L, hk, rfl, HL, hLl, rfl, hg, HO, HS, HB⟩ := hrel
      have hsr := HB.out.size
      by_cases hlt : k < ls.length
      · have hkI : (k : Int) < (ls.length : Int) := by omega
        have cl : wr.cell? ⟨gl, k, none⟩ = some (.string (bB ls[k])) := by
          have := HS.out.cellAt k (by omega)
          rw [this]
          exact strV_at hlt
        have hll := HLL.out ls[k] (List.getElem_mem hlt)
        have HFT : Hid (flatN (ls.take (k + 1)) = L ++ (ls[k] ++ [10])) := by show _ = _; rw [flatN_take hlt, HL.out]
        generalize ls[k] = l at *
        have hsz : (bB l).size = l.length := bB_size l
        have hsc : Lib.strCells (bB l) = bcells l := str_bcells l
        have ho := HO.out
        have hs9 := HS.out
        generalize bB l = lb at *
        clear HL HO HS
        go_wp2_with (first | (at_builtin; refine Lib.wpList_append_own_string _ rfl (.tmp 18) (.tmp 22) 62 9 rfl w1.heap.size 5 i0 Tryz.underlying62 Tryz.underlying9 hi hz0 hz1 hz2 _ _ _ rfl ho lb rfl (by rw [hsz]; unfold maxLen; omega) (by rw [hsz]; omega) hsr ?_; intro v' w4 hown' hgrow hnil; rw [hsz, hsc, ← bcells_append] at hown'; obtain ⟨g4, cap4, hv', hg4, hown4⟩ := shape_ne hown' (by intro hh; have h9 : Value.slice (some ⟨g, 0, none⟩) L.length cap = .slice none 0 0 := (hnil.1 hh).1; injection h9 with h9; cases h9); have hB4 := HB.out.grown hgrow hsr (by intro k hk; cases hk; exact hg); have hs4 := hB4.size; have hs9b := row9_grown hs9 ho hgrow; clear hown' hnil hgrow; rw [hv']; clear hv') | (at_builtin; refine wpList_append_own _ rfl (.tmp 23) (.tmp 24) 62 rfl w1.heap.size 5 i0 (.int .u8 0) 1 1 Tryz.underlying62 hi hz0 hz1 hz2 rfl (by decide) _ _ _ rfl (hown4.alloc _) ⟨w4.heap.size, 0, none⟩ 1 1 [.int .u8 10] rfl rfl (cell_one_new _ _ _) (by intro u hu; simp at hu; subst hu; rfl) (by unfold maxLen; omega) (by omega) (by simp; omega) ?_; intro v' w5 hown' hgrow hnil; obtain ⟨g5, cap5, hv', hg5, hown5⟩ := shape_of hown' (by omega); have hB5 := (hB4.alloc hs4 _).grown hgrow (by simp; omega) (by intro k hk; cases hk; exact hg4); have hs9c := row9_grown (hs9b.alloc _) (hown4.alloc _) hgrow; clear hown' hnil hgrow; rw [hv']; clear hv'))
        go_roundw
        case rel =>
          refine ⟨k + 1, g5, cap5, L ++ (l ++ [10]), by omega, by go_num, HFT.out, by simp; omega, by simp [Nat.add_assoc], hg5, ?_, hs9c, hB5⟩
          show World.ownsRow _ _ _ _ _ _ _
          simpa [bcells, Nat.add_assoc] using hown5
        case measure => simp [intOf]; omega
      · have ek : k = ls.length := by omega
        subst ek
        have HE : Hid (flatN ls = L) := by show _ = _; rw [← HL.out, List.take_length]
        have hcv := conv_row (W := wr) (g := g) (n := L.length) (cap := cap) (B := w1.heap.size) L rfl HO.out
        have HB2 : Hid (Below w1.heap.size w1 wr) := HB.out
        by_cases h2 : L.length ≤ 200000
        · have HP : Hid (prB (m : Int) ts rs = bB L) := by show _ = _; rw [HPB.out, HE.out, if_pos h2]
          have d2 : decide ((200000 : Int) < ((L.length : Nat) : Int)) = false := by simp; omega
          clear hlt HL HO HS h2
          go_wp2
          go_ret
          rw [HP.out]
          exact ⟨rfl, bt hB1 HB2.out⟩
        · have HP : Hid (prB (m : Int) ts rs = ⟨#[]⟩) := by show _ = _; rw [HPB.out, HE.out, if_neg h2]
          have d2 : decide ((200000 : Int) < ((L.length : Nat) : Int)) = true := by simp; omega
          clear hlt HL HO HS h2
          go_wp2
          go_ret
          rw [HP.out]
          exact ⟨rfl, bt hB1 HB2.out⟩
  · have HE : Hid (prB n ts rs = ⟨#[]⟩) := by show _ = _; unfold prB; rw [if_neg (fun k => hno k.1)]
    clear hno hv
    go_wp2
    go_ret
    rw [HE.out]
    exact ⟨rfl, hB1⟩

end Go.Proofs.YtikdgmmloiegjaaGreatDoor
