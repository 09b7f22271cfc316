import Derived.Test.YtikdgmmloiegjaaGreatDoorPsM
import Derived.Test.YtikdgmmloiegjaaGreatDoorPsP
import Derived.Deep.Cut
namespace Go.Proofs.YtikdgmmloiegjaaGreatDoor
open Go.RowKit
set_option linter.unusedVariables false

theorem looseH_end (s : ByteArray) (k : Nat) (h : s.size ≤ k + 1) : looseH (s.data.toList.drop k) = [] := by
  by_cases hk : k < s.size
  · rw [drop_at s k hk, List.drop_eq_nil_of_le (by rw [toList_len]; omega)]; simp [looseH]
  · rw [List.drop_eq_nil_of_le (by rw [toList_len]; omega)]; simp [looseH]
theorem looseH_yes (s : ByteArray) (k : Nat) (h1 : k + 1 < s.size) (hx : 0 ≤ hexI s[k]) (hy : 0 ≤ hexI s[k + 1]) :
    looseH (s.data.toList.drop k) = UInt8.ofNat (16 * (hexI s[k]).toNat + (hexI s[k + 1]).toNat) :: looseH (s.data.toList.drop (k + 2)) := by
  rw [drop_at s k (by omega), drop_at s (k + 1) (by omega), looseH.eq_def]
  simp only
  rw [if_pos ⟨hx, hy⟩]
theorem looseH_no (s : ByteArray) (k : Nat) (h1 : k + 1 < s.size) (h : hexI s[k] < 0 ∨ hexI s[k + 1] < 0) :
    looseH (s.data.toList.drop k) = looseH (s.data.toList.drop (k + 2)) := by
  rw [drop_at s k (by omega), drop_at s (k + 1) (by omega), looseH.eq_def]
  simp only
  rw [if_neg (by omega)]

set_option maxRecDepth 100000 in
set_option maxHeartbeats 2000000 in
theorem l7Unhex_any (s : ByteArray) (w : World) (hs : s.size ≤ 1048576) :
    Calls Tryz.prog 24 #[.string s] w fun e w' => e = .returned (.string ⟨(looseH s.data.toList).toArray⟩) ∧ Below w.heap.size w w' := by
  obtain ⟨i0, hi, hz0, hz1, hz2⟩ := info_parts Tryz.info5b
  generalize hT : looseH s.data.toList = T
  have HT : Hid (looseH (s.data.toList.drop 0) = T) := hT
  clear hT
  go_enter Tryz.func24, Tryz.ntmps24
  go_wp2
  go_loopw [3, 4] (fun o i wr => ∃ (k g cap' n : Nat) (L : List UInt8), k ≤ s.size + 2 ∧ i = .int .i64 k ∧ o = .slice (some ⟨g, 0, none⟩) n cap' ∧ Hid (n = L.length) ∧ n ≤ k ∧ w.heap.size ≤ g ∧ Hid (L ++ looseH (s.data.toList.drop k) = T) ∧
      Hid (wr.ownsRow w.heap.size 5 1 (.slice (some ⟨g, 0, none⟩) n cap') n (bcells L)) ∧ Below w.heap.size w wr) (fun _ i _ => s.size + 2 - (intOf i).toNat)
  case atStart =>
    refine ⟨0, w.heap.size, 0, 0, [], by omega, rfl, rfl, rfl, by omega, Nat.le_refl _, HT.out, ?_, (Below.refl _ _).alloc (Nat.le_refl _) _⟩
    exact World.ownsRow_lit (base := w.heap.size) (e := 5) (size := 1) w #[] 0 (Nat.le_refl _) (by unfold maxLen; omega) rfl
  case round =>
    clear HT
    obtain ⟨k, g, cap', n, L, hk, rfl, rfl, HL, hnk, hg, HT, HO, hB⟩ := hrel
    have hsz := hB.size
    by_cases hlt : k + 1 < s.size
    · have d0 : decide ((k : Int) + 1 < (s.size : Int)) = true := by simp; omega
      have hk0 : k < s.size := by omega
      have HX : Hid (∀ w, Calls Tryz.prog 39 #[.int .u8 s[k].toNat] w fun e w' => e = .returned (.int .i64 (hexI s[k])) ∧ w = w') := fun w => l2HexOf_any _ w
      have HY : Hid (∀ w, Calls Tryz.prog 39 #[.int .u8 s[k + 1].toNat] w fun e w' => e = .returned (.int .i64 (hexI s[k + 1])) ∧ w = w') := fun w => l2HexOf_any _ w
      by_cases hx : hexI s[k] < 0
      · have HS : Hid (L ++ looseH (s.data.toList.drop (k + 2)) = T) := by
          show _ = _
          rw [← HT.out, looseH_no s k hlt (Or.inl hx)]
        generalize hexI s[k] = x at *
        generalize hexI s[k + 1] = y at *
        clear HT
        go_wp2_with fail
        refine (HX.out _).mono ?_
        rintro e w' ⟨rfl, rfl⟩
        go_wp2_with fail
        refine (HY.out _).mono ?_
        rintro e w' ⟨rfl, rfl⟩
        go_wp2
        go_roundw
        case rel => exact ⟨k + 2, g, cap', n, L, by omega, by go_num, rfl, HL.out, by omega, hg, HS.out, HO.out, hB⟩
        case measure => simp [intOf]; omega
      · by_cases hy : hexI s[k + 1] < 0
        · have HS : Hid (L ++ looseH (s.data.toList.drop (k + 2)) = T) := by
            show _ = _
            rw [← HT.out, looseH_no s k hlt (Or.inr hy)]
          generalize hexI s[k] = x at *
          generalize hexI s[k + 1] = y at *
          clear HT
          go_wp2_with fail
          refine (HX.out _).mono ?_
          rintro e w' ⟨rfl, rfl⟩
          go_wp2_with fail
          refine (HY.out _).mono ?_
          rintro e w' ⟨rfl, rfl⟩
          go_wp2
          go_roundw
          case rel => exact ⟨k + 2, g, cap', n, L, by omega, by go_num, rfl, HL.out, by omega, hg, HS.out, HO.out, hB⟩
          case measure => simp [intOf]; omega
        · have HS := looseH_yes s k hlt (by omega) (by omega)
          have hxa : ∃ x y : Nat, x < 16 ∧ y < 16 ∧ hexI s[k] = x ∧ hexI s[k + 1] = y := by
            rcases hexI_cases s[k] with ha | ⟨x, hx1, hax, _⟩
            · omega
            · rcases hexI_cases s[k + 1] with hb | ⟨y, hy1, hby, _⟩
              · omega
              · exact ⟨x, y, hx1, hy1, hax, hby⟩
          obtain ⟨x, y, hx1, hy1, hax, hby⟩ := hxa
          rw [hax, hby] at HS
          rw [hax] at HX
          rw [hby] at HY
          have HS2 : Hid ((L ++ [UInt8.ofNat (16 * x + y)]) ++ looseH (s.data.toList.drop (k + 2)) = T) := by
            show _ = _
            rw [← HT.out, HS]; simp
          have hq : ((UInt8.ofNat (16 * x + y)).toNat : Int) = 16 * x + y := by rw [UInt8.toNat_ofNat']; omega
          clear HT HS hax hby hx hy
          generalize UInt8.ofNat (16 * x + y) = q at *
          have HQ : Hid ((q.toNat : Int) = 16 * x + y) := hq
          clear hq
          have dx : decide ((0 : Int) ≤ (x : Int)) = true := by simp
          have dy : decide ((0 : Int) ≤ (y : Int)) = true := by simp
          go_wp2_with fail
          refine (HX.out _).mono ?_
          rintro e w' ⟨rfl, rfl⟩
          go_wp2_with fail
          refine (HY.out _).mono ?_
          rintro e w' ⟨rfl, rfl⟩
          have q3 : IntKind.i64.wrap (16 * (x : Int)) = 16 * (x : Int) := wrap_small _ (by omega) (by omega)
          have q4 : IntKind.i64.wrap (16 * (x : Int) + (y : Int)) = 16 * (x : Int) + (y : Int) := wrap_small _ (by omega) (by omega)
          have q5 : IntKind.u8.wrap (16 * (x : Int) + (y : Int)) = (q.toNat : Int) := by
            rw [HQ.out]; unfold IntKind.wrap; simp [IntKind.bits, IntKind.signed]; omega
          have q6 : (16 * (x : Int) + (y : Int)) = (q.toNat : Int) := HQ.out.symm
          go_wp2_with (first | (at_builtin; refine wpList_append_own _ rfl _ _ 62 rfl w.heap.size 5 i0 (.int .u8 0) 1 1 Tryz.underlying62 hi hz0 hz1 hz2 rfl (by decide) _ _ _ ?_ (HO.out.alloc _) ⟨wr.heap.size, 0, none⟩ 1 1 [.int .u8 (q.toNat : Int)] ?_ rfl (by simp only [← q6]; exact cell_one_new _ _ _) (by intro u hu; simp at hu; subst hu; rfl) (by unfold maxLen; omega) (by omega) (by simp; omega) ?_; (focus (first | rfl | (simp [Act.eval]; done))); (focus (first | rfl | (simp [Act.eval]; done))); intro v' w1 hown' hgrow hnil; obtain ⟨g', cap2, hv', hg', hown2⟩ := shape_of hown' (by omega); have hB1 := grow_below (hB.alloc hsz _) hgrow hg; have HO2 : Hid (w1.ownsRow w.heap.size 5 1 (.slice (some ⟨g', 0, none⟩) (n + 1) cap2) (n + 1) (bcells (L ++ [q]))) := (show World.ownsRow _ _ _ _ _ _ _ from (by rw [bcells_append]; exact hown2)); clear hown' hnil hown2 hgrow; rw [hv']; clear hv'))
          clear q3 q4 q5 q6
          go_roundw
          case rel => exact ⟨k + 2, g', cap2, n + 1, L ++ [q], by omega, by go_num, rfl, by show _ = _; rw [List.length_append, ← HL.out]; rfl, by omega, hg', HS2.out, HO2.out, hB1⟩
          case measure => simp [intOf]; omega
    · have d0 : decide ((k : Int) + 1 < (s.size : Int)) = false := by simp; omega
      have HQ : Hid (L = T) := by
        show _ = _
        rw [← HT.out, looseH_end s k (by omega), List.append_nil]
      have hcv := conv_row (W := wr) (g := g) (n := n) (cap := cap') (B := w.heap.size) L HL.out.symm HO.out
      clear HT
      go_wp2
      go_ret
      exact ⟨by rw [← HQ.out]; rfl, hB⟩

end Go.Proofs.YtikdgmmloiegjaaGreatDoor
namespace Go.Proofs.YtikdgmmloiegjaaGreatDoor
open Go.RowKit
set_option linter.unusedVariables false

theorem cut_take {l : List UInt8} {k : Nat} (hk : k < l.length) (h32 : l[k] = 32) (hno : (32 : UInt8) ∉ l.take k) : cutL 32 l = (l.take k, l.drop (k + 1), true) := by
  have e : l = l.take k ++ 32 :: l.drop (k + 1) := by
    rw [← h32, ← List.drop_eq_getElem_cons hk, List.take_append_drop]
  generalize l.take k = a at *
  generalize l.drop (k + 1) = b at *
  rw [e]
  exact cutL_at _ hno
theorem no32_step {l : List UInt8} {k : Nat} (hk : k < l.length) (h32 : l[k] ≠ 32) (hno : (32 : UInt8) ∉ l.take k) : (32 : UInt8) ∉ l.take (k + 1) := by
  rw [List.take_succ_eq_append_getElem hk]
  intro h
  rcases List.mem_append.1 h with q | q
  · exact hno q
  · rw [List.mem_singleton] at q; exact h32 q.symm
/-- A look in a block. -/
def G3At (b : Nat) (n : ByteArray) (a : Bool) (s : ByteArray) (w : World) : Prop := w.heap[b]? = some (.cells #[.string n, .bool a, .string s] 60 (0, 0))
theorem G3At.cells {b : Nat} {n s : ByteArray} {a : Bool} {w : World} (h : G3At b n a s w) : w.cell? ⟨b, 0, none⟩ = some (.string n) ∧ w.cell? ⟨b, 1, none⟩ = some (.bool a) ∧ w.cell? ⟨b, 2, none⟩ = some (.string s) ∧ w.frozen? ⟨b, 0, none⟩ = false ∧ w.frozen? ⟨b, 1, none⟩ = false ∧ w.frozen? ⟨b, 2, none⟩ = false :=
  ⟨by rw [Lib.cell_of_heap h]; rfl, by rw [Lib.cell_of_heap h]; rfl, by rw [Lib.cell_of_heap h]; rfl, Lib.frozen_of_heap h 0, Lib.frozen_of_heap h 1, Lib.frozen_of_heap h 2⟩
theorem G3At.below {b : Nat} {n s : ByteArray} {a : Bool} {w w' : World} (h : G3At b n a s w) (hb : Below w.heap.size w w') : G3At b n a s w' := by
  unfold G3At; rw [hb.block b (hlt h)]; exact h
theorem G3At.set0 {b : Nat} {n s : ByteArray} {a : Bool} {w : World} (h : G3At b n a s w) (m : ByteArray) : G3At b m a s (w.setCell ⟨b, 0, none⟩ (.string m)) := by
  unfold G3At; rw [Joins.block_setCell h]; rfl
theorem G3At.far {b c j : Nat} {n s : ByteArray} {a : Bool} {w : World} (h : G3At b n a s w) (hb : b ≠ c) (v : Value) : G3At b n a s (w.setCell ⟨c, j, none⟩ v) := by
  unfold G3At; rw [setF b hb]; exact h
theorem ext_all (r : ByteArray) : r.extract 0 r.size = r := bytes_of_list (by rw [ext_list, List.drop_zero, List.take_of_length_le (by rw [toList_len]; omega)])
set_option maxRecDepth 100000 in
set_option maxHeartbeats 2000000 in
theorem l7Glance_any (x : ByteArray) (w : World) (hx : x.size ≤ 1048576) (h4 : 4 ≤ x.size) :
    Calls Tryz.prog 26 #[.string x] w fun e w' => Below w.heap.size w w' ∧ e = .returned (.agg #[.string (glanceL x.data.toList).name, .bool (glanceL x.data.toList).ask, .string (glanceL x.data.toList).sum]) := by
  have HA : Hid (∀ w, Calls Tryz.prog 21 #[.string x, .string ⟨#[97, 115, 107, 32]⟩] w fun e w' => e = .returned (.bool (begins hAsk x.data.toList)) ∧ w = w') := fun w => l7Begins_any x ⟨#[97, 115, 107, 32]⟩ w hx (by decide)
  have HG : Hid (glanceL x.data.toList = ⟨⟨(cutL 32 (x.extract 4 x.size).data.toList).1.toArray⟩, begins hAsk x.data.toList, ⟨(looseH (cutL 32 (x.extract 4 x.size).data.toList).2.1).toArray⟩⟩) := by
    show _ = _
    unfold glanceL
    rw [ext_list, List.take_of_length_le (by rw [toList_len]; omega)]
  generalize glanceL x.data.toList = G at *
  have hrs : (x.extract 4 x.size).size = x.size - 4 := by simp
  generalize begins hAsk x.data.toList = a at *
  obtain ⟨r, er⟩ : ∃ r, x.extract 4 x.size = r := ⟨_, rfl⟩
  rw [er] at HG hrs
  have hrz : r.size ≤ 1048576 := by omega
  obtain ⟨V, eV⟩ : ∃ V, w.alloc (.cells #[.string ⟨#[]⟩, .bool false, .string ⟨#[]⟩] 60) = V := ⟨_, rfl⟩
  have hbV : Below w.heap.size w V := eV ▸ (Below.refl _ _).alloc (Nat.le_refl _) _
  have hRV : G3At w.heap.size ⟨#[]⟩ false ⟨#[]⟩ V := by unfold G3At; rw [← eV]; exact alloc_here _ _
  have HER := hid er
  clear er hrs
  go_enter Tryz.func26, Tryz.ntmps26
  go_wp2_with fail
  refine (HA.out _).mono ?_
  rintro e w' ⟨rfl, rfl⟩
  clear eV HA
  obtain ⟨X, eX⟩ : ∃ X, V.alloc (.cells #[.string ⟨#[]⟩, .bool a, .string ⟨#[]⟩] 60) = X := ⟨_, rfl⟩
  have hbX : Below V.heap.size V X := eX ▸ (Below.refl _ _).alloc (Nat.le_refl _) _
  have hGX : G3At V.heap.size ⟨#[]⟩ a ⟨#[]⟩ X := by unfold G3At; rw [← eX]; exact alloc_here _ _
  have hRX := hRV.below hbX
  have hBX := hbV.trans (hbX.mono hbV.size)
  have hlV := hlt hRV
  have HEX := hid eX
  clear eX hbX hbV hRV
  go_upto_region 2 with fail
  rw [HEX.out]
  have er := HER.out
  have HX0 := hid hGX
  have HR0 := hid hRX
  clear HEX hGX hRX
  go_wp2_with fail
  clear er
  go_loopw [5] (fun vk wr => ∃ (k : Nat), k ≤ r.size ∧ vk = .int .i64 k ∧ Hid ((32 : UInt8) ∉ r.data.toList.take k) ∧ wr = X) (fun vk _ => r.size - (intOf vk).toNat)
  case atStart => exact ⟨0, Nat.zero_le _, rfl, (show (32 : UInt8) ∉ _ by simp), rfl⟩
  case round =>
    obtain ⟨k, hk, rfl, HN, rfl⟩ := hrel
    by_cases hlt2 : k < r.size
    · have d0 : decide ((k : Int) < (r.size : Int)) = true := by simp; omega
      by_cases h32 : r[k] = 32
      · have e1 : (r[k].toNat : Int) = 32 := by rw [h32]; rfl
        have HC : Hid (cutL 32 r.data.toList = ((r.extract 0 k).data.toList, (r.extract (k + 1) r.size).data.toList, true)) := by
          show _ = _
          rw [cut_take (k := k) (by rw [toList_len]; exact hlt2) h32 HN.out, ext_list, ext_list, List.drop_zero, show List.take r.size r.data.toList = r.data.toList from List.take_of_length_le (by rw [toList_len]; omega)]
        rw [HC.out] at HG
        clear HC HN h32
        have hsz2 : (r.extract (k + 1) r.size).size ≤ 1048576 := by rw [ByteArray.size_extract]; omega
        have HU := hid (fun w => l7Unhex_any (r.extract (k + 1) r.size) w hsz2)
        clear hsz2
        generalize hnm : r.extract 0 k = nm at *
        generalize hdg : r.extract (k + 1) r.size = dg at *
        obtain ⟨c0, c1, c2, f0, f1, f2⟩ := HX0.out.cells
        obtain ⟨Y, eY⟩ : ∃ Y, wr.setCell ⟨V.heap.size, 0, none⟩ (.string nm) = Y := ⟨_, rfl⟩
        have hX1 : G3At V.heap.size nm a ⟨#[]⟩ Y := eY ▸ HX0.out.set0 nm
        have hR1 : G3At w.heap.size ⟨#[]⟩ false ⟨#[]⟩ Y := eY ▸ HR0.out.far (c := V.heap.size) (j := 0) (by omega) (.string nm)
        have hBY : Below w.heap.size w Y := eY ▸ hBX.setCell (p := ⟨V.heap.size, 0, none⟩) (Nat.le_of_lt hlV) _
        go_wp2_with fail
        clear eY c0 c1 c2 f0 f1 f2 hnm hdg
        refine (HU.out _).mono ?_
        rintro e w2 ⟨rfl, hb2⟩
        have HX2 := hid (hX1.below hb2)
        have HR2 := hid (hR1.below hb2)
        have hB2 := hBY.trans (hb2.mono hBY.size)
        obtain ⟨c0, c1, c2, f0, f1, f2⟩ := HX2.out.cells
        obtain ⟨k0, k1, k2, g0, g1, g2⟩ := HR2.out.cells
        have hGe : G = ⟨⟨nm.data.toList.toArray⟩, a, ⟨(looseH dg.data.toList).toArray⟩⟩ := HG.out
        have HGE := hid hGe
        clear hGe HX2 HR2 hX1 hR1 hb2 HG HX0 HR0 hBX hBY
        generalize (⟨(looseH dg.data.toList).toArray⟩ : ByteArray) = sm at *
        have hne : V.heap.size ≠ w.heap.size := by omega
        go_wp2
        refine bodyPost_ret (v := .agg #[.string nm, .bool a, .string sm]) (by simp [results, Tryz.results26, go_sem, k0, k1, k2]) rfl ⟨below_set3 (hB2.setCell (p := ⟨V.heap.size, 2, none⟩) (Nat.le_of_lt hlV) _) (Nat.le_refl _) _ _ _, ?_⟩
        rw [HGE.out]
      · have e1 : ¬ ((r[k].toNat : Int) = 32) := fun e => h32 (UInt8.toNat_inj.1 (by show _ = 32; omega))
        have HN2 : Hid ((32 : UInt8) ∉ r.data.toList.take (k + 1)) := no32_step (by rw [toList_len]; exact hlt2) h32 HN.out
        clear h32 HN
        go_wp2
        go_roundw
        case rel => exact ⟨k + 1, by omega, by go_num, HN2.out, trivial⟩
        case measure => simp [intOf]; omega
    · have d0 : decide ((k : Int) < (r.size : Int)) = false := by simp; omega
      have HC : Hid (cutL 32 r.data.toList = (r.data.toList, [], false)) := cutL_free (by
        have := HN.out
        rwa [List.take_of_length_le (by rw [toList_len]; omega)] at this)
      rw [HC.out] at HG
      clear HC HN
      obtain rfl : k = r.size := by omega
      have hnm := ext_all r
      obtain ⟨c0, c1, c2, f0, f1, f2⟩ := HX0.out.cells
      obtain ⟨k0, k1, k2, g0, g1, g2⟩ := HR0.out.cells
      have HGE : Hid (G = ⟨⟨r.data.toList.toArray⟩, a, ⟨#[]⟩⟩) := HG.out
      clear HG HX0 HR0
      have hne : V.heap.size ≠ w.heap.size := by omega
      go_wp2
      refine bodyPost_ret (v := .agg #[.string r, .bool a, .string ⟨#[]⟩]) (by simp [results, Tryz.results26, go_sem, k0, k1, k2]) rfl ⟨below_set3 (hBX.setCell (p := ⟨V.heap.size, 0, none⟩) (Nat.le_of_lt hlV) _) (Nat.le_refl _) _ _ _, ?_⟩
      rw [HGE.out]

end Go.Proofs.YtikdgmmloiegjaaGreatDoor
