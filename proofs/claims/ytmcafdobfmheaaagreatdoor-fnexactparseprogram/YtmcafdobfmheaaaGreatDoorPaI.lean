/-
  spec.ParseProgram.
-/
import Derived.Test.YtmcafdobfmheaaaGreatDoorPaH
import Derived.Test.YtmcafdobfmheaaaGreatDoorPaF
import Derived.OneCell
namespace Go.Proofs.YtmcafdobfmheaaaGreatDoor
open Go.RowKit
set_option linter.unusedVariables false

theorem split_len : ∀ (s : List UInt8), ∀ l ∈ splitL s, l.length ≤ s.length
  | [], l, h => by simp [splitL] at h; subst h; simp
  | c :: r, l, h => by
    have ih := split_len r
    unfold splitL at h
    split at h
    · rcases List.mem_cons.1 h with h | h
      · subst h; simp
      · have := ih l h; simp; omega
    · have hne := split_ne r
      match hr : splitL r with
      | [] => exact absurd hr hne
      | x :: xs =>
        rw [hr] at h ih
        rcases List.mem_cons.1 h with h | h
        · subst h
          have := ih x (by simp)
          simp; omega
        · have := ih l (by simp at h; simp [h])
          simp; omega
theorem split_one {s : List UInt8} (h : splitL s = [[]]) : s = [] := by
  match s with
  | [] => rfl
  | c :: r =>
    unfold splitL at h
    split at h
    · have := split_ne r
      simp at h; exact absurd h this
    · simp at h

/-- Where spec.ParseProgram's loop stands. -/
structure Lp (R g b : Nat) (L : List (List UInt8)) (is : List I3) (v : Value) (w : World) : Prop where
  pb : PB R w
  ln : ∀ j (h : j < L.length), w.cell? ⟨g, j, none⟩ = some (.string ⟨L[j].toArray⟩)
  pk : w.heap[b]? = some (.cells #[v] 25 (0, 0))
  row : RowI (b + 1) v is w
theorem Lp.lt {R g b : Nat} {L : List (List UInt8)} {is : List I3} {v : Value} {w : World} (h : Lp R g b L is v w) : b < w.heap.size := heap_lt h.pk
theorem Lp.below {R g b : Nat} {L : List (List UInt8)} {is : List I3} {v : Value} {w w' : World} (h : Lp R g b L is v w) (hb : Below w.heap.size w w') : Lp R g b L is v w' :=
  ⟨h.pb.below hb, fun j hj => cell_below hb (h.ln j hj), by rw [hb.block _ h.lt]; exact h.pk, h.row.below hb⟩
theorem Lp.put {R g b : Nat} {L : List (List UInt8)} {is js : List I3} {v v' : Value} {w w' : World} (h : Lp R g b L is v w) (hb : Below (b + 1) w w') (hr : RowI (b + 1) v' js w') (hR : R + 1 < b) (hg : g < b) : Lp R g b L js v' (w'.setCell ⟨b, 0, none⟩ v') := by
  have e : ∀ k, k < b → (w'.setCell ⟨b, 0, none⟩ v').heap[k]? = w.heap[k]? := fun k hk => by
    rw [Below.heap_setCell _ ⟨b, 0, none⟩ _ k (show k ≠ b by omega), hb.block k (by omega)]
  refine ⟨⟨by rw [e R (by omega)]; exact h.pb.a0, by rw [e (R + 1) hR]; exact h.pb.a1⟩, fun j hj => ?_, one_setCell (by rw [hb.block b (by omega)]; exact h.pk), ?_⟩
  · rw [World.cell?_of_block (w := w) (e g hg)]; exact h.ln j hj
  · exact own_keepD hr fun k hk hlt => by rw [Below.heap_setCell _ ⟨b, 0, none⟩ _ k (show k ≠ b by omega)]
theorem Lp.cell {R g b : Nat} {L : List (List UInt8)} {is : List I3} {v : Value} {w : World} (h : Lp R g b L is v w) : w.cell? ⟨b, 0, none⟩ = some v ∧ w.frozen? ⟨b, 0, none⟩ = false :=
  ⟨by rw [Lib.cell_of_heap h.pk]; rfl, Lib.frozen_of_heap h.pk 0⟩
theorem RowI.slice {B : Nat} {v : Value} {is : List I3} {w : World} (h : RowI B v is w) : ∃ a cap, v = .slice a is.length cap := by
  rcases h.2 with ⟨h1, h2⟩ | ⟨g, cap, cur, hv, hg, _⟩
  · exact ⟨none, 0, by rw [h1, h2]⟩
  · exact ⟨_, cap, hv⟩

theorem shapeN {w : World} {B e sz n : Nat} {v : Value} {xs : List Value} (h : w.ownsRow B e sz v n xs) (hn : 0 < n) : ∃ g cap, v = .slice (some ⟨g, 0, none⟩) n cap := by
  rcases h.2 with ⟨_, h0⟩ | ⟨g, cap, cur, hv, hg, _⟩
  · omega
  · exact ⟨g, cap, hv⟩

set_option maxRecDepth 100000 in
set_option maxHeartbeats 4000000 in
theorem specParse_any (s : ByteArray) (w : World) (hs : s.size ≤ 1048576) :
    Calls Tryz.prog 11 #[.string s] w fun e w' => Below w.heap.size w w' ∧ ∃ v, e = .returned v ∧ OutP w.heap.size (parseP s.data.toList) v w' := by
  obtain ⟨i0, hi, hz0, hz1, hz2⟩ := info_parts Tryz.info47b
  have hb0 := ppW_below w
  have hP0 := ppW_pb w
  have hsz : (ppW w).heap.size = w.heap.size + 2 := by simp
  obtain ⟨W, eW⟩ : ∃ W, ppW w = W := ⟨_, rfl⟩
  rw [eW] at hb0 hP0 hsz
  have HZ : Hid (W.heap.size = w.heap.size + 2) := hsz
  clear hsz
  by_cases h0 : s.size = 0
  · have e0 : s.toList.isEmpty = true := by rw [empty_iff]; simp [h0]
    have HP : Hid (parseP s.data.toList = .bad 1 0) := by
      show _ = _
      have e2 : s.data.toList = [] := List.eq_nil_of_length_eq_zero (by rw [toList_len]; exact h0)
      unfold parseP; rw [if_pos e2]
    obtain ⟨c0, f0, c1, c2, f1, f2⟩ := hP0.cells
    clear hP0
    go_enter Tryz.func11, Tryz.ntmps11
    go_wp2
    refine bodyPost_ret (v := .tuple #[.agg #[.slice none 0 0], .agg #[.int .i64 1, .int .i64 0]]) (by simp [results, Tryz.results11, go_sem, c0, c1, c2]) rfl ⟨below_setP hb0 (Nat.le_refl _) _ _ _, _, rfl, ?_⟩
    rw [HP.out]; exact ⟨by omega, rfl⟩
  · have e0 : s.toList.isEmpty = false := by rw [empty_iff]; simp [h0]
    have HP : Hid (parseP s.data.toList = capP (parseK (splitL s.data.toList) 0)) := by
      show _ = _
      unfold parseP; rw [if_neg]
      intro e; exact h0 (by rw [← toList_len, e]; rfl)
    have HL1 : Hid (splitL s.data.toList ≠ [[]]) := fun h => h0 (by rw [← toList_len, split_one h]; rfl)
    have HL2 : Hid (∀ l ∈ splitL s.data.toList, l.length ≤ 1048576) := fun l hl => by
      have := split_len _ l hl
      rw [toList_len] at this; omega
    have HL0 : Hid (splitL s.data.toList ≠ []) := split_ne _
    have d1 : decide ((1500000 : Int) < (s.size : Int)) = false := by simp; omega
    have HC : Hid (Calls Tryz.prog 28 #[.string s] W fun e w' => Below W.heap.size W w' ∧ ∃ g cap, W.heap.size ≤ g ∧ e = .returned (.slice (some ⟨g, 0, none⟩) (splitL s.data.toList).length cap) ∧ w'.ownsRow W.heap.size 9 1 (.slice (some ⟨g, 0, none⟩) (splitL s.data.toList).length cap) (splitL s.data.toList).length (strC (splitL s.data.toList)) ∧ (splitL s.data.toList).length ≤ 1048577) := l2Cut_any s W hs
    generalize parseP s.data.toList = PP at *
    generalize splitL s.data.toList = L at *
    obtain ⟨n, HnL⟩ : ∃ n, Hid (L.length = n) := ⟨_, rfl⟩
    have hn1 : 1 ≤ n := by
      have := HnL.out
      have h := HL0.out
      rcases Nat.eq_zero_or_pos L.length with q | q
      · exact absurd (List.eq_nil_of_length_eq_zero q) h
      · omega
    rw [HnL.out] at HC
    go_enter Tryz.func11, Tryz.ntmps11
    go_wp2_with fail
    refine HC.out.mono ?_
    rintro e w1 ⟨hb1, g, cap, hg, rfl, hown, hnn⟩
    have hB1 : Below w.heap.size w w1 := hb0.trans (hb1.mono hb0.size)
    have hP1 := hP0.below hb1
    have hgl : g < w1.heap.size := by
      have := HnL.out
      have c := hown.cells (g := g) rfl 0 (.string ⟨(L[0]'(by omega)).toArray⟩) (by simp [strC, List.getElem?_eq_getElem (show 0 < L.length by omega)])
      have := World.block_lt_of_cell? _ _ c
      exact this
    have hW1 : W.heap.size ≤ w1.heap.size := hb1.size
    obtain ⟨V, eV⟩ : ∃ V, w1.alloc (.cells #[.slice none 0 0] 25) = V := ⟨_, rfl⟩
    have HLp : Hid (Lp w.heap.size g w1.heap.size L [] (.slice none 0 0) V) := by
      have hbv : Below w1.heap.size w1 V := eV ▸ (Below.refl _ _).alloc (Nat.le_refl _) _
      refine ⟨hP1.below hbv, fun j hj => cell_below hbv ?_, by rw [← eV]; exact alloc_here _ _, World.ownsRow_nil _ _ _ _⟩
      have c := hown.cells (g := g) rfl j (.string ⟨L[j].toArray⟩) (by simp [strC, List.getElem?_eq_getElem hj])
      rwa [Addr.add_lit, Nat.zero_add] at c
    have hBV : Below w.heap.size w V := eV ▸ hB1.alloc hB1.size _
    have hR2 : w.heap.size + 1 < w1.heap.size := by have := HZ.out; omega
    have HeV : Hid (w1.alloc (.cells #[.slice none 0 0] 25) = V) := eV
    clear hown hb1 hB1 hP1 eV HC hb0 hP0 eW hg
    go_wp2_with fail
    rw [HeV.out]
    go_loopw [6] (fun vk wr => ∃ (k : Nat) (is : List I3) (v : Value), k + 1 ≤ n ∧ vk = .int .i64 k ∧ Hid (k = is.length) ∧ Hid (parseK L 0 = prep is (parseK (L.drop k) k)) ∧ Hid (Lp w.heap.size g w1.heap.size L is v wr) ∧ Below w.heap.size w wr) (fun vk _ => n - (intOf vk).toNat)
    case atStart => exact ⟨0, [], _, by omega, rfl, rfl, (show _ = _ from (prep_nil _).symm), HLp.out, hBV⟩
    case round =>
      clear HLp hBV HeV
      obtain ⟨k, is, v, hk, rfl, Hk, HK, HLp, hB⟩ := hrel
      have hkL : k < L.length := by have := HnL.out; omega
      obtain ⟨cv, fv⟩ := HLp.out.cell
      have hlc := HLp.out.ln k hkL
      have hsm := HL2.out _ (List.getElem_mem hkL)
      obtain ⟨a, cp, hv⟩ := HLp.out.row.slice
      by_cases hlt : k + 1 < n
      · have d2 : decide ((k : Int) + 1 < (n : Int)) = true := by simp; omega
        have hkn : (k : Int) < (n : Int) := by omega
        have hne : L.drop (k + 1) ≠ [] := by
          intro e
          have h1 := congrArg List.length e
          rw [List.length_drop, HnL.out] at h1
          simp at h1
          omega
        have HD1 : Hid (∀ i, rd L[k] = some i → parseK L 0 = prep (is ++ [i]) (parseK (L.drop (k + 1)) (k + 1))) := fun i hi => by
          rw [HK.out, List.drop_eq_getElem_cons hkL, parseK_cons k hne, hi]
          exact prep_prep _ _ _
        have HD2 : Hid (rd L[k] = none → parseK L 0 = .bad 2 k) := fun hi => by
          rw [HK.out, List.drop_eq_getElem_cons hkL, parseK_cons k hne, hi]
          rfl
        clear hne
        have HR : Hid (∀ w, Calls Tryz.prog 29 #[.string ⟨L[k].toArray⟩] w fun e w' => Below w.heap.size w w' ∧ ReadP L[k] e) := fun w => by
          have := l2Read_any ⟨L[k].toArray⟩ w (by rw [bytes_size]; exact hsm)
          simpa using this
        generalize L[k] = lk at *
        obtain ⟨sk, esk⟩ : ∃ sk : ByteArray, (⟨lk.toArray⟩ : ByteArray) = sk := ⟨_, rfl⟩
        rw [esk] at HR hlc
        clear esk hsm HK
        go_wp2_with fail
        refine (HR.out _).mono ?_
        rintro e w2 ⟨hb2, ⟨i, hi2, rfl⟩ | ⟨hi2, rfl⟩⟩
        · have HK2 : Hid (parseK L 0 = prep (is ++ [i]) (parseK (L.drop (k + 1)) (k + 1))) := HD1.out i hi2
          have hB2 := hB.trans (hb2.mono hB.size)
          have hL2 := HLp.out.below hb2
          clear hi2 HD1 HD2 HLp HR cv fv hlc
          obtain ⟨op, tx, nn⟩ := i
          obtain ⟨X, eX⟩ : ∃ X, w2.alloc (.cells #[.int .i64 op, .string tx, .int .i64 nn] 47) = X := ⟨_, rfl⟩
          have hbX : Below w2.heap.size w2 X := eX ▸ (Below.refl _ _).alloc (Nat.le_refl _) _
          have hBX := hB2.trans (hbX.mono hB2.size)
          have hLX := hL2.below hbX
          have hc1 : X.cell? ⟨w2.heap.size, 0, none⟩ = some (.int .i64 op) := by rw [← eX]; simp [go_sem]
          have hc2 : X.cell? ⟨w2.heap.size, 1, none⟩ = some (.string tx) := by rw [← eX]; simp [go_sem]
          have hc3 : X.cell? ⟨w2.heap.size, 2, none⟩ = some (.int .i64 nn) := by rw [← eX]; simp [go_sem]
          obtain ⟨cv, fv⟩ := hLX.cell
          have hlX := hLX.lt
          have HLX : Hid (Lp w.heap.size g w1.heap.size L is v X) := hLX
          have hkl : is.length ≤ 1048577 := by have := Hk.out; omega
          clear hL2 hLX hb2 hbX hB2 hv
          dsimp only
          go_wp2_with (first | (at_builtin; refine wpList_append_own _ rfl _ _ 23 rfl (w1.heap.size + 1) 47 i0 (.agg #[.int .i64 0, .string ⟨#[]⟩, .int .i64 0]) 3 32 Tryz.underlying23 hi hz0 hz1 hz2 rfl (by decide) _ _ _ ?_ ((HLX.out.row : X.ownsRow (w1.heap.size + 1) 47 3 v is.length (insC is)).alloc _) ⟨X.heap.size, 0, none⟩ 1 1 [.int .i64 op, .string tx, .int .i64 nn] ?_ rfl (World.news_of_block (cs := #[.int .i64 op, .string tx, .int .i64 nn]) (t := 47) (fr := (0, 0)) (heap_newD _ _)) (fun u hu => insC_one ([⟨op, tx, nn⟩] : List I3) u hu) (by unfold maxLen; omega) (by omega) (by simp; omega) ?_; (focus (first | rfl | (simp [Act.eval]; done))); (focus (first | rfl | (simp [Act.eval]; done))); intro v8 w8 hown8 hgrow8 hnil8; obtain ⟨g8, c8, rfl⟩ := shapeN hown8 (by omega); have HO8 : Hid (RowI (w1.heap.size + 1) (.slice (some ⟨g8, 0, none⟩) (is.length + 1) c8) (is ++ [⟨op, tx, nn⟩]) w8) := (show RowI (w1.heap.size + 1) (.slice (some ⟨g8, 0, none⟩) (is.length + 1) c8) (is ++ [⟨op, tx, nn⟩]) w8 from (by unfold RowI; rw [← insC_snoc, List.length_append]; exact hown8)); have hB8 : Below (w1.heap.size + 1) X w8 := ((Below.refl _ _).alloc (by omega) _).grown hgrow8 (by simp; omega) (fun b hb => (World.ownsRow.lt (HLX.out.row : X.ownsRow (w1.heap.size + 1) 47 3 v is.length (insC is)) b hb).1); have HP8 : Hid (Lp w.heap.size g w1.heap.size L (is ++ [⟨op, tx, nn⟩]) (.slice (some ⟨g8, 0, none⟩) (is.length + 1) c8) (w8.setCell ⟨w1.heap.size, 0, none⟩ (.slice (some ⟨g8, 0, none⟩) (is.length + 1) c8))) := HLX.out.put hB8 HO8.out hR2 hgl; have cv8 : w8.cell? ⟨w1.heap.size, 0, none⟩ = some v := (hB8.cell (p := ⟨w1.heap.size, 0, none⟩) (show w1.heap.size < w1.heap.size + 1 by omega)).trans cv; have fv8 : w8.frozen? ⟨w1.heap.size, 0, none⟩ = false := Lib.frozen_of_heap ((hB8.block w1.heap.size (by omega)).trans HLX.out.pk) 0; have hBw8 : Below w.heap.size w w8 := hBX.trans (hB8.mono (by omega)); clear hown8 hgrow8 hnil8 hB8 cv fv))
          go_roundw
          case rel => exact ⟨k + 1, is ++ [(⟨op, tx, nn⟩ : I3)], _, by omega, by go_num, by show _ = _; rw [List.length_append, ← Hk.out]; rfl, HK2.out, HP8.out, hBw8.setCell (p := ⟨w1.heap.size, 0, none⟩) (show w.heap.size ≤ w1.heap.size by omega) _⟩
          case measure => simp [intOf]; omega
        · have HQ : Hid (PP = .bad 2 k) := by
            show _ = _
            rw [HP.out, HD2.out hi2]; rfl
          have hB2 := hB.trans (hb2.mono hB.size)
          have hbX : Below w2.heap.size w2 (w2.alloc (.cells #[.int .i64 0, .string ⟨#[]⟩, .int .i64 0] 47)) := (Below.refl _ _).alloc (Nat.le_refl _) _
          have hBX := hB2.trans (hbX.mono hB2.size)
          obtain ⟨c0, f0, c1, c2, f1, f2⟩ := ((HLp.out.below hb2).below hbX).pb.cells
          clear hi2 HD1 HD2 HLp HR cv fv hlc hb2 hbX hB2
          dsimp only
          go_wp2
          refine bodyPost_ret (v := .tuple #[.agg #[.slice none 0 0], .agg #[.int .i64 2, .int .i64 k]]) (by simp [results, Tryz.results11, go_sem, c0, c1, c2]) rfl ⟨below_setP hBX (Nat.le_refl _) _ _ _, _, rfl, ?_⟩
          rw [HQ.out]; exact ⟨by omega, rfl⟩
      · have hkn : n = k + 1 := by omega
        have d2 : decide ((k : Int) + 1 < (n : Int)) = false := by simp; omega
        have hn1' : (n : Int) - 1 = ((k : Nat) : Int) := by omega
        have HD : Hid (parseK L 0 = prep is (if L[k] = [] then .good [] else .bad 2 k)) := by
          show _ = _
          rw [HK.out, List.drop_eq_getElem_cons hkL, List.drop_eq_nil_of_le (by have := HnL.out; omega)]; rfl
        obtain ⟨c0, f0, c1, c2, f1, f2⟩ := HLp.out.pb.cells
        have HRow : Hid (RowI (w1.heap.size + 1) v is wr) := HLp.out.row
        have hkl : is.length = k := Hk.out.symm
        rw [hkl] at hv
        clear hkl
        obtain ⟨sk, esk⟩ : ∃ sk : ByteArray, (⟨L[k].toArray⟩ : ByteArray) = sk := ⟨_, rfl⟩
        rw [esk] at hlc
        by_cases hlast : L[k] = []
        · have esz : sk.toList.isEmpty = true := by rw [empty_iff, ← esk, bytes_size, hlast]; rfl
          have HG : Hid (parseK L 0 = .good is) := by
            show _ = _
            rw [HD.out, if_pos hlast]; simp [prep]
          have HNE : Hid (is ≠ []) := by
            intro e
            have hk0 : k = 0 := by rw [Hk.out, e]; rfl
            apply HL1.out
            have h1 : L.length = 1 := by rw [HnL.out]; omega
            subst hk0
            obtain ⟨x, rfl⟩ := List.length_eq_one_iff.1 h1
            simpa using hlast
          clear HD hlast hsm HK esk HLp
          by_cases h2 : k ≤ 200
          · have d3 : decide ((200 : Int) < (k : Int)) = false := by simp; omega
            have HQ : Hid (PP = .good is) := by
              show _ = _
              rw [HP.out, HG.out]; show (if is.length ≤ 200 then PO.good is else PO.bad 3 0) = _; rw [if_pos (by have := Hk.out; omega)]
            subst hv
            subst hkn
            clear d2 hn1'
            have d2 : decide ((k : Int) + 1 < ((k + 1 : Nat) : Int)) = false := by simp
            go_wp2
            refine bodyPost_ret (v := .tuple #[.agg #[.slice a k cp], .agg #[.int .i64 0, .int .i64 0]]) (by simp [results, Tryz.results11, go_sem, c0, c1, c2]) rfl ⟨below_setP hB (Nat.le_refl _) _ _ _, _, rfl, ?_⟩
            rw [HQ.out]
            exact ⟨_, rfl, (rowI_setP HRow.out HNE.out (by omega) _ _ _).mono (by omega), HNE.out, by have := Hk.out; omega⟩
          · have d3 : decide ((200 : Int) < (k : Int)) = true := by simp; omega
            have HQ : Hid (PP = .bad 3 0) := by
              show _ = _
              rw [HP.out, HG.out]; show (if is.length ≤ 200 then PO.good is else PO.bad 3 0) = _; rw [if_neg (by have := Hk.out; omega)]
            subst hv
            subst hkn
            clear d2 hn1'
            have d2 : decide ((k : Int) + 1 < ((k + 1 : Nat) : Int)) = false := by simp
            go_wp2
            refine bodyPost_ret (v := .tuple #[.agg #[.slice none 0 0], .agg #[.int .i64 3, .int .i64 0]]) (by simp [results, Tryz.results11, go_sem, c0, c1, c2]) rfl ⟨below_setP hB (Nat.le_refl _) _ _ _, _, rfl, ?_⟩
            rw [HQ.out]; exact ⟨by omega, rfl⟩
        · have esz : sk.toList.isEmpty = false := by
            rw [empty_iff, ← esk, bytes_size]
            simpa using fun h => hlast (List.eq_nil_of_length_eq_zero h)
          have HQ : Hid (PP = .bad 2 k) := by
            show _ = _
            rw [HP.out, HD.out, if_neg hlast]; rfl
          clear HD hlast hsm HK esk HLp
          subst hv
          subst hkn
          clear d2 hn1'
          have d2 : decide ((k : Int) + 1 < ((k + 1 : Nat) : Int)) = false := by simp
          go_wp2
          refine bodyPost_ret (v := .tuple #[.agg #[.slice none 0 0], .agg #[.int .i64 2, .int .i64 k]]) (by simp [results, Tryz.results11, go_sem, c0, c1, c2]) rfl ⟨below_setP hB (Nat.le_refl _) _ _ _, _, rfl, ?_⟩
          rw [HQ.out]; exact ⟨by omega, rfl⟩
end Go.Proofs.YtmcafdobfmheaaaGreatDoor
