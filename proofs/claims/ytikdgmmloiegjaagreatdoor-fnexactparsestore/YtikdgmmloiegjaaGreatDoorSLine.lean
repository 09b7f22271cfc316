import Derived.Test.YtikdgmmloiegjaaGreatDoorIPrint
import Derived.Deep.RegionHeld3
import Derived.Deep.AppendLies
import Derived.Test.YtikdgmmloiegjaaGreatDoorSDec
namespace Go.Proofs.YtikdgmmloiegjaaGreatDoor
open Go.RowKit
set_option linter.unusedVariables false

theorem Tryz.info5b : (Tryz.prog.info? 5).map (fun i => (i.zero, i.size, i.bytes)) = some (some (.int .u8 0), 1, 1) := by kernel_rfl

theorem grow_below {w W w' : World} {g : Nat} (h : Below w.heap.size w W) (hg : W.grownBy w' (some g)) (hgB : w.heap.size ≤ g) : Below w.heap.size w w' := h.grown hg h.size (by intro k hk; cases hk; exact hgB)

/-- An append of bytes at a step of a region, the operands by their slots. -/
theorem step_app {s x : Operand} {W : World} {ops : Array Oper} {o : Oper} {a : Act} {K : Act → World → Prop} {Q : Exit → Act → World → Prop} {E : Prop} (hgd : o.guard = none)
    (ho : o.op = .call { callee := .builtin .append, args := #[s, x], argTypes := #[62, 62] }) (B g n cap : Nat) (xs : List Value)
    (hs : a.eval s = .slice (some ⟨g, 0, none⟩) n cap) (hown : W.ownsRow B 5 1 (.slice (some ⟨g, 0, none⟩) n cap) n xs)
    (d m c : Nat) (news : List UInt8) (hx : a.eval x = .slice (some ⟨d, 0, none⟩) m c) (hl : news.length = m) (hm : 0 < m) (hm2 : m ≤ 10)
    (hc : ∀ j u, (bcells news)[j]? = some u → W.cell? ⟨d, j, none⟩ = some u) (hB : B ≤ W.heap.size) (hn : n ≤ 10000000)
    (h : ∀ g' cap' w', w'.ownsRow B 5 1 (.slice (some ⟨g', 0, none⟩) (n + m) cap') (n + m) (xs ++ bcells news) → W.grownBy w' (some g) → (g' = g ∨ W.heap.size ≤ g') → K (a.put o.dst (.slice (some ⟨g', 0, none⟩) (n + m) cap')) w') :
    if Region.wanted o (yielded ops a.tmps) = true then Oper.wp Tryz.prog o a W K Q else E := by
  obtain ⟨i0, hi, hz0, hz1, hz2⟩ := info_parts Tryz.info5b
  refine step_append_lies (w := W) hgd s x 62 ho B 5 i0 (.int .u8 0) 1 1 Tryz.underlying62 hi hz0 hz1 hz2 rfl (by decide) _ n xs hs hown ⟨d, 0, none⟩ m c (bcells news) hx (by rw [bcells_length, hl]; omega)
    (fun j u hu => by rw [Addr.add_lit, Nat.zero_add]; exact hc j u hu) (bcells_one _) hm (by unfold maxLen; omega) (by omega) hB W.heap.size rfl ?_
  intro g' cap' w' h1 h2 h3 h4
  exact h g' cap' w' h1 h2 (by rcases h3 with h3 | h3; exact Or.inl (Option.some.inj h3).symm; exact Or.inr (by omega))

theorem shape_of {w : World} {B n : Nat} {v : Value} {xs : List Value} (h : w.ownsRow B 5 1 v n xs) (hn : 0 < n) : ∃ g cap, v = .slice (some ⟨g, 0, none⟩) n cap ∧ B ≤ g ∧ w.ownsRow B 5 1 (.slice (some ⟨g, 0, none⟩) n cap) n xs := by
  rcases h.2 with ⟨_, h0⟩ | ⟨g, cap, cur, hv, hg, _⟩
  · omega
  · exact ⟨g, cap, hv, hg, by rw [← hv]; exact h⟩

theorem own_ge {w : World} {B n g cap : Nat} {xs : List Value} (h : w.ownsRow B 5 1 (.slice (some ⟨g, 0, none⟩) n cap) n xs) : B ≤ g := by
  rcases h.2 with ⟨h0, _⟩ | ⟨g', cap', cur, hv, hg, _⟩
  · simp at h0
  · simp only [Value.slice.injEq, Option.some.injEq, Addr.mk.injEq, and_true, true_and] at hv
    omega

theorem cell_new1 (w : World) (b : UInt8) (c : Int) (hb : (b.toNat : Int) = c) : ∀ j u, (bcells [b])[j]? = some u → (w.alloc (.cells #[.int .u8 c] 5)).cell? ⟨w.heap.size, j, none⟩ = some u := by
  intro j u hu
  have := cell_one_new w (.int .u8 c) 5 j u (by rw [← hb]; simpa [bcells] using hu)
  rwa [Addr.add_lit, Nat.zero_add] at this

theorem conv_row {W : World} {g n cap B : Nat} (l : List UInt8) (hn : l.length = n) (h : W.ownsRow B 5 1 (.slice (some ⟨g, 0, none⟩) n cap) n (bcells l)) : (convert 62 9 (.slice (some ⟨g, 0, none⟩) n cap)).run Tryz.prog W = .ok (.string ⟨l.toArray⟩) W := by
  subst hn
  exact run_convert_bytes_back (P := Tryz.prog) W 62 9 5 ⟨g, 0, none⟩ cap l Tryz.underlying62 Tryz.underlying5 Tryz.underlying9 (fun j hj => h.cells (g := g) rfl j _ (by simp [bcells, hj]))

theorem plain_cases (u : UInt8) : (plainB u = true ∧ decide ((32 : Int) ≤ u.toNat) = true ∧ decide ((u.toNat : Int) ≤ 126) = true ∧ ((u.toNat : Int) != 34) = true ∧ ((u.toNat : Int) != 92) = true) ∨
    (plainB u = false ∧ (decide ((32 : Int) ≤ u.toNat) = false ∨ (decide ((32 : Int) ≤ u.toNat) = true ∧ decide ((u.toNat : Int) ≤ 126) = false) ∨ (decide ((32 : Int) ≤ u.toNat) = true ∧ decide ((u.toNat : Int) ≤ 126) = true ∧ ((u.toNat : Int) != 34) = false) ∨ (decide ((32 : Int) ≤ u.toNat) = true ∧ decide ((u.toNat : Int) ≤ 126) = true ∧ ((u.toNat : Int) != 34) = true ∧ ((u.toNat : Int) != 92) = false))) := by
  unfold plainB
  generalize u.toNat = m
  by_cases h1 : 32 ≤ m <;> by_cases h2 : m ≤ 126 <;> by_cases h3 : m = 34 <;> by_cases h4 : m = 92 <;> simp [h1, h2, h3, h4] <;> omega

set_option maxRecDepth 100000 in
set_option maxHeartbeats 2000000 in
theorem l2Quote_any (s : ByteArray) (w : World) (hs : s.size ≤ 2002) :
    Calls Tryz.prog 47 #[.string s] w fun e w' => e = .returned (.string ⟨(quoteL s.data.toList).toArray⟩) ∧ Below w.heap.size w w' := by
  obtain ⟨i0, hi, hz0, hz1, hz2⟩ := info_parts Tryz.info5b
  go_enter Tryz.func47, Tryz.ntmps47
  go_wp2
  go_loopw [3, 4] (fun o i wr => ∃ k g cap' : Nat, k ≤ s.size ∧ i = .int .i64 k ∧ o = .slice (some ⟨g, 0, none⟩) (qTo s k).length cap' ∧ w.heap.size ≤ g ∧
      wr.ownsRow w.heap.size 5 1 (.slice (some ⟨g, 0, none⟩) (qTo s k).length cap') (qTo s k).length (bcells (qTo s k)) ∧ Below w.heap.size w wr) (fun _ i _ => s.size - (intOf i).toNat)
  case atStart =>
    refine ⟨0, w.heap.size, 1, Nat.zero_le _, rfl, by simp [qTo], Nat.le_refl _, ?_, (Below.refl _ _).alloc (Nat.le_refl _) _⟩
    have := World.ownsRow_lit (base := w.heap.size) (e := 5) (size := 1) w #[.int .u8 34] 1 (Nat.le_refl _) (by unfold maxLen; omega) (by simp)
    simpa [qTo, bcells] using this
  case round =>
    obtain ⟨k, g, cap', hk, rfl, rfl, hg, hown, hB⟩ := hrel
    have hql := qTo_length s k hk
    have hsz := hB.size
    by_cases hlt : k < s.size
    · have HQ : Hid (qTo s (k + 1) = qTo s k ++ qbyte s[k]) := qTo_succ s k hlt
      have hpos : 0 < (qTo s k).length := by simp [qTo]
      have hub := plain_cases s[k]
      rcases hub with ⟨hp, d1, d2, d3, d4⟩ | ⟨hp, hd⟩
      · have HP : Hid (qbyte s[k] = [s[k]]) := by show qbyte s[k] = [s[k]]; simp [qbyte, hp]
        generalize hL : qTo s k = L at *
        have HL : Hid (qTo s k = L) := hL
        clear hL hp
        go_wp2_with (first | (at_builtin; refine wpList_append_own _ rfl (.tmp 34) (.tmp 38) 62 rfl w.heap.size 5 i0 (.int .u8 0) 1 1 Tryz.underlying62 hi hz0 hz1 hz2 rfl (by decide) _ _ _ rfl (hown.alloc _) ⟨wr.heap.size, 0, none⟩ 1 1 [.int .u8 s[k].toNat] rfl rfl (cell_one_new _ _ _) (by intro u hu; simp at hu; subst hu; rfl) (by unfold maxLen; omega) (by omega) (by simp; omega) ?_; intro v' w1 hown' hgrow hnil; obtain ⟨g', cap2, hv', hg', hown2⟩ := shape_of hown' (by omega); have hB1 := grow_below (hB.alloc hsz _) hgrow hg; clear hown' hnil; rw [hv']; clear hv'))
        go_roundw
        case rel =>
          refine ⟨k + 1, g', cap2, by omega, by go_num, ?_, hg', ?_, hB1⟩
          · rw [HQ.out, HP.out]; simp
          · rw [HQ.out, HP.out]; simpa [bcells] using hown2
        case measure => simp [intOf]; omega
      · have HP : Hid (qbyte s[k] = [92, hexd (s[k].toNat / 16), hexd (s[k].toNat % 16)]) := by show qbyte s[k] = _; simp [qbyte, hp]
        generalize hL : qTo s k = L at *
        clear hL hp
        rcases hd with hd | ⟨hd, hd2⟩ | ⟨hd, hd2, hd3⟩ | ⟨hd, hd2, hd3, hd4⟩
        all_goals
          go_wp2_with fail
          go_region_held3 (fun _ => True) (trivial) (first | (go_at_call 63; refine (l2Hex_any s[k] _).mono ?_; rintro e w3 ⟨hb3, g3, cap3, hg3, rfl, hown3⟩) | (refine step_app rfl rfl w.heap.size g L.length cap' (bcells L) ?_ (hown.alloc _) wr.heap.size 1 1 [92] ?_ rfl (Nat.le_refl _) ?_ (cell_new1 _ 92 92 rfl) ?_ ?_ ?_; (focus (simp [Act.eval]; done)); (focus (simp [Act.eval]; done)); (focus decide); (focus (simp; omega)); (focus omega); intro g1 cap1 w2 hown1 hgrow1 hor1) | (refine step_app rfl rfl w.heap.size g1 (L.length + 1) cap1 (bcells L ++ bcells [92]) ?_ (ownsRow_below hown1 hb3) g3 2 cap3 [hexd (s[k].toNat / 16), hexd (s[k].toNat % 16)] ?_ rfl ?_ ?_ ?_ ?_ ?_ ?_; (focus (simp [Act.eval]; done)); (focus (simp [Act.eval]; done)); (focus decide); (focus decide); (focus (intro j u hu; have := hown3.cells (g := g3) rfl j u hu; rwa [Addr.add_lit, Nat.zero_add] at this)); (focus (have := hb3.size; have := hgrow1.size; simp at *; omega)); (focus omega); intro g4 cap4 w4 hown4 hgrow4 hor4))
          all_goals
            go_wp2
            go_roundw
            case rel =>
              refine ⟨k + 1, g4, cap4, by omega, by go_num, ?_, own_ge hown4, ?_, ?_⟩
              · rw [HQ.out, HP.out]; simp
              · rw [HQ.out, HP.out]; simpa [bcells] using hown4
              · have hB2 := grow_below (W := (wr.alloc (.cells #[.int .u8 92] 5)).drew) (hB.alloc hsz _).drew hgrow1 hg
                exact grow_below (hB2.trans (hb3.mono hB2.size)) hgrow4 (own_ge hown1)
            case measure => simp [intOf]; omega
    · have ek : k = s.size := by omega
      have HE : Hid (qTo s k ++ [34] = quoteL s.data.toList) := by show qTo s k ++ [34] = _; rw [ek]; exact qTo_end s
      generalize hL : qTo s k = L at *
      clear ek hL
      go_wp2_with (first | (at_builtin; refine wpList_append_own _ rfl (.tmp 48) (.tmp 49) 62 rfl w.heap.size 5 i0 (.int .u8 0) 1 1 Tryz.underlying62 hi hz0 hz1 hz2 rfl (by decide) _ _ _ rfl (hown.alloc _) ⟨wr.heap.size, 0, none⟩ 1 1 [.int .u8 34] rfl rfl (cell_one_new _ _ _) (by intro u hu; simp at hu; subst hu; rfl) (by unfold maxLen; omega) (by omega) (by simp; omega) ?_; intro v' w1 hown' hgrow hnil; obtain ⟨g', cap2, hv', hg', hown2⟩ := shape_of hown' (by omega); have hB1 := grow_below (hB.alloc hsz _) hgrow hg; have hcv := conv_row (W := w1) (g := g') (n := L.length + 1) (cap := cap2) (B := w.heap.size) (L ++ [34]) (by simp) (by simpa [bcells] using hown2); clear hown' hnil; rw [hv']; clear hv'))
      go_ret
      refine ⟨?_, hB1⟩
      rw [HE.out]
      rfl

end Go.Proofs.YtikdgmmloiegjaaGreatDoor
namespace Go.Proofs.YtikdgmmloiegjaaGreatDoor
open Go.RowKit
set_option linter.unusedVariables false

set_option maxHeartbeats 1000000 in
theorem l2Line_in (o : Nat) (t : ByteArray) (n : Int) (w : World) (h1 : 1 ≤ o) (h2 : o ≤ 15) (hok : insOk ⟨o, t, n⟩ = true) :
    Calls Tryz.prog 42 #[.agg #[.int .i64 o, .string t, .int .i64 n]] w fun e w' => e = .returned (.string ⟨(lineL ⟨o, t, n⟩).toArray⟩) ∧ Below w.heap.size w w' := by
  rw [insOk_in o t n h1 h2] at hok
  simp only [Bool.and_eq_true, decide_eq_true_eq] at hok
  obtain ⟨⟨ht, hn0⟩, hn1⟩ := hok
  have hws := word_size o
  have hb0 : Below w.heap.size w (w.alloc (.cells #[.int .i64 o, .string t, .int .i64 n] 56)) := (Below.refl _ _).alloc (Nat.le_refl _) _
  have HW : Hid (∀ w, Calls Tryz.prog 40 #[.int .i64 o] w fun e w' => e = .returned (.tuple #[.string (wordB o), .int .i64 (kindOf o)]) ∧ w = w') := fun w => l2Word_in o w h1 h2
  rcases kind_cases o with hk | hk | hk | hk
  · have HL : Hid (wordB o = ⟨(lineL ⟨o, t, n⟩).toArray⟩) := line_bare o t n hk
    rw [hk] at HW
    clear hk ht hn1
    generalize wordB o = wd at *
    go_enter Tryz.func42, Tryz.ntmps42
    go_wp2_with (first | (go_at_call 40; refine ((HW.out) _).mono ?_; rintro e w' ⟨rfl, rfl⟩))
    go_ret
    exact ⟨by rw [← HL.out]; rfl, hb0⟩
  · have HL : Hid (wordB o ++ (⟨#[32]⟩ : ByteArray) ++ (⟨(quoteL t.data.toList).toArray⟩ : ByteArray) = ⟨(lineL ⟨o, t, n⟩).toArray⟩) := line_text o t n hk
    have ht' : t.size ≤ 2000 := by rw [hk] at ht; simp [mostT] at ht; omega
    rw [hk] at HW
    clear hk ht hn1
    have hq := quoteL_length t.data.toList
    have he : t.data.toList.length = t.size := Array.length_toList
    have hqs : (⟨(quoteL t.data.toList).toArray⟩ : ByteArray).size ≤ 6002 := by
      show (quoteL t.data.toList).toArray.size ≤ 6002
      rw [List.size_toArray]; omega
    have HQ : Hid (∀ w, Calls Tryz.prog 47 #[.string t] w fun e w' => e = .returned (.string ⟨(quoteL t.data.toList).toArray⟩) ∧ Below w.heap.size w w') := fun w => l2Quote_any t w (Nat.le_trans ht' (by decide))
    generalize (⟨(quoteL t.data.toList).toArray⟩ : ByteArray) = q at *
    generalize wordB o = wd at *
    clear hq he
    go_enter Tryz.func42, Tryz.ntmps42
    go_wp2_with (first | (go_at_call 40; refine ((HW.out) _).mono ?_; rintro e w' ⟨rfl, rfl⟩) | (go_at_call 47; refine ((HQ.out) _).mono ?_; rintro e w1 ⟨rfl, hb1⟩))
    go_ret
    exact ⟨by rw [← HL.out]; rfl, hb0.trans (hb1.mono hb0.size)⟩
  all_goals
    have HL : Hid (wordB o ++ (⟨#[32]⟩ : ByteArray) ++ (⟨(Lib.decDigits n.toNat).toArray⟩ : ByteArray) = ⟨(lineL ⟨o, t, n⟩).toArray⟩) := line_num o t n (by first | exact Or.inl hk | exact Or.inr hk)
    have hn' : n ≤ 2000 := by rw [hk] at hn1; simp [mostN] at hn1; omega
    have hd := dec_length 3 n.toNat (by omega)
    have hqs : (⟨(Lib.decDigits n.toNat).toArray⟩ : ByteArray).size ≤ 6002 := by
      show (Lib.decDigits n.toNat).toArray.size ≤ 6002
      rw [List.size_toArray]; omega
    have HQ : Hid (∀ w, Calls Tryz.prog 46 #[.int .i64 n] w fun e w' => e = .returned (.string ⟨(Lib.decDigits n.toNat).toArray⟩) ∧ Below w.heap.size w w') := fun w => by
      have := l2Dec_any n.toNat w (by omega)
      rwa [Int.toNat_of_nonneg hn0] at this
    rw [hk] at HW
    clear hk ht hn1 hd
    generalize (⟨(Lib.decDigits n.toNat).toArray⟩ : ByteArray) = q at *
    generalize wordB o = wd at *
    go_enter Tryz.func42, Tryz.ntmps42
    go_wp2_with (first | (go_at_call 40; refine ((HW.out) _).mono ?_; rintro e w' ⟨rfl, rfl⟩) | (go_at_call 46; refine ((HQ.out) _).mono ?_; rintro e w1 ⟨rfl, hb1⟩))
    go_ret
    exact ⟨by rw [← HL.out]; rfl, hb0.trans (hb1.mono hb0.size)⟩

theorem l2Line_any (i : I3) (w : World) (hok : insOk i = true) :
    Calls Tryz.prog 42 #[.agg #[.int .i64 i.op, .string i.text, .int .i64 i.n]] w fun e w' => e = .returned (.string ⟨(lineL i).toArray⟩) ∧ Below w.heap.size w w' := by
  obtain ⟨op, t, n⟩ := i
  have h : 1 ≤ op ∧ op ≤ 15 := by
    simp only [insOk, Bool.and_eq_true, decide_eq_true_eq] at hok
    exact ⟨hok.1.1.1.1, hok.1.1.1.2⟩
  obtain ⟨o, rfl⟩ := Int.eq_ofNat_of_zero_le (show 0 ≤ op by omega)
  exact l2Line_in o t n w (by omega) (by omega) hok

end Go.Proofs.YtikdgmmloiegjaaGreatDoor
