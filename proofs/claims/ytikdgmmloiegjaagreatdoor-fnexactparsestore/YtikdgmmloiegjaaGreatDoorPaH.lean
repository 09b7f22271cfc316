import Derived.Test.YtikdgmmloiegjaaGreatDoorPaG
namespace Go.Proofs.YtikdgmmloiegjaaGreatDoor
open Go.RowKit
set_option linter.unusedVariables false

/-- What a line is read as, loosely, for one instruction. -/
def looseI (o : Nat) (l : List UInt8) : I3 :=
  if kindOf o = 0 ∨ l.length ≤ (wordB o).size then ⟨o, ⟨#[]⟩, 0⟩
  else if kindOf o = 1 then ⟨o, ⟨(looseF ((l.drop ((wordB o).size + 1)).drop 1)).toArray⟩, 0⟩
  else ⟨o, ⟨#[]⟩, numL (l.drop ((wordB o).size + 1))⟩
theorem loose_line {i : I3} {o : Nat} {l : List UInt8} (h : insOk i = true) (ho : i.op = o) (hl : lineL i = l) : looseI o l = i := by
  obtain ⟨a0, a1, a2⟩ := loose_opnd h
  unfold looseI
  by_cases k0 : kindOf o = 0
  · rw [if_pos (Or.inl k0)]
    have := a0 (by rw [ho]; exact k0)
    rw [this, ho]
  · have hw : (wordB i.op.toNat) = wordB o := by rw [ho]; rfl
    have e : l = (wordB o).data.toList ++ 32 :: opnd i := by
      rw [← hl]; unfold lineL opnd; rw [hw, ho]
      by_cases k1 : kindOf o = 1
      · simp [k1]
      · simp [k0, k1]
    have hlen : l.length = (wordB o).size + 1 + (opnd i).length := by
      rw [e, List.length_append, toList_len, List.length_cons]; omega
    have hd : l.drop ((wordB o).size + 1) = opnd i := by
      rw [e, ← toList_len, List.drop_append]; simp
    rw [if_neg (by omega), hd]
    rcases kind_cases o with k | k | k | k
    · exact absurd k k0
    · rw [if_pos k]
      have := a1 (by rw [ho]; exact k)
      rw [ho] at this; exact this.symm
    · rw [if_neg (by rw [k]; decide)]
      have := a2 (Or.inl (by rw [ho]; exact k))
      rw [ho] at this; exact this.symm
    · rw [if_neg (by rw [k]; decide)]
      have := a2 (Or.inr (by rw [ho]; exact k))
      rw [ho] at this; exact this.symm
theorem loose_len (m : List UInt8) : (looseF m).length ≤ m.length := by
  induction hn : m.length using Nat.strongRecOn generalizing m with
  | _ n ih =>
    subst hn
    match m with
    | [] => simp [looseF]
    | [_] => simp [looseF]
    | u :: x :: r =>
      rw [looseF.eq_def]
      by_cases h92 : u = 92
      · simp only [h92, if_true]
        match r with
        | [] => simp [looseF]
        | [y] =>
          have := ih [x, y].length (by simp) [x, y] rfl
          simp at this ⊢; omega
        | y :: c :: r' =>
          simp only
          split
          · have := ih (c :: r').length (by simp) (c :: r') rfl
            simp at this ⊢; omega
          · have := ih (x :: y :: c :: r').length (by simp) (x :: y :: c :: r') rfl
            simp at this ⊢; omega
      · simp only [if_neg h92]
        have := ih (x :: r).length (by simp) (x :: r) rfl
        simp at this ⊢; omega
theorem frozen_below {w w' : World} {b j : Nat} (h : Below w.heap.size w w') (hb : b < w.heap.size) : w'.frozen? ⟨b, j, none⟩ = w.frozen? ⟨b, j, none⟩ := by
  unfold World.frozen?
  have := h.block b hb
  simp only [this]
/-- What l2Read gives. -/
def ReadP (l : List UInt8) (e : Ending) : Prop := (∃ i, rd l = some i ∧ e = .returned (.tuple #[.agg #[.int .i64 i.op, .string i.text, .int .i64 i.n], .bool true])) ∨ (rd l = none ∧ e = .returned (.tuple #[.agg #[.int .i64 0, .string ⟨#[]⟩, .int .i64 0], .bool false]))

set_option maxRecDepth 100000 in
set_option maxHeartbeats 4000000 in
theorem l2Read_any (s : ByteArray) (w : World) (hs : s.size ≤ 1048576) :
    Calls Tryz.prog 25 #[.string s] w fun e w' => Below w.heap.size w w' ∧ ReadP s.data.toList e := by
  have hb0 : Below w.heap.size w (w.alloc (.cells #[.int .i64 0, .string ⟨#[]⟩, .int .i64 0] 56)) := (Below.refl _ _).alloc (Nat.le_refl _) _
  have hK0 : Blk w.heap.size (w.alloc (.cells #[.int .i64 0, .string ⟨#[]⟩, .int .i64 0] 56)) := ⟨alloc_here _ _⟩
  go_enter Tryz.func25, Tryz.ntmps25
  go_wp2
  go_loopw [4] (fun vk wr => ∃ (k : Nat), 1 ≤ k ∧ k ≤ 16 ∧ vk = .int .i64 k ∧ Hid (∀ (i : I3) (o : Nat), insOk i = true → i.op = o → o < k → lineL i ≠ s.data.toList) ∧ Below w.heap.size w wr ∧ Hid (Blk w.heap.size wr)) (fun vk _ => 16 - (intOf vk).toNat)
  case atStart => exact ⟨1, by omega, by omega, rfl, (fun i o h ho hlt => by have := ok_op h; obtain ⟨q, hq, _⟩ := this; omega), hb0, hK0⟩
  case round =>
    clear hb0 hK0
    obtain ⟨k, hk1, hk2, rfl, HN, hB, HK⟩ := hrel
    have hsz := hB.size
    by_cases hlt : k ≤ 15
    · have HW : Hid (∀ w, Calls Tryz.prog 40 #[.int .i64 k] w fun e w' => e = .returned (.tuple #[.string (wordB k), .int .i64 (kindOf k)]) ∧ w = w') := fun w => l2Word_in k w hk1 hlt
      have hws := word_size k
      have HLO : Hid (∀ i : I3, insOk i = true → i.op = k → lineL i = s.data.toList → looseI k s.data.toList = i) := fun i h ho hl => loose_line h ho hl
      obtain ⟨W, eW⟩ : ∃ W, wr.alloc (.cells #[.int .i64 k, .string ⟨#[]⟩, .int .i64 0] 56) = W := ⟨_, rfl⟩
      have hBW : Below w.heap.size w W := eW ▸ hB.alloc hsz _
      have hKW : Blk w.heap.size W := eW ▸ HK.out.below ((Below.refl _ _).alloc (Nat.le_refl _) _)
      have b0 : W.cell? ⟨wr.heap.size, 0, none⟩ = some (.int .i64 k) := by rw [← eW]; simp [go_sem]
      have b1 : W.cell? ⟨wr.heap.size, 1, none⟩ = some (.string ⟨#[]⟩) := by rw [← eW]; simp [go_sem]
      have b2 : W.cell? ⟨wr.heap.size, 2, none⟩ = some (.int .i64 0) := by rw [← eW]; simp [go_sem]
      have g1 : W.frozen? ⟨wr.heap.size, 1, none⟩ = false := by rw [← eW]; simp [go_sem]
      have g2 : W.frozen? ⟨wr.heap.size, 2, none⟩ = false := by rw [← eW]; simp [go_sem]
      have hKr : w.heap.size < wr.heap.size := HK.out.lt
      have hwrW : wr.heap.size < W.heap.size := World.block_lt_of_cell? _ _ b0
      have HeW : Hid (wr.alloc (.cells #[.int .i64 k, .string ⟨#[]⟩, .int .i64 0] 56) = W) := eW
      clear hB HK eW
      rcases kind_cases k with hk | hk | hk | hk
      · rw [hk] at HW
        have HLI : Hid (∀ i : I3, insOk i = true → i.op = k → lineL i = s.data.toList → (⟨(k : Int), ⟨#[]⟩, 0⟩ : I3) = i) := fun i h ho hl => by
          rw [← HLO.out i h ho hl]; unfold looseI; rw [if_pos (Or.inl hk)]
        have hts : (⟨#[]⟩ : ByteArray).size ≤ 9223372036854775807 := by show 0 ≤ _; omega
        have hBU := hBW
        have hKU := hKW
        have c0 := b0
        have c1 := b1
        have c2 := b2
        clear b0 b1 b2 hBW hKW HLO g1 g2
        generalize wordB k = wd at *
        clear hk
        go_wp2_with fail
        refine (HW.out _).mono ?_
        rintro e w' ⟨rfl, rfl⟩
        clear HW
        have HI := fun w => l2InsOk_any (⟨(k : Int), ⟨#[]⟩, 0⟩ : I3) w hts
        by_cases hok : insOk (⟨(k : Int), ⟨#[]⟩, 0⟩ : I3) = true
        · have HI : Hid (∀ w, Calls Tryz.prog 41 #[.agg #[.int .i64 k, .string ⟨#[]⟩, .int .i64 0]] w fun e w' => Below w.heap.size w w' ∧ e = .returned (.bool true)) := fun w => hok ▸ HI w
          have HLn : Hid (∀ w, Calls Tryz.prog 42 #[.agg #[.int .i64 k, .string ⟨#[]⟩, .int .i64 0]] w fun e w' => e = .returned (.string ⟨(lineL (⟨(k : Int), ⟨#[]⟩, 0⟩ : I3)).toArray⟩) ∧ Below w.heap.size w w') := fun w => l2Line_any (⟨(k : Int), ⟨#[]⟩, 0⟩ : I3) w hok
          have hll := lineL_length hok
          obtain ⟨q, HQ⟩ : ∃ q : ByteArray, Hid (q = ⟨(lineL (⟨(k : Int), ⟨#[]⟩, 0⟩ : I3)).toArray⟩) := ⟨_, rfl⟩
          rw [← HQ.out] at HLn
          have HOK : Hid (insOk (⟨(k : Int), ⟨#[]⟩, 0⟩ : I3) = true) := hok
          clear hok hll
          go_wp2_with fail
          try rw [HeW.out]
          refine (HI.out _).mono ?_
          rintro e w2 ⟨hb2, rfl⟩
          have hB2 := hBU.trans (hb2.mono hBU.size)
          have HK2 : Hid (Blk w.heap.size w2) := hKU.below hb2
          replace c0 := cell_below hb2 c0
          replace c1 := cell_below hb2 c1
          replace c2 := cell_below hb2 c2
          clear hb2 hBU hKU HI
          go_wp2_with fail
          refine (HLn.out _).mono ?_
          rintro e w3 ⟨rfl, hb3⟩
          have hB3 := hB2.trans (hb3.mono hB2.size)
          have HK3 : Hid (Blk w.heap.size w3) := HK2.out.below hb3
          replace c0 := cell_below hb3 c0
          replace c1 := cell_below hb3 c1
          replace c2 := cell_below hb3 c2
          clear hb3 hB2 HK2 HLn
          by_cases hq : q = s
          · have HR : Hid (rd s.data.toList = some (⟨(k : Int), ⟨#[]⟩, 0⟩ : I3)) := rd_some HOK.out (by rw [← hq, HQ.out])
            have e1 : (q.toList == s.toList) = true := str_eq hq
            obtain ⟨r0, r1, r2, f0, f1, f2⟩ := HK3.out.cells
            clear hq HQ HN
            go_wp2
            exact bodyPost_ret (v := .tuple #[.agg #[.int .i64 k, .string ⟨#[]⟩, .int .i64 0], .bool true]) (by simp [results, Tryz.results25, go_sem, r0, r1, r2]) rfl ⟨below_set3 hB3 (Nat.le_refl _) _ _ _, Or.inl ⟨_, HR.out, rfl⟩⟩
          · have HN2 : Hid (∀ (i : I3) (o : Nat), insOk i = true → i.op = o → o < k + 1 → lineL i ≠ s.data.toList) := fun i o h ho hlt2 hl => by
              rcases Nat.lt_or_ge o k with h' | h'
              · exact HN.out i o h ho h' hl
              · obtain rfl : o = k := by omega
                have := HLI.out i h ho hl
                exact hq (by rw [HQ.out, this]; exact bytes_of_list (by simpa using hl))
            have e1 : (q.toList == s.toList) = false := str_ne hq
            clear hq HQ HN
            go_wp2
            go_roundw
            case rel => exact ⟨k + 1, by omega, by omega, by go_num, HN2.out, hB3, HK3.out⟩
            case measure => simp [intOf]; omega
        · have hok' : insOk (⟨(k : Int), ⟨#[]⟩, 0⟩ : I3) = false := by simpa using hok
          have HI : Hid (∀ w, Calls Tryz.prog 41 #[.agg #[.int .i64 k, .string ⟨#[]⟩, .int .i64 0]] w fun e w' => Below w.heap.size w w' ∧ e = .returned (.bool false)) := fun w => hok' ▸ HI w
          have HN2 : Hid (∀ (i : I3) (o : Nat), insOk i = true → i.op = o → o < k + 1 → lineL i ≠ s.data.toList) := fun i o h ho hlt2 hl => by
            rcases Nat.lt_or_ge o k with h' | h'
            · exact HN.out i o h ho h' hl
            · obtain rfl : o = k := by omega
              have := HLI.out i h ho hl
              rw [this] at hok; exact hok h
          clear hok hok' HN
          go_wp2_with fail
          try rw [HeW.out]
          refine (HI.out _).mono ?_
          rintro e w2 ⟨hb2, rfl⟩
          have hB2 := hBU.trans (hb2.mono hBU.size)
          have HK2 : Hid (Blk w.heap.size w2) := hKU.below hb2
          clear hb2 hBU hKU HI
          go_wp2
          go_roundw
          case rel => exact ⟨k + 1, by omega, by omega, by go_num, HN2.out, hB2, HK2.out⟩
          case measure => simp [intOf]; omega
      · rw [hk] at HW
        by_cases hlen : s.size ≤ (wordB k).size
        · have d1 : decide ((wordB k).size < s.size) = false := by simp; omega
          have HLI : Hid (∀ i : I3, insOk i = true → i.op = k → lineL i = s.data.toList → (⟨(k : Int), ⟨#[]⟩, 0⟩ : I3) = i) := fun i h ho hl => by
            rw [← HLO.out i h ho hl]; unfold looseI; rw [if_pos (Or.inr (by rw [toList_len]; exact hlen))]
          have hts : (⟨#[]⟩ : ByteArray).size ≤ 9223372036854775807 := by show 0 ≤ _; omega
          have hBU := hBW
          have hKU := hKW
          have c0 := b0
          have c1 := b1
          have c2 := b2
          clear b0 b1 b2 hBW hKW HLO g1 g2
          generalize wordB k = wd at *
          clear hk hlen
          go_wp2_with fail
          refine (HW.out _).mono ?_
          rintro e w' ⟨rfl, rfl⟩
          clear HW
          have HI := fun w => l2InsOk_any (⟨(k : Int), ⟨#[]⟩, 0⟩ : I3) w hts
          by_cases hok : insOk (⟨(k : Int), ⟨#[]⟩, 0⟩ : I3) = true
          · have HI : Hid (∀ w, Calls Tryz.prog 41 #[.agg #[.int .i64 k, .string ⟨#[]⟩, .int .i64 0]] w fun e w' => Below w.heap.size w w' ∧ e = .returned (.bool true)) := fun w => hok ▸ HI w
            have HLn : Hid (∀ w, Calls Tryz.prog 42 #[.agg #[.int .i64 k, .string ⟨#[]⟩, .int .i64 0]] w fun e w' => e = .returned (.string ⟨(lineL (⟨(k : Int), ⟨#[]⟩, 0⟩ : I3)).toArray⟩) ∧ Below w.heap.size w w') := fun w => l2Line_any (⟨(k : Int), ⟨#[]⟩, 0⟩ : I3) w hok
            have hll := lineL_length hok
            obtain ⟨q, HQ⟩ : ∃ q : ByteArray, Hid (q = ⟨(lineL (⟨(k : Int), ⟨#[]⟩, 0⟩ : I3)).toArray⟩) := ⟨_, rfl⟩
            rw [← HQ.out] at HLn
            have HOK : Hid (insOk (⟨(k : Int), ⟨#[]⟩, 0⟩ : I3) = true) := hok
            clear hok hll
            go_wp2_with fail
            try rw [HeW.out]
            refine (HI.out _).mono ?_
            rintro e w2 ⟨hb2, rfl⟩
            have hB2 := hBU.trans (hb2.mono hBU.size)
            have HK2 : Hid (Blk w.heap.size w2) := hKU.below hb2
            replace c0 := cell_below hb2 c0
            replace c1 := cell_below hb2 c1
            replace c2 := cell_below hb2 c2
            clear hb2 hBU hKU HI
            go_wp2_with fail
            refine (HLn.out _).mono ?_
            rintro e w3 ⟨rfl, hb3⟩
            have hB3 := hB2.trans (hb3.mono hB2.size)
            have HK3 : Hid (Blk w.heap.size w3) := HK2.out.below hb3
            replace c0 := cell_below hb3 c0
            replace c1 := cell_below hb3 c1
            replace c2 := cell_below hb3 c2
            clear hb3 hB2 HK2 HLn
            by_cases hq : q = s
            · have HR : Hid (rd s.data.toList = some (⟨(k : Int), ⟨#[]⟩, 0⟩ : I3)) := rd_some HOK.out (by rw [← hq, HQ.out])
              have e1 : (q.toList == s.toList) = true := str_eq hq
              obtain ⟨r0, r1, r2, f0, f1, f2⟩ := HK3.out.cells
              clear hq HQ HN
              go_wp2
              exact bodyPost_ret (v := .tuple #[.agg #[.int .i64 k, .string ⟨#[]⟩, .int .i64 0], .bool true]) (by simp [results, Tryz.results25, go_sem, r0, r1, r2]) rfl ⟨below_set3 hB3 (Nat.le_refl _) _ _ _, Or.inl ⟨_, HR.out, rfl⟩⟩
            · have HN2 : Hid (∀ (i : I3) (o : Nat), insOk i = true → i.op = o → o < k + 1 → lineL i ≠ s.data.toList) := fun i o h ho hlt2 hl => by
                rcases Nat.lt_or_ge o k with h' | h'
                · exact HN.out i o h ho h' hl
                · obtain rfl : o = k := by omega
                  have := HLI.out i h ho hl
                  exact hq (by rw [HQ.out, this]; exact bytes_of_list (by simpa using hl))
              have e1 : (q.toList == s.toList) = false := str_ne hq
              clear hq HQ HN
              go_wp2
              go_roundw
              case rel => exact ⟨k + 1, by omega, by omega, by go_num, HN2.out, hB3, HK3.out⟩
              case measure => simp [intOf]; omega
          · have hok' : insOk (⟨(k : Int), ⟨#[]⟩, 0⟩ : I3) = false := by simpa using hok
            have HI : Hid (∀ w, Calls Tryz.prog 41 #[.agg #[.int .i64 k, .string ⟨#[]⟩, .int .i64 0]] w fun e w' => Below w.heap.size w w' ∧ e = .returned (.bool false)) := fun w => hok' ▸ HI w
            have HN2 : Hid (∀ (i : I3) (o : Nat), insOk i = true → i.op = o → o < k + 1 → lineL i ≠ s.data.toList) := fun i o h ho hlt2 hl => by
              rcases Nat.lt_or_ge o k with h' | h'
              · exact HN.out i o h ho h' hl
              · obtain rfl : o = k := by omega
                have := HLI.out i h ho hl
                rw [this] at hok; exact hok h
            clear hok hok' HN
            go_wp2_with fail
            try rw [HeW.out]
            refine (HI.out _).mono ?_
            rintro e w2 ⟨hb2, rfl⟩
            have hB2 := hBU.trans (hb2.mono hBU.size)
            have HK2 : Hid (Blk w.heap.size w2) := hKU.below hb2
            clear hb2 hBU hKU HI
            go_wp2
            go_roundw
            case rel => exact ⟨k + 1, by omega, by omega, by go_num, HN2.out, hB2, HK2.out⟩
            case measure => simp [intOf]; omega
        · have d1 : decide ((wordB k).size < s.size) = true := by simp; omega
          have hrl : (s.extract ((wordB k).size + 1) s.size).data.toList = s.data.toList.drop ((wordB k).size + 1) := by rw [ext_list, List.take_of_length_le (by rw [toList_len]; omega)]
          have hrs : (s.extract ((wordB k).size + 1) s.size).size ≤ 1048576 := by rw [ext_size]; omega
          have HLI : Hid (∀ i : I3, insOk i = true → i.op = k → lineL i = s.data.toList → (⟨(k : Int), ⟨(looseF ((s.extract ((wordB k).size + 1) s.size).data.toList.drop 1)).toArray⟩, 0⟩ : I3) = i) := fun i h ho hl => by
            rw [← HLO.out i h ho hl]; unfold looseI; rw [if_neg (by rw [hk, toList_len]; omega), if_pos hk, hrl]
          have HC : Hid (Calls Tryz.prog 23 #[.string (s.extract ((wordB k).size + 1) s.size)] W fun e w' => e = .returned (.string ⟨(looseF ((s.extract ((wordB k).size + 1) s.size).data.toList.drop 1)).toArray⟩) ∧ Below W.heap.size W w') := l2Unquote_any _ W hrs
          obtain ⟨t, et⟩ : ∃ t : ByteArray, (⟨(looseF ((s.extract ((wordB k).size + 1) s.size).data.toList.drop 1)).toArray⟩ : ByteArray) = t := ⟨_, rfl⟩
          have hts : t.size ≤ 9223372036854775807 := by
            rw [← et, bytes_size]
            have h1 := loose_len ((s.extract ((wordB k).size + 1) s.size).data.toList.drop 1)
            rw [List.length_drop, toList_len] at h1
            omega
          have hi1 : ((wordB k).size : Int) + 1 ≤ (s.size : Int) := by omega
          have hi0 : (0 : Int) ≤ ((wordB k).size : Int) + 1 := by omega
          rw [et] at HC HLI
          clear et hrl hrs HLO hk hlen
          generalize wordB k = wd at *
          go_wp2_with fail
          refine (HW.out _).mono ?_
          rintro e w' ⟨rfl, rfl⟩
          go_wp2_with fail
          rw [HeW.out]
          refine HC.out.mono ?_
          rintro e w1 ⟨rfl, hb1⟩
          have hB1 := hBW.trans (hb1.mono hBW.size)
          have hK1 := hKW.below hb1
          have a0 := cell_below hb1 b0
          have a1 := cell_below hb1 b1
          have a2 := cell_below hb1 b2
          have ag : w1.frozen? ⟨wr.heap.size, 1, none⟩ = false := by rw [frozen_below hb1 hwrW]; exact g1
          obtain ⟨U, eU⟩ : ∃ U, w1.setCell ⟨wr.heap.size, 1, none⟩ (.string t) = U := ⟨_, rfl⟩
          have hBU : Below w.heap.size w U := eU ▸ hB1.setCell (p := ⟨wr.heap.size, 1, none⟩) hsz _
          have hKU : Blk w.heap.size U := ⟨by rw [← eU, Below.heap_setCell _ ⟨wr.heap.size, 1, none⟩ _ _ (Nat.ne_of_lt hKr)]; exact hK1.at_⟩
          have c0 : U.cell? ⟨wr.heap.size, 0, none⟩ = some (.int .i64 k) := by rw [← eU]; simp [go_sem, a0]
          have c1 : U.cell? ⟨wr.heap.size, 1, none⟩ = some (.string t) := by rw [← eU]; simp [go_sem, a1]
          have c2 : U.cell? ⟨wr.heap.size, 2, none⟩ = some (.int .i64 0) := by rw [← eU]; simp [go_sem, a2]
          clear hb1 hB1 hK1 b0 b1 b2 g1 g2 hBW hKW HC HW
          have Tk : Hid True := trivial
          have HI := fun w => l2InsOk_any (⟨(k : Int), t, 0⟩ : I3) w hts
          by_cases hok : insOk (⟨(k : Int), t, 0⟩ : I3) = true
          · have HI : Hid (∀ w, Calls Tryz.prog 41 #[.agg #[.int .i64 k, .string t, .int .i64 0]] w fun e w' => Below w.heap.size w w' ∧ e = .returned (.bool true)) := fun w => hok ▸ HI w
            have HLn : Hid (∀ w, Calls Tryz.prog 42 #[.agg #[.int .i64 k, .string t, .int .i64 0]] w fun e w' => e = .returned (.string ⟨(lineL (⟨(k : Int), t, 0⟩ : I3)).toArray⟩) ∧ Below w.heap.size w w') := fun w => l2Line_any (⟨(k : Int), t, 0⟩ : I3) w hok
            have hll := lineL_length hok
            obtain ⟨q, HQ⟩ : ∃ q : ByteArray, Hid (q = ⟨(lineL (⟨(k : Int), t, 0⟩ : I3)).toArray⟩) := ⟨_, rfl⟩
            rw [← HQ.out] at HLn
            have HOK : Hid (insOk (⟨(k : Int), t, 0⟩ : I3) = true) := hok
            clear hok hll
            go_wp2_with fail
            try rw [HeW.out]
            refine (HI.out _).mono ?_
            rintro e w2 ⟨hb2, rfl⟩
            have hB2 := hBU.trans (hb2.mono hBU.size)
            have HK2 : Hid (Blk w.heap.size w2) := hKU.below hb2
            replace c0 := cell_below hb2 c0
            replace c1 := cell_below hb2 c1
            replace c2 := cell_below hb2 c2
            clear hb2 hBU hKU HI
            go_wp2_with fail
            refine (HLn.out _).mono ?_
            rintro e w3 ⟨rfl, hb3⟩
            have hB3 := hB2.trans (hb3.mono hB2.size)
            have HK3 : Hid (Blk w.heap.size w3) := HK2.out.below hb3
            replace c0 := cell_below hb3 c0
            replace c1 := cell_below hb3 c1
            replace c2 := cell_below hb3 c2
            clear hb3 hB2 HK2 HLn
            by_cases hq : q = s
            · have HR : Hid (rd s.data.toList = some (⟨(k : Int), t, 0⟩ : I3)) := rd_some HOK.out (by rw [← hq, HQ.out])
              have e1 : (q.toList == s.toList) = true := str_eq hq
              obtain ⟨r0, r1, r2, f0, f1, f2⟩ := HK3.out.cells
              clear hq HQ HN
              go_wp2
              exact bodyPost_ret (v := .tuple #[.agg #[.int .i64 k, .string t, .int .i64 0], .bool true]) (by simp [results, Tryz.results25, go_sem, r0, r1, r2]) rfl ⟨below_set3 hB3 (Nat.le_refl _) _ _ _, Or.inl ⟨_, HR.out, rfl⟩⟩
            · have HN2 : Hid (∀ (i : I3) (o : Nat), insOk i = true → i.op = o → o < k + 1 → lineL i ≠ s.data.toList) := fun i o h ho hlt2 hl => by
                rcases Nat.lt_or_ge o k with h' | h'
                · exact HN.out i o h ho h' hl
                · obtain rfl : o = k := by omega
                  have := HLI.out i h ho hl
                  exact hq (by rw [HQ.out, this]; exact bytes_of_list (by simpa using hl))
              have e1 : (q.toList == s.toList) = false := str_ne hq
              clear hq HQ HN
              go_wp2
              go_roundw
              case rel => exact ⟨k + 1, by omega, by omega, by go_num, HN2.out, hB3, HK3.out⟩
              case measure => simp [intOf]; omega
          · have hok' : insOk (⟨(k : Int), t, 0⟩ : I3) = false := by simpa using hok
            have HI : Hid (∀ w, Calls Tryz.prog 41 #[.agg #[.int .i64 k, .string t, .int .i64 0]] w fun e w' => Below w.heap.size w w' ∧ e = .returned (.bool false)) := fun w => hok' ▸ HI w
            have HN2 : Hid (∀ (i : I3) (o : Nat), insOk i = true → i.op = o → o < k + 1 → lineL i ≠ s.data.toList) := fun i o h ho hlt2 hl => by
              rcases Nat.lt_or_ge o k with h' | h'
              · exact HN.out i o h ho h' hl
              · obtain rfl : o = k := by omega
                have := HLI.out i h ho hl
                rw [this] at hok; exact hok h
            clear hok hok' HN
            go_wp2_with fail
            try rw [HeW.out]
            refine (HI.out _).mono ?_
            rintro e w2 ⟨hb2, rfl⟩
            have hB2 := hBU.trans (hb2.mono hBU.size)
            have HK2 : Hid (Blk w.heap.size w2) := hKU.below hb2
            clear hb2 hBU hKU HI
            go_wp2
            go_roundw
            case rel => exact ⟨k + 1, by omega, by omega, by go_num, HN2.out, hB2, HK2.out⟩
            case measure => simp [intOf]; omega
      · rw [hk] at HW
        by_cases hlen : s.size ≤ (wordB k).size
        · have d1 : decide ((wordB k).size < s.size) = false := by simp; omega
          have HLI : Hid (∀ i : I3, insOk i = true → i.op = k → lineL i = s.data.toList → (⟨(k : Int), ⟨#[]⟩, 0⟩ : I3) = i) := fun i h ho hl => by
            rw [← HLO.out i h ho hl]; unfold looseI; rw [if_pos (Or.inr (by rw [toList_len]; exact hlen))]
          have hts : (⟨#[]⟩ : ByteArray).size ≤ 9223372036854775807 := by show 0 ≤ _; omega
          have hBU := hBW
          have hKU := hKW
          have c0 := b0
          have c1 := b1
          have c2 := b2
          clear b0 b1 b2 hBW hKW HLO g1 g2
          generalize wordB k = wd at *
          clear hk hlen
          go_wp2_with fail
          refine (HW.out _).mono ?_
          rintro e w' ⟨rfl, rfl⟩
          clear HW
          have HI := fun w => l2InsOk_any (⟨(k : Int), ⟨#[]⟩, 0⟩ : I3) w hts
          by_cases hok : insOk (⟨(k : Int), ⟨#[]⟩, 0⟩ : I3) = true
          · have HI : Hid (∀ w, Calls Tryz.prog 41 #[.agg #[.int .i64 k, .string ⟨#[]⟩, .int .i64 0]] w fun e w' => Below w.heap.size w w' ∧ e = .returned (.bool true)) := fun w => hok ▸ HI w
            have HLn : Hid (∀ w, Calls Tryz.prog 42 #[.agg #[.int .i64 k, .string ⟨#[]⟩, .int .i64 0]] w fun e w' => e = .returned (.string ⟨(lineL (⟨(k : Int), ⟨#[]⟩, 0⟩ : I3)).toArray⟩) ∧ Below w.heap.size w w') := fun w => l2Line_any (⟨(k : Int), ⟨#[]⟩, 0⟩ : I3) w hok
            have hll := lineL_length hok
            obtain ⟨q, HQ⟩ : ∃ q : ByteArray, Hid (q = ⟨(lineL (⟨(k : Int), ⟨#[]⟩, 0⟩ : I3)).toArray⟩) := ⟨_, rfl⟩
            rw [← HQ.out] at HLn
            have HOK : Hid (insOk (⟨(k : Int), ⟨#[]⟩, 0⟩ : I3) = true) := hok
            clear hok hll
            go_wp2_with fail
            try rw [HeW.out]
            refine (HI.out _).mono ?_
            rintro e w2 ⟨hb2, rfl⟩
            have hB2 := hBU.trans (hb2.mono hBU.size)
            have HK2 : Hid (Blk w.heap.size w2) := hKU.below hb2
            replace c0 := cell_below hb2 c0
            replace c1 := cell_below hb2 c1
            replace c2 := cell_below hb2 c2
            clear hb2 hBU hKU HI
            go_wp2_with fail
            refine (HLn.out _).mono ?_
            rintro e w3 ⟨rfl, hb3⟩
            have hB3 := hB2.trans (hb3.mono hB2.size)
            have HK3 : Hid (Blk w.heap.size w3) := HK2.out.below hb3
            replace c0 := cell_below hb3 c0
            replace c1 := cell_below hb3 c1
            replace c2 := cell_below hb3 c2
            clear hb3 hB2 HK2 HLn
            by_cases hq : q = s
            · have HR : Hid (rd s.data.toList = some (⟨(k : Int), ⟨#[]⟩, 0⟩ : I3)) := rd_some HOK.out (by rw [← hq, HQ.out])
              have e1 : (q.toList == s.toList) = true := str_eq hq
              obtain ⟨r0, r1, r2, f0, f1, f2⟩ := HK3.out.cells
              clear hq HQ HN
              go_wp2
              exact bodyPost_ret (v := .tuple #[.agg #[.int .i64 k, .string ⟨#[]⟩, .int .i64 0], .bool true]) (by simp [results, Tryz.results25, go_sem, r0, r1, r2]) rfl ⟨below_set3 hB3 (Nat.le_refl _) _ _ _, Or.inl ⟨_, HR.out, rfl⟩⟩
            · have HN2 : Hid (∀ (i : I3) (o : Nat), insOk i = true → i.op = o → o < k + 1 → lineL i ≠ s.data.toList) := fun i o h ho hlt2 hl => by
                rcases Nat.lt_or_ge o k with h' | h'
                · exact HN.out i o h ho h' hl
                · obtain rfl : o = k := by omega
                  have := HLI.out i h ho hl
                  exact hq (by rw [HQ.out, this]; exact bytes_of_list (by simpa using hl))
              have e1 : (q.toList == s.toList) = false := str_ne hq
              clear hq HQ HN
              go_wp2
              go_roundw
              case rel => exact ⟨k + 1, by omega, by omega, by go_num, HN2.out, hB3, HK3.out⟩
              case measure => simp [intOf]; omega
          · have hok' : insOk (⟨(k : Int), ⟨#[]⟩, 0⟩ : I3) = false := by simpa using hok
            have HI : Hid (∀ w, Calls Tryz.prog 41 #[.agg #[.int .i64 k, .string ⟨#[]⟩, .int .i64 0]] w fun e w' => Below w.heap.size w w' ∧ e = .returned (.bool false)) := fun w => hok' ▸ HI w
            have HN2 : Hid (∀ (i : I3) (o : Nat), insOk i = true → i.op = o → o < k + 1 → lineL i ≠ s.data.toList) := fun i o h ho hlt2 hl => by
              rcases Nat.lt_or_ge o k with h' | h'
              · exact HN.out i o h ho h' hl
              · obtain rfl : o = k := by omega
                have := HLI.out i h ho hl
                rw [this] at hok; exact hok h
            clear hok hok' HN
            go_wp2_with fail
            try rw [HeW.out]
            refine (HI.out _).mono ?_
            rintro e w2 ⟨hb2, rfl⟩
            have hB2 := hBU.trans (hb2.mono hBU.size)
            have HK2 : Hid (Blk w.heap.size w2) := hKU.below hb2
            clear hb2 hBU hKU HI
            go_wp2
            go_roundw
            case rel => exact ⟨k + 1, by omega, by omega, by go_num, HN2.out, hB2, HK2.out⟩
            case measure => simp [intOf]; omega
        · have d1 : decide ((wordB k).size < s.size) = true := by simp; omega
          have hrl : (s.extract ((wordB k).size + 1) s.size).data.toList = s.data.toList.drop ((wordB k).size + 1) := by rw [ext_list, List.take_of_length_le (by rw [toList_len]; omega)]
          have hrs : (s.extract ((wordB k).size + 1) s.size).size ≤ 1048576 := by rw [ext_size]; omega
          have HLI : Hid (∀ i : I3, insOk i = true → i.op = k → lineL i = s.data.toList → (⟨(k : Int), ⟨#[]⟩, numL (s.extract ((wordB k).size + 1) s.size).data.toList⟩ : I3) = i) := fun i h ho hl => by
            rw [← HLO.out i h ho hl]; unfold looseI; rw [if_neg (by rw [hk, toList_len]; omega), if_neg (by rw [hk]; decide), hrl]
          have HC : Hid (Calls Tryz.prog 22 #[.string (s.extract ((wordB k).size + 1) s.size)] W fun e w' => e = .returned (.int .i64 (numL (s.extract ((wordB k).size + 1) s.size).data.toList)) ∧ Below W.heap.size W w') := l2Number_any _ W hrs
          obtain ⟨t, et⟩ : ∃ t : Int, numL (s.extract ((wordB k).size + 1) s.size).data.toList = t := ⟨_, rfl⟩
          have hts : (⟨#[]⟩ : ByteArray).size ≤ 9223372036854775807 := by show 0 ≤ _; omega
          have hi1 : ((wordB k).size : Int) + 1 ≤ (s.size : Int) := by omega
          have hi0 : (0 : Int) ≤ ((wordB k).size : Int) + 1 := by omega
          rw [et] at HC HLI
          clear et hrl hrs HLO hk hlen
          generalize wordB k = wd at *
          go_wp2_with fail
          refine (HW.out _).mono ?_
          rintro e w' ⟨rfl, rfl⟩
          go_wp2_with fail
          rw [HeW.out]
          refine HC.out.mono ?_
          rintro e w1 ⟨rfl, hb1⟩
          have hB1 := hBW.trans (hb1.mono hBW.size)
          have hK1 := hKW.below hb1
          have a0 := cell_below hb1 b0
          have a1 := cell_below hb1 b1
          have a2 := cell_below hb1 b2
          have ag : w1.frozen? ⟨wr.heap.size, 2, none⟩ = false := by rw [frozen_below hb1 hwrW]; exact g2
          obtain ⟨U, eU⟩ : ∃ U, w1.setCell ⟨wr.heap.size, 2, none⟩ (.int .i64 t) = U := ⟨_, rfl⟩
          have hBU : Below w.heap.size w U := eU ▸ hB1.setCell (p := ⟨wr.heap.size, 2, none⟩) hsz _
          have hKU : Blk w.heap.size U := ⟨by rw [← eU, Below.heap_setCell _ ⟨wr.heap.size, 2, none⟩ _ _ (Nat.ne_of_lt hKr)]; exact hK1.at_⟩
          have c0 : U.cell? ⟨wr.heap.size, 0, none⟩ = some (.int .i64 k) := by rw [← eU]; simp [go_sem, a0]
          have c1 : U.cell? ⟨wr.heap.size, 1, none⟩ = some (.string ⟨#[]⟩) := by rw [← eU]; simp [go_sem, a1]
          have c2 : U.cell? ⟨wr.heap.size, 2, none⟩ = some (.int .i64 t) := by rw [← eU]; simp [go_sem, a2]
          clear hb1 hB1 hK1 b0 b1 b2 g1 g2 hBW hKW HC HW
          have Tk : Hid True := trivial
          have HI := fun w => l2InsOk_any (⟨(k : Int), ⟨#[]⟩, t⟩ : I3) w hts
          by_cases hok : insOk (⟨(k : Int), ⟨#[]⟩, t⟩ : I3) = true
          · have HI : Hid (∀ w, Calls Tryz.prog 41 #[.agg #[.int .i64 k, .string ⟨#[]⟩, .int .i64 t]] w fun e w' => Below w.heap.size w w' ∧ e = .returned (.bool true)) := fun w => hok ▸ HI w
            have HLn : Hid (∀ w, Calls Tryz.prog 42 #[.agg #[.int .i64 k, .string ⟨#[]⟩, .int .i64 t]] w fun e w' => e = .returned (.string ⟨(lineL (⟨(k : Int), ⟨#[]⟩, t⟩ : I3)).toArray⟩) ∧ Below w.heap.size w w') := fun w => l2Line_any (⟨(k : Int), ⟨#[]⟩, t⟩ : I3) w hok
            have hll := lineL_length hok
            obtain ⟨q, HQ⟩ : ∃ q : ByteArray, Hid (q = ⟨(lineL (⟨(k : Int), ⟨#[]⟩, t⟩ : I3)).toArray⟩) := ⟨_, rfl⟩
            rw [← HQ.out] at HLn
            have HOK : Hid (insOk (⟨(k : Int), ⟨#[]⟩, t⟩ : I3) = true) := hok
            clear hok hll
            go_wp2_with fail
            try rw [HeW.out]
            refine (HI.out _).mono ?_
            rintro e w2 ⟨hb2, rfl⟩
            have hB2 := hBU.trans (hb2.mono hBU.size)
            have HK2 : Hid (Blk w.heap.size w2) := hKU.below hb2
            replace c0 := cell_below hb2 c0
            replace c1 := cell_below hb2 c1
            replace c2 := cell_below hb2 c2
            clear hb2 hBU hKU HI
            go_wp2_with fail
            refine (HLn.out _).mono ?_
            rintro e w3 ⟨rfl, hb3⟩
            have hB3 := hB2.trans (hb3.mono hB2.size)
            have HK3 : Hid (Blk w.heap.size w3) := HK2.out.below hb3
            replace c0 := cell_below hb3 c0
            replace c1 := cell_below hb3 c1
            replace c2 := cell_below hb3 c2
            clear hb3 hB2 HK2 HLn
            by_cases hq : q = s
            · have HR : Hid (rd s.data.toList = some (⟨(k : Int), ⟨#[]⟩, t⟩ : I3)) := rd_some HOK.out (by rw [← hq, HQ.out])
              have e1 : (q.toList == s.toList) = true := str_eq hq
              obtain ⟨r0, r1, r2, f0, f1, f2⟩ := HK3.out.cells
              clear hq HQ HN
              go_wp2
              exact bodyPost_ret (v := .tuple #[.agg #[.int .i64 k, .string ⟨#[]⟩, .int .i64 t], .bool true]) (by simp [results, Tryz.results25, go_sem, r0, r1, r2]) rfl ⟨below_set3 hB3 (Nat.le_refl _) _ _ _, Or.inl ⟨_, HR.out, rfl⟩⟩
            · have HN2 : Hid (∀ (i : I3) (o : Nat), insOk i = true → i.op = o → o < k + 1 → lineL i ≠ s.data.toList) := fun i o h ho hlt2 hl => by
                rcases Nat.lt_or_ge o k with h' | h'
                · exact HN.out i o h ho h' hl
                · obtain rfl : o = k := by omega
                  have := HLI.out i h ho hl
                  exact hq (by rw [HQ.out, this]; exact bytes_of_list (by simpa using hl))
              have e1 : (q.toList == s.toList) = false := str_ne hq
              clear hq HQ HN
              go_wp2
              go_roundw
              case rel => exact ⟨k + 1, by omega, by omega, by go_num, HN2.out, hB3, HK3.out⟩
              case measure => simp [intOf]; omega
          · have hok' : insOk (⟨(k : Int), ⟨#[]⟩, t⟩ : I3) = false := by simpa using hok
            have HI : Hid (∀ w, Calls Tryz.prog 41 #[.agg #[.int .i64 k, .string ⟨#[]⟩, .int .i64 t]] w fun e w' => Below w.heap.size w w' ∧ e = .returned (.bool false)) := fun w => hok' ▸ HI w
            have HN2 : Hid (∀ (i : I3) (o : Nat), insOk i = true → i.op = o → o < k + 1 → lineL i ≠ s.data.toList) := fun i o h ho hlt2 hl => by
              rcases Nat.lt_or_ge o k with h' | h'
              · exact HN.out i o h ho h' hl
              · obtain rfl : o = k := by omega
                have := HLI.out i h ho hl
                rw [this] at hok; exact hok h
            clear hok hok' HN
            go_wp2_with fail
            try rw [HeW.out]
            refine (HI.out _).mono ?_
            rintro e w2 ⟨hb2, rfl⟩
            have hB2 := hBU.trans (hb2.mono hBU.size)
            have HK2 : Hid (Blk w.heap.size w2) := hKU.below hb2
            clear hb2 hBU hKU HI
            go_wp2
            go_roundw
            case rel => exact ⟨k + 1, by omega, by omega, by go_num, HN2.out, hB2, HK2.out⟩
            case measure => simp [intOf]; omega
      · rw [hk] at HW
        by_cases hlen : s.size ≤ (wordB k).size
        · have d1 : decide ((wordB k).size < s.size) = false := by simp; omega
          have HLI : Hid (∀ i : I3, insOk i = true → i.op = k → lineL i = s.data.toList → (⟨(k : Int), ⟨#[]⟩, 0⟩ : I3) = i) := fun i h ho hl => by
            rw [← HLO.out i h ho hl]; unfold looseI; rw [if_pos (Or.inr (by rw [toList_len]; exact hlen))]
          have hts : (⟨#[]⟩ : ByteArray).size ≤ 9223372036854775807 := by show 0 ≤ _; omega
          have hBU := hBW
          have hKU := hKW
          have c0 := b0
          have c1 := b1
          have c2 := b2
          clear b0 b1 b2 hBW hKW HLO g1 g2
          generalize wordB k = wd at *
          clear hk hlen
          go_wp2_with fail
          refine (HW.out _).mono ?_
          rintro e w' ⟨rfl, rfl⟩
          clear HW
          have HI := fun w => l2InsOk_any (⟨(k : Int), ⟨#[]⟩, 0⟩ : I3) w hts
          by_cases hok : insOk (⟨(k : Int), ⟨#[]⟩, 0⟩ : I3) = true
          · have HI : Hid (∀ w, Calls Tryz.prog 41 #[.agg #[.int .i64 k, .string ⟨#[]⟩, .int .i64 0]] w fun e w' => Below w.heap.size w w' ∧ e = .returned (.bool true)) := fun w => hok ▸ HI w
            have HLn : Hid (∀ w, Calls Tryz.prog 42 #[.agg #[.int .i64 k, .string ⟨#[]⟩, .int .i64 0]] w fun e w' => e = .returned (.string ⟨(lineL (⟨(k : Int), ⟨#[]⟩, 0⟩ : I3)).toArray⟩) ∧ Below w.heap.size w w') := fun w => l2Line_any (⟨(k : Int), ⟨#[]⟩, 0⟩ : I3) w hok
            have hll := lineL_length hok
            obtain ⟨q, HQ⟩ : ∃ q : ByteArray, Hid (q = ⟨(lineL (⟨(k : Int), ⟨#[]⟩, 0⟩ : I3)).toArray⟩) := ⟨_, rfl⟩
            rw [← HQ.out] at HLn
            have HOK : Hid (insOk (⟨(k : Int), ⟨#[]⟩, 0⟩ : I3) = true) := hok
            clear hok hll
            go_wp2_with fail
            try rw [HeW.out]
            refine (HI.out _).mono ?_
            rintro e w2 ⟨hb2, rfl⟩
            have hB2 := hBU.trans (hb2.mono hBU.size)
            have HK2 : Hid (Blk w.heap.size w2) := hKU.below hb2
            replace c0 := cell_below hb2 c0
            replace c1 := cell_below hb2 c1
            replace c2 := cell_below hb2 c2
            clear hb2 hBU hKU HI
            go_wp2_with fail
            refine (HLn.out _).mono ?_
            rintro e w3 ⟨rfl, hb3⟩
            have hB3 := hB2.trans (hb3.mono hB2.size)
            have HK3 : Hid (Blk w.heap.size w3) := HK2.out.below hb3
            replace c0 := cell_below hb3 c0
            replace c1 := cell_below hb3 c1
            replace c2 := cell_below hb3 c2
            clear hb3 hB2 HK2 HLn
            by_cases hq : q = s
            · have HR : Hid (rd s.data.toList = some (⟨(k : Int), ⟨#[]⟩, 0⟩ : I3)) := rd_some HOK.out (by rw [← hq, HQ.out])
              have e1 : (q.toList == s.toList) = true := str_eq hq
              obtain ⟨r0, r1, r2, f0, f1, f2⟩ := HK3.out.cells
              clear hq HQ HN
              go_wp2
              exact bodyPost_ret (v := .tuple #[.agg #[.int .i64 k, .string ⟨#[]⟩, .int .i64 0], .bool true]) (by simp [results, Tryz.results25, go_sem, r0, r1, r2]) rfl ⟨below_set3 hB3 (Nat.le_refl _) _ _ _, Or.inl ⟨_, HR.out, rfl⟩⟩
            · have HN2 : Hid (∀ (i : I3) (o : Nat), insOk i = true → i.op = o → o < k + 1 → lineL i ≠ s.data.toList) := fun i o h ho hlt2 hl => by
                rcases Nat.lt_or_ge o k with h' | h'
                · exact HN.out i o h ho h' hl
                · obtain rfl : o = k := by omega
                  have := HLI.out i h ho hl
                  exact hq (by rw [HQ.out, this]; exact bytes_of_list (by simpa using hl))
              have e1 : (q.toList == s.toList) = false := str_ne hq
              clear hq HQ HN
              go_wp2
              go_roundw
              case rel => exact ⟨k + 1, by omega, by omega, by go_num, HN2.out, hB3, HK3.out⟩
              case measure => simp [intOf]; omega
          · have hok' : insOk (⟨(k : Int), ⟨#[]⟩, 0⟩ : I3) = false := by simpa using hok
            have HI : Hid (∀ w, Calls Tryz.prog 41 #[.agg #[.int .i64 k, .string ⟨#[]⟩, .int .i64 0]] w fun e w' => Below w.heap.size w w' ∧ e = .returned (.bool false)) := fun w => hok' ▸ HI w
            have HN2 : Hid (∀ (i : I3) (o : Nat), insOk i = true → i.op = o → o < k + 1 → lineL i ≠ s.data.toList) := fun i o h ho hlt2 hl => by
              rcases Nat.lt_or_ge o k with h' | h'
              · exact HN.out i o h ho h' hl
              · obtain rfl : o = k := by omega
                have := HLI.out i h ho hl
                rw [this] at hok; exact hok h
            clear hok hok' HN
            go_wp2_with fail
            try rw [HeW.out]
            refine (HI.out _).mono ?_
            rintro e w2 ⟨hb2, rfl⟩
            have hB2 := hBU.trans (hb2.mono hBU.size)
            have HK2 : Hid (Blk w.heap.size w2) := hKU.below hb2
            clear hb2 hBU hKU HI
            go_wp2
            go_roundw
            case rel => exact ⟨k + 1, by omega, by omega, by go_num, HN2.out, hB2, HK2.out⟩
            case measure => simp [intOf]; omega
        · have d1 : decide ((wordB k).size < s.size) = true := by simp; omega
          have hrl : (s.extract ((wordB k).size + 1) s.size).data.toList = s.data.toList.drop ((wordB k).size + 1) := by rw [ext_list, List.take_of_length_le (by rw [toList_len]; omega)]
          have hrs : (s.extract ((wordB k).size + 1) s.size).size ≤ 1048576 := by rw [ext_size]; omega
          have HLI : Hid (∀ i : I3, insOk i = true → i.op = k → lineL i = s.data.toList → (⟨(k : Int), ⟨#[]⟩, numL (s.extract ((wordB k).size + 1) s.size).data.toList⟩ : I3) = i) := fun i h ho hl => by
            rw [← HLO.out i h ho hl]; unfold looseI; rw [if_neg (by rw [hk, toList_len]; omega), if_neg (by rw [hk]; decide), hrl]
          have HC : Hid (Calls Tryz.prog 22 #[.string (s.extract ((wordB k).size + 1) s.size)] W fun e w' => e = .returned (.int .i64 (numL (s.extract ((wordB k).size + 1) s.size).data.toList)) ∧ Below W.heap.size W w') := l2Number_any _ W hrs
          obtain ⟨t, et⟩ : ∃ t : Int, numL (s.extract ((wordB k).size + 1) s.size).data.toList = t := ⟨_, rfl⟩
          have hts : (⟨#[]⟩ : ByteArray).size ≤ 9223372036854775807 := by show 0 ≤ _; omega
          have hi1 : ((wordB k).size : Int) + 1 ≤ (s.size : Int) := by omega
          have hi0 : (0 : Int) ≤ ((wordB k).size : Int) + 1 := by omega
          rw [et] at HC HLI
          clear et hrl hrs HLO hk hlen
          generalize wordB k = wd at *
          go_wp2_with fail
          refine (HW.out _).mono ?_
          rintro e w' ⟨rfl, rfl⟩
          go_wp2_with fail
          rw [HeW.out]
          refine HC.out.mono ?_
          rintro e w1 ⟨rfl, hb1⟩
          have hB1 := hBW.trans (hb1.mono hBW.size)
          have hK1 := hKW.below hb1
          have a0 := cell_below hb1 b0
          have a1 := cell_below hb1 b1
          have a2 := cell_below hb1 b2
          have ag : w1.frozen? ⟨wr.heap.size, 2, none⟩ = false := by rw [frozen_below hb1 hwrW]; exact g2
          obtain ⟨U, eU⟩ : ∃ U, w1.setCell ⟨wr.heap.size, 2, none⟩ (.int .i64 t) = U := ⟨_, rfl⟩
          have hBU : Below w.heap.size w U := eU ▸ hB1.setCell (p := ⟨wr.heap.size, 2, none⟩) hsz _
          have hKU : Blk w.heap.size U := ⟨by rw [← eU, Below.heap_setCell _ ⟨wr.heap.size, 2, none⟩ _ _ (Nat.ne_of_lt hKr)]; exact hK1.at_⟩
          have c0 : U.cell? ⟨wr.heap.size, 0, none⟩ = some (.int .i64 k) := by rw [← eU]; simp [go_sem, a0]
          have c1 : U.cell? ⟨wr.heap.size, 1, none⟩ = some (.string ⟨#[]⟩) := by rw [← eU]; simp [go_sem, a1]
          have c2 : U.cell? ⟨wr.heap.size, 2, none⟩ = some (.int .i64 t) := by rw [← eU]; simp [go_sem, a2]
          clear hb1 hB1 hK1 b0 b1 b2 g1 g2 hBW hKW HC HW
          have Tk : Hid True := trivial
          have HI := fun w => l2InsOk_any (⟨(k : Int), ⟨#[]⟩, t⟩ : I3) w hts
          by_cases hok : insOk (⟨(k : Int), ⟨#[]⟩, t⟩ : I3) = true
          · have HI : Hid (∀ w, Calls Tryz.prog 41 #[.agg #[.int .i64 k, .string ⟨#[]⟩, .int .i64 t]] w fun e w' => Below w.heap.size w w' ∧ e = .returned (.bool true)) := fun w => hok ▸ HI w
            have HLn : Hid (∀ w, Calls Tryz.prog 42 #[.agg #[.int .i64 k, .string ⟨#[]⟩, .int .i64 t]] w fun e w' => e = .returned (.string ⟨(lineL (⟨(k : Int), ⟨#[]⟩, t⟩ : I3)).toArray⟩) ∧ Below w.heap.size w w') := fun w => l2Line_any (⟨(k : Int), ⟨#[]⟩, t⟩ : I3) w hok
            have hll := lineL_length hok
            obtain ⟨q, HQ⟩ : ∃ q : ByteArray, Hid (q = ⟨(lineL (⟨(k : Int), ⟨#[]⟩, t⟩ : I3)).toArray⟩) := ⟨_, rfl⟩
            rw [← HQ.out] at HLn
            have HOK : Hid (insOk (⟨(k : Int), ⟨#[]⟩, t⟩ : I3) = true) := hok
            clear hok hll
            go_wp2_with fail
            try rw [HeW.out]
            refine (HI.out _).mono ?_
            rintro e w2 ⟨hb2, rfl⟩
            have hB2 := hBU.trans (hb2.mono hBU.size)
            have HK2 : Hid (Blk w.heap.size w2) := hKU.below hb2
            replace c0 := cell_below hb2 c0
            replace c1 := cell_below hb2 c1
            replace c2 := cell_below hb2 c2
            clear hb2 hBU hKU HI
            go_wp2_with fail
            refine (HLn.out _).mono ?_
            rintro e w3 ⟨rfl, hb3⟩
            have hB3 := hB2.trans (hb3.mono hB2.size)
            have HK3 : Hid (Blk w.heap.size w3) := HK2.out.below hb3
            replace c0 := cell_below hb3 c0
            replace c1 := cell_below hb3 c1
            replace c2 := cell_below hb3 c2
            clear hb3 hB2 HK2 HLn
            by_cases hq : q = s
            · have HR : Hid (rd s.data.toList = some (⟨(k : Int), ⟨#[]⟩, t⟩ : I3)) := rd_some HOK.out (by rw [← hq, HQ.out])
              have e1 : (q.toList == s.toList) = true := str_eq hq
              obtain ⟨r0, r1, r2, f0, f1, f2⟩ := HK3.out.cells
              clear hq HQ HN
              go_wp2
              exact bodyPost_ret (v := .tuple #[.agg #[.int .i64 k, .string ⟨#[]⟩, .int .i64 t], .bool true]) (by simp [results, Tryz.results25, go_sem, r0, r1, r2]) rfl ⟨below_set3 hB3 (Nat.le_refl _) _ _ _, Or.inl ⟨_, HR.out, rfl⟩⟩
            · have HN2 : Hid (∀ (i : I3) (o : Nat), insOk i = true → i.op = o → o < k + 1 → lineL i ≠ s.data.toList) := fun i o h ho hlt2 hl => by
                rcases Nat.lt_or_ge o k with h' | h'
                · exact HN.out i o h ho h' hl
                · obtain rfl : o = k := by omega
                  have := HLI.out i h ho hl
                  exact hq (by rw [HQ.out, this]; exact bytes_of_list (by simpa using hl))
              have e1 : (q.toList == s.toList) = false := str_ne hq
              clear hq HQ HN
              go_wp2
              go_roundw
              case rel => exact ⟨k + 1, by omega, by omega, by go_num, HN2.out, hB3, HK3.out⟩
              case measure => simp [intOf]; omega
          · have hok' : insOk (⟨(k : Int), ⟨#[]⟩, t⟩ : I3) = false := by simpa using hok
            have HI : Hid (∀ w, Calls Tryz.prog 41 #[.agg #[.int .i64 k, .string ⟨#[]⟩, .int .i64 t]] w fun e w' => Below w.heap.size w w' ∧ e = .returned (.bool false)) := fun w => hok' ▸ HI w
            have HN2 : Hid (∀ (i : I3) (o : Nat), insOk i = true → i.op = o → o < k + 1 → lineL i ≠ s.data.toList) := fun i o h ho hlt2 hl => by
              rcases Nat.lt_or_ge o k with h' | h'
              · exact HN.out i o h ho h' hl
              · obtain rfl : o = k := by omega
                have := HLI.out i h ho hl
                rw [this] at hok; exact hok h
            clear hok hok' HN
            go_wp2_with fail
            try rw [HeW.out]
            refine (HI.out _).mono ?_
            rintro e w2 ⟨hb2, rfl⟩
            have hB2 := hBU.trans (hb2.mono hBU.size)
            have HK2 : Hid (Blk w.heap.size w2) := hKU.below hb2
            clear hb2 hBU hKU HI
            go_wp2
            go_roundw
            case rel => exact ⟨k + 1, by omega, by omega, by go_num, HN2.out, hB2, HK2.out⟩
            case measure => simp [intOf]; omega
    · have hk16 : k = 16 := by omega
      subst hk16
      have HR : Hid (rd s.data.toList = none) := rd_none fun i h hl => by
        obtain ⟨o, ho, o1, o2⟩ := ok_op h
        exact HN.out i o h ho (by omega) hl
      obtain ⟨r0, r1, r2, f0, f1, f2⟩ := HK.out.cells
      clear HN HK
      go_wp2
      exact bodyPost_ret (v := .tuple #[.agg #[.int .i64 0, .string ⟨#[]⟩, .int .i64 0], .bool false]) (by simp [results, Tryz.results25, go_sem, r0, r1, r2]) rfl ⟨below_set3 hB (Nat.le_refl _) _ _ _, Or.inr ⟨HR.out, rfl⟩⟩

end Go.Proofs.YtikdgmmloiegjaaGreatDoor
