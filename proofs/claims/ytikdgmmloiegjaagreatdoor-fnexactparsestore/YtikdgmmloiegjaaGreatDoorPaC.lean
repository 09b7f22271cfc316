import Derived.Test.YtikdgmmloiegjaaGreatDoorPaB
namespace Go.Proofs.YtikdgmmloiegjaaGreatDoor
open Go.RowKit
set_option linter.unusedVariables false


theorem drewN_below (w : World) (n : Nat) : Below w.heap.size w (w.drewN n) := below_drewN (Below.refl _ _) n
theorem cut_any (p : Nat → Addr) (s : ByteArray) (c : UInt8) (w : World) (hE : Env p w) (hs : s.size ≤ 1500000) :
    Calls Tryz.prog 12 #[.string s, .string ⟨#[c]⟩] w fun e w' => e = .returned (.tuple #[.string ⟨(cutL c s.data.toList).1.toArray⟩, .string ⟨(cutL c s.data.toList).2.1.toArray⟩, .bool (cutL c s.data.toList).2.2]) ∧ Below w.heap.size w w' := by
  obtain ⟨m, hm⟩ := hE.mx
  refine (Tryz.strings_Cut s ⟨#[c]⟩ m w (by omega) hm).mono ?_
  rintro e w' ⟨rfl, n, rfl⟩
  have : Lib.cut s.data.toList (⟨#[c]⟩ : ByteArray).data.toList = cutL c s.data.toList := cut_cutL c _
  rw [this]
  exact ⟨rfl, drewN_below w n⟩
theorem cutL_len (c : UInt8) (l : List UInt8) : (cutL c l).1.length ≤ l.length ∧ (cutL c l).2.1.length ≤ l.length ∧ ((cutL c l).2.2 = true → (cutL c l).2.1.length < l.length) := by
  by_cases h : (cutL c l).2.2 = true
  · have e := congrArg List.length (cutL_yes h)
    rw [List.length_append, List.length_cons] at e
    exact ⟨by omega, by omega, fun _ => by omega⟩
  · have h' : (cutL c l).2.2 = false := by simpa using h
    obtain ⟨a, b⟩ := cutL_no h'
    exact ⟨by rw [a]; exact Nat.le_refl _, by rw [b]; exact Nat.zero_le _, fun k => absurd k h⟩

/-- What readIns gives. -/
def InsP (s : ByteArray) (e : Ending) : Prop := (∃ i, rd s.data.toList = some i ∧ e = .returned (.tuple #[.agg #[.int .i64 i.op, .string i.text, .int .i64 i.n], .nilIface])) ∨ (rd s.data.toList = none ∧ ∃ a, e = .returned (.tuple #[.agg #[.int .i64 0, .string ⟨#[]⟩, .int .i64 0], .iface 150 (.pointer (some a))]))

theorem alloc_here (w : World) (o : Obj) : (w.alloc o).heap[w.heap.size]? = some o := by
  show (w.heap.push o)[w.heap.size]? = some o
  simp
/-- The result's block. -/
structure Blk (R : Nat) (w : World) : Prop where
  at_ : w.heap[R]? = some (.cells #[.int .i64 0, .string ⟨#[]⟩, .int .i64 0] 56 (0, 0))
theorem Blk.lt {R : Nat} {w : World} (h : Blk R w) : R < w.heap.size := by
  rcases Nat.lt_or_ge R w.heap.size with k | k
  · exact k
  · have := h.at_; rw [Array.getElem?_eq_none k] at this; cases this
theorem Blk.below {R : Nat} {w w' : World} (h : Blk R w) (hb : Below w.heap.size w w') : Blk R w' := ⟨by rw [hb.block R h.lt]; exact h.at_⟩
theorem Blk.cells {R : Nat} {w : World} (h : Blk R w) : w.cell? ⟨R, 0, none⟩ = some (.int .i64 0) ∧ w.cell? ⟨R, 1, none⟩ = some (.string ⟨#[]⟩) ∧ w.cell? ⟨R, 2, none⟩ = some (.int .i64 0) ∧ w.frozen? ⟨R, 0, none⟩ = false ∧ w.frozen? ⟨R, 1, none⟩ = false ∧ w.frozen? ⟨R, 2, none⟩ = false :=
  ⟨by rw [Lib.cell_of_heap h.at_]; rfl, by rw [Lib.cell_of_heap h.at_]; rfl, by rw [Lib.cell_of_heap h.at_]; rfl, Lib.frozen_of_heap h.at_ 0, Lib.frozen_of_heap h.at_ 1, Lib.frozen_of_heap h.at_ 2⟩
theorem below_set3 {B R : Nat} {w w' : World} (h : Below B w w') (hR : B ≤ R) (a b c : Value) : Below B w (((w'.setCell ⟨R, 0, none⟩ a).setCell ⟨R, 1, none⟩ b).setCell ⟨R, 2, none⟩ c) :=
  ((h.setCell (p := ⟨R, 0, none⟩) hR _).setCell (p := ⟨R, 1, none⟩) hR _).setCell (p := ⟨R, 2, none⟩) hR _

set_option maxHeartbeats 2000000 in
theorem readIns_any (p : Nat → Addr) (s : ByteArray) (w : World) (hE : Env p w) (hs : s.size ≤ 1500000) :
    Calls Tryz.prog 90 #[.string s] w fun e w' => Below w.heap.size w w' ∧ InsP s e := by
  have hb0 : Below w.heap.size w (w.alloc (.cells #[.int .i64 0, .string ⟨#[]⟩, .int .i64 0] 56)) := (Below.refl _ _).alloc (Nat.le_refl _) _
  have hK0 : Blk w.heap.size (w.alloc (.cells #[.int .i64 0, .string ⟨#[]⟩, .int .i64 0] 56)) := ⟨alloc_here _ _⟩
  obtain ⟨W, eW⟩ : ∃ W, w.alloc (.cells #[.int .i64 0, .string ⟨#[]⟩, .int .i64 0] 56) = W := ⟨_, rfl⟩
  rw [eW] at hb0 hK0
  have HE0 : Hid (Env p W) := hE.below hb0
  have h4 : 0 < w.heap.size := World.block_lt_of_cell? _ _ (hE.er 0 (by omega))
  clear hE
  obtain ⟨lw, lo, ls⟩ := cutL_len 32 s.data.toList
  rw [toList_len] at lw lo ls
  have HC : Hid (Calls Tryz.prog 12 #[.string s, .string ⟨#[32]⟩] W fun e w' => e = .returned (.tuple #[.string ⟨(cutL 32 s.data.toList).1.toArray⟩, .string ⟨(cutL 32 s.data.toList).2.1.toArray⟩, .bool (cutL 32 s.data.toList).2.2]) ∧ Below W.heap.size W w') := cut_any p s 32 W HE0.out hs
  obtain ⟨wd, ewd⟩ : ∃ wd : ByteArray, (⟨(cutL 32 s.data.toList).1.toArray⟩ : ByteArray) = wd := ⟨_, rfl⟩
  obtain ⟨od, eod⟩ : ∃ od : ByteArray, (⟨(cutL 32 s.data.toList).2.1.toArray⟩ : ByteArray) = od := ⟨_, rfl⟩
  obtain ⟨f, ef⟩ : ∃ f : Bool, (cutL 32 s.data.toList).2.2 = f := ⟨_, rfl⟩
  rw [ewd, eod, ef] at HC
  have HW : Hid (wd.data.toList = (cutL 32 s.data.toList).1) := by show _ = _; rw [← ewd]
  have HD : Hid (od.data.toList = (cutL 32 s.data.toList).2.1) := by show _ = _; rw [← eod]
  have HF : Hid ((cutL 32 s.data.toList).2.2 = f) := ef
  have hod : od.size ≤ 1500000 := by rw [← toList_len, HD.out]; omega
  clear ewd eod ef lw lo ls
  go_enter Tryz.func90, Tryz.ntmps90
  go_wp2_with fail

  refine HC.out.mono ?_
  rintro e w1 ⟨rfl, hb1⟩
  have hB1 : Below w.heap.size w w1 := hb0.trans (hb1.mono hb0.size)
  have hK1 := hK0.below hb1
  have HE1 : Hid (Env p w1) := HE0.out.below hb1
  clear hb0 hK0 HE0 hb1 eW HC
  go_wp2_with fail
  refine (opOf_any p wd _ HE1.out).mono ?_
  rintro e w2 ⟨hb2, ⟨o, h1, h2, hwd, rfl⟩ | ⟨hno, rfl⟩⟩
  · have HWo : Hid ((wordB o).data.toList = (cutL 32 s.data.toList).1) := by show _ = _; rw [hwd]; exact HW.out
    have HE2 : Hid (Env p w2) := HE1.out.below hb2
    have hB2 := hB1.trans (hb2.mono hB1.size)
    have hK2 := hK1.below hb2
    obtain ⟨t1, t2, t3⟩ := HE2.out.tab o (by omega)
    have c4 := HE2.out.er 0 (by omega)
    have ho16 : (o : Int) < 16 := by omega
    clear hwd t1 t3 hB1 hK1 HE1 hb2 HW
    dsimp only
    rcases kind_cases o with hk | hk | hk | hk
    · rw [hk] at t2
      cases f
      · have HR : Hid (rd s.data.toList = some ⟨o, ⟨#[]⟩, 0⟩) := rd_bare h1 h2 HWo.out hk HF.out
        obtain ⟨c0, c1, c2, f0, f1, f2⟩ := hK2.cells
        clear hk hK2
        go_wp2
        exact bodyPost_ret (v := .tuple #[.agg #[.int .i64 o, .string ⟨#[]⟩, .int .i64 0], .nilIface]) (by simp [results, Tryz.results90, go_sem, c0, c1, c2]) rfl ⟨below_set3 hB2 (Nat.le_refl _) _ _ _, Or.inl ⟨_, HR.out, rfl⟩⟩
      · have HN : Hid (rd s.data.toList = none) := rd_no_space h1 h2 HWo.out (by rw [HF.out]; simp [hk])
        clear hk
        go_wp2_with fail
        obtain ⟨U, eU⟩ : ∃ U, w2.drew = U := ⟨_, rfl⟩
        have hBU : Below w.heap.size w U := eU ▸ hB2.drew
        have hKU : Blk w.heap.size U := eU ▸ ⟨hK2.at_⟩
        have c4u : U.cell? ⟨0, 0, none⟩ = some (.iface 150 (.pointer (some (p 0)))) := eU ▸ c4
        obtain ⟨c0, c1, c2, f0, f1, f2⟩ := hKU.cells
        clear c4 t2 hB2 hKU hK2
        go_region
        all_goals
          go_wp2
          exact bodyPost_ret (v := .tuple #[.agg #[.int .i64 0, .string ⟨#[]⟩, .int .i64 0], .iface 150 (.pointer (some (p 0)))]) (by simp [results, Tryz.results90, go_sem, c0, c1, c2]) rfl ⟨below_set3 hBU (Nat.le_refl _) _ _ _, Or.inr ⟨HN.out, _, rfl⟩⟩
    · rw [hk] at t2
      cases f
      · have HN : Hid (rd s.data.toList = none) := rd_no_space h1 h2 HWo.out (by rw [HF.out]; simp [hk])
        clear hk
        go_wp2_with fail
        obtain ⟨U, eU⟩ : ∃ U, w2.drew = U := ⟨_, rfl⟩
        have hBU : Below w.heap.size w U := eU ▸ hB2.drew
        have hKU : Blk w.heap.size U := eU ▸ ⟨hK2.at_⟩
        have c4u : U.cell? ⟨0, 0, none⟩ = some (.iface 150 (.pointer (some (p 0)))) := eU ▸ c4
        obtain ⟨c0, c1, c2, f0, f1, f2⟩ := hKU.cells
        clear c4 t2 hB2 hKU hK2
        go_region
        all_goals
          go_wp2
          exact bodyPost_ret (v := .tuple #[.agg #[.int .i64 0, .string ⟨#[]⟩, .int .i64 0], .iface 150 (.pointer (some (p 0)))]) (by simp [results, Tryz.results90, go_sem, c0, c1, c2]) rfl ⟨below_set3 hBU (Nat.le_refl _) _ _ _, Or.inr ⟨HN.out, _, rfl⟩⟩
      · have HX : Hid (∀ x : List UInt8, quoteL x = od.data.toList → (x.length ≤ 2000 → rd s.data.toList = some ⟨o, ⟨x.toArray⟩, 0⟩) ∧ (2000 < x.length → rd s.data.toList = none)) := fun x hx => rd_text h1 h2 HWo.out hk HF.out (by rw [← HD.out]; exact hx)
        have HY : Hid ((∀ x : List UInt8, quoteL x ≠ od.data.toList) → rd s.data.toList = none) := fun hx => rd_no_text h1 h2 HWo.out hk (by rw [← HD.out]; exact hx)
        have HM : Hid (∀ w, Calls Tryz.prog 108 #[.int .i64 1] w fun e w' => e = .returned (.int .i64 2000) ∧ w' = w) := fun w => mostText_any 1 w
        clear hk
        go_wp2_with fail
        refine (unquote_any p od _ HE2.out hod).mono ?_
        rintro e w3 ⟨hb3, ⟨x, hx, rfl⟩ | ⟨hno, rfl⟩⟩
        · have hB3 := hB2.trans (hb3.mono hB2.size)
          obtain ⟨c0, c1, c2, f0, f1, f2⟩ := (hK2.below hb3).cells
          have c4' := cell_below hb3 c4
          have hxs := bytes_size x
          obtain ⟨y, ey⟩ : ∃ y : ByteArray, (⟨x.toArray⟩ : ByteArray) = y := ⟨_, rfl⟩
          rw [ey] at hxs ⊢
          have hxl : x.length ≤ 1500000 := by
            have e1 := congrArg List.length hx
            rw [toList_len] at e1
            have e2 : (quoteL x).length = (x.flatMap qbyte).length + 2 := by unfold quoteL; simp
            have := flat_ge x
            omega
          by_cases hl : x.length ≤ 2000
          · have HR : Hid (rd s.data.toList = some ⟨o, y, 0⟩) := by show _ = _; rw [← ey]; exact (HX.out x hx).1 hl
            have d5 : decide ((2000 : Int) < (y.size : Int)) = false := by simp; omega
            clear hb3 hB2 hK2 HX HY hx c4 ey hl hxs hxl
            dsimp only
            go_wp2_with (first | (go_at_call 108; refine (HM.out _).mono ?_; rintro e w' ⟨rfl, rfl⟩))
            exact bodyPost_ret (v := .tuple #[.agg #[.int .i64 o, .string y, .int .i64 0], .nilIface]) (by simp [results, Tryz.results90, go_sem, c0, c1, c2]) rfl ⟨below_set3 hB3 (Nat.le_refl _) _ _ _, Or.inl ⟨_, HR.out, rfl⟩⟩
          · have HN : Hid (rd s.data.toList = none) := (HX.out x hx).2 (by omega)
            have d5 : decide ((2000 : Int) < (y.size : Int)) = true := by simp; omega
            clear hb3 hB2 hK2 HX HY hx c4 ey hl hxs hxl
            dsimp only
            go_wp2_with (first | (go_at_call 108; refine (HM.out _).mono ?_; rintro e w' ⟨rfl, rfl⟩))
            exact bodyPost_ret (v := .tuple #[.agg #[.int .i64 0, .string ⟨#[]⟩, .int .i64 0], .iface 150 (.pointer (some (p 0)))]) (by simp [results, Tryz.results90, go_sem, c0, c1, c2]) rfl ⟨below_set3 hB3 (Nat.le_refl _) _ _ _, Or.inr ⟨HN.out, _, rfl⟩⟩
        · have HN : Hid (rd s.data.toList = none) := HY.out hno
          have hB3 := hB2.trans (hb3.mono hB2.size)
          obtain ⟨c0, c1, c2, f0, f1, f2⟩ := (hK2.below hb3).cells
          clear hb3 hB2 hK2 HX HY hno c4
          dsimp only
          go_wp2
          exact bodyPost_ret (v := .tuple #[.agg #[.int .i64 0, .string ⟨#[]⟩, .int .i64 0], .iface 150 (.pointer (some (p 1)))]) (by simp [results, Tryz.results90, go_sem, c0, c1, c2]) rfl ⟨below_set3 hB3 (Nat.le_refl _) _ _ _, Or.inr ⟨HN.out, _, rfl⟩⟩
    · rw [hk] at t2
      cases f
      · have HN : Hid (rd s.data.toList = none) := rd_no_space h1 h2 HWo.out (by rw [HF.out]; simp [hk])
        clear hk
        go_wp2_with fail
        obtain ⟨U, eU⟩ : ∃ U, w2.drew = U := ⟨_, rfl⟩
        have hBU : Below w.heap.size w U := eU ▸ hB2.drew
        have hKU : Blk w.heap.size U := eU ▸ ⟨hK2.at_⟩
        have c4u : U.cell? ⟨0, 0, none⟩ = some (.iface 150 (.pointer (some (p 0)))) := eU ▸ c4
        obtain ⟨c0, c1, c2, f0, f1, f2⟩ := hKU.cells
        clear c4 t2 hB2 hKU hK2
        go_region
        all_goals
          go_wp2
          exact bodyPost_ret (v := .tuple #[.agg #[.int .i64 0, .string ⟨#[]⟩, .int .i64 0], .iface 150 (.pointer (some (p 0)))]) (by simp [results, Tryz.results90, go_sem, c0, c1, c2]) rfl ⟨below_set3 hBU (Nat.le_refl _) _ _ _, Or.inr ⟨HN.out, _, rfl⟩⟩
      · have HX : Hid (∀ n : Nat, n ≤ 2000 → Lib.decDigits n = od.data.toList → rd s.data.toList = some ⟨o, ⟨#[]⟩, n⟩) := fun n hn hx => rd_num h1 h2 HWo.out (Or.inl hk) HF.out (by rw [hk]; show (n : Int) ≤ 2000; omega) (by rw [← HD.out]; exact hx)
        have HY : Hid ((∀ n : Nat, n ≤ 2000 → Lib.decDigits n ≠ od.data.toList) → rd s.data.toList = none) := fun hx => rd_no_num h1 h2 HWo.out (Or.inl hk) (fun n hn => by rw [hk] at hn; rw [← HD.out]; exact hx n (by have : (n : Int) ≤ 2000 := hn; omega))
        have HM : Hid (∀ w, Calls Tryz.prog 109 #[.int .i64 2] w fun e w' => e = .returned (.int .i64 ((2000 : Nat) : Int)) ∧ w' = w) := fun w => mostNumber_any 2 w
        clear hk
        go_wp2_with fail
        refine (HM.out _).mono ?_
        rintro e w' ⟨rfl, rfl⟩
        go_wp2_with fail
        refine (readNumber_any p od 2000 _ HE2.out (by omega) (by omega)).mono ?_
        rintro e w3 ⟨hb3, ⟨n, hn, hx, rfl⟩ | ⟨hno, rfl⟩⟩
        · have HR : Hid (rd s.data.toList = some ⟨o, ⟨#[]⟩, n⟩) := HX.out n hn hx
          have hB3 := hB2.trans (hb3.mono hB2.size)
          obtain ⟨c0, c1, c2, f0, f1, f2⟩ := (hK2.below hb3).cells
          clear hb3 hB2 hK2 HX HY hx c4
          dsimp only
          go_wp2
          exact bodyPost_ret (v := .tuple #[.agg #[.int .i64 o, .string ⟨#[]⟩, .int .i64 n], .nilIface]) (by simp [results, Tryz.results90, go_sem, c0, c1, c2]) rfl ⟨below_set3 hB3 (Nat.le_refl _) _ _ _, Or.inl ⟨_, HR.out, rfl⟩⟩
        · have HN : Hid (rd s.data.toList = none) := HY.out hno
          have hB3 := hB2.trans (hb3.mono hB2.size)
          obtain ⟨c0, c1, c2, f0, f1, f2⟩ := (hK2.below hb3).cells
          clear hb3 hB2 hK2 HX HY hno c4
          dsimp only
          go_wp2
          exact bodyPost_ret (v := .tuple #[.agg #[.int .i64 0, .string ⟨#[]⟩, .int .i64 0], .iface 150 (.pointer (some (p 0)))]) (by simp [results, Tryz.results90, go_sem, c0, c1, c2]) rfl ⟨below_set3 hB3 (Nat.le_refl _) _ _ _, Or.inr ⟨HN.out, _, rfl⟩⟩
    · rw [hk] at t2
      cases f
      · have HN : Hid (rd s.data.toList = none) := rd_no_space h1 h2 HWo.out (by rw [HF.out]; simp [hk])
        clear hk
        go_wp2_with fail
        obtain ⟨U, eU⟩ : ∃ U, w2.drew = U := ⟨_, rfl⟩
        have hBU : Below w.heap.size w U := eU ▸ hB2.drew
        have hKU : Blk w.heap.size U := eU ▸ ⟨hK2.at_⟩
        have c4u : U.cell? ⟨0, 0, none⟩ = some (.iface 150 (.pointer (some (p 0)))) := eU ▸ c4
        obtain ⟨c0, c1, c2, f0, f1, f2⟩ := hKU.cells
        clear c4 t2 hB2 hKU hK2
        go_region
        all_goals
          go_wp2
          exact bodyPost_ret (v := .tuple #[.agg #[.int .i64 0, .string ⟨#[]⟩, .int .i64 0], .iface 150 (.pointer (some (p 0)))]) (by simp [results, Tryz.results90, go_sem, c0, c1, c2]) rfl ⟨below_set3 hBU (Nat.le_refl _) _ _ _, Or.inr ⟨HN.out, _, rfl⟩⟩
      · have HX : Hid (∀ n : Nat, n ≤ 200 → Lib.decDigits n = od.data.toList → rd s.data.toList = some ⟨o, ⟨#[]⟩, n⟩) := fun n hn hx => rd_num h1 h2 HWo.out (Or.inr hk) HF.out (by rw [hk]; show (n : Int) ≤ 200; omega) (by rw [← HD.out]; exact hx)
        have HY : Hid ((∀ n : Nat, n ≤ 200 → Lib.decDigits n ≠ od.data.toList) → rd s.data.toList = none) := fun hx => rd_no_num h1 h2 HWo.out (Or.inr hk) (fun n hn => by rw [hk] at hn; rw [← HD.out]; exact hx n (by have : (n : Int) ≤ 200 := hn; omega))
        have HM : Hid (∀ w, Calls Tryz.prog 109 #[.int .i64 3] w fun e w' => e = .returned (.int .i64 ((200 : Nat) : Int)) ∧ w' = w) := fun w => mostNumber_any 3 w
        clear hk
        go_wp2_with fail
        refine (HM.out _).mono ?_
        rintro e w' ⟨rfl, rfl⟩
        go_wp2_with fail
        refine (readNumber_any p od 200 _ HE2.out (by omega) (by omega)).mono ?_
        rintro e w3 ⟨hb3, ⟨n, hn, hx, rfl⟩ | ⟨hno, rfl⟩⟩
        · have HR : Hid (rd s.data.toList = some ⟨o, ⟨#[]⟩, n⟩) := HX.out n hn hx
          have hB3 := hB2.trans (hb3.mono hB2.size)
          obtain ⟨c0, c1, c2, f0, f1, f2⟩ := (hK2.below hb3).cells
          clear hb3 hB2 hK2 HX HY hx c4
          dsimp only
          go_wp2
          exact bodyPost_ret (v := .tuple #[.agg #[.int .i64 o, .string ⟨#[]⟩, .int .i64 n], .nilIface]) (by simp [results, Tryz.results90, go_sem, c0, c1, c2]) rfl ⟨below_set3 hB3 (Nat.le_refl _) _ _ _, Or.inl ⟨_, HR.out, rfl⟩⟩
        · have HN : Hid (rd s.data.toList = none) := HY.out hno
          have hB3 := hB2.trans (hb3.mono hB2.size)
          obtain ⟨c0, c1, c2, f0, f1, f2⟩ := (hK2.below hb3).cells
          clear hb3 hB2 hK2 HX HY hno c4
          dsimp only
          go_wp2
          exact bodyPost_ret (v := .tuple #[.agg #[.int .i64 0, .string ⟨#[]⟩, .int .i64 0], .iface 150 (.pointer (some (p 0)))]) (by simp [results, Tryz.results90, go_sem, c0, c1, c2]) rfl ⟨below_set3 hB3 (Nat.le_refl _) _ _ _, Or.inr ⟨HN.out, _, rfl⟩⟩
  · have HN : Hid (rd s.data.toList = none) := rd_no_word fun o h1 h2 h => hno o h1 h2 (bytes_of_list (by rw [HW.out]; exact h))
    have hB2 := hB1.trans (hb2.mono hB1.size)
    obtain ⟨c0, c1, c2, f0, f1, f2⟩ := (hK1.below hb2).cells
    clear hno hb2 hB1 hK1
    dsimp only
    go_wp2
    exact bodyPost_ret (v := .tuple #[.agg #[.int .i64 0, .string ⟨#[]⟩, .int .i64 0], .iface 150 (.pointer (some (p 7)))]) (by simp [results, Tryz.results90, go_sem, c0, c1, c2]) rfl ⟨below_set3 hB2 (Nat.le_refl _) _ _ _, Or.inr ⟨HN.out, _, rfl⟩⟩

end Go.Proofs.YtikdgmmloiegjaaGreatDoor
