import Derived.Test.YtllhbgmadiclcaaGreatDoorStRow
import Derived.Test.YtllhbgmadiclcaaGreatDoorSum
import Derived.Test.YtllhbgmadiclcaaGreatDoorValid
import Derived.Test.YtllhbgmadiclcaaGreatDoorValidP
namespace Go.Proofs.YtllhbgmadiclcaaGreatDoor
open Go.RowKit
set_option linter.unusedVariables false

def sumB (n : Nat) (s : ByteArray) : ByteArray := ⟨(digs (hash s.data.toList) n).toArray⟩
def GlOk (n : Nat) (g : G3) : Prop := NameOk g.name ∧ g.sum.size = n
def RcOk (n : Nat) (r : T3) : Prop := progOk r.code = true ∧ r.out.size = n ∧ r.looks.length ≤ 200 ∧ ∀ i, i < r.looks.length → GlOk n (gx r.looks i)
def TxOk (n : Nat) (ts : List ByteArray) : Prop := ts.length ≤ 5000 ∧ (∀ i, i < ts.length → (nx ts i).size ≤ 2002) ∧ Asc (ts.map (sumB n))
def StoOk (n : Nat) (ts : List ByteArray) (rs : List T3) : Prop := TxOk n ts ∧ rs.length ≤ 2000 ∧ ∀ i, i < rs.length → RcOk n (qx rs i)

theorem nx_sums (n : Nat) (ts : List ByteArray) (i : Nat) (h : i < ts.length) : nx (ts.map (sumB n)) i = sumB n (nx ts i) := by
  unfold nx
  rw [List.getD_eq_getElem?_getD, List.getD_eq_getElem?_getD, List.getElem?_map, List.getElem?_eq_getElem h]
  rfl
theorem b_iff {b : Bool} {P : Prop} (h : b = true ↔ P) : (P ∧ b = true) ∨ (¬ P ∧ b = false) := by
  cases b
  · exact Or.inr ⟨fun p => absurd (h.2 p) (by simp), rfl⟩
  · exact Or.inl ⟨h.1 rfl, rfl⟩
theorem name_iff (s : ByteArray) : nameB s = true ↔ NameOk s := by
  by_cases h : NameOk s
  · rw [nameB_true h]; exact iff_yes h
  · rw [nameB_false h]; exact iff_no h

set_option maxHeartbeats 400000 in
theorem l4GlanceOk_any (g : G3) (n : Nat) (w : World) (h8 : n ≤ 8) (hn : g.name.size ≤ maxLen) (hs : g.sum.size ≤ maxLen) :
    Calls Tryz.prog 60 #[.agg #[.string g.name, .bool g.ask, .string g.sum], .int .i64 n] w fun e w' => Below w.heap.size w w' ∧ ∃ b, e = .returned (.bool b) ∧ (b = true ↔ GlOk n g) := by
  unfold maxLen at hn hs
  have hb0 : Below w.heap.size w (w.alloc (.cells #[.string g.name, .bool g.ask, .string g.sum] 90)) := (Below.refl _ _).alloc (Nat.le_refl _) _
  by_cases h1 : NameOk g.name
  · have e1 := nameB_true h1
    by_cases h2 : g.sum.size = n
    · have d2 : ((g.sum.size : Int) == (n : Int)) = true := by simp; omega
      have HH : Hid (GlOk n g) := ⟨h1, h2⟩
      clear h2
      go_enter Tryz.func60, Tryz.ntmps60
      go_wp2_with (first | (go_at_call 84; refine (l2NameOk_any g.name _ hn).mono ?_; rintro e w9 ⟨rfl, rfl⟩; rw [e1]))
      go_ret
      exact ⟨hb0, true, rfl, iff_yes HH.out⟩
    · have d2 : ((g.sum.size : Int) == (n : Int)) = false := by simp; omega
      have HH : Hid (¬ GlOk n g) := fun h => h2 h.2
      clear h2
      go_enter Tryz.func60, Tryz.ntmps60
      go_wp2_with (first | (go_at_call 84; refine (l2NameOk_any g.name _ hn).mono ?_; rintro e w9 ⟨rfl, rfl⟩; rw [e1]))
      go_ret
      exact ⟨hb0, false, rfl, iff_no HH.out⟩
  · have e1 := nameB_false h1
    have HH : Hid (¬ GlOk n g) := fun h => h1 h.1
    go_enter Tryz.func60, Tryz.ntmps60
    go_wp2_with (first | (go_at_call 84; refine (l2NameOk_any g.name _ hn).mono ?_; rintro e w9 ⟨rfl, rfl⟩; rw [e1]))
    go_ret
    exact ⟨hb0, false, rfl, iff_no HH.out⟩

/-- A record as a valid-record function is handed it. -/
structure RcIn (w : World) (a : Option Addr) (is : List I3) (la : Option Addr) (gs : List G3) : Prop where
  rc : Row3 w a is
  rg : RowG w la gs
  lc : is.length ≤ 1048576
  lg : gs.length ≤ 1048576
  xc : ∀ i, (ix is i).text.size ≤ maxLen
  ng : ∀ i, (gx gs i).name.size ≤ maxLen
  sg : ∀ i, (gx gs i).sum.size ≤ maxLen

set_option maxHeartbeats 2000000 in
theorem l4RecordOk_any (a la : Option Addr) (cap lc : Nat) (is : List I3) (gs : List G3) (out : ByteArray) (n : Nat) (w : World) (h8 : n ≤ 8) (h : RcIn w a is la gs) (ho : out.size ≤ maxLen) :
    Calls Tryz.prog 37 #[.agg #[.slice a is.length cap, .slice la gs.length lc, .string out], .int .i64 n] w fun e w' => Below w.heap.size w w' ∧ ∃ b, e = .returned (.bool b) ∧ (b = true ↔ RcOk n ⟨is, gs, out⟩) := by
  have hb0 : Below w.heap.size w (w.alloc (.cells #[.slice a is.length cap, .slice la gs.length lc, .string out] 50)) := (Below.refl _ _).alloc (Nat.le_refl _) _
  have k1 : (w.alloc (.cells #[.slice a is.length cap, .slice la gs.length lc, .string out] 50)).cell? ⟨w.heap.size, 1, none⟩ = some (.slice la gs.length lc) := by simp [go_sem]
  have k2 : (w.alloc (.cells #[.slice a is.length cap, .slice la gs.length lc, .string out] 50)).cell? ⟨w.heap.size, 2, none⟩ = some (.string out) := by simp [go_sem]
  unfold maxLen at ho
  have hlg := h.lg
  have HRG : Hid (RowG w la gs) := h.rg
  have HNG : Hid (∀ i, (gx gs i).name.size ≤ maxLen) := h.ng
  have HSG : Hid (∀ i, (gx gs i).sum.size ≤ maxLen) := h.sg
  obtain ⟨v, ev⟩ : ∃ v, progOk is = v := ⟨_, rfl⟩
  have EV : Hid (progOk is = v) := ev
  go_enter Tryz.func37, Tryz.ntmps37
  go_wp2_with fail
  refine (specValid_any a cap is _ (h.rc.below hb0) h.lc h.xc).mono ?_
  rintro e w1 ⟨hb1, rfl⟩
  rw [ev]
  have hB1 := bt hb0 hb1
  have k11 := cell_below hb1 k1
  have k12 := cell_below hb1 k2
  clear hb0 hb1 k1 k2 h ev
  cases v
  · go_wp2
    go_ret
    exact ⟨hB1, false, rfl, iff_no (fun k => by have := k.1; rw [EV.out] at this; cases this)⟩
  · by_cases h2 : out.size = n
    · have d2 : ((out.size : Int) != (n : Int)) = false := by simp; omega
      have H2 : Hid (out.size = n) := h2
      clear h2
      by_cases h3 : 200 < gs.length
      · have d3 : decide ((200 : Int) < (gs.length : Int)) = true := by simp; omega
        go_wp2
        go_ret
        exact ⟨hB1, false, rfl, iff_no (fun k => by have := k.2.2.1; simp only at this; omega)⟩
      · have d3 : decide ((200 : Int) < (gs.length : Int)) = false := by simp; omega
        go_wp2
        go_loopw [5] (fun i wr => ∃ k : Nat, k ≤ gs.length ∧ i = .int .i64 k ∧ Hid (∀ i, i < k → GlOk n (gx gs i)) ∧ wr.cell? ⟨w.heap.size, 1, none⟩ = some (.slice la gs.length lc) ∧ Below w.heap.size w wr) (fun i _ => gs.length - (intOf i).toNat)
        case atStart => exact ⟨0, Nat.zero_le _, rfl, (fun i hi => by omega : ∀ i, i < 0 → GlOk n (gx gs i)), k11, hB1⟩
        case round =>
          obtain ⟨k, hk, rfl, HK, hx, hbr⟩ := hrel
          by_cases hlt : k < gs.length
          · obtain ⟨b, off, rfl, c1, c2, c3⟩ := (HRG.out.below hbr) k hlt
            have hnk := HNG.out k
            have hsk := HSG.out k
            have HG1 : Hid (GlOk n (gx gs k) → ∀ i, i < k + 1 → GlOk n (gx gs i)) := fun hg => ext_succ HK.out hg
            have HG0 : Hid (¬ GlOk n (gx gs k) → ¬ RcOk n ⟨is, gs, out⟩) := fun hg h => hg (h.2.2.2 k hlt)
            generalize gx gs k = g at *
            clear k11 k12
            go_wp2_with fail
            refine (l4GlanceOk_any g n _ h8 hnk hsk).mono ?_
            rintro e w2 ⟨hb2, b, rfl, hb⟩
            have hx2 := cell_below hb2 hx
            rcases b_iff hb with ⟨hg, rfl⟩ | ⟨hg, rfl⟩
            · have HO : Hid (∀ i, i < k + 1 → GlOk n (gx gs i)) := HG1.out hg
              clear hb hg
              go_wp2
              go_roundw
              case rel => exact ⟨k + 1, by omega, by go_num, HO.out, hx2, bt hbr hb2⟩
              case measure => simp [intOf]; omega
            · have HO : Hid (¬ RcOk n ⟨is, gs, out⟩) := HG0.out hg
              clear hb hg
              go_wp2
              go_ret
              exact ⟨bt hbr hb2, false, rfl, iff_no HO.out⟩
          · have HO : Hid (RcOk n ⟨is, gs, out⟩) := ⟨EV.out, H2.out, by show gs.length ≤ 200; omega, fun i hi => HK.out i (by simp only at hi; omega)⟩
            go_wp2
            go_ret
            exact ⟨hbr, true, rfl, iff_yes HO.out⟩
    · have d2 : ((out.size : Int) != (n : Int)) = true := by simp; omega
      go_wp2
      go_ret
      exact ⟨hB1, false, rfl, iff_no (fun k => h2 k.2.1)⟩

end Go.Proofs.YtllhbgmadiclcaaGreatDoor
namespace Go.Proofs.YtllhbgmadiclcaaGreatDoor
open Go.RowKit
set_option linter.unusedVariables false

set_option maxHeartbeats 2000000 in
theorem validRecord_any (a la : Option Addr) (cap lc : Nat) (is : List I3) (gs : List G3) (out : ByteArray) (n : Nat) (w : World) (hT : Tab w) (h8 : n ≤ 8) (h : RcIn w a is la gs) (ho : out.size ≤ maxLen) :
    Calls Tryz.prog 87 #[.agg #[.slice a is.length cap, .slice la gs.length lc, .string out], .int .i64 n] w fun e w' => Below w.heap.size w w' ∧ ∃ b, e = .returned (.bool b) ∧ (b = true ↔ RcOk n ⟨is, gs, out⟩) := by
  have hb0 : Below w.heap.size w (w.alloc (.cells #[.slice a is.length cap, .slice la gs.length lc, .string out] 50)) := (Below.refl _ _).alloc (Nat.le_refl _) _
  have k1 : (w.alloc (.cells #[.slice a is.length cap, .slice la gs.length lc, .string out] 50)).cell? ⟨w.heap.size, 1, none⟩ = some (.slice la gs.length lc) := by simp [go_sem]
  have k2 : (w.alloc (.cells #[.slice a is.length cap, .slice la gs.length lc, .string out] 50)).cell? ⟨w.heap.size, 2, none⟩ = some (.string out) := by simp [go_sem]
  unfold maxLen at ho
  have hlg := h.lg
  have HRG : Hid (RowG w la gs) := h.rg
  have HNG : Hid (∀ i, (gx gs i).name.size ≤ maxLen) := h.ng
  have HSG : Hid (∀ i, (gx gs i).sum.size ≤ maxLen) := h.sg
  obtain ⟨v, ev⟩ : ∃ v, progOk is = v := ⟨_, rfl⟩
  have EV : Hid (progOk is = v) := ev
  go_enter Tryz.func87, Tryz.ntmps87
  go_wp2_with fail
  refine (implValid_any a cap is _ (hT.below hb0) (h.rc.below hb0) h.lc h.xc).mono ?_
  rintro e w1 ⟨hb1, rfl⟩
  rw [ev]
  have hB1 := bt hb0 hb1
  have k11 := cell_below hb1 k1
  have k12 := cell_below hb1 k2
  clear hb0 hb1 k1 k2 h ev
  cases v
  · go_wp2
    go_ret
    exact ⟨hB1, false, rfl, iff_no (fun k => by have := k.1; rw [EV.out] at this; cases this)⟩
  · by_cases h2 : out.size = n
    · have d2 : ((out.size : Int) != (n : Int)) = false := by simp; omega
      have H2 : Hid (out.size = n) := h2
      clear h2
      by_cases h3 : 200 < gs.length
      · have d3 : decide ((200 : Int) < (gs.length : Int)) = true := by simp; omega
        go_wp2
        go_ret
        exact ⟨hB1, false, rfl, iff_no (fun k => by have := k.2.2.1; simp only at this; omega)⟩
      · have d3 : decide ((200 : Int) < (gs.length : Int)) = false := by simp; omega
        go_wp2
        go_loopw [27] (fun i wr => ∃ k : Nat, k ≤ gs.length ∧ i = .int .i64 k ∧ Hid (∀ i, i < k → GlOk n (gx gs i)) ∧ Below w.heap.size w wr) (fun i _ => gs.length - (intOf i).toNat)
        case atStart => exact ⟨0, Nat.zero_le _, rfl, (fun i hi => by omega : ∀ i, i < 0 → GlOk n (gx gs i)), hB1⟩
        case round =>
          obtain ⟨k, hk, rfl, HK, hbr⟩ := hrel
          by_cases hlt : k < gs.length
          · obtain ⟨b, off, rfl, c1, c2, c3⟩ := (HRG.out.below hbr) k hlt
            have hnk := HNG.out k
            have hsk := HSG.out k
            have HG1 : Hid (GlOk n (gx gs k) → ∀ i, i < k + 1 → GlOk n (gx gs i)) := fun hg => ext_succ HK.out hg
            have HG0 : Hid (¬ GlOk n (gx gs k) → ¬ RcOk n ⟨is, gs, out⟩) := fun hg h => hg (h.2.2.2 k hlt)
            generalize gx gs k = g at *
            unfold maxLen at hnk hsk
            clear k11 k12
            by_cases g1 : NameOk g.name
            · have e1 := nameB_true g1
              by_cases g2 : g.sum.size = n
              · have d4 : ((g.sum.size : Int) != (n : Int)) = false := by simp; omega
                have HO : Hid (∀ i, i < k + 1 → GlOk n (gx gs i)) := HG1.out ⟨g1, g2⟩
                clear g2
                go_wp2_with (first | (go_at_call 98; refine (validName_any g.name _ hnk).mono ?_; rintro e w9 ⟨rfl, rfl⟩; rw [e1]))
                go_roundw
                case rel => exact ⟨k + 1, by omega, by go_num, HO.out, hbr.alloc hbr.size _⟩
                case measure => simp [intOf]; omega
              · have d4 : ((g.sum.size : Int) != (n : Int)) = true := by simp; omega
                have HO : Hid (¬ RcOk n ⟨is, gs, out⟩) := HG0.out (fun h => g2 h.2)
                clear g2
                go_wp2_with (first | (go_at_call 98; refine (validName_any g.name _ hnk).mono ?_; rintro e w9 ⟨rfl, rfl⟩; rw [e1]))
                go_ret
                exact ⟨hbr.alloc hbr.size _, false, rfl, iff_no HO.out⟩
            · have e1 := nameB_false g1
              have HO : Hid (¬ RcOk n ⟨is, gs, out⟩) := HG0.out (fun h => g1 h.1)
              go_wp2_with (first | (go_at_call 98; refine (validName_any g.name _ hnk).mono ?_; rintro e w9 ⟨rfl, rfl⟩; rw [e1]))
              go_ret
              exact ⟨hbr.alloc hbr.size _, false, rfl, iff_no HO.out⟩
          · have HO : Hid (RcOk n ⟨is, gs, out⟩) := ⟨EV.out, H2.out, by show gs.length ≤ 200; omega, fun i hi => HK.out i (by simp only at hi; omega)⟩
            go_wp2
            go_ret
            exact ⟨hbr, true, rfl, iff_yes HO.out⟩
    · have d2 : ((out.size : Int) != (n : Int)) = true := by simp; omega
      go_wp2
      go_ret
      exact ⟨hB1, false, rfl, iff_no (fun k => h2 k.2.1)⟩

end Go.Proofs.YtllhbgmadiclcaaGreatDoor
