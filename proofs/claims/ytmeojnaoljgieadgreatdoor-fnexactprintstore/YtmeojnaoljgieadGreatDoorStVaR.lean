/-
  impl.validRecord.
-/
import Derived.Test.YtmeojnaoljgieadGreatDoorStVal
namespace Go.Proofs.YtmeojnaoljgieadGreatDoor
open Go.RowKit
set_option linter.unusedVariables false

set_option maxHeartbeats 2000000 in
theorem validRecord_any (a la : Option Addr) (cap lc : Nat) (is : List I3) (gs : List G3) (out : ByteArray) (n : Nat) (w : World) (hT : Tab w) (h8 : n ≤ 8) (h : RcIn w a is la gs) (ho : out.size ≤ maxLen) :
    Calls Tryz.prog 249 #[.agg #[.slice a is.length cap, .slice la gs.length lc, .string out], .int .i64 n] w fun e w' => Below w.heap.size w w' ∧ ∃ b, e = .returned (.bool b) ∧ (b = true ↔ RcOk n ⟨is, gs, out⟩) := by
  have hb0 : Below w.heap.size w (w.alloc (.cells #[.slice a is.length cap, .slice la gs.length lc, .string out] 99)) := (Below.refl _ _).alloc (Nat.le_refl _) _
  have k1 : (w.alloc (.cells #[.slice a is.length cap, .slice la gs.length lc, .string out] 99)).cell? ⟨w.heap.size, 1, none⟩ = some (.slice la gs.length lc) := by simp [go_sem]
  have k2 : (w.alloc (.cells #[.slice a is.length cap, .slice la gs.length lc, .string out] 99)).cell? ⟨w.heap.size, 2, none⟩ = some (.string out) := by simp [go_sem]
  unfold maxLen at ho
  have hlg := h.lg
  have HRG : Hid (RowG w la gs) := h.rg
  have HNG : Hid (∀ i, (gx gs i).name.size ≤ maxLen) := h.ng
  have HSG : Hid (∀ i, (gx gs i).sum.size ≤ maxLen) := h.sg
  obtain ⟨v, ev⟩ : ∃ v, progOk is = v := ⟨_, rfl⟩
  have EV : Hid (progOk is = v) := ev
  go_enter Tryz.func249, Tryz.ntmps249
  go_wp2_with fail
  refine (implValid_any a cap is _ (hT.below hb0) (h.rc.below hb0) h.lc h.xc).mono ?_
  rintro e w1 ⟨hb1, rfl⟩
  rw [ev]
  have hB1 := bt hb0 hb1
  have k11 := cell_below hb1 k1
  have k12 := cell_below hb1 k2
  clear hb0 hb1 k1 k2 h ev
  cases v
  · go_wp2
    go_ret
    exact ⟨hB1, false, rfl, iff_no (fun k => by have := k.1; rw [EV.out] at this; cases this)⟩
  · by_cases h2 : out.size = n
    · have d2 : ((out.size : Int) != (n : Int)) = false := by simp; omega
      have H2 : Hid (out.size = n) := h2
      clear h2
      by_cases h3 : 200 < gs.length
      · have d3 : decide ((200 : Int) < (gs.length : Int)) = true := by simp; omega
        go_wp2
        go_ret
        exact ⟨hB1, false, rfl, iff_no (fun k => by have := k.2.2.1; simp only at this; omega)⟩
      · have d3 : decide ((200 : Int) < (gs.length : Int)) = false := by simp; omega
        go_wp2
        go_loopw [27] (fun i wr => ∃ k : Nat, k ≤ gs.length ∧ i = .int .i64 k ∧ Hid (∀ i, i < k → GlOk n (gx gs i)) ∧ Below w.heap.size w wr) (fun i _ => gs.length - (intOf i).toNat)
        case atStart => exact ⟨0, Nat.zero_le _, rfl, (fun i hi => by omega : ∀ i, i < 0 → GlOk n (gx gs i)), hB1⟩
        case round =>
          obtain ⟨k, hk, rfl, HK, hbr⟩ := hrel
          by_cases hlt : k < gs.length
          · obtain ⟨b, off, rfl, c1, c2, c3⟩ := (HRG.out.below hbr) k hlt
            have hnk := HNG.out k
            have hsk := HSG.out k
            have HG1 : Hid (GlOk n (gx gs k) → ∀ i, i < k + 1 → GlOk n (gx gs i)) := fun hg => ext_succ HK.out hg
            have HG0 : Hid (¬ GlOk n (gx gs k) → ¬ RcOk n ⟨is, gs, out⟩) := fun hg h => hg (h.2.2.2 k hlt)
            generalize gx gs k = g at *
            unfold maxLen at hnk hsk
            clear k11 k12
            by_cases g1 : NameOk g.name
            · have e1 := nameB_true g1
              by_cases g2 : g.sum.size = n
              · have d4 : ((g.sum.size : Int) != (n : Int)) = false := by simp; omega
                have HO : Hid (∀ i, i < k + 1 → GlOk n (gx gs i)) := HG1.out ⟨g1, g2⟩
                clear g2
                go_wp2_with (first | (go_at_call 87; refine (validName_any g.name _ hnk).mono ?_; rintro e w9 ⟨rfl, rfl⟩; rw [e1]))
                go_roundw
                case rel => exact ⟨k + 1, by omega, by go_num, HO.out, hbr.alloc hbr.size _⟩
                case measure => simp [intOf]; omega
              · have d4 : ((g.sum.size : Int) != (n : Int)) = true := by simp; omega
                have HO : Hid (¬ RcOk n ⟨is, gs, out⟩) := HG0.out (fun h => g2 h.2)
                clear g2
                go_wp2_with (first | (go_at_call 87; refine (validName_any g.name _ hnk).mono ?_; rintro e w9 ⟨rfl, rfl⟩; rw [e1]))
                go_ret
                exact ⟨hbr.alloc hbr.size _, false, rfl, iff_no HO.out⟩
            · have e1 := nameB_false g1
              have HO : Hid (¬ RcOk n ⟨is, gs, out⟩) := HG0.out (fun h => g1 h.1)
              go_wp2_with (first | (go_at_call 87; refine (validName_any g.name _ hnk).mono ?_; rintro e w9 ⟨rfl, rfl⟩; rw [e1]))
              go_ret
              exact ⟨hbr.alloc hbr.size _, false, rfl, iff_no HO.out⟩
          · have HO : Hid (RcOk n ⟨is, gs, out⟩) := ⟨EV.out, H2.out, by show gs.length ≤ 200; omega, fun i hi => HK.out i (by simp only at hi; omega)⟩
            go_wp2
            go_ret
            exact ⟨hbr, true, rfl, iff_yes HO.out⟩
    · have d2 : ((out.size : Int) != (n : Int)) = true := by simp; omega
      go_wp2
      go_ret
      exact ⟨hB1, false, rfl, iff_no (fun k => h2 k.2.1)⟩

end Go.Proofs.YtmeojnaoljgieadGreatDoor
