/-
  FnExactNext: the walk of the law.
-/
import Derived.Test.YtmeojnaoljgieabDoorNSpec
import Derived.Test.YtmeojnaoljgieabDoorSpSize
namespace Go.Proofs.YtmeojnaoljgieabDoor
open Go.RowKit
set_option linter.unusedVariables false

/-- What Next answers. -/
def NextP (is : List I3) (ys : List R3) (e : Ending) : Prop :=
  (¬ (progOk is = true ∧ repsOk ys = true) ∧ e = .returned (turnV false 9 ⟨#[]⟩ false ⟨#[]⟩ 0)) ∨ ((progOk is = true ∧ repsOk ys = true) ∧ ∃ r, Full is ys s00 r ∧ e = .returned (resT r))
theorem NextP.unique {is : List I3} {ys : List R3} {e e' : Ending} (h : NextP is ys e) (h' : NextP is ys e') : e' = e := by
  rcases h with ⟨h1, rfl⟩ | ⟨h1, r, h2, rfl⟩ <;> rcases h' with ⟨k1, rfl⟩ | ⟨k1, r', k2, rfl⟩
  · rfl
  · exact absurd k1 h1
  · exact absurd h1 k1
  · rw [Full.unique h2 k2]
theorem NextP.parts {is : List I3} {ys : List R3} {e : Ending} (h : NextP is ys e) : ∃ ov c t ask nm st, e = .returned (turnV ov c t ask nm st) := by
  rcases h with ⟨h1, rfl⟩ | ⟨h1, r, h2, rfl⟩
  · exact ⟨_, _, _, _, _, _, rfl⟩
  · cases r <;> exact ⟨_, _, _, _, _, _, rfl⟩

section
variable (a ra : Option Addr) (cap rcap : Nat) (is : List I3) (ys : List R3) (w : World)
theorem specNext_any (hc : Row3 w a is) (hr : RowR w ra ys) (hl : is.length ≤ 1048576) (hl2 : ys.length ≤ 1048576) (hs : ∀ i, (ix is i).text.size ≤ 9223372036854775807) (hs2 : ∀ i, (rx ys i).text.size ≤ 9223372036854775807) :
    Calls Tryd.prog 17 #[.agg #[.slice a is.length cap], .slice ra ys.length rcap] w fun e w' => Below w.heap.size w w' ∧ NextP is ys e := by
  by_cases hv : progOk is = true ∧ repsOk ys = true
  · exact (specNext_yes a ra cap rcap is ys w hc hr hl hs hs2 hv.1 hv.2).mono fun e w' ⟨h1, h2⟩ => ⟨h1, Or.inr ⟨hv, h2⟩⟩
  · exact (specNext_no a ra cap rcap is ys w hc hr hl hl2 hs hs2 hv).mono fun e w' ⟨h1, h2⟩ => ⟨h1, Or.inl ⟨hv, h2⟩⟩
theorem implNext_any (hT : Tab w) (hP : P10 w) (hc : Row3 w a is) (hr : RowR w ra ys) (hl : is.length ≤ 1048576) (hl2 : ys.length ≤ 1048576) (hs : ∀ i, (ix is i).text.size ≤ 9223372036854775807) (hs2 : ∀ i, (rx ys i).text.size ≤ 9223372036854775807) :
    Calls Tryd.prog 19 #[.agg #[.slice a is.length cap], .slice ra ys.length rcap] w fun e w' => Below w.heap.size w w' ∧ NextP is ys e := by
  by_cases hv : progOk is = true ∧ repsOk ys = true
  · exact (implNext_yes a ra cap rcap is ys w hT hP hc hr hl hl2 hs hs2 hv.1 hv.2).mono fun e w' ⟨h1, h2⟩ => ⟨h1, Or.inr ⟨hv, h2⟩⟩
  · exact (implNext_no a ra cap rcap is ys w hT hc hr hl hl2 hs hs2 hv).mono fun e w' ⟨h1, h2⟩ => ⟨h1, Or.inl ⟨hv, h2⟩⟩
end

theorem turn_cells {w : World} {ov : Bool} {c : Int} {t : ByteArray} {ask : Bool} {nm : ByteArray} {st : Int} {b : Nat} (h : w.heap[b]? = some (.cells #[.bool ov, .int .i64 c, .string t, .bool ask, .string nm, .int .i64 st] 49 (0, 0))) : w.cell? ⟨b, 0, none⟩ = some (.bool ov) ∧ w.cell? ⟨b, 1, none⟩ = some (.int .i64 c) ∧ w.cell? ⟨b, 2, none⟩ = some (.string t) ∧ w.cell? ⟨b, 3, none⟩ = some (.bool ask) ∧ w.cell? ⟨b, 4, none⟩ = some (.string nm) ∧ w.cell? ⟨b, 5, none⟩ = some (.int .i64 st) := by
  refine ⟨?_, ?_, ?_, ?_, ?_, ?_⟩ <;> rw [Lib.cell_of_heap h] <;> rfl

set_option maxRecDepth 10000 in
set_option maxHeartbeats 2000000 in
theorem nextLaw (a ra : Option Addr) (cap rcap : Nat) (is : List I3) (ys : List R3) (w : World) (hT : Tab w) (hP : P10 w) (hc : Row3 w a is) (hr : RowR w ra ys) (hl : is.length ≤ maxLen) (hl2 : ys.length ≤ maxLen) (hs : ∀ i, (ix is i).text.size ≤ maxLen) (hs2 : ∀ i, (rx ys i).text.size ≤ maxLen) :
    Calls Tryd.prog 5 #[.agg #[.slice a is.length cap], .slice ra ys.length rcap] w fun e w' => e = .returned (.bool true) ∧ Below w.heap.size w w' := by
  have hb0 : Below w.heap.size w (w.alloc (.cells #[.slice a is.length cap] 24)) := (Below.refl _ _).alloc (Nat.le_refl _) _
  have hs' : ∀ i, (ix is i).text.size ≤ 9223372036854775807 := hs
  have hs2' : ∀ i, (rx ys i).text.size ≤ 9223372036854775807 := hs2
  have hc0 : (w.alloc (.cells #[.slice a is.length cap] 24)).cell? ⟨w.heap.size, 0, none⟩ = some (.slice a is.length cap) := by simp [go_sem]
  have HT : Hid (Tab w) := hT
  have HP : Hid (P10 w) := hP
  clear hT hP
  go_enter Tryd.func5, Tryd.ntmps5
  go_wp2_with fail
  refine (szProgram_left a cap is 1048576 _ (by omega) (by omega) (hc.below hb0) hl hs).mono ?_
  rintro e w1 ⟨hb1, r, rfl, hr1⟩
  have hB1 := bt hb0 hb1
  have hc1 := cell_below hb1 hc0
  clear hb0 hb1 hc0
  rcases hr1 with hr1 | ⟨hli, hr0, hr1⟩
  · go_wp2
    go_ret
    exact ⟨rfl, hB1⟩
  · go_wp2_with fail
    refine (szReplyS_any ra rcap ys r _ hr0 hr1 (hr.below hB1) hl2 hs2).mono ?_
    rintro e w2 ⟨hb2, r2, rfl, hr2⟩
    have hB2 := bt hB1 hb2
    have hc2 := cell_below hb2 hc1
    clear hb2 hB1 hc1
    rcases hr2 with hr2 | ⟨hly, hr2⟩
    · go_wp2
      go_ret
      exact ⟨rfl, hB2⟩
    · have hl5 : is.length ≤ 1048576 := by omega
      have hl6 : ys.length ≤ 1048576 := by omega
      go_wp2_with fail
      refine (toProgram_any a cap is _ (hc.below hB2) hl5).mono ?_
      rintro e w3 ⟨hb3, g1, rfl, hr3⟩
      have hB3 := bt hB2 hb3
      have hc3 := cell_below hb3 hc2
      go_wp2_with fail
      refine (toReplyS_any ra rcap ys _ (hr.below hB3) hl6).mono ?_
      rintro e w4 ⟨hb4, g2, rfl, hg2, hr4⟩
      have hB4 := bt hB3 hb4
      have hc4 := cell_below hb4 hc3
      go_wp2_with fail
      refine (specNext_any _ _ _ _ is ys _ (hr3.below hb4) hr4 hl5 hl6 hs' hs2').mono ?_
      rintro e w5 ⟨hb5, hN⟩
      obtain ⟨ov, c, t, ask, nm, st, rfl⟩ := hN.parts
      have HN : Hid (NextP is ys (.returned (turnV ov c t ask nm st))) := hN
      have hB5 := bt hB4 hb5
      have hc5 := cell_below hb5 hc4
      clear hb3 hb4 hb5 hB2 hB3 hB4 hc2 hc3 hc4 hr3 hr4 hN hg2
      have hb6 : Below w5.heap.size w5 (w5.alloc (.cells #[.bool ov, .int .i64 c, .string t, .bool ask, .string nm, .int .i64 st] 49)) := (Below.refl _ _).alloc (Nat.le_refl _) _
      have hB6 := bt hB5 hb6
      have hc6 := cell_below hb6 hc5
      have HT6 : Hid ((w5.alloc (.cells #[.bool ov, .int .i64 c, .string t, .bool ask, .string nm, .int .i64 st] 49)).heap[w5.heap.size]? = some (.cells #[.bool ov, .int .i64 c, .string t, .bool ask, .string nm, .int .i64 st] 49 (0, 0))) := heap_new _ _
      unfold turnV
      go_wp2_with fail
      refine (toProgram_any a cap is _ (hc.below hB6) hl5).mono ?_
      rintro e w7 ⟨hb7, g3, rfl, hr7⟩
      have hB7 := bt hB6 hb7
      have hc7 := cell_below hb7 hc6
      have HT7 : Hid (w7.heap[w5.heap.size]? = some (.cells #[.bool ov, .int .i64 c, .string t, .bool ask, .string nm, .int .i64 st] 49 (0, 0))) := by show w7.heap[w5.heap.size]? = _; rw [hb7.block _ (blk_lt HT6.out)]; exact HT6.out
      have hb8 : Below w7.heap.size w7 (w7.alloc (.cells #[.slice (some ⟨g3, 0, none⟩) is.length is.length] 29)) := (Below.refl _ _).alloc (Nat.le_refl _) _
      have hd8 : (w7.alloc (.cells #[.slice (some ⟨g3, 0, none⟩) is.length is.length] 29)).cell? ⟨w7.heap.size, 0, none⟩ = some (.slice (some ⟨g3, 0, none⟩) is.length is.length) := by simp [go_sem]
      have hB8 := bt hB7 hb8
      have hc8 := cell_below hb8 hc7
      have hr8 := hr7.below hb8
      clear hB5 hc5 hb6 hB6 hc6 hb7 hB7 hc7 HT6
      go_wp2_with fail
      refine (toReplyS_any ra rcap ys _ (hr.below hB8) hl6).mono ?_
      rintro e w9 ⟨hb9, g4, rfl, hg4, hr9⟩
      have hB9 := bt hB8 hb9
      have hc9 := cell_below hb9 hc8
      have hd9 := cell_below hb9 hd8
      have hp9 := hr8.below hb9
      have HT9 : Hid (w9.heap[w5.heap.size]? = some (.cells #[.bool ov, .int .i64 c, .string t, .bool ask, .string nm, .int .i64 st] 49 (0, 0))) := by show w9.heap[w5.heap.size]? = _; rw [(bt hb8 hb9).block _ (blk_lt HT7.out)]; exact HT7.out
      clear hb8 hB8 hc8 hd8 hr8 hr7 hb9 HT7 hg4
      go_wp2_with fail
      refine (implNext_any _ _ _ _ is ys _ (HT.out.below hB9) (HP.out.below hB9) hp9 hr9 hl5 hl6 hs' hs2').mono ?_
      rintro e w10 ⟨hb10, hN⟩
      obtain rfl := NextP.unique HN.out hN
      have hB10 := bt hB9 hb10
      have hc10 := cell_below hb10 hc9
      have hd10 := cell_below hb10 hd9
      have hp10 := hp9.below hb10
      have hq10 := hr9.below hb10
      have HT10 : Hid (w10.heap[w5.heap.size]? = some (.cells #[.bool ov, .int .i64 c, .string t, .bool ask, .string nm, .int .i64 st] 49 (0, 0))) := by show w10.heap[w5.heap.size]? = _; rw [hb10.block _ (blk_lt HT9.out)]; exact HT9.out
      clear hb10 hB9 hc9 hd9 hp9 hr9 HT9 hN
      have hb11 : Below w10.heap.size w10 (w10.alloc (.cells #[.bool ov, .int .i64 c, .string t, .bool ask, .string nm, .int .i64 st] 49)) := (Below.refl _ _).alloc (Nat.le_refl _) _
      have hB11 := bt hB10 hb11
      have hc11 := cell_below hb11 hc10
      have hd11 := cell_below hb11 hd10
      have hp11 := hp10.below hb11
      have hq11 := hq10.below hb11
      have hne : w5.heap.size ≠ w10.heap.size := by have := blk_lt HT10.out; omega
      have ht11 : (w10.alloc (.cells #[.bool ov, .int .i64 c, .string t, .bool ask, .string nm, .int .i64 st] 49)).heap[w5.heap.size]? = some (.cells #[.bool ov, .int .i64 c, .string t, .bool ask, .string nm, .int .i64 st] 49 (0, 0)) := by rw [Lib.alloc_old _ _ _ (blk_lt HT10.out)]; exact HT10.out
      obtain ⟨u0, u1, u2, u3, u4, u5⟩ := turn_cells ht11
      clear ht11
      clear hB10 hc10 hd10 hp10 hq10
      unfold turnV
      go_wp2_with fail
      have het := eqTurn_same ov c t ask nm st
      unfold turnV at het
      refine (het _).mono ?_
      rintro e w12 ⟨rfl, hb12⟩
      have hB12 := bt hB11 hb12
      have hc12 := cell_below hb12 hc11
      have hd12 := cell_below hb12 hd11
      have hp12 := hp11.below hb12
      have hq12 := hq11.below hb12
      clear hb11 hB11 hc11 hd11 hp11 hq11 hb12 het u0 u1 u2 u3 u4 u5 hne HT10
      have hca := hc.below hB12
      have hb13 : Below w12.heap.size w12 w12.drew := (Below.refl _ _).drew
      go_wp2_with fail
      go_region_held3 (fun w' => w'.cell? ⟨w7.heap.size, 0, none⟩ = some (.slice (some ⟨g3, 0, none⟩) is.length is.length) ∧ w'.cell? ⟨w.heap.size, 0, none⟩ = some (.slice a is.length cap))
        (first | assumption | exact ⟨cell_below hb14 hd12, cell_below hb14 hc12⟩ | exact ⟨cell_below hb15 (cell_below hb14 hd12), cell_below hb15 (cell_below hb14 hc12)⟩ | (simp [*]; done))
        (first | (go_at_call 8; refine (toProgram_any a cap is _ (hca.below hb13) hl5).mono ?_; rintro e w14 ⟨hb14, g5, rfl, hr14⟩) | (go_at_call 10; refine (eqProgram_same _ _ _ _ is _ (hp12.below (bt hb13 hb14)) hr14 hl5).mono ?_; rintro e w15 ⟨hb15, rfl⟩))
      all_goals
        have hB15 := bt (bt (bt hB12 hb13) hb14) hb15
        have hq15 := hq12.below (bt (bt hb13 hb14) hb15)
        clear hb13 hb14 hb15 hr14 hca hp12 hq12 hc12 hd12
        go_wp2_with fail
        refine (toReplyS_any ra rcap ys _ (hr.below hB15) hl6).mono ?_
        rintro e w16 ⟨hb16, g6, rfl, hg6, hr16⟩
        have hB16 := bt hB15 hb16
        have hq16 := hq15.below hb16
        clear hb16 hB15 hq15 hg6
        go_wp2_with fail
        refine (eqReplyS_same _ _ _ _ ys _ hq16 hr16 hl6).mono ?_
        rintro e w17 ⟨hb17, rfl⟩
        have hB17 := bt hB16 hb17
        clear hb17 hB16 hq16 hr16
        go_wp2
        go_ret
        exact ⟨rfl, hB17⟩

end Go.Proofs.YtmeojnaoljgieabDoor
