/-
  FnExactReadResult: the law out of the contracts; the frame by proof-skeleton.mjs.
-/
import Derived.Test.YtmeojnaoljgieaaRows
import Derived.WalkKit
import Derived.ProofKit
import Derived.OpenShut
import Derived.ShutString
import Derived.Below
import Derived.Test.YtmeojnaoljgieaaRead
namespace Go.Proofs.Ytmeojnaoljgieaa.fnExactReadResult
open Go.ChangeShapes Go.WideShapes Go.ChangeAt Go.RowKit
open Go.ChangeMaps (open_string shut_string)
set_option linter.unusedVariables false      -- a walk need not use every 'w<i>' (that an integer argument fits its kind)

theorem own : ownKnob Try.prog.godebug = none := by kernel_rfl
theorem below_trans {w a b : World} (h : Below w.heap.size w a) (k : Below a.heap.size a b) : Below w.heap.size w b := h.trans (k.mono h.size)
theorem cell_below {w w' : World} {p : Addr} {v : Value} (hb : Below w.heap.size w w') (h : w.cell? p = some v) : w'.cell? p = some v :=
  (hb.cell (p := p) (World.block_lt_of_cell? w _ h)).trans h

/-- A result's three cells at a block. -/
def R3 (w : World) (b : Nat) (c : Int) (t : ByteArray) : Prop := w.cell? ⟨b, 0, none⟩ = some (.int .i64 c) ∧ w.cell? ⟨b, 1, none⟩ = some (.string t) ∧ w.cell? ⟨b, 2, none⟩ = some (.slice none 0 0)
theorem R3.below {w w' : World} {b : Nat} {c : Int} {t : ByteArray} (h : R3 w b c t) (hb : Below w.heap.size w w') : R3 w' b c t := ⟨cell_below hb h.1, cell_below hb h.2.1, cell_below hb h.2.2⟩
theorem R3.new (w : World) (c : Int) (t : ByteArray) (ty : TypeId) : R3 (w.alloc (.cells #[.int .i64 c, .string t, .slice none 0 0] ty)) w.heap.size c t := ⟨by simp [go_sem], by simp [go_sem], by simp [go_sem]⟩
theorem R3.lt {w : World} {b : Nat} {c : Int} {t : ByteArray} (h : R3 w b c t) : b < w.heap.size := World.block_lt_of_cell? _ _ h.1

set_option maxHeartbeats 2000000 in
/-- The law's walk, where both ReadResults answer one and the same. -/
theorem walk_of (s : ByteArray) (c : Int) (t : ByteArray) (b : Bool) (w : World) (hs : s.size ≤ 1048576)
    (hS : Hid (∀ w, Calls Try.prog 14 #[.string s] w fun e w' => e = .returned (resV c t b) ∧ Below w.heap.size w w'))
    (hI : Hid (∀ w, Calls Try.prog 15 #[.string s] w fun e w' => e = .returned (resV c t b) ∧ Below w.heap.size w w')) :
    Calls Try.prog 5 #[.string s] w fun e w' => e = .returned (.bool true) ∧ Below w.heap.size w w' := by
  unfold resV resA at hS hI
  have heq := eqRes c t
  have hmk := markRes c t 1
  have hhd := heldRes c t 1 (by omega)
  unfold resA at heq hmk hhd
  have HE : Hid _ := heq
  have HM : Hid _ := hmk
  have HH : Hid _ := hhd
  clear heq hmk hhd
  go_enter Try.func5, Try.ntmps5
  go_wp2_with fail
  refine (hS.out _).mono ?_
  rintro e w1 ⟨rfl, hb1⟩
  go_wp2_with fail
  have hB1 : Below w.heap.size w (w1.alloc (.cells #[.int .i64 c, .string t, .slice none 0 0] 32)) := hb1.alloc (hb1.size) _
  have hX := R3.new w1 c t 32
  refine (hI.out _).mono ?_
  rintro e w2 ⟨rfl, hb2⟩
  replace hX := hX.below hb2
  have hB2 := below_trans hB1 hb2
  obtain ⟨hx0, hx1, hx2⟩ := hX
  have hz := World.block_lt_of_cell? _ _ hx0
  clear hb1 hb2 hB1
  go_wp2_with fail
  have hX : R3 w2 w1.heap.size c t := ⟨hx0, hx1, hx2⟩
  have hB3 : Below w.heap.size w (w2.alloc (.cells #[.int .i64 c, .string t, .slice none 0 0] 32)) := hB2.alloc (hB2.size) _
  have hY := R3.new w2 c t 32
  replace hX := hX.below ((Below.refl _ w2).alloc (Nat.le_refl _) (.cells #[.int .i64 c, .string t, .slice none 0 0] 32))
  refine (HE.out _).mono ?_
  rintro e w3 ⟨rfl, hb3⟩
  replace hX := hX.below hb3
  replace hY := hY.below hb3
  have hB4 := below_trans hB3 hb3
  clear hB2 hB3 hb3 hx0 hx1 hx2
  obtain ⟨hy0, hy1, hy2⟩ := hY
  go_wp2_with fail
  refine (HM.out _).mono ?_
  rintro e w4 ⟨rfl, hb4⟩
  have hY : R3 w3 w2.heap.size c t := ⟨hy0, hy1, hy2⟩
  replace hX := hX.below hb4
  replace hY := hY.below hb4
  have hB5 := below_trans hB4 hb4
  clear hB4 hb4 hy0 hy1 hy2
  obtain ⟨hy0, hy1, hy2⟩ := hY
  go_wp2_with fail
  refine (HH.out _).mono ?_
  rintro e w5 ⟨rfl, hb5⟩
  have hY : R3 w4 w2.heap.size c t := ⟨hy0, hy1, hy2⟩
  replace hX := hX.below hb5
  replace hY := hY.below hb5
  have hB6 := below_trans hB5 hb5
  clear hB5 hb5 hy0 hy1 hy2
  go_wp2_with fail
  refine (hI.out _).mono ?_
  rintro e w6 ⟨rfl, hb6⟩
  replace hX := hX.below hb6
  replace hY := hY.below hb6
  have hB7 := below_trans hB6 hb6
  clear hB6 hb6
  obtain ⟨hx0, hx1, hx2⟩ := hX
  have hz6 := World.block_lt_of_cell? _ _ hx0
  go_wp2_with fail
  have hX : R3 w6 w1.heap.size c t := ⟨hx0, hx1, hx2⟩
  replace hY := hY.below ((Below.refl _ w6).alloc (Nat.le_refl _) (.cells #[.int .i64 c, .string t, .slice none 0 0] 32))
  have hB8 : Below w.heap.size w (w6.alloc (.cells #[.int .i64 c, .string t, .slice none 0 0] 32)) := hB7.alloc (hB7.size) _
  refine (HE.out _).mono ?_
  rintro e w7 ⟨rfl, hb7⟩
  replace hY := hY.below hb7
  have hB9 := below_trans hB8 hb7
  clear hB7 hB8 hb7 hx0 hx1 hx2
  obtain ⟨hy0, hy1, hy2⟩ := hY
  go_wp2_with fail
  refine (HH.out _).mono ?_
  rintro e w8 ⟨rfl, hb8⟩
  go_wp2
  go_ret
  exact ⟨rfl, below_trans hB9 hb8⟩

theorem walk (s : ByteArray) (w : World) (w0 : s.size ≤ maxLen) :
    Calls Try.prog 5 #[.string s] w fun e w' => e = .returned (.bool true) ∧ Below w.heap.size w w' := by
  unfold maxLen at w0
  by_cases hs : s.size ≤ 1048576
  · by_cases h : rrB s
    · have h0 : 0 < s.size := by obtain ⟨h, _⟩ := h; omega
      exact walk_of s _ _ _ w hs (fun w => specRead_yes s w h h0) (fun w => implRead_yes s w h h0)
    · exact walk_of s _ _ _ w hs (fun w => specRead_no s w hs h) (fun w => implRead_no s w hs h)
  · go_enter Try.func5, Try.ntmps5
    go_wp2
    go_ret
    exact ⟨rfl, Below.refl _ _⟩

/-! ### THE ROW's STEP -/
set_option maxRecDepth 100000 in
theorem lifted (os : Os) (started : os.Started) (H : Type) (enc : TypeId × Value → H) :
    ReturnsInHanded {} Try.checked os 5 .any (Rows.fnExactReadResultSpec.pre6 enc Try.prog Try.f5 Rows.fnExactReadResultRow.domain false) (Rows.fnExactReadResultSpec.post enc Try.prog Try.f5 false true false false) := by
  refine returnsInHanded_of_change (C := Try.checked) own started (by kernel_rfl) Try.func5
    (ChangeSpec.witness6 (enc := enc) (C := Try.checked) false ⟨#[], #[.string ByteArray.empty], []⟩ 8 (by kernel_rfl) (by kernel_rfl) (by kernel_rfl) (by kernel_rfl)) ?_
  intro W base args ds gs before hval0 hW hcnd _
  have hval : ∀ (j : Nat) t v, Try.f5.params[j]? = some t → args[j]? = some v → Value.okWide Try.prog W .any base t v := hval0
  have hW' := hW
  obtain ⟨p, q, hA0, hV, rfl, hfz, hnd⟩ := hW
  have hA : DataW.TrodAll enc Try.prog W 0 (fun _ => true) true Try.f5.params.toList args.toList ds p := hA0
  rw [Try.params5] at hA hval
  obtain ⟨v0, vs0, d0, ds0, p0, q0, hargs, rfl, rfl, h0, r0⟩ := trodAll_cons hA
  obtain ⟨rfl, rfl, rfl⟩ := trodAll_nil r0
  obtain rfl : args = #[v0] := by cases args; simp_all
  obtain ⟨rfl, rfl⟩ := trodVars_none hV
  obtain ⟨a0, rfl, rfl, rfl, w0⟩ := open_string Try.underlying9 (hval 0 9 v0 rfl rfl) h0
  clear hA0 hval0
  simp only [List.append_nil] at hW'
  refine (walk a0 W w0).mono fun e W' ⟨he, bel⟩ => ?_
  subst he
  exact ⟨_, rfl, _, _, _, [], [], [], hW', trodAll_mk1 (shut_bool Try.underlying4 _), (trodAll_cons_mk (shut_string Try.underlying9 w0) trodAll_mk0), rfl, bel.frame _, fun h => by cases h⟩

theorem over : Rows.fnExactReadResultRow.holds Try.pinned (OpenSpec.ofChange Rows.fnExactReadResultSpec) :=
  OpenClaim.holds_of_wide 5 Try.f5 rfl rfl rfl rfl rfl rfl rfl ⟨rfl, rfl, rfl, rfl, rfl⟩ rfl rfl rfl rfl rfl (by kernel_rfl) Try.func5 (by kernel_rfl)
    (of_decide_eq_true (by kernel_rfl)) (by unfold Func.isWrapper; first | (rw [if_pos (by decide +kernel)]; kernel_rfl) | (rw [if_neg (by decide +kernel)]; exact ⟨rfl, rfl⟩))
    (fun os started H enc _ => lifted os started H enc)

end Go.Proofs.Ytmeojnaoljgieaa.fnExactReadResult
namespace Go.Proofs.Ytmeojnaoljgieaa
theorem fnExactReadResult_holds : Rows.FnExactReadResultSaid := fnExactReadResult.over
#print axioms fnExactReadResult_holds
end Go.Proofs.Ytmeojnaoljgieaa
