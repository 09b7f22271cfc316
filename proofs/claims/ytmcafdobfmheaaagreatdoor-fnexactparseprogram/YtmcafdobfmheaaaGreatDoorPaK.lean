/-
  FnExactParseProgram: the walk of the law.
-/
import Derived.Test.YtmcafdobfmheaaaGreatDoorPaJ
namespace Go.Proofs.YtmcafdobfmheaaaGreatDoor
open Go.RowKit
set_option linter.unusedVariables false

def ri : PO → List I3
  | .good is => is
  | .bad _ _ => []
def rc : PO → Int
  | .good _ => 0
  | .bad c _ => c
def rl : PO → Int
  | .good _ => 0
  | .bad _ l => l
theorem OutP.uni {B : Nat} {P : PO} {v : Value} {w : World} (h : OutP B P v w) : ∃ x, v = .tuple #[.agg #[x], .agg #[.int .i64 (rc P), .int .i64 (rl P)]] ∧ RowI B x (ri P) w ∧ (ri P).length ≤ 200 := by
  cases P with
  | good is =>
    obtain ⟨x, rfl, h1, h2, h3⟩ := h
    exact ⟨x, rfl, h1, h3⟩
  | bad c l =>
    obtain ⟨h1, rfl⟩ := h
    exact ⟨_, rfl, World.ownsRow_nil _ _ _ _, Nat.zero_le _⟩
theorem RowI.row3 {B : Nat} {a : Option Addr} {cap : Nat} {is : List I3} {w : World} (h : RowI B (.slice a is.length cap) is w) : Row3 w a is := by
  intro i hi
  rcases h.2 with ⟨_, h0⟩ | ⟨g, cap', cur, hv, hg, _⟩
  · omega
  · have ha : a = some ⟨g, 0, none⟩ := by
      simp only [Value.slice.injEq] at hv; exact hv.1
    subst ha
    have h' : w.ownsRow B 47 3 (.slice (some ⟨g, 0, none⟩) is.length cap) is.length (insC is) := h
    have e : ∀ j, j < 3 → w.cell? ⟨g, i * 3 + j, none⟩ = (insC1 (ix is i))[j]? := fun j hj => by
      rw [h'.cellAt _ (by omega), insC_get is i j hi hj]
    refine ⟨g, 0, rfl, ?_, ?_, ?_⟩
    · rw [Nat.zero_add]; exact e 0 (by omega)
    · rw [Nat.zero_add]; exact e 1 (by omega)
    · rw [Nat.zero_add]; exact e 2 (by omega)

set_option maxHeartbeats 1000000 in
theorem eqFault_same (c l : Int) (w : World) : Calls Tryz.prog 13 #[.agg #[.int .i64 c, .int .i64 l], .agg #[.int .i64 c, .int .i64 l]] w fun e w' => Below w.heap.size w w' ∧ e = .returned (.bool true) := by
  go_enter Tryz.func13, Tryz.ntmps13
  go_wp2
  go_ret
  exact ⟨((Below.refl _ _).alloc (Nat.le_refl _) _).alloc (by simp) _, rfl⟩

/-- All blocks but the row's own stay. -/
def Kp (x : Value) (w w' : World) : Prop := ∀ b, b < w.heap.size → x.ownBlock ≠ some b → w'.heap[b]? = w.heap[b]?
/-- The row's marks are read. -/
def MkP (x : Value) (n K : Nat) (w : World) : Prop := (x = .slice none 0 0 ∧ n = 0) ∨ ∃ g cap, x = .slice (some ⟨g, 0, none⟩) n cap ∧ RdI K n w g
theorem MkP.below {x : Value} {n K : Nat} {w w' : World} (h : MkP x n K w) (hb : Below w.heap.size w w') : MkP x n K w' := by
  rcases h with h | ⟨g, cap, h1, h2⟩
  · exact Or.inl h
  · exact Or.inr ⟨g, cap, h1, h2.below hb⟩

set_option maxRecDepth 100000 in
set_option maxHeartbeats 1000000 in
theorem markNil_any (K : Int) (w : World) : Calls Tryz.prog 31 #[.slice none 0 0, .int .i64 K] w fun e w' => e = .returned (.int .i64 K) ∧ w' = w := by
  go_enter Tryz.func31, Tryz.ntmps31
  go_wp2
  refine wp_loop_rounds 1 ?_
  rw [rounds_succ]
  go_wp2
  go_ret
  exact ⟨rfl, rfl⟩
set_option maxRecDepth 100000 in
set_option maxHeartbeats 1000000 in
theorem heldNil_any (K : Int) (w : World) : Calls Tryz.prog 32 #[.slice none 0 0, .int .i64 K] w fun e w' => e = .returned (.int .i64 K) ∧ w' = w := by
  go_enter Tryz.func32, Tryz.ntmps32
  go_wp2
  refine wp_loop_rounds 1 ?_
  rw [rounds_succ]
  go_wp2
  go_ret
  exact ⟨rfl, rfl⟩

set_option maxRecDepth 100000 in
set_option maxHeartbeats 1000000 in
theorem markProg_any (B : Nat) (x : Value) (is : List I3) (K : Nat) (w : World) (h : RowI B x is w) (hB : B ≤ w.heap.size) (hl : is.length ≤ 200) (h1 : 1 ≤ K) (h2 : K ≤ 1000) :
    Calls Tryz.prog 14 #[.agg #[x], .int .i64 K] w fun e w' => e = .returned (.int .i64 ((K + 3 * is.length : Nat) : Int)) ∧ Below B w w' ∧ Kp x w w' ∧ MkP x is.length K w' := by
  obtain ⟨W, eW⟩ : ∃ W, w.alloc (.cells #[x] 25) = W := ⟨_, rfl⟩
  have hbW : Below w.heap.size w W := eW ▸ (Below.refl _ _).alloc (Nat.le_refl _) _
  have hc : W.cell? ⟨w.heap.size, 0, none⟩ = some x := by rw [← eW]; simp [go_sem]
  have HR : Hid (RowI B x is W) := h.below hbW
  rcases h.2 with ⟨hx, h0⟩ | ⟨g, cap, cur, hx, hg, _⟩
  · subst hx
    have HN := markNil_any (K : Int)
    have HN : Hid (∀ w, Calls Tryz.prog 31 #[.slice none 0 0, .int .i64 K] w fun e w' => e = .returned (.int .i64 K) ∧ w' = w) := HN
    clear HR h
    go_enter Tryz.func14, Tryz.ntmps14
    go_wp2_with fail
    refine (HN.out _).mono ?_
    rintro e w' ⟨rfl, rfl⟩
    go_wp2
    go_ret
    exact ⟨by rw [h0]; rfl, hbW.mono hB, fun b hb _ => hbW.block b hb, Or.inl ⟨rfl, h0⟩⟩
  · subst hx
    have HM : Hid (Calls Tryz.prog 31 #[.slice (some ⟨g, 0, none⟩) is.length cap, .int .i64 K] W fun e w' => e = .returned (.int .i64 ((K + 3 * is.length : Nat) : Int)) ∧ Below B W w' ∧ KeepB g W w' ∧ ∃ ys, w'.ownsRow B 47 3 (.slice (some ⟨g, 0, none⟩) is.length cap) is.length ys ∧ MkI K is.length ys) := markInsS_any B g is.length cap K _ W HR.out (Nat.le_trans hB hbW.size) (by omega) h1 (by omega)
    clear h HR
    go_enter Tryz.func14, Tryz.ntmps14
    go_wp2_with fail
    refine HM.out.mono ?_
    rintro e w' ⟨rfl, hb, hk, ys, hys, hmk⟩
    clear HM
    go_wp2
    go_ret
    refine ⟨rfl, (hbW.mono hB).trans hb, fun b hb' hne => ?_, Or.inr ⟨g, cap, rfl, hmk.read hys⟩⟩
    rw [hk b (Nat.lt_of_lt_of_le hb' hbW.size) (fun e => hne (by rw [e]; rfl)), hbW.block b hb']

set_option maxRecDepth 100000 in
set_option maxHeartbeats 1000000 in
theorem heldProg_any (x : Value) (n K : Nat) (w : World) (h : MkP x n K w) (hl : n ≤ 200) (h1 : 1 ≤ K) (h2 : K ≤ 1000) :
    Calls Tryz.prog 15 #[.agg #[x], .int .i64 K] w fun e w' => e = .returned (.int .i64 ((K + 3 * n : Nat) : Int)) ∧ Below w.heap.size w w' := by
  obtain ⟨W, eW⟩ : ∃ W, w.alloc (.cells #[x] 25) = W := ⟨_, rfl⟩
  have hbW : Below w.heap.size w W := eW ▸ (Below.refl _ _).alloc (Nat.le_refl _) _
  have hc : W.cell? ⟨w.heap.size, 0, none⟩ = some x := by rw [← eW]; simp [go_sem]
  rcases h with ⟨rfl, rfl⟩ | ⟨g, cap, rfl, hr⟩
  · have HN : Hid (∀ w, Calls Tryz.prog 32 #[.slice none 0 0, .int .i64 K] w fun e w' => e = .returned (.int .i64 K) ∧ w' = w) := fun w => heldNil_any (K : Int) w
    have d1 : decide ((K : Int) < 0) = false := by simp
    go_enter Tryz.func15, Tryz.ntmps15
    go_wp2_with fail
    refine (HN.out _).mono ?_
    rintro e w' ⟨rfl, rfl⟩
    go_wp2
    go_ret
    exact ⟨rfl, hbW⟩
  · have HM : Hid (Calls Tryz.prog 32 #[.slice (some ⟨g, 0, none⟩) n cap, .int .i64 K] W fun e w' => e = .returned (.int .i64 ((K + 3 * n : Nat) : Int)) ∧ Below W.heap.size W w') := heldInsS_any g n cap K W (hr.below hbW) (by omega) h1 (by omega)
    obtain ⟨m, hm⟩ : ∃ m, K + 3 * n = m := ⟨_, rfl⟩
    rw [hm] at HM ⊢
    have d1 : decide ((m : Int) < 0) = false := by simp
    clear hr hm
    go_enter Tryz.func15, Tryz.ntmps15
    go_wp2_with fail
    refine HM.out.mono ?_
    rintro e w' ⟨rfl, hb⟩
    clear HM
    go_wp2
    go_ret
    exact ⟨rfl, bt hbW hb⟩

/-- A program and a fault in blocks of their own. -/
abbrev lwW (w : World) (x : Value) (c l : Int) : World := (w.alloc (.cells #[x] 25)).alloc (.cells #[.int .i64 c, .int .i64 l] 29)
theorem lwW_below (w : World) (x : Value) (c l : Int) : Below w.heap.size w (lwW w x c l) := ((Below.refl _ _).alloc (Nat.le_refl _) _).alloc (by simp) _
/-- The two blocks. -/
structure Lv (b : Nat) (x : Value) (c l : Int) (w : World) : Prop where
  h0 : w.heap[b]? = some (.cells #[x] 25 (0, 0))
  h1 : w.heap[b + 1]? = some (.cells #[.int .i64 c, .int .i64 l] 29 (0, 0))
theorem lwW_lv (w : World) (x : Value) (c l : Int) : Lv w.heap.size x c l (lwW w x c l) := ⟨by rw [Lib.alloc_old _ _ _ (by simp), alloc_here], by
  have := alloc_here (w.alloc (.cells #[x] 25)) (.cells #[.int .i64 c, .int .i64 l] 29)
  simpa using this⟩
theorem Lv.below {b : Nat} {x : Value} {c l : Int} {w w' : World} (h : Lv b x c l w) (hb : Below w.heap.size w w') : Lv b x c l w' := ⟨by rw [hb.block _ (heap_lt h.h0)]; exact h.h0, by rw [hb.block _ (heap_lt h.h1)]; exact h.h1⟩
theorem Lv.belowB {B b : Nat} {x : Value} {c l : Int} {w w' : World} (h : Lv b x c l w) (hb : Below B w w') (hB : b + 1 < B) : Lv b x c l w' := ⟨by rw [hb.block _ (by omega)]; exact h.h0, by rw [hb.block _ hB]; exact h.h1⟩
theorem Lv.kp {b : Nat} {x y : Value} {c l : Int} {w w' : World} (h : Lv b x c l w) (hk : Kp y w w') (h0 : y.ownBlock ≠ some b) (h1 : y.ownBlock ≠ some (b + 1)) : Lv b x c l w' := ⟨by rw [hk _ (heap_lt h.h0) h0]; exact h.h0, by rw [hk _ (heap_lt h.h1) h1]; exact h.h1⟩
theorem Lv.cells {b : Nat} {x : Value} {c l : Int} {w : World} (h : Lv b x c l w) : w.cell? ⟨b, 0, none⟩ = some x ∧ w.cell? ⟨b + 1, 0, none⟩ = some (.int .i64 c) ∧ w.cell? ⟨b + 1, 1, none⟩ = some (.int .i64 l) :=
  ⟨by rw [Lib.cell_of_heap h.h0]; rfl, by rw [Lib.cell_of_heap h.h1]; rfl, by rw [Lib.cell_of_heap h.h1]; rfl⟩
theorem RowI.own_lt {B : Nat} {v : Value} {is : List I3} {w : World} (h : RowI B v is w) : ∀ b, v.ownBlock = some b → B ≤ b ∧ b < w.heap.size := fun b hb => World.ownsRow.lt h b hb
theorem RowI.belowB {B B' : Nat} {v : Value} {is : List I3} {w w' : World} (h : RowI B v is w) (hb : Below B' w w') (hB : w.heap.size ≤ B') : RowI B v is w' := own_keepD h (fun b _ hb' => hb.block b (by omega))

set_option maxRecDepth 100000 in
set_option maxHeartbeats 4000000 in
theorem parseLaw (p : Nat → Addr) (s : ByteArray) (w : World) (hE : Env p w) (hS : Sen p w) (hs0 : s.size ≤ 9223372036854775807) :
    Calls Tryz.prog 4 #[.string s] w fun e w' => e = .returned (.bool true) ∧ Below w.heap.size w w' := by
  by_cases hs : s.size ≤ 1048576
  · have d0 : decide ((1048576 : Int) < (s.size : Int)) = false := by simp; omega
    have HE : Hid (Env p w) := hE
    have HS : Hid (Sen p w) := hS
    have HSP : Hid (∀ w, Calls Tryz.prog 11 #[.string s] w fun e w' => Below w.heap.size w w' ∧ ∃ x, e = .returned (.tuple #[.agg #[x], .agg #[.int .i64 (rc (parseP s.data.toList)), .int .i64 (rl (parseP s.data.toList))]]) ∧ RowI w.heap.size x (ri (parseP s.data.toList)) w') := fun w => by
      refine (specParse_any s w hs).mono ?_
      rintro e w' ⟨hb, v, rfl, ho⟩
      obtain ⟨x, rfl, hr, _⟩ := ho.uni
      exact ⟨hb, x, rfl, hr⟩
    have HIM : Hid (∀ w, Env p w → Sen p w → Calls Tryz.prog 7 #[.string s] w fun e w' => Below w.heap.size w w' ∧ ∃ x, e = .returned (.tuple #[.agg #[x], .agg #[.int .i64 (rc (parseP s.data.toList)), .int .i64 (rl (parseP s.data.toList))]]) ∧ RowI w.heap.size x (ri (parseP s.data.toList)) w' ∧ (ri (parseP s.data.toList)).length ≤ 200) := fun w hE hS => by
      refine (implParse_any p s w hE hS hs).mono ?_
      rintro e w' ⟨hb, v, rfl, ho⟩
      obtain ⟨x, rfl, hr, hl⟩ := ho.uni
      exact ⟨hb, x, rfl, hr, hl⟩
    clear hE hS
    generalize ri (parseP s.data.toList) = is at *
    generalize rc (parseP s.data.toList) = c at *
    generalize rl (parseP s.data.toList) = l at *
    go_enter Tryz.func4, Tryz.ntmps4
    go_wp2_with fail
    refine (HSP.out _).mono ?_
    rintro e w1 ⟨hb1, x1, rfl, hr1⟩
    obtain ⟨a1, cp1, rfl⟩ := hr1.slice
    obtain ⟨A1, eA1⟩ : ∃ A1, lwW w1 (.slice a1 is.length cp1) c l = A1 := ⟨_, rfl⟩
    have hbA1 : Below w1.heap.size w1 A1 := eA1 ▸ lwW_below _ _ _ _
    have hv1 : Lv w1.heap.size (.slice a1 is.length cp1) c l A1 := eA1 ▸ lwW_lv _ _ _ _
    have hBA1 : Below w.heap.size w A1 := bt hb1 hbA1
    have hR1 : RowI w.heap.size (.slice a1 is.length cp1) is A1 := hr1.below hbA1
    have HI1 := HIM.out A1 (HE.out.below hBA1) (HS.out.below hBA1)
    have HI1 : Hid (Calls Tryz.prog 7 #[.string s] A1 fun e w' => Below A1.heap.size A1 w' ∧ ∃ x, e = .returned (.tuple #[.agg #[x], .agg #[.int .i64 c, .int .i64 l]]) ∧ RowI A1.heap.size x is w' ∧ is.length ≤ 200) := HI1
    clear hb1 hbA1 hr1 HSP
    go_wp2_with fail
    refine HI1.out.mono ?_
    rintro e w2 ⟨hb2, x2, rfl, hr2, hlen⟩
    obtain ⟨a2, cp2, rfl⟩ := hr2.slice
    obtain ⟨A2, eA2⟩ : ∃ A2, lwW w2 (.slice a2 is.length cp2) c l = A2 := ⟨_, rfl⟩
    have hbA2 : Below w2.heap.size w2 A2 := eA2 ▸ lwW_below _ _ _ _
    have hv2 : Lv w2.heap.size (.slice a2 is.length cp2) c l A2 := eA2 ▸ lwW_lv _ _ _ _
    have h12 : Below A1.heap.size A1 A2 := bt hb2 hbA2
    have hR2 : RowI A1.heap.size (.slice a2 is.length cp2) is A2 := hr2.below hbA2
    have hown2 := hr2.own_lt
    have hR1a := hR1.below h12
    have hv1a := hv1.below h12
    obtain ⟨c1, f1, g1⟩ := hv1a.cells
    obtain ⟨c2, f2, g2⟩ := hv2.cells
    have HQ : Hid (∀ W, Below A2.heap.size A2 W → Calls Tryz.prog 12 #[.agg #[.slice a2 is.length cp2], .agg #[.slice a1 is.length cp1]] W fun e w' => Below W.heap.size W w' ∧ e = .returned (.bool true)) := fun W hW => (eqProgram_same a2 a1 cp2 cp1 is W ((hR2.below hW).row3) ((hR1a.below hW).row3) (by omega)).mono (fun e w' h => ⟨h.1, h.2⟩)
    have HFl : Hid (∀ w, Calls Tryz.prog 13 #[.agg #[.int .i64 c, .int .i64 l], .agg #[.int .i64 c, .int .i64 l]] w fun e w' => Below w.heap.size w w' ∧ e = .returned (.bool true)) := fun w => eqFault_same c l w
    clear HI1 hb2 hbA2 hr2 eA1
    go_wp2_with fail
    refine (HQ.out _ (Below.refl _ _)).mono ?_
    rintro e w3 ⟨hb3, rfl⟩
    replace f1 := cell_below hb3 f1
    replace g1 := cell_below hb3 g1
    replace f2 := cell_below hb3 f2
    replace g2 := cell_below hb3 g2
    go_wp2_with fail
    refine (HFl.out _).mono ?_
    rintro e w4 ⟨hb4, rfl⟩
    have h24 : Below A2.heap.size A2 w4 := bt hb3 hb4
    have hv2d := hv2.below h24
    have hR2d := hR2.below h24
    have HMk : Hid (Calls Tryz.prog 14 #[.agg #[.slice a2 is.length cp2], .int .i64 ((1 : Nat) : Int)] w4 fun e w' => e = .returned (.int .i64 ((1 + 3 * is.length : Nat) : Int)) ∧ Below A1.heap.size w4 w' ∧ Kp (.slice a2 is.length cp2) w4 w' ∧ MkP (.slice a2 is.length cp2) is.length 1 w') := markProg_any A1.heap.size _ is 1 w4 hR2d (Nat.le_trans h12.size h24.size) hlen (by omega) (by omega)
    obtain ⟨m, hm⟩ : ∃ m, 1 + 3 * is.length = m := ⟨_, rfl⟩
    rw [hm] at HMk
    have Hm : Hid (1 + 3 * is.length = m) := hm
    clear hm
    obtain ⟨c2d, f2d, g2d⟩ := hv2d.cells
    have h14 : Below A1.heap.size A1 w4 := bt h12 h24
    clear hb3 hb4 c1 f1 g1 c2 f2 g2 HQ
    go_wp2_with fail
    refine HMk.out.mono ?_
    rintro e w5 ⟨rfl, hb5, hk5, hm5⟩
    have h15 : Below A1.heap.size A1 w5 := h14.trans hb5
    have hv2e : Lv w2.heap.size (.slice a2 is.length cp2) c l w5 := hv2d.kp hk5 (fun e => by have := (hown2 _ e).2; omega) (fun e => by have := (hown2 _ e).2; omega)
    obtain ⟨c2e, f2e, g2e⟩ := hv2e.cells
    have HH5 : Hid (Calls Tryz.prog 15 #[.agg #[.slice a2 is.length cp2], .int .i64 ((1 : Nat) : Int)] w5 fun e w' => e = .returned (.int .i64 (m : Int)) ∧ Below w5.heap.size w5 w') := Hm.out ▸ heldProg_any _ is.length 1 w5 hm5 hlen (by omega) (by omega)
    have d1 : decide ((m : Int) < 0) = false := by simp
    clear HMk hb5 hk5 hv2d c2d f2d g2d hR2d h14 h24
    go_wp2_with fail
    refine HH5.out.mono ?_
    rintro e w6 ⟨rfl, hb6⟩
    have h16 : Below A1.heap.size A1 w6 := h15.trans (hb6.mono h15.size)
    have hm6 := hm5.below hb6
    have hv2f := hv2e.below hb6
    have hB6 : Below w.heap.size w w6 := bt hBA1 h16
    have HI2 : Hid (Calls Tryz.prog 7 #[.string s] w6 fun e w' => Below w6.heap.size w6 w' ∧ ∃ x, e = .returned (.tuple #[.agg #[x], .agg #[.int .i64 c, .int .i64 l]]) ∧ RowI w6.heap.size x is w' ∧ is.length ≤ 200) := HIM.out w6 (HE.out.below hB6) (HS.out.below hB6)
    clear HH5 hb6 hm5 hv2e c2e f2e g2e h15
    go_wp2_with fail
    refine HI2.out.mono ?_
    rintro e w7 ⟨hb7, x3, rfl, hr3, _⟩
    obtain ⟨a3, cp3, rfl⟩ := hr3.slice
    obtain ⟨A3, eA3⟩ : ∃ A3, lwW w7 (.slice a3 is.length cp3) c l = A3 := ⟨_, rfl⟩
    have hbA3 : Below w7.heap.size w7 A3 := eA3 ▸ lwW_below _ _ _ _
    have hv3 : Lv w7.heap.size (.slice a3 is.length cp3) c l A3 := eA3 ▸ lwW_lv _ _ _ _
    have h63 : Below w6.heap.size w6 A3 := bt hb7 hbA3
    have h13 : Below A1.heap.size A1 A3 := bt h16 h63
    have hR3 : RowI w6.heap.size (.slice a3 is.length cp3) is A3 := hr3.below hbA3
    have hR1b := hR1.below h13
    have hv1b := hv1.below h13
    have hv2g := hv2f.below h63
    have hm7 := hm6.below h63
    obtain ⟨c1, f1, g1⟩ := hv1b.cells
    obtain ⟨c3, f3, g3⟩ := hv3.cells
    have HQ2 : Hid (Calls Tryz.prog 12 #[.agg #[.slice a3 is.length cp3], .agg #[.slice a1 is.length cp1]] A3 fun e w' => Below A3.heap.size A3 w' ∧ e = .returned (.bool true)) := (eqProgram_same a3 a1 cp3 cp1 is A3 hR3.row3 hR1b.row3 (by omega)).mono (fun e w' h => ⟨h.1, h.2⟩)
    have hBA3 : Below w.heap.size w A3 := bt hBA1 h13
    clear HI2 hb7 hbA3 hr3 hm6 hv2f h16 h63 hB6 h12 hv1 hv1a hR1 hR1a hR2 hv2 eA2
    go_wp2_with fail
    refine HQ2.out.mono ?_
    rintro e w8 ⟨hb8, rfl⟩
    replace f1 := cell_below hb8 f1
    replace g1 := cell_below hb8 g1
    replace f3 := cell_below hb8 f3
    replace g3 := cell_below hb8 g3
    go_wp2_with fail
    refine (HFl.out _).mono ?_
    rintro e w9 ⟨hb9, rfl⟩
    have h39 : Below A3.heap.size A3 w9 := bt hb8 hb9
    obtain ⟨c2, f2, g2⟩ := (hv2g.below h39).cells
    have HH9 : Hid (Calls Tryz.prog 15 #[.agg #[.slice a2 is.length cp2], .int .i64 ((1 : Nat) : Int)] w9 fun e w' => e = .returned (.int .i64 (m : Int)) ∧ Below w9.heap.size w9 w') := Hm.out ▸ heldProg_any _ is.length 1 w9 (hm7.below h39) hlen (by omega) (by omega)
    have hB9 : Below w.heap.size w w9 := bt hBA3 h39
    clear HQ2 hb8 hb9 c1 f1 g1 c3 f3 g3 eA3 h13 hBA3 hm7 h39
    go_wp2_with fail
    refine HH9.out.mono ?_
    rintro e wx ⟨rfl, hbx⟩
    have hBx := bt hB9 hbx
    clear HH9
    go_wp2
    go_ret
    exact ⟨rfl, hBx⟩
  · have d0 : decide ((1048576 : Int) < (s.size : Int)) = true := by simp; omega
    clear hE hS
    go_enter Tryz.func4, Tryz.ntmps4
    go_wp2
    go_ret
    exact ⟨rfl, Below.refl _ _⟩
end Go.Proofs.YtmcafdobfmheaaaGreatDoor
