import Derived.Test.YtmeojnaoljgieaeGreatDoorVNStepK
import Derived.Test.YtmeojnaoljgieaeGreatDoorVNStepL
import Derived.Test.YtmeojnaoljgieaeGreatDoorVNStepM
import Derived.Test.YtmeojnaoljgieaeGreatDoorVNStepN
import Derived.Test.YtmeojnaoljgieaeGreatDoorVNStepP
import Derived.Test.YtmeojnaoljgieaeGreatDoorVVoA
namespace Go.Proofs.YtmeojnaoljgieaeGreatDoor
open Go.RowKit
set_option linter.unusedVariables false
set_option maxHeartbeats 8000000
set_option maxRecDepth 100000
theorem own_strA {B : Nat} {w : World} {g cp : Nat} {ss : List ByteArray} (h : Own B w (some ⟨g, 0, none⟩) cp ss) : StrA w (some ⟨g, 0, none⟩) ss := by
  intro i hi
  refine ⟨g, 0, rfl, ?_⟩
  rw [Nat.zero_add, World.ownsRow.cellAt h i (by omega)]
  unfold strV
  rw [List.getElem?_map, List.getElem?_eq_getElem hi, List.getD_eq_getElem?_getD, List.getElem?_eq_getElem hi]
  rfl
theorem own_cases {B : Nat} {w : World} {a : Option Addr} {cp : Nat} {ss : List ByteArray} (h : Own B w a cp ss) : (a = none /\ cp = 0 /\ ss = []) \/ ∃ g, a = some ⟨g, 0, none⟩ /\ ss.length <= cp := by
  rcases h.2 with ⟨hv, h0⟩ | ⟨g, cap, cur, hv, _, _, hc, _⟩
  · simp only [Value.slice.injEq] at hv
    exact Or.inl ⟨hv.1, hv.2.2, List.length_eq_zero_iff.mp h0⟩
  · simp only [Value.slice.injEq] at hv
    exact Or.inr ⟨g, hv.1, by omega⟩
theorem l2Step_any (a : Option Addr) (cap : Nat) (is : List I3) (s : St) (sa : Option Addr) (cp : Nat) (ra : Option Addr) (rcap : Nat) (ys : List R3) (w : World) (B0 : Nat) (hv : progOk is = true) (hs : StOk is s) (hcode : Row3 w a is) (hsk : Own B0 w sa cp s.stack) (hyl : ys.length <= 200) (hr : RowR w ra ys) :
    Calls Tryz.prog 171 #[.agg #[.slice a is.length cap], runV s.pl (.slice sa s.stack.length cp) s.steps s.looks, .slice ra ys.length rcap] w fun e w' => Below w.heap.size w w' /\ StepPost w.heap.size is ys s w' e := by
  by_cases hpl : s.pl < is.length
  · by_cases hst2 : s.steps = 2000
    · exact step_spent a cap is s sa cp ra rcap ys w hv hs hpl hst2
    · by_cases hfew : s.stack.length < takesN (ix is s.pl).op.toNat
      · exact step_few a cap is s sa cp ra rcap ys w hv hs hcode hpl hst2 hfew
      · by_cases hmany : 50 < s.stack.length - takesN (ix is s.pl).op.toNat + putsN (ix is s.pl).op.toNat
        · exact step_many a cap is s sa cp ra rcap ys w hv hs hcode hpl hst2 hfew hmany
        · obtain ⟨o, tt, n, ei, ho1, ho2, ht, hn, hn2⟩ := ok_parts hv hpl
          have eo : (ix is s.pl).op.toNat = o := by rw [ei]; simp
          rw [eo] at hfew hmany
          rcases own_cases hsk with ⟨rfl, rfl, hnil⟩ | ⟨d, rfl, hcp⟩
          · have hl0 : s.stack.length = 0 := by rw [hnil]; rfl
            rw [hl0]
            rcases (show o = 1 \/ o = 2 \/ o = 3 \/ o = 4 \/ o = 5 \/ o = 6 \/ o = 7 \/ o = 8 \/ o = 9 \/ o = 10 \/ o = 11 \/ o = 12 \/ o = 13 \/ o = 14 \/ o = 15 by omega) with rfl | rfl | rfl | rfl | rfl | rfl | rfl | rfl | rfl | rfl | rfl | rfl | rfl | rfl | rfl
            · exact step_op1n a cap is s ra rcap ys w hv hs hcode hpl hst2 hnil tt n ei (by omega) hyl hr
            all_goals first
              | exact step_op10n a cap is s ra rcap ys w hv hs hcode hpl hst2 hnil tt n ei (by omega) hyl hr
              | (exfalso; rw [hl0] at hfew; exact hfew (by decide))
          · have hA := own_strA hsk
            rcases (show o = 1 \/ o = 2 \/ o = 3 \/ o = 4 \/ o = 5 \/ o = 6 \/ o = 7 \/ o = 8 \/ o = 9 \/ o = 10 \/ o = 11 \/ o = 12 \/ o = 13 \/ o = 14 \/ o = 15 by omega) with rfl | rfl | rfl | rfl | rfl | rfl | rfl | rfl | rfl | rfl | rfl | rfl | rfl | rfl | rfl
            · have e1 : takesN 1 = 0 := rfl
              have e2 : putsN 1 = 1 := rfl
              exact step_op1 a cap is s d cp ra rcap ys w hv hs hcode hpl hst2 hA hcp tt n ei (by omega) (by omega) hyl hr
            · have e1 : takesN 2 = 2 := rfl
              have e2 : putsN 2 = 1 := rfl
              exact step_op2 a cap is s d cp ra rcap ys w hv hs hcode hpl hst2 hA hcp tt n ei (by omega) (by omega) hyl hr
            · have e1 : takesN 3 = 1 := rfl
              have e2 : putsN 3 = 1 := rfl
              exact step_op3 a cap is s d cp ra rcap ys w hv hs hcode hpl hst2 hA hcp tt n ei (by omega) (by omega) hyl hr
            · have e1 : takesN 4 = 1 := rfl
              have e2 : putsN 4 = 1 := rfl
              exact step_op4 a cap is s d cp ra rcap ys w hv hs hcode hpl hst2 hA hcp tt n ei (by omega) (by omega) hyl hr
            · have e1 : takesN 5 = 1 := rfl
              have e2 : putsN 5 = 1 := rfl
              exact step_op5 a cap is s d cp ra rcap ys w hv hs hcode hpl hst2 hA hcp tt n ei (by omega) (by omega) hyl hr
            · have e1 : takesN 6 = 2 := rfl
              have e2 : putsN 6 = 1 := rfl
              exact step_op6 a cap is s d cp ra rcap ys w hv hs hcode hpl hst2 hA hcp tt n ei (by omega) (by omega) hyl hr
            · have e1 : takesN 7 = 1 := rfl
              have e2 : putsN 7 = 2 := rfl
              exact step_op7 a cap is s d cp ra rcap ys w hv hs hcode hpl hst2 hA hcp tt n ei (by omega) (by omega) hyl hr
            · have e1 : takesN 8 = 2 := rfl
              have e2 : putsN 8 = 2 := rfl
              exact step_op8 a cap is s d cp ra rcap ys w hv hs hcode hpl hst2 hA hcp tt n ei (by omega) (by omega) hyl hr
            · have e1 : takesN 9 = 1 := rfl
              have e2 : putsN 9 = 0 := rfl
              exact step_op9 a cap is s d cp ra rcap ys w hv hs hcode hpl hst2 hA hcp tt n ei (by omega) (by omega) hyl hr
            · have e1 : takesN 10 = 0 := rfl
              have e2 : putsN 10 = 0 := rfl
              exact step_op10 a cap is s d cp ra rcap ys w hv hs hcode hpl hst2 hA hcp tt n ei (by omega) (by omega) hyl hr
            · have e1 : takesN 11 = 1 := rfl
              have e2 : putsN 11 = 0 := rfl
              cases h1 : (topB s.stack).toList.isEmpty with
              | true => exact step_op11a a cap is s d cp ra rcap ys w hv hs hcode hpl hst2 hA hcp tt n ei (by omega) (by omega) h1 hyl hr
              | false =>
                cases h2 : ((topB s.stack).toList == [48]) with
                | true => exact step_op11b a cap is s d cp ra rcap ys w hv hs hcode hpl hst2 hA hcp tt n ei (by omega) (by omega) h1 h2 hyl hr
                | false => exact step_op11c a cap is s d cp ra rcap ys w hv hs hcode hpl hst2 hA hcp tt n ei (by omega) (by omega) h1 h2 hyl hr
            · have e1 : takesN 12 = 1 := rfl
              have e2 : putsN 12 = 1 := rfl
              exact step_look12 a cap is s d cp ra rcap ys w hv hs hcode hpl hst2 hA hcp tt n ei (by omega) (by omega) hyl hr
            · have e1 : takesN 13 = 1 := rfl
              have e2 : putsN 13 = 1 := rfl
              exact step_look13 a cap is s d cp ra rcap ys w hv hs hcode hpl hst2 hA hcp tt n ei (by omega) (by omega) hyl hr
            · have e1 : takesN 14 = 1 := rfl
              exact step_fail a cap is s d cp ra rcap ys w hv hs hcode hpl hst2 hA hcp tt n ei (by omega)
            · have e1 : takesN 15 = 1 := rfl
              exact step_end a cap is s d cp ra rcap ys w hv hs hcode hpl hst2 hA hcp tt n ei (by omega)
  · exact step_beyond a cap is s sa cp ra rcap ys w hv hs hpl
theorem reps_size {ys : List R3} (h : repsOk ys = true) {k : Nat} (hk : k < ys.length) : (rx ys k).text.size <= 2000 := by
  simp only [repsOk, Bool.and_eq_true, decide_eq_true_eq] at h
  have := h.2 k hk
  simp only [repOk, Bool.and_eq_true, decide_eq_true_eq] at this
  omega
/-- Where spec.Next's loop stands, with at most kx rounds to come. -/
def Stand (is : List I3) (ys : List R3) (B : Nat) (w : World) (kx : Nat) (x0 : Int) (ax : Option Addr) (nx cx : Nat) (x2 x3 : Int) (x4 : Bool) (x5 : Int) (x6 : ByteArray) (x7 : Bool) (x8 : ByteArray) (x9 : Bool) : Prop :=
  (∃ s, StOk is s /\ (∀ r, Full is ys s r -> Full is ys s00 r) /\ Own B w ax cx s.stack /\ 2002 - s.steps <= kx /\ x0 = s.pl /\ nx = s.stack.length /\ x2 = s.steps /\ x3 = s.looks /\ x4 = false /\ x5 = 0 /\ x6 = ⟨#[]⟩ /\ x7 = false /\ x8 = ⟨#[]⟩ /\ x9 = false) ∨
  (∃ n : Nat, Full is ys s00 (.over x5 x6 n) /\ x2 = n /\ x4 = true /\ x9 = false) ∨
  (∃ n : Nat, Full is ys s00 (.wait x7 x8 n) /\ x2 = n /\ x4 = false /\ x9 = true)
theorem step0_steps {is : List I3} {s s' : St} (hv : progOk is = true) (hs : StOk is s) (h : step0 is s = .go s') : s'.steps = s.steps + 1 := by
  by_cases hp : s.pl < is.length
  · by_cases h2 : s.steps = 2000
    · rw [st_spent hp h2] at h; cases h
    · obtain ⟨o, t, n, e, h3, h4, h5, h6, h7⟩ := ok_parts hv hp
      rw [st_ins hp h2 e] at h
      by_cases hf : s.stack.length < takesN o
      · rw [ins_few hf] at h; cases h
      · rcases (show o <= 11 \/ (o = 12 \/ o = 13) \/ o = 14 \/ o = 15 by omega) with ho | ho | ho | ho
        · by_cases hb : Bad o t n s.stack
          · rw [ins_stuck hf ho hb] at h; cases h
          · rw [ins_go hf ho hb] at h; cases h
            rfl
        · by_cases hn : NameOk (topB s.stack)
          · by_cases hk : s.looks = 200
            · rw [ins_spent hf ho hn hk] at h; cases h
            · rw [ins_look hf ho hn hk] at h; cases h
          · rw [ins_bad hf ho hn] at h; cases h
        · rw [ins_fail hf ho] at h; cases h
        · rw [ins_end hf ho] at h; cases h
  · rw [st_place hp] at h; cases h
theorem stand_step {is : List I3} {ys : List R3} {s : St} {B : Nat} {w' : World} {e : Ending} (hv : progOk is = true) (hs : StOk is s) (hrep : repsOk ys = true) (hF : ∀ r, Full is ys s r -> Full is ys s00 r) (h : StepPost B is ys s w' e) :
    ∃ x0 ax nx cx x2 x3 x4 x5 x6 x7 x8 x9, e = .returned (r10 x0 ax nx cx x2 x3 x4 x5 x6 x7 x8 x9) /\ Stand is ys B w' (2001 - s.steps) x0 ax nx cx x2 x3 x4 x5 x6 x7 x8 x9 := by
  have hl := prog_len hv
  rcases h with ⟨c, t, n, h, pl, va, vn, vc, lk, rfl⟩ | ⟨s', h, a', cp', rfl, ho⟩ | ⟨ask, nm, s', h, hy, pl, va, vn, vc, lk, rfl⟩ | ⟨ask, nm, s', s'', h, hy, ha, a', cp', rfl, ho⟩ | ⟨ask, nm, s', c, t, n, h, hy, ha, pl, va, vn, vc, lk, rfl⟩
  · exact ⟨_, _, _, _, _, _, _, _, _, _, _, _, rfl, Or.inr (Or.inl ⟨n, hF _ (.over h), rfl, rfl, rfl⟩)⟩
  · have h1 := step0_go hv hs h
    have h2 := step0_steps hv hs h
    exact ⟨_, _, _, _, _, _, _, _, _, _, _, _, rfl, Or.inl ⟨s', h1.1, fun r hr => hF r (.go h hr), ho, by omega, rfl, rfl, rfl, rfl, rfl, rfl, rfl, rfl, rfl, rfl⟩⟩
  · exact ⟨_, _, _, _, _, _, _, _, _, _, _, _, rfl, Or.inr (Or.inr ⟨s'.steps, hF _ (.wait h hy), rfl, rfl, rfl⟩)⟩
  · obtain ⟨q1, q2, q3, q4, q5, q6, q7, q8⟩ := step0_look h
    have hst2 : s.steps ≠ 2000 := by
      intro h2
      rw [st_spent q5 h2] at h
      cases h
    have hs' : StOk is s' := by
      have h1 := look_ok hs hst2 q4
      have e : s' = ⟨s.pl, restL s.stack 1, s.steps + 1, s.looks + 1⟩ := by
        cases s'
        simp only [St.mk.injEq]
        exact ⟨q2, q7, q3, q1⟩
      rw [e]
      exact h1
    have h50 : s'.stack.length < 50 := by rw [q7, restL_length]; have := hs.len; omega
    have hso : StOk is s'' /\ s''.steps = s'.steps := by
      unfold ansP at ha
      split at ha
      · cases ha; exact ⟨ans_ok hs' hl.2 (by omega) h50 (by rw [flagB_size]; omega), rfl⟩
      · split at ha
        · cases ha
        · split at ha
          · cases ha
          · cases ha; exact ⟨ans_ok hs' hl.2 (by omega) h50 (reps_size hrep hy), rfl⟩
    exact ⟨_, _, _, _, _, _, _, _, _, _, _, _, rfl, Or.inl ⟨s'', hso.1, fun r hr => hF r (.ans h hy ha hr), ho, by omega, rfl, rfl, rfl, rfl, rfl, rfl, rfl, rfl, rfl, rfl⟩⟩
  · exact ⟨_, _, _, _, _, _, _, _, _, _, _, _, rfl, Or.inr (Or.inl ⟨n, hF _ (.end h hy ha), rfl, rfl, rfl⟩)⟩
theorem Stand.set {is : List I3} {ys : List R3} {B : Nat} {w : World} {kx b : Nat} {x0 : Int} {ax : Option Addr} {nx cx : Nat} {x2 x3 : Int} {x4 : Bool} {x5 : Int} {x6 : ByteArray} {x7 : Bool} {x8 : ByteArray} {x9 : Bool} (h : Stand is ys B w kx x0 ax nx cx x2 x3 x4 x5 x6 x7 x8 x9 /\ ∃ cs, w.heap[b]? = some (.cells cs 236 (0, 0))) (j : Nat) (x : Value) :
    Stand is ys B (w.setCell ⟨b, j, none⟩ x) kx x0 ax nx cx x2 x3 x4 x5 x6 x7 x8 x9 /\ ∃ cs, (w.setCell ⟨b, j, none⟩ x).heap[b]? = some (.cells cs 236 (0, 0)) := by
  obtain ⟨h, hc⟩ := h
  refine ⟨?_, by obtain ⟨cs, hb⟩ := hc; exact ⟨_, Joins.block_setCell hb x⟩⟩
  rcases h with ⟨s, h1, h2, h3, h4⟩ | h
  · exact Or.inl ⟨s, h1, h2, (own96 ⟨h3, hc⟩ j x).1, h4⟩
  · exact Or.inr h
theorem Stand.mono {is : List I3} {ys : List R3} {B B' : Nat} {w : World} {kx : Nat} {x0 : Int} {ax : Option Addr} {nx cx : Nat} {x2 x3 : Int} {x4 : Bool} {x5 : Int} {x6 : ByteArray} {x7 : Bool} {x8 : ByteArray} {x9 : Bool} (h : Stand is ys B w kx x0 ax nx cx x2 x3 x4 x5 x6 x7 x8 x9) (hB : B' <= B) : Stand is ys B' w kx x0 ax nx cx x2 x3 x4 x5 x6 x7 x8 x9 := by
  rcases h with ⟨s, h1, h2, h3, h4⟩ | h
  · exact Or.inl ⟨s, h1, h2, h3.mono hB, h4⟩
  · exact Or.inr h
theorem stand_set10 {is : List I3} {ys : List R3} {B : Nat} {w : World} {kx b : Nat} {x0 : Int} {ax : Option Addr} {nx cx : Nat} {x2 x3 : Int} {x4 : Bool} {x5 : Int} {x6 : ByteArray} {x7 : Bool} {x8 : ByteArray} {x9 : Bool} (h : Stand is ys B w kx x0 ax nx cx x2 x3 x4 x5 x6 x7 x8 x9) (hc : ∃ cs, w.heap[b]? = some (.cells cs 236 (0, 0))) (v0 v1 v2 v3 v4 v5 v6 v7 v8 v9 : Value) :
    Stand is ys B ((((((((((w.setCell ⟨b, 0, none⟩ v0).setCell ⟨b, 1, none⟩ v1).setCell ⟨b, 2, none⟩ v2).setCell ⟨b, 3, none⟩ v3).setCell ⟨b, 4, none⟩ v4).setCell ⟨b, 5, none⟩ v5).setCell ⟨b, 6, none⟩ v6).setCell ⟨b, 7, none⟩ v7).setCell ⟨b, 8, none⟩ v8).setCell ⟨b, 9, none⟩ v9) kx x0 ax nx cx x2 x3 x4 x5 x6 x7 x8 x9 := (Stand.set (Stand.set (Stand.set (Stand.set (Stand.set (Stand.set (Stand.set (Stand.set (Stand.set (Stand.set ⟨h, hc⟩ 0 v0) 1 v1) 2 v2) 3 v3) 4 v4) 5 v5) 6 v6) 7 v7) 8 v8) 9 v9).1
theorem block_set10 {w : World} {b : Nat} {u0 u1 u2 u3 u4 u5 u6 u7 u8 u9 : Value} (h : w.heap[b]? = some (.cells #[u0, u1, u2, u3, u4, u5, u6, u7, u8, u9] 236 (0, 0))) (v0 v1 v2 v3 v4 v5 v6 v7 v8 v9 : Value) :
    ((((((((((w.setCell ⟨b, 0, none⟩ v0).setCell ⟨b, 1, none⟩ v1).setCell ⟨b, 2, none⟩ v2).setCell ⟨b, 3, none⟩ v3).setCell ⟨b, 4, none⟩ v4).setCell ⟨b, 5, none⟩ v5).setCell ⟨b, 6, none⟩ v6).setCell ⟨b, 7, none⟩ v7).setCell ⟨b, 8, none⟩ v8).setCell ⟨b, 9, none⟩ v9).heap[b]? = some (.cells #[v0, v1, v2, v3, v4, v5, v6, v7, v8, v9] 236 (0, 0)) := by
  have h0 : (w.setCell ⟨b, 0, none⟩ v0).heap[b]? = some (.cells #[v0, u1, u2, u3, u4, u5, u6, u7, u8, u9] 236 (0, 0)) := by rw [Joins.block_setCell h]; rfl
  have h1 : ((w.setCell ⟨b, 0, none⟩ v0).setCell ⟨b, 1, none⟩ v1).heap[b]? = some (.cells #[v0, v1, u2, u3, u4, u5, u6, u7, u8, u9] 236 (0, 0)) := by rw [Joins.block_setCell h0]; rfl
  have h2 : (((w.setCell ⟨b, 0, none⟩ v0).setCell ⟨b, 1, none⟩ v1).setCell ⟨b, 2, none⟩ v2).heap[b]? = some (.cells #[v0, v1, v2, u3, u4, u5, u6, u7, u8, u9] 236 (0, 0)) := by rw [Joins.block_setCell h1]; rfl
  have h3 : ((((w.setCell ⟨b, 0, none⟩ v0).setCell ⟨b, 1, none⟩ v1).setCell ⟨b, 2, none⟩ v2).setCell ⟨b, 3, none⟩ v3).heap[b]? = some (.cells #[v0, v1, v2, v3, u4, u5, u6, u7, u8, u9] 236 (0, 0)) := by rw [Joins.block_setCell h2]; rfl
  have h4 : (((((w.setCell ⟨b, 0, none⟩ v0).setCell ⟨b, 1, none⟩ v1).setCell ⟨b, 2, none⟩ v2).setCell ⟨b, 3, none⟩ v3).setCell ⟨b, 4, none⟩ v4).heap[b]? = some (.cells #[v0, v1, v2, v3, v4, u5, u6, u7, u8, u9] 236 (0, 0)) := by rw [Joins.block_setCell h3]; rfl
  have h5 : ((((((w.setCell ⟨b, 0, none⟩ v0).setCell ⟨b, 1, none⟩ v1).setCell ⟨b, 2, none⟩ v2).setCell ⟨b, 3, none⟩ v3).setCell ⟨b, 4, none⟩ v4).setCell ⟨b, 5, none⟩ v5).heap[b]? = some (.cells #[v0, v1, v2, v3, v4, v5, u6, u7, u8, u9] 236 (0, 0)) := by rw [Joins.block_setCell h4]; rfl
  have h6 : (((((((w.setCell ⟨b, 0, none⟩ v0).setCell ⟨b, 1, none⟩ v1).setCell ⟨b, 2, none⟩ v2).setCell ⟨b, 3, none⟩ v3).setCell ⟨b, 4, none⟩ v4).setCell ⟨b, 5, none⟩ v5).setCell ⟨b, 6, none⟩ v6).heap[b]? = some (.cells #[v0, v1, v2, v3, v4, v5, v6, u7, u8, u9] 236 (0, 0)) := by rw [Joins.block_setCell h5]; rfl
  have h7 : ((((((((w.setCell ⟨b, 0, none⟩ v0).setCell ⟨b, 1, none⟩ v1).setCell ⟨b, 2, none⟩ v2).setCell ⟨b, 3, none⟩ v3).setCell ⟨b, 4, none⟩ v4).setCell ⟨b, 5, none⟩ v5).setCell ⟨b, 6, none⟩ v6).setCell ⟨b, 7, none⟩ v7).heap[b]? = some (.cells #[v0, v1, v2, v3, v4, v5, v6, v7, u8, u9] 236 (0, 0)) := by rw [Joins.block_setCell h6]; rfl
  have h8 : (((((((((w.setCell ⟨b, 0, none⟩ v0).setCell ⟨b, 1, none⟩ v1).setCell ⟨b, 2, none⟩ v2).setCell ⟨b, 3, none⟩ v3).setCell ⟨b, 4, none⟩ v4).setCell ⟨b, 5, none⟩ v5).setCell ⟨b, 6, none⟩ v6).setCell ⟨b, 7, none⟩ v7).setCell ⟨b, 8, none⟩ v8).heap[b]? = some (.cells #[v0, v1, v2, v3, v4, v5, v6, v7, v8, u9] 236 (0, 0)) := by rw [Joins.block_setCell h7]; rfl
  have h9 : ((((((((((w.setCell ⟨b, 0, none⟩ v0).setCell ⟨b, 1, none⟩ v1).setCell ⟨b, 2, none⟩ v2).setCell ⟨b, 3, none⟩ v3).setCell ⟨b, 4, none⟩ v4).setCell ⟨b, 5, none⟩ v5).setCell ⟨b, 6, none⟩ v6).setCell ⟨b, 7, none⟩ v7).setCell ⟨b, 8, none⟩ v8).setCell ⟨b, 9, none⟩ v9).heap[b]? = some (.cells #[v0, v1, v2, v3, v4, v5, v6, v7, v8, v9] 236 (0, 0)) := by rw [Joins.block_setCell h8]; rfl
  exact h9
theorem specNext_yes (a ra : Option Addr) (cap rcap : Nat) (is : List I3) (ys : List R3) (w : World) (hc : Row3 w a is) (hr : RowR w ra ys) (hl : is.length <= 1048576) (hs : ∀ i, (ix is i).text.size <= 9223372036854775807) (hs2 : ∀ i, (rx ys i).text.size <= 9223372036854775807) (hv1 : progOk is = true) (hv2 : repsOk ys = true) :
    Calls Tryz.prog 115 #[.agg #[.slice a is.length cap], .slice ra ys.length rcap] w fun e w' => Below w.heap.size w w' /\ ∃ r, Full is ys s00 r /\ e = .returned (resT r) := by
  have hb0 : Below w.heap.size w ((w.alloc (.cells #[.slice a is.length cap] 60)).alloc (.cells #[.bool false, .int .i64 0, .string ⟨#[]⟩, .bool false, .string ⟨#[]⟩, .int .i64 0] 173)) := ((Below.refl _ _).alloc (Nat.le_refl _) _).alloc (by simp) _
  have hk : ((w.alloc (.cells #[.slice a is.length cap] 60)).alloc (.cells #[.bool false, .int .i64 0, .string ⟨#[]⟩, .bool false, .string ⟨#[]⟩, .int .i64 0] 173)).heap[w.heap.size + 1]? = some (.cells #[.bool false, .int .i64 0, .string ⟨#[]⟩, .bool false, .string ⟨#[]⟩, .int .i64 0] 173 (0, 0)) := by
    have h := heap_new (w.alloc (.cells #[.slice a is.length cap] 60)) (.cells #[.bool false, .int .i64 0, .string ⟨#[]⟩, .bool false, .string ⟨#[]⟩, .int .i64 0] 173)
    rw [show (w.alloc (.cells #[.slice a is.length cap] 60)).heap.size = w.heap.size + 1 from by simp] at h
    exact h
  have hbx : ((w.alloc (.cells #[.slice a is.length cap] 60)).alloc (.cells #[.bool false, .int .i64 0, .string ⟨#[]⟩, .bool false, .string ⟨#[]⟩, .int .i64 0] 173)).cell? ⟨w.heap.size, 0, none⟩ = some (.slice a is.length cap) := by simp [go_sem]
  have hv2' := hv2
  simp only [repsOk, Bool.and_eq_true, decide_eq_true_eq] at hv2'
  have hlen : ys.length <= 200 := hv2'.1
  have HV1 : Hid (progOk is = true) := hv1
  have HV2 : Hid (repsOk ys = true) := hv2
  have HOK : Hid (∀ i, i < ys.length -> repOk (rx ys i) = true) := hv2'.2
  have HC : Hid (Row3 w a is) := hc
  have HR : Hid (RowR w ra ys) := hr
  clear hv2' hv2
  go_enter Tryz.func115, Tryz.ntmps115
  go_wp2_with fail
  refine (specValid_any a cap is _ (HC.out.below hb0) hl hs).mono ?_
  rintro e w1 ⟨hb1, rfl⟩
  have hB1 := bN hb0 hb1
  have hk1 : w1.heap[w.heap.size + 1]? = some (.cells #[.bool false, .int .i64 0, .string ⟨#[]⟩, .bool false, .string ⟨#[]⟩, .int .i64 0] 173 (0, 0)) := by rw [hb1.block _ (blk_lt hk)]; exact hk
  have hbx1 := cell_below hb1 hbx
  rw [hv1]
  clear hb0 hb1 hk hbx hv1 hc hr
  have d2 : decide ((200 : Int) < (ys.length : Int)) = false := by simp; omega
  have HK1 : Hid (w1.heap[w.heap.size + 1]? = some (.cells #[.bool false, .int .i64 0, .string ⟨#[]⟩, .bool false, .string ⟨#[]⟩, .int .i64 0] 173 (0, 0))) := hk1
  have HB1 : Hid (Below w.heap.size w w1) := hB1
  have HX1 : Hid (w1.cell? ⟨w.heap.size, 0, none⟩ = some (.slice a is.length cap)) := hbx1
  have hR1 : w.heap.size + 1 < w1.heap.size := blk_lt hk1
  clear hk1 hB1 hbx1
  go_wp2_with fail
  go_loopw [5] (fun i wr => ∃ k : Nat, k <= ys.length /\ i = .int .i64 k /\ w1 = wr) (fun i _ => ys.length - (intOf i).toNat)
  case atStart => exact ⟨0, Nat.zero_le _, rfl, rfl⟩
  case round =>
    obtain ⟨k, hk, rfl, rfl⟩ := hrel
    by_cases hlt : k < ys.length
    · obtain ⟨b, off, rfl, c1, c2, c3⟩ := (HR.out.below HB1.out) k hlt
      have hsk := hs2 k
      have hok := HOK.out k hlt
      clear hs2 HR HOK
      generalize rx ys k = r at *
      have d1 : decide ((2000 : Int) < (r.text.size : Int)) = false := by simp only [repOk, Bool.and_eq_true, decide_eq_true_eq] at hok; simp; omega
      have d3 : decide (r.code < 0) = false := by simp only [repOk, Bool.and_eq_true, decide_eq_true_eq] at hok; simp; omega
      have d4 : decide (7 < r.code) = false := by simp only [repOk, Bool.and_eq_true, decide_eq_true_eq] at hok; simp; omega
      clear hok
      go_wp2_with fail
      go_roundw
      case rel => exact ⟨k + 1, by omega, by go_num, trivial⟩
      case measure => simp [intOf]; omega
    · have hkI : ¬ (k : Int) < (ys.length : Int) := by omega
      go_wp2_with fail
      go_loopg [] 2002 (fun kx wr => ∃ (x0 : Int) (ax : Option Addr) (nx cx : Nat) (x2 x3 : Int) (x4 : Bool) (x5 : Int) (x6 : ByteArray) (x7 : Bool) (x8 : ByteArray) (x9 : Bool), Hid (wr.heap[w1.heap.size]? = some (.cells #[.int .i64 x0, .slice ax nx cx, .int .i64 x2, .int .i64 x3, .bool x4, .int .i64 x5, .string x6, .bool x7, .string x8, .bool x9] 236 (0, 0))) /\ Hid (Stand is ys w1.heap.size wr kx x0 ax nx cx x2 x3 x4 x5 x6 x7 x8 x9) /\ Hid (Below w1.heap.size w1 wr))
      case atStart => exact ⟨0, none, 0, 0, 0, 0, false, 0, ⟨#[]⟩, false, ⟨#[]⟩, false, heap_new _ _, Or.inl ⟨s00, s00_ok is, fun r h => h, ⟨rfl, Or.inl ⟨rfl, rfl⟩⟩, by simp [s00], rfl, rfl, rfl, rfl, rfl, rfl, rfl, rfl, rfl, rfl⟩, (Below.refl _ _).alloc (Nat.le_refl _) _⟩
      case round =>
        obtain ⟨x0, ax, nx, cx, x2, x3, x4, x5, x6, x7, x8, x9, HRB, HST, HBW⟩ := hrel
        have hxw : wr.cell? ⟨w.heap.size, 0, none⟩ = some (.slice a is.length cap) := by rw [HBW.out.cell (p := ⟨w.heap.size, 0, none⟩) (by simp; omega)]; exact HX1.out
        have hkw : wr.heap[w.heap.size + 1]? = some (.cells #[.bool false, .int .i64 0, .string ⟨#[]⟩, .bool false, .string ⟨#[]⟩, .int .i64 0] 173 (0, 0)) := by rw [HBW.out.block _ hR1]; exact HK1.out
        have hBw : Below w.heap.size w wr := HB1.out.trans (HBW.out.mono (by omega))
        have hrb := HRB.out
        rcases HST.out with ⟨s, h1, h2, h3, h4, rfl, rfl, rfl, rfl, rfl, rfl, rfl, rfl, rfl, rfl⟩ | ⟨n, h1, rfl, rfl, rfl⟩ | ⟨n, h1, rfl, rfl, rfl⟩
        · have HS : Hid (StOk is s) := h1
          have HF : Hid (∀ r, Full is ys s r -> Full is ys s00 r) := h2
          have HOW : Hid (Own w1.heap.size wr ax cx s.stack) := h3
          have hst := h1.steps
          have hlr : w1.heap.size < wr.heap.size := blk_lt hrb
          have p0 := Lib.cell_of_heap hrb 0
          have p1 := Lib.cell_of_heap hrb 1
          have p2 := Lib.cell_of_heap hrb 2
          have p3 := Lib.cell_of_heap hrb 3
          have p4 := Lib.cell_of_heap hrb 4
          have p5 := Lib.cell_of_heap hrb 5
          have p6 := Lib.cell_of_heap hrb 6
          have p7 := Lib.cell_of_heap hrb 7
          have p8 := Lib.cell_of_heap hrb 8
          have p9 := Lib.cell_of_heap hrb 9
          simp only [List.getElem?_toArray, List.getElem?_cons_zero, List.getElem?_cons_succ] at p0 p1 p2 p3 p4 p5 p6 p7 p8 p9
          have fp : ∀ j, wr.frozen? ⟨w1.heap.size, j, none⟩ = false := fun j => Lib.frozen_of_heap hrb j
          clear h1 h2 h3 hrb HST
          go_wp2_with fail
          have hl3 := l2Step_any a cap is s ax cx ra rcap ys wr w1.heap.size HV1.out HS.out (HC.out.below hBw) HOW.out hlen (HR.out.below hBw)
          unfold runV at hl3
          refine hl3.mono ?_
          rintro e w3 ⟨hb3, hpost⟩
          obtain ⟨y0, ay, ny, cy, y2, y3, y4, y5, y6, y7, y8, y9, rfl, hsd⟩ := stand_step HV1.out HS.out HV2.out HF.out hpost
          have hr3 : w3.heap[w1.heap.size]? = some (.cells #[.int .i64 s.pl, .slice ax s.stack.length cx, .int .i64 s.steps, .int .i64 s.looks, .bool false, .int .i64 0, .string ⟨#[]⟩, .bool false, .string ⟨#[]⟩, .bool false] 236 (0, 0)) := by rw [hb3.block _ hlr]; exact HRB.out
          have HSD : Hid (Stand is ys wr.heap.size w3 (2001 - s.steps) y0 ay ny cy y2 y3 y4 y5 y6 y7 y8 y9) := hsd
          have HR3 : Hid (w3.heap[w1.heap.size]? = some (.cells #[.int .i64 s.pl, .slice ax s.stack.length cx, .int .i64 s.steps, .int .i64 s.looks, .bool false, .int .i64 0, .string ⟨#[]⟩, .bool false, .string ⟨#[]⟩, .bool false] 236 (0, 0))) := hr3
          have hB4 : Below w1.heap.size w1 w3 := HBW.out.trans (hb3.mono (by omega))
          clear p0 p1 p2 p3 p4 p5 p6 p7 p8 p9 fp
          have p0 := Lib.cell_of_heap hr3 0
          have p1 := Lib.cell_of_heap hr3 1
          have p2 := Lib.cell_of_heap hr3 2
          have p3 := Lib.cell_of_heap hr3 3
          have p4 := Lib.cell_of_heap hr3 4
          have p5 := Lib.cell_of_heap hr3 5
          have p6 := Lib.cell_of_heap hr3 6
          have p7 := Lib.cell_of_heap hr3 7
          have p8 := Lib.cell_of_heap hr3 8
          have p9 := Lib.cell_of_heap hr3 9
          simp only [List.getElem?_toArray, List.getElem?_cons_zero, List.getElem?_cons_succ] at p0 p1 p2 p3 p4 p5 p6 p7 p8 p9
          have fp : ∀ j, w3.frozen? ⟨w1.heap.size, j, none⟩ = false := fun j => Lib.frozen_of_heap hr3 j
          clear hr3 hsd hpost hl3 hb3
          unfold r10
          go_wp2_with fail
          go_roundg (2001 - s.steps)
          case rel => exact ⟨y0, ay, ny, cy, y2, y3, y4, y5, y6, y7, y8, y9, block_set10 HR3.out _ _ _ _ _ _ _ _ _ _, (stand_set10 HSD.out ⟨_, HR3.out⟩ _ _ _ _ _ _ _ _ _ _).mono (by omega), ((((((((((hB4).setCell (p := ⟨w1.heap.size, 0, none⟩) (Nat.le_refl _) _).setCell (p := ⟨w1.heap.size, 1, none⟩) (Nat.le_refl _) _).setCell (p := ⟨w1.heap.size, 2, none⟩) (Nat.le_refl _) _).setCell (p := ⟨w1.heap.size, 3, none⟩) (Nat.le_refl _) _).setCell (p := ⟨w1.heap.size, 4, none⟩) (Nat.le_refl _) _).setCell (p := ⟨w1.heap.size, 5, none⟩) (Nat.le_refl _) _).setCell (p := ⟨w1.heap.size, 6, none⟩) (Nat.le_refl _) _).setCell (p := ⟨w1.heap.size, 7, none⟩) (Nat.le_refl _) _).setCell (p := ⟨w1.heap.size, 8, none⟩) (Nat.le_refl _) _).setCell (p := ⟨w1.heap.size, 9, none⟩) (Nat.le_refl _) _⟩
          case measure => omega
        · have HF : Hid (Full is ys s00 (.over x5 x6 n)) := h1
          have p0 := Lib.cell_of_heap hrb 0
          have p1 := Lib.cell_of_heap hrb 1
          have p2 := Lib.cell_of_heap hrb 2
          have p3 := Lib.cell_of_heap hrb 3
          have p4 := Lib.cell_of_heap hrb 4
          have p5 := Lib.cell_of_heap hrb 5
          have p6 := Lib.cell_of_heap hrb 6
          have p7 := Lib.cell_of_heap hrb 7
          have p8 := Lib.cell_of_heap hrb 8
          have p9 := Lib.cell_of_heap hrb 9
          simp only [List.getElem?_toArray, List.getElem?_cons_zero, List.getElem?_cons_succ] at p0 p1 p2 p3 p4 p5 p6 p7 p8 p9
          have fp : ∀ j, wr.frozen? ⟨w1.heap.size, j, none⟩ = false := fun j => Lib.frozen_of_heap hrb j
          have k0 := Lib.cell_of_heap hkw 0
          have k1 := Lib.cell_of_heap hkw 1
          have k2 := Lib.cell_of_heap hkw 2
          have k3 := Lib.cell_of_heap hkw 3
          have k4 := Lib.cell_of_heap hkw 4
          have k5 := Lib.cell_of_heap hkw 5
          simp only [List.getElem?_toArray, List.getElem?_cons_zero, List.getElem?_cons_succ] at k0 k1 k2 k3 k4 k5
          have f0 : ∀ j, wr.frozen? ⟨w.heap.size + 1, j, none⟩ = false := fun j => Lib.frozen_of_heap hkw j
          clear h1 hrb hkw HST
          go_wp2_with fail
          exact bodyPost_ret (v := turnV true x5 x6 false ⟨#[]⟩ n) (by simp [results, Tryz.results115, go_sem, turnV, k0, k1, k2, k3, k4, k5]) rfl ⟨((((((hBw).setCell (p := ⟨w.heap.size + 1, 0, none⟩) (by simp) _).setCell (p := ⟨w.heap.size + 1, 1, none⟩) (by simp) _).setCell (p := ⟨w.heap.size + 1, 2, none⟩) (by simp) _).setCell (p := ⟨w.heap.size + 1, 3, none⟩) (by simp) _).setCell (p := ⟨w.heap.size + 1, 4, none⟩) (by simp) _).setCell (p := ⟨w.heap.size + 1, 5, none⟩) (by simp) _, _, HF.out, rfl⟩
        · have HF : Hid (Full is ys s00 (.wait x7 x8 n)) := h1
          have p0 := Lib.cell_of_heap hrb 0
          have p1 := Lib.cell_of_heap hrb 1
          have p2 := Lib.cell_of_heap hrb 2
          have p3 := Lib.cell_of_heap hrb 3
          have p4 := Lib.cell_of_heap hrb 4
          have p5 := Lib.cell_of_heap hrb 5
          have p6 := Lib.cell_of_heap hrb 6
          have p7 := Lib.cell_of_heap hrb 7
          have p8 := Lib.cell_of_heap hrb 8
          have p9 := Lib.cell_of_heap hrb 9
          simp only [List.getElem?_toArray, List.getElem?_cons_zero, List.getElem?_cons_succ] at p0 p1 p2 p3 p4 p5 p6 p7 p8 p9
          have fp : ∀ j, wr.frozen? ⟨w1.heap.size, j, none⟩ = false := fun j => Lib.frozen_of_heap hrb j
          have k0 := Lib.cell_of_heap hkw 0
          have k1 := Lib.cell_of_heap hkw 1
          have k2 := Lib.cell_of_heap hkw 2
          have k3 := Lib.cell_of_heap hkw 3
          have k4 := Lib.cell_of_heap hkw 4
          have k5 := Lib.cell_of_heap hkw 5
          simp only [List.getElem?_toArray, List.getElem?_cons_zero, List.getElem?_cons_succ] at k0 k1 k2 k3 k4 k5
          have f0 : ∀ j, wr.frozen? ⟨w.heap.size + 1, j, none⟩ = false := fun j => Lib.frozen_of_heap hkw j
          clear h1 hrb hkw HST
          go_wp2_with fail
          exact bodyPost_ret (v := turnV false 0 ⟨#[]⟩ x7 x8 n) (by simp [results, Tryz.results115, go_sem, turnV, k0, k1, k2, k3, k4, k5]) rfl ⟨((((((hBw).setCell (p := ⟨w.heap.size + 1, 0, none⟩) (by simp) _).setCell (p := ⟨w.heap.size + 1, 1, none⟩) (by simp) _).setCell (p := ⟨w.heap.size + 1, 2, none⟩) (by simp) _).setCell (p := ⟨w.heap.size + 1, 3, none⟩) (by simp) _).setCell (p := ⟨w.heap.size + 1, 4, none⟩) (by simp) _).setCell (p := ⟨w.heap.size + 1, 5, none⟩) (by simp) _, _, HF.out, rfl⟩
end Go.Proofs.YtmeojnaoljgieaeGreatDoor
