import Derived.Test.YtmanoabocelpeaaGreatDoorTNStr
import Derived.Test.YtmanoabocelpeaaGreatDoorTVoA
namespace Go.Proofs.YtmanoabocelpeaaGreatDoor
open Go.RowKit
set_option linter.unusedVariables false
set_option maxHeartbeats 8000000
set_option maxRecDepth 100000
theorem l2Step_any (a : Option Addr) (cap : Nat) (is : List I3) (s : St) (sa : Option Addr) (cp : Nat) (ra : Option Addr) (rcap : Nat) (ys : List R3) (w : World) (B0 : Nat) (hv : progOk is = true) (hs : StOk is s) (hcode : Row3 w a is) (hsk : Own B0 w sa cp s.stack) (hyl : ys.length <= 200) (hr : RowR w ra ys) :
  Calls Tryz.prog 24 #[.agg #[.slice a is.length cap], runV s.pl (.slice sa s.stack.length cp) s.steps s.looks, .slice ra ys.length rcap] w fun e w' => Below w.heap.size w w' /\ StepPost w.heap.size is ys s w' e := by
 by_cases hpl : s.pl < is.length
 ·by_cases hst2 : s.steps = 2000
  ·exact step_spent a cap is s sa cp ra rcap ys w hv hs hpl hst2
  ·obtain ⟨o, tt, n, ei, ho1, ho2, ht, hn, hn2⟩ := ok_parts hv hpl
   exact step_in a cap is s sa cp ra rcap ys w B0 hv hs hcode hpl hst2 hsk o tt n ei ho1 ho2 hn hyl hr
 ·exact step_beyond a cap is s sa cp ra rcap ys w hv hs hpl
theorem reps_size {ys : List R3} (h : repsOk ys = true) {k : Nat} (hk : k < ys.length) : (rx ys k).text.size <= 2000 := by
 simp only [repsOk, Bool.and_eq_true, decide_eq_true_eq] at h
 have := h.2 k hk
 simp only [repOk, Bool.and_eq_true, decide_eq_true_eq] at this
 omega
def Stand (is : List I3) (ys : List R3) (B : Nat) (w : World) (kx : Nat) (x0 : Int) (ax : Option Addr) (nx cx : Nat) (x2 x3 : Int) (x4 : Bool) (x5 : Int) (x6 : ByteArray) (x7 : Bool) (x8 : ByteArray) (x9 : Bool) : Prop :=
 (∃ s, StOk is s /\ (∀ r, Full is ys s r -> Full is ys s00 r) /\ Own B w ax cx s.stack /\ 2002 - s.steps <= kx /\ x0 = s.pl /\ nx = s.stack.length /\ x2 = s.steps /\ x3 = s.looks /\ x4 = false /\ x5 = 0 /\ x6 = ⟨#[]⟩ /\ x7 = false /\ x8 = ⟨#[]⟩ /\ x9 = false) ∨
 (∃ n : Nat, Full is ys s00 (.over x5 x6 n) /\ x2 = n /\ x4 = true /\ x9 = false) ∨
 (∃ n : Nat, Full is ys s00 (.wait x7 x8 n) /\ x2 = n /\ x4 = false /\ x9 = true)
theorem step0_steps {is : List I3} {s s' : St} (hv : progOk is = true) (hs : StOk is s) (h : step0 is s = .go s') : s'.steps = s.steps + 1 := by
 by_cases hp : s.pl < is.length
 ·by_cases h2 : s.steps = 2000
  ·rw [st_spent hp h2] at h; cases h
  ·obtain ⟨o, t, n, e, h3, h4, h5, h6, h7⟩ := ok_parts hv hp
   rw [st_ins hp h2 e] at h
   by_cases hf : s.stack.length < takesN o
   ·rw [ins_few hf] at h; cases h
   ·rcases (show o <= 11 \/ (o = 12 \/ o = 13) \/ o = 14 \/ o = 15 by omega) with ho | ho | ho | ho
    ·by_cases hb : Bad o t n s.stack
     ·rw [ins_stuck hf ho hb] at h; cases h
     ·rw [ins_go hf ho hb] at h; cases h
      rfl
    ·by_cases hn : NameOk (topB s.stack)
     ·by_cases hk : s.looks = 200
      ·rw [ins_spent hf ho hn hk] at h; cases h
      ·rw [ins_look hf ho hn hk] at h; cases h
     ·rw [ins_bad hf ho hn] at h; cases h
    ·rw [ins_fail hf ho] at h; cases h
    ·rw [ins_end hf ho] at h; cases h
 ·rw [st_place hp] at h; cases h
theorem stand_step {is : List I3} {ys : List R3} {s : St} {B : Nat} {w' : World} {e : Ending} (hv : progOk is = true) (hs : StOk is s) (hrep : repsOk ys = true) (hF : ∀ r, Full is ys s r -> Full is ys s00 r) (h : StepPost B is ys s w' e) :
  ∃ x0 ax nx cx x2 x3 x4 x5 x6 x7 x8 x9, e = .returned (r10 x0 ax nx cx x2 x3 x4 x5 x6 x7 x8 x9) /\ Stand is ys B w' (2001 - s.steps) x0 ax nx cx x2 x3 x4 x5 x6 x7 x8 x9 := by
 have hl := prog_len hv
 rcases h with ⟨c, t, n, h, pl, va, vn, vc, lk, rfl⟩ | ⟨s', h, a', cp', rfl, ho⟩ | ⟨ask, nm, s', h, hy, pl, va, vn, vc, lk, rfl⟩ | ⟨ask, nm, s', s'', h, hy, ha, a', cp', rfl, ho⟩ | ⟨ask, nm, s', c, t, n, h, hy, ha, pl, va, vn, vc, lk, rfl⟩
 ·exact ⟨_, _, _, _, _, _, _, _, _, _, _, _, rfl, Or.inr (Or.inl ⟨n, hF _ (.over h), rfl, rfl, rfl⟩)⟩
 ·have h1 := step0_go hv hs h
  have h2 := step0_steps hv hs h
  exact ⟨_, _, _, _, _, _, _, _, _, _, _, _, rfl, Or.inl ⟨s', h1.1, fun r hr => hF r (.go h hr), ho, by omega, rfl, rfl, rfl, rfl, rfl, rfl, rfl, rfl, rfl, rfl⟩⟩
 ·exact ⟨_, _, _, _, _, _, _, _, _, _, _, _, rfl, Or.inr (Or.inr ⟨s'.steps, hF _ (.wait h hy), rfl, rfl, rfl⟩)⟩
 ·obtain ⟨q1, q2, q3, q4, q5, q6, q7, q8⟩ := step0_look h
  have hst2 : s.steps ≠ 2000 := by
   intro h2
   rw [st_spent q5 h2] at h
   cases h
  have hs' : StOk is s' := by
   have h1 := look_ok hs hst2 q4
   have e : s' = ⟨s.pl, restL s.stack 1, s.steps + 1, s.looks + 1⟩ := by
    cases s'
    simp only [St.mk.injEq]
    exact ⟨q2, q7, q3, q1⟩
   rw [e]
   exact h1
  have h50 : s'.stack.length < 50 := by rw [q7, restL_length]; have := hs.len; omega
  have hso : StOk is s'' /\ s''.steps = s'.steps := by
   unfold ansP at ha
   split at ha
   ·cases ha; exact ⟨ans_ok hs' hl.2 (by omega) h50 (by rw [flagB_size]; omega), rfl⟩
   ·split at ha
    ·cases ha
    ·split at ha
     ·cases ha
     ·cases ha; exact ⟨ans_ok hs' hl.2 (by omega) h50 (reps_size hrep hy), rfl⟩
  exact ⟨_, _, _, _, _, _, _, _, _, _, _, _, rfl, Or.inl ⟨s'', hso.1, fun r hr => hF r (.ans h hy ha hr), ho, by omega, rfl, rfl, rfl, rfl, rfl, rfl, rfl, rfl, rfl, rfl⟩⟩
 ·exact ⟨_, _, _, _, _, _, _, _, _, _, _, _, rfl, Or.inr (Or.inl ⟨n, hF _ (.end h hy ha), rfl, rfl, rfl⟩)⟩
theorem Stand.set {is : List I3} {ys : List R3} {B : Nat} {w : World} {kx b : Nat} {x0 : Int} {ax : Option Addr} {nx cx : Nat} {x2 x3 : Int} {x4 : Bool} {x5 : Int} {x6 : ByteArray} {x7 : Bool} {x8 : ByteArray} {x9 : Bool} (h : Stand is ys B w kx x0 ax nx cx x2 x3 x4 x5 x6 x7 x8 x9 /\ ∃ cs, w.heap[b]? = some (.cells cs 77 (0, 0))) (j : Nat) (x : Value) :
  Stand is ys B (w.setCell ⟨b, j, none⟩ x) kx x0 ax nx cx x2 x3 x4 x5 x6 x7 x8 x9 /\ ∃ cs, (w.setCell ⟨b, j, none⟩ x).heap[b]? = some (.cells cs 77 (0, 0)) := by
 obtain ⟨h, hc⟩ := h
 refine ⟨?_, by obtain ⟨cs, hb⟩ := hc; exact ⟨_, Joins.block_setCell hb x⟩⟩
 rcases h with ⟨s, h1, h2, h3, h4⟩ | h
 ·exact Or.inl ⟨s, h1, h2, (own96 ⟨h3, hc⟩ j x).1, h4⟩
 ·exact Or.inr h
theorem Stand.mono {is : List I3} {ys : List R3} {B B' : Nat} {w : World} {kx : Nat} {x0 : Int} {ax : Option Addr} {nx cx : Nat} {x2 x3 : Int} {x4 : Bool} {x5 : Int} {x6 : ByteArray} {x7 : Bool} {x8 : ByteArray} {x9 : Bool} (h : Stand is ys B w kx x0 ax nx cx x2 x3 x4 x5 x6 x7 x8 x9) (hB : B' <= B) : Stand is ys B' w kx x0 ax nx cx x2 x3 x4 x5 x6 x7 x8 x9 := by
 rcases h with ⟨s, h1, h2, h3, h4⟩ | h
 ·exact Or.inl ⟨s, h1, h2, h3.mono hB, h4⟩
 ·exact Or.inr h
theorem stand_set10 {is : List I3} {ys : List R3} {B : Nat} {w : World} {kx b : Nat} {x0 : Int} {ax : Option Addr} {nx cx : Nat} {x2 x3 : Int} {x4 : Bool} {x5 : Int} {x6 : ByteArray} {x7 : Bool} {x8 : ByteArray} {x9 : Bool} (h : Stand is ys B w kx x0 ax nx cx x2 x3 x4 x5 x6 x7 x8 x9) (hc : ∃ cs, w.heap[b]? = some (.cells cs 77 (0, 0))) (v0 v1 v2 v3 v4 v5 v6 v7 v8 v9 : Value) :
  Stand is ys B ((((((((((w.setCell ⟨b, 0, none⟩ v0).setCell ⟨b, 1, none⟩ v1).setCell ⟨b, 2, none⟩ v2).setCell ⟨b, 3, none⟩ v3).setCell ⟨b, 4, none⟩ v4).setCell ⟨b, 5, none⟩ v5).setCell ⟨b, 6, none⟩ v6).setCell ⟨b, 7, none⟩ v7).setCell ⟨b, 8, none⟩ v8).setCell ⟨b, 9, none⟩ v9) kx x0 ax nx cx x2 x3 x4 x5 x6 x7 x8 x9 := (Stand.set (Stand.set (Stand.set (Stand.set (Stand.set (Stand.set (Stand.set (Stand.set (Stand.set (Stand.set ⟨h, hc⟩ 0 v0) 1 v1) 2 v2) 3 v3) 4 v4) 5 v5) 6 v6) 7 v7) 8 v8) 9 v9).1
theorem block_set10 {w : World} {b : Nat} {u0 u1 u2 u3 u4 u5 u6 u7 u8 u9 : Value} (h : w.heap[b]? = some (.cells #[u0, u1, u2, u3, u4, u5, u6, u7, u8, u9] 77 (0, 0))) (v0 v1 v2 v3 v4 v5 v6 v7 v8 v9 : Value) :
  ((((((((((w.setCell ⟨b, 0, none⟩ v0).setCell ⟨b, 1, none⟩ v1).setCell ⟨b, 2, none⟩ v2).setCell ⟨b, 3, none⟩ v3).setCell ⟨b, 4, none⟩ v4).setCell ⟨b, 5, none⟩ v5).setCell ⟨b, 6, none⟩ v6).setCell ⟨b, 7, none⟩ v7).setCell ⟨b, 8, none⟩ v8).setCell ⟨b, 9, none⟩ v9).heap[b]? = some (.cells #[v0, v1, v2, v3, v4, v5, v6, v7, v8, v9] 77 (0, 0)) := by
 have h0 : (w.setCell ⟨b, 0, none⟩ v0).heap[b]? = some (.cells #[v0, u1, u2, u3, u4, u5, u6, u7, u8, u9] 77 (0, 0)) := by rw [Joins.block_setCell h]; rfl
 have h1 : ((w.setCell ⟨b, 0, none⟩ v0).setCell ⟨b, 1, none⟩ v1).heap[b]? = some (.cells #[v0, v1, u2, u3, u4, u5, u6, u7, u8, u9] 77 (0, 0)) := by rw [Joins.block_setCell h0]; rfl
 have h2 : (((w.setCell ⟨b, 0, none⟩ v0).setCell ⟨b, 1, none⟩ v1).setCell ⟨b, 2, none⟩ v2).heap[b]? = some (.cells #[v0, v1, v2, u3, u4, u5, u6, u7, u8, u9] 77 (0, 0)) := by rw [Joins.block_setCell h1]; rfl
 have h3 : ((((w.setCell ⟨b, 0, none⟩ v0).setCell ⟨b, 1, none⟩ v1).setCell ⟨b, 2, none⟩ v2).setCell ⟨b, 3, none⟩ v3).heap[b]? = some (.cells #[v0, v1, v2, v3, u4, u5, u6, u7, u8, u9] 77 (0, 0)) := by rw [Joins.block_setCell h2]; rfl
 have h4 : (((((w.setCell ⟨b, 0, none⟩ v0).setCell ⟨b, 1, none⟩ v1).setCell ⟨b, 2, none⟩ v2).setCell ⟨b, 3, none⟩ v3).setCell ⟨b, 4, none⟩ v4).heap[b]? = some (.cells #[v0, v1, v2, v3, v4, u5, u6, u7, u8, u9] 77 (0, 0)) := by rw [Joins.block_setCell h3]; rfl
 have h5 : ((((((w.setCell ⟨b, 0, none⟩ v0).setCell ⟨b, 1, none⟩ v1).setCell ⟨b, 2, none⟩ v2).setCell ⟨b, 3, none⟩ v3).setCell ⟨b, 4, none⟩ v4).setCell ⟨b, 5, none⟩ v5).heap[b]? = some (.cells #[v0, v1, v2, v3, v4, v5, u6, u7, u8, u9] 77 (0, 0)) := by rw [Joins.block_setCell h4]; rfl
 have h6 : (((((((w.setCell ⟨b, 0, none⟩ v0).setCell ⟨b, 1, none⟩ v1).setCell ⟨b, 2, none⟩ v2).setCell ⟨b, 3, none⟩ v3).setCell ⟨b, 4, none⟩ v4).setCell ⟨b, 5, none⟩ v5).setCell ⟨b, 6, none⟩ v6).heap[b]? = some (.cells #[v0, v1, v2, v3, v4, v5, v6, u7, u8, u9] 77 (0, 0)) := by rw [Joins.block_setCell h5]; rfl
 have h7 : ((((((((w.setCell ⟨b, 0, none⟩ v0).setCell ⟨b, 1, none⟩ v1).setCell ⟨b, 2, none⟩ v2).setCell ⟨b, 3, none⟩ v3).setCell ⟨b, 4, none⟩ v4).setCell ⟨b, 5, none⟩ v5).setCell ⟨b, 6, none⟩ v6).setCell ⟨b, 7, none⟩ v7).heap[b]? = some (.cells #[v0, v1, v2, v3, v4, v5, v6, v7, u8, u9] 77 (0, 0)) := by rw [Joins.block_setCell h6]; rfl
 have h8 : (((((((((w.setCell ⟨b, 0, none⟩ v0).setCell ⟨b, 1, none⟩ v1).setCell ⟨b, 2, none⟩ v2).setCell ⟨b, 3, none⟩ v3).setCell ⟨b, 4, none⟩ v4).setCell ⟨b, 5, none⟩ v5).setCell ⟨b, 6, none⟩ v6).setCell ⟨b, 7, none⟩ v7).setCell ⟨b, 8, none⟩ v8).heap[b]? = some (.cells #[v0, v1, v2, v3, v4, v5, v6, v7, v8, u9] 77 (0, 0)) := by rw [Joins.block_setCell h7]; rfl
 have h9 : ((((((((((w.setCell ⟨b, 0, none⟩ v0).setCell ⟨b, 1, none⟩ v1).setCell ⟨b, 2, none⟩ v2).setCell ⟨b, 3, none⟩ v3).setCell ⟨b, 4, none⟩ v4).setCell ⟨b, 5, none⟩ v5).setCell ⟨b, 6, none⟩ v6).setCell ⟨b, 7, none⟩ v7).setCell ⟨b, 8, none⟩ v8).setCell ⟨b, 9, none⟩ v9).heap[b]? = some (.cells #[v0, v1, v2, v3, v4, v5, v6, v7, v8, v9] 77 (0, 0)) := by rw [Joins.block_setCell h8]; rfl
 exact h9
end Go.Proofs.YtmanoabocelpeaaGreatDoor
