/-
  impl.Next.
-/
import Derived.Test.YtmeojnaoljgieabDoorNAns
namespace Go.Proofs.YtmeojnaoljgieabDoor
open Go.RowKit
set_option linter.unusedVariables false

theorem full_over {is : List I3} (ys : List R3) {s : St} {o : Out} (h : Runs is s o) : ∀ {c t n}, o = .over c t n → Full is ys s (.over c t n) := by
  induction h with
  | over h1 => intro c t n e; cases e; exact .over h1
  | look h1 => intro c t n e; cases e
  | go h1 _ ih => intro c t n e; exact .go h1 (ih e)
theorem step0_go {is : List I3} {s s' : St} (hv : progOk is = true) (hs : StOk is s) (h : step0 is s = .go s') : StOk is s' ∧ s'.looks = s.looks := by
  have hl := prog_len hv
  by_cases hp : s.pl < is.length
  · by_cases h2 : s.steps = 2000
    · rw [st_spent hp h2] at h; cases h
    · obtain ⟨o, t, n, e, h3, h4, h5, h6, h7⟩ := ok_parts hv hp
      rw [st_ins hp h2 e] at h
      by_cases hf : s.stack.length < takesN o
      · rw [ins_few hf] at h; cases h
      · rcases (show o ≤ 11 ∨ (o = 12 ∨ o = 13) ∨ o = 14 ∨ o = 15 by omega) with ho | ho | ho | ho
        · by_cases hb : Bad o t n s.stack
          · rw [ins_stuck hf ho hb] at h; cases h
          · rw [ins_go hf ho hb] at h; cases h
            exact ⟨go_ok hs hl.2 hp h2 h7 hb, rfl⟩
        · by_cases hn : NameOk (topB s.stack)
          · by_cases hk : s.looks = 200
            · rw [ins_spent hf ho hn hk] at h; cases h
            · rw [ins_look hf ho hn hk] at h; cases h
          · rw [ins_bad hf ho hn] at h; cases h
        · rw [ins_fail hf ho] at h; cases h
        · rw [ins_end hf ho] at h; cases h
  · rw [st_place hp] at h; cases h
theorem full_look {is : List I3} (ys : List R3) (hv : progOk is = true) {s : St} {o : Out} (h : Runs is s o) : StOk is s → ∀ {ask nm s'}, o = .look ask nm s' → ∃ s1, step0 is s1 = .look ask nm s' ∧ s1.looks = s.looks ∧ StOk is s1 ∧ ∀ r, Full is ys s1 r → Full is ys s r := by
  induction h with
  | over h1 => intro _ c t n e; cases e
  | look h1 => intro hs c t n e; cases e; exact ⟨_, h1, rfl, hs, fun r hr => hr⟩
  | go h1 _ ih => intro hs c t n e; obtain ⟨k1, k2⟩ := step0_go hv hs h1; obtain ⟨s1, h2, h4, h5, h3⟩ := ih k1 e; exact ⟨s1, h2, h4.trans k2, h5, fun r hr => .go h1 (h3 r hr)⟩

def s00 : St := ⟨0, [], 0, 0⟩
theorem s00_ok (is : List I3) : StOk is s00 := ⟨by simp [s00], by simp [s00], by simp [s00], by simp [s00], by simp [s00]⟩
def resT : Res → Value
  | .over c t n => turnV true c t false ⟨#[]⟩ n
  | .wait ask nm n => turnV false 0 ⟨#[]⟩ ask nm n
def turnC (ov : Bool) (c : Int) (t : ByteArray) (ask : Bool) (nm : ByteArray) (st : Int) : Array Value := #[.bool ov, .int .i64 c, .string t, .bool ask, .string nm, .int .i64 st]

/-- Where impl.Next's loop stands: the turn's block, and what it tells. -/
def At (is : List I3) (ys : List R3) (B m T : Nat) (cd : Value) (k : Nat) (ov : Bool) (c : Int) (t : ByteArray) (ask : Bool) (nm : ByteArray) (st : Int) (w : World) : Prop :=
  w.heap[T]? = some (.cells #[.bool ov, .int .i64 c, .string t, .bool ask, .string nm, .int .i64 st] 49 (0, 0)) ∧
  ((ov = true ∧ ask = false ∧ nm = ⟨#[]⟩ ∧ ∃ n : Nat, st = n ∧ Full is ys s00 (.over c t n)) ∨
   (ov = false ∧ c = 0 ∧ t = ⟨#[]⟩ ∧ ∃ s1 s', st = (s'.steps : Int) ∧ step0 is s1 = .look ask nm s' ∧ s1.looks = k ∧ (∀ r, Full is ys s1 r → Full is ys s00 r) ∧ StOk is s1 ∧ StOk is s' ∧ MOk B w m s'.stack cd s'.pl s'.steps s'.looks))

theorem at_end {is : List I3} {ys : List R3} {B m T : Nat} {cd : Value} {k : Nat} {ov : Bool} {c : Int} {t : ByteArray} {ask : Bool} {nm : ByteArray} {st : Int} {w : World} (h : At is ys B m T cd k ov c t ask nm st w) (hk : ov = true ∨ ys.length ≤ k) : ∃ r, Full is ys s00 r ∧ turnV ov c t ask nm st = resT r := by
  rcases h.2 with ⟨rfl, rfl, rfl, n, rfl, hf⟩ | ⟨rfl, rfl, rfl, s1, s', rfl, h1, h2, h3, _⟩
  · exact ⟨_, hf, rfl⟩
  · rcases hk with hk | hk
    · cases hk
    · exact ⟨_, h3 _ (.wait h1 (by omega)), rfl⟩

theorem MOk.alloc {B : Nat} {w : World} {m : Nat} {ss : List ByteArray} {cd : Value} {pl st lk : Int} (h : MOk B w m ss cd pl st lk) (o : Obj) : MOk B (w.alloc o) m ss cd pl st lk := h.below ((Below.refl _ _).alloc (Nat.le_refl _) _)

/-- The first run's end, laid as a turn. -/
theorem run_at {is : List I3} (ys : List R3) {B m : Nat} {cd : Value} {w3 : World} {e : Ending} (hv : progOk is = true) (h : RunPost0 is s00 B m cd e w3) : ∃ ov c t ask nm st, e = .returned (turnV ov c t ask nm st) ∧ At is ys B m w3.heap.size cd 0 ov c t ask nm st (w3.alloc (.cells #[.bool ov, .int .i64 c, .string t, .bool ask, .string nm, .int .i64 st] 49)) := by
  rcases h with ⟨c, t, n, hr, rfl⟩ | ⟨ask, nm, s', hr, rfl, hs, hM⟩
  · exact ⟨true, c, t, false, ⟨#[]⟩, n, rfl, heap_new _ _, Or.inl ⟨rfl, rfl, rfl, n, rfl, full_over ys hr rfl⟩⟩
  · obtain ⟨s1, h1, h2, h3, h4⟩ := full_look ys hv hr (s00_ok is) rfl
    exact ⟨false, 0, ⟨#[]⟩, ask, nm, s'.steps, rfl, heap_new _ _, Or.inr ⟨rfl, rfl, rfl, s1, s', rfl, h1, h2, h4, h3, hs, hM.alloc _⟩⟩

/-- An answer's end, laid over the turn. -/
theorem ans_at {is : List I3} {ys : List R3} {B m T k : Nat} {cd : Value} {ask : Bool} {nm : ByteArray} {s1 s' : St} {e : Ending} {w3 : World} (hv : progOk is = true) (hl : is.length ≤ 200)
    (h1 : step0 is s1 = .look ask nm s') (hk : s1.looks = k) (hky : k < ys.length) (hy : (rx ys k).text.size ≤ 2000) (hF : ∀ r, Full is ys s1 r → Full is ys s00 r) (hs1 : StOk is s1) (hs' : StOk is s')
    (h : (∃ c t n, ansP ask nm (rx ys k) s' = .over c t n ∧ e = .returned (turnV true c t false ⟨#[]⟩ n)) ∨ (∃ s'', ansP ask nm (rx ys k) s' = .go s'' ∧ RunPost0 is s'' B m cd e w3)) :
    ∃ ov c t ask nm st, e = .returned (turnV ov c t ask nm st) ∧ ∀ w', w'.heap[T]? = some (.cells #[.bool ov, .int .i64 c, .string t, .bool ask, .string nm, .int .i64 st] 49 (0, 0)) → (∀ ss pl st' lk, MOk B w3 m ss cd pl st' lk → MOk B w' m ss cd pl st' lk) → At is ys B m T cd (k + 1) ov c t ask nm st w' := by
  obtain ⟨q1, q2, q3, q4, q5, q6, q7, q8⟩ := step0_look h1
  subst hk
  rcases h with ⟨c, t, n, ha, rfl⟩ | ⟨s'', ha, hpost⟩
  · exact ⟨true, c, t, false, ⟨#[]⟩, n, rfl, fun w' hw _ => ⟨hw, Or.inl ⟨rfl, rfl, rfl, n, rfl, hF _ (.end h1 hky ha)⟩⟩⟩
  · have h50 : s'.stack.length < 50 := by rw [q7, restL_length]; have := hs1.len; omega
    have hso : StOk is s'' ∧ s''.looks = s'.looks := by
      unfold ansP at ha
      split at ha
      · cases ha; exact ⟨ans_ok hs' hl (by omega) h50 (by rw [flagB_size]; omega), rfl⟩
      · split at ha
        · cases ha
        · split at ha
          · cases ha
          · cases ha; exact ⟨ans_ok hs' hl (by omega) h50 hy, rfl⟩
    rcases hpost with ⟨c, t, n, hr, rfl⟩ | ⟨ask', nm', s3, hr, rfl, hs3, hM⟩
    · exact ⟨true, c, t, false, ⟨#[]⟩, n, rfl, fun w' hw _ => ⟨hw, Or.inl ⟨rfl, rfl, rfl, n, rfl, hF _ (.ans h1 hky ha (full_over ys hr rfl))⟩⟩⟩
    · obtain ⟨s2, g1, g2, g3, g4⟩ := full_look ys hv hr hso.1 rfl
      exact ⟨false, 0, ⟨#[]⟩, ask', nm', s3.steps, rfl, fun w' hw hM' => ⟨hw, Or.inr ⟨rfl, rfl, rfl, s2, s3, rfl, g1, by omega, fun r hr => hF r (.ans h1 hky ha (g4 r hr)), g3, hs3, hM' _ _ _ _ hM⟩⟩⟩

/-- Six stores into a turn's block. -/
theorem storeT {w : World} {T : Nat} {cs : Array Value} (hc : cs.size = 6) (h : w.heap[T]? = some (.cells cs 49 (0, 0))) (b0 b1 b2 b3 b4 b5 : Value) :
    ((((((w.setCell ⟨T, 0, none⟩ b0).setCell ⟨T, 1, none⟩ b1).setCell ⟨T, 2, none⟩ b2).setCell ⟨T, 3, none⟩ b3).setCell ⟨T, 4, none⟩ b4).setCell ⟨T, 5, none⟩ b5).heap[T]? = some (.cells #[b0, b1, b2, b3, b4, b5] 49 (0, 0)) ∧
    ∀ B m ss cd pl st lk, MOk B w m ss cd pl st lk → MOk B ((((((w.setCell ⟨T, 0, none⟩ b0).setCell ⟨T, 1, none⟩ b1).setCell ⟨T, 2, none⟩ b2).setCell ⟨T, 3, none⟩ b3).setCell ⟨T, 4, none⟩ b4).setCell ⟨T, 5, none⟩ b5) m ss cd pl st lk := by
  refine ⟨?_, fun B m ss cd pl st lk hM => (MOk.turn (MOk.turn (MOk.turn (MOk.turn (MOk.turn (MOk.turn ⟨hM, _, h⟩ 0 _) 1 _) 2 _) 3 _) 4 _) 5 _).1⟩
  obtain ⟨l⟩ := cs
  match l, hc with
  | [x0, x1, x2, x3, x4, x5], _ =>
    rw [Joins.block_setCell (Joins.block_setCell (Joins.block_setCell (Joins.block_setCell (Joins.block_setCell (Joins.block_setCell h b0) b1) b2) b3) b4) b5]
    rfl

theorem bN {w a b : World} (h : Below w.heap.size w a) (k : Below a.heap.size a b) : Below w.heap.size w b := h.trans (k.mono h.size)

end Go.Proofs.YtmeojnaoljgieabDoor
