/-
  Trees of questions (impl.plant): a chain of nodes, each with a map of one entry.
-/
import Derived.Test.YtmeojnaoljgieabFRec
import Derived.Test.YtmeojnaoljgieabISum
import Derived.Maps.OwnSet
namespace Go.Proofs.Ytmeojnaoljgieab
open Go.RowKit Go.Maps
set_option linter.unusedVariables false

/-- How a node's pointer reads. -/
def ptrE : Value → Option (DataW Unit × List MemPlace)
  | .pointer none => some (.nil, [])
  | .pointer (some a) => if a = ⟨a.block, 0, none⟩ then some (.lit (.int .i64 a.block), []) else none
  | _ => none
theorem ptrE_nil {v : Value} {ps : List MemPlace} (h : ptrE v = some (.nil, ps)) : v = .pointer none := by
  unfold ptrE at h
  split at h
  · rfl
  · split at h <;> simp at h
  · cases h
theorem ptrE_some {v : Value} {ps : List MemPlace} {g : Nat} (h : ptrE v = some (.lit (.int .i64 (g : Int)), ps)) : v = .pointer (some ⟨g, 0, none⟩) := by
  unfold ptrE at h
  split at h
  · simp at h
  · rename_i a
    split at h
    · rename_i ha
      simp at h
      have := h.1
      rw [ha]
      have e : a.block = g := by omega
      rw [e]
    · cases h
  · cases h
theorem ptrE_mk (g : Nat) : ptrE (.pointer (some ⟨g, 0, none⟩)) = some (.lit (.int .i64 (g : Int)), []) := by simp [ptrE]

/-- The map with one entry. -/
def one (s : ByteArray) (g : Nat) : DataW Unit := (DataW.map []).put (.string s.data.toList) (.lit (.int .i64 (g : Int)))

def zeroQ : Array Value := #[.string ⟨#[]⟩, .bool false, .map none]
/-- From the node at block g the looks lead to the node at block h, at which nothing stands. -/
def ChainTo (w : World) : Nat → List G3 → Nat → Prop
  | g, [], h => g = h ∧ w.heap[g]? = some (.cells zeroQ 74 (0, 0))
  | g, x :: r, h => ∃ mb g', w.heap[g]? = some (.cells #[.string x.name, .bool x.ask, .map (some mb)] 74 (0, 0)) ∧ w.ownsMap Try.prog 9 ptrE mb 1 (one x.sum g') ∧ ChainTo w g' r h

theorem blk_of {w : World} {b : Nat} {o : Obj} (h : w.heap[b]? = some o) : b < w.heap.size := by
  rcases Nat.lt_or_ge b w.heap.size with hl | hl
  · exact hl
  · rw [Array.getElem?_eq_none hl] at h; cases h
theorem ChainTo.last {w : World} : ∀ {l : List G3} {g h : Nat}, ChainTo w g l h → w.heap[h]? = some (.cells zeroQ 74 (0, 0))
  | [], g, h, c => by obtain ⟨rfl, c⟩ := c; exact c
  | x :: r, g, h, ⟨mb, g', _, _, c⟩ => c.last
theorem ChainTo.keep {w w' : World} (hk : ∀ b, b < w.heap.size → w'.heap[b]? = w.heap[b]?) : ∀ {l : List G3} {g h : Nat}, ChainTo w g l h → ChainTo w' g l h
  | [], g, h, ⟨e, c⟩ => ⟨e, by rw [hk _ (blk_of c)]; exact c⟩
  | x :: r, g, h, ⟨mb, g', c1, c2, c3⟩ => by
    refine ⟨mb, g', by rw [hk _ (blk_of c1)]; exact c1, ?_, c3.keep hk⟩
    have hl := c2.lt
    obtain ⟨es, clock, hb, rr⟩ := c2
    exact ⟨es, clock, by rw [hk _ hl]; exact hb, rr⟩
theorem ChainTo.snoc {w w' : World} {x : G3} {h h' mb : Nat} (hk : ∀ b, b < w.heap.size → b ≠ h → w'.heap[b]? = w.heap[b]?) (hh : w'.heap[h]? = some (.cells #[.string x.name, .bool x.ask, .map (some mb)] 74 (0, 0))) (hm : w'.ownsMap Try.prog 9 ptrE mb 1 (one x.sum h')) (hz : w'.heap[h']? = some (.cells zeroQ 74 (0, 0))) : ∀ {l : List G3} {g : Nat}, ChainTo w g l h → ChainTo w' g (l ++ [x]) h'
  | [], g, ⟨e, c⟩ => by subst e; exact ⟨mb, h', hh, hm, rfl, hz⟩
  | y :: r, g, ⟨mb2, g', c1, c2, c3⟩ => by
    have hl := c3.last
    have hg : g ≠ h := by
      rintro rfl
      rw [c1] at hl
      simp [zeroQ] at hl
    have hmb : mb2 ≠ h := by
      rintro rfl
      obtain ⟨es, clock, hb, _⟩ := c2
      rw [hb] at hl
      cases hl
    refine ⟨mb2, g', by rw [hk _ (blk_of c1) hg]; exact c1, ?_, c3.snoc hk hh hm hz⟩
    have hlt := c2.lt
    obtain ⟨es, clock, hb, rr⟩ := c2
    exact ⟨es, clock, by rw [hk _ hlt hmb]; exact hb, rr⟩
theorem ChainTo.below {w w' : World} {l : List G3} {g h : Nat} (c : ChainTo w g l h) (hb : Below w.heap.size w w') : ChainTo w' g l h := c.keep fun b hl => hb.block b hl

theorem wpList_insert_own {H : Type} {P : Program} (w : World) {ops : Array Oper} {rest : List Oper} {o : Oper} {a : Act} {Q : Exit → Act → World → Prop}
    (hg : o.guard = none) (m x v : Operand) (t : TypeId) (hop : o.op = Op.insert t m x v)
    (k e : TypeId) (K : Keyed P k) (ht : P.underlying t = some (.map k e)) (R : Value → Option (DataW H × List MemPlace)) (b n : Nat) (D : DataW H)
    (hm : a.eval m = .map (some b)) (hown : w.ownsMap P k R b n D) (hn : n < maxLen) (key val : Value) (kl : Lit) (hx : a.eval x = key) (hv : a.eval v = val) (hkey : keyOf P k key = some kl)
    (d : DataW H) (ps : List MemPlace) (hval : R val = some (d, ps))
    (hK : ∀ w', w'.ownsMap P k R b (n + 1) (D.put kl d) → w.grownBy w' (some b) → wpList P ops Q rest (a.put o.dst undef) w') :
    wpList P ops Q (o :: rest) a w := by
  refine wpList_plain hg fun K' hK' => ?_
  obtain ⟨w', hrun, r1, r2⟩ := hown.update K ht hn hkey hval
  unfold Oper.wp
  simp [execOp, hop, hm, hx, hv, hrun, Result.andThen]
  exact hK' _ _ (hK w' r1 r2)

end Go.Proofs.Ytmeojnaoljgieab
