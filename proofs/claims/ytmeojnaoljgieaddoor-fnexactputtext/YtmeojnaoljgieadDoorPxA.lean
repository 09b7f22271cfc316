/-
  PutText in plain words.
-/
import Derived.Test.YtmeojnaoljgieadDoorGtA
import Derived.Test.YtmeojnaoljgieadDoorSoA
import Derived.Test.YtmeojnaoljgieadDoorMkK
namespace Go.Proofs.YtmeojnaoljgieadDoor
open Go.RowKit
set_option linter.unusedVariables false

def insX (ts : List ByteArray) (x : ByteArray) (r : Nat) : List ByteArray := ts.take r ++ [x] ++ ts.drop r
theorem insX_length (ts : List ByteArray) (x : ByteArray) (r : Nat) (h : r ≤ ts.length) : (insX ts x r).length = ts.length + 1 := by simp [insX]; omega
theorem insX_map (ts : List ByteArray) (x : ByteArray) (r : Nat) : (insX ts x r).map Value.string = (ts.map Value.string).take r ++ [.string x] ++ (ts.map Value.string).drop r := by simp [insX, List.map_take, List.map_drop]
/-- The text of the sum is there, at its place. -/
def There (n : Nat) (ts : List ByteArray) (x : ByteArray) (r : Nat) : Prop := r < ts.length ∧ sumB n (nx ts r) = sumB n x
/-- What PutText answers at any store. -/
def KpP (n : Int) (ts : List ByteArray) (rs : List T3) (x : ByteArray) (cd wd : Int) (ts' : List ByteArray) (rs' : List T3) (A B : ByteArray) : Prop :=
  (¬ (WdOk n ts rs ∧ x.size ≤ 2002) ∧ cd = 1 ∧ wd = 0 ∧ ts' = [] ∧ rs' = [] ∧ A = ⟨#[]⟩ ∧ B = ⟨#[]⟩) ∨
  ((WdOk n ts rs ∧ x.size ≤ 2002) ∧ ∃ r, PlT n.toNat ts (sumB n.toNat x) r ∧
    ((There n.toNat ts x r ∧ nx ts r ≠ x ∧ cd = 2 ∧ wd = 0 ∧ ts' = [] ∧ rs' = [] ∧ A = nx ts r ∧ B = x) ∨
     (There n.toNat ts x r ∧ nx ts r = x ∧ cd = 0 ∧ wd = n ∧ ts' = ts ∧ rs' = rs ∧ A = ⟨#[]⟩ ∧ B = ⟨#[]⟩) ∨
     (¬ There n.toNat ts x r ∧ 5000 ≤ ts.length ∧ cd = 3 ∧ wd = 0 ∧ ts' = [] ∧ rs' = [] ∧ A = ⟨#[]⟩ ∧ B = ⟨#[]⟩) ∨
     (¬ There n.toNat ts x r ∧ ¬ 5000 ≤ ts.length ∧ cd = 0 ∧ wd = n ∧ ts' = insX ts x r ∧ rs' = rs ∧ A = ⟨#[]⟩ ∧ B = ⟨#[]⟩)))
theorem KpP.unique {n : Int} {ts : List ByteArray} {rs : List T3} {x : ByteArray} {cd wd cd' wd' : Int} {t1 t2 : List ByteArray} {r1 r2 : List T3} {A B A' B' : ByteArray} (h : KpP n ts rs x cd wd t1 r1 A B) (h' : KpP n ts rs x cd' wd' t2 r2 A' B') : cd' = cd ∧ wd' = wd ∧ t2 = t1 ∧ r2 = r1 ∧ A' = A ∧ B' = B := by
  rcases h with ⟨h0, rfl, rfl, rfl, rfl, rfl, rfl⟩ | ⟨h0, r, hp, h⟩ <;> rcases h' with ⟨k0, rfl, rfl, rfl, rfl, rfl, rfl⟩ | ⟨k0, r', kp, h'⟩
  · exact ⟨rfl, rfl, rfl, rfl, rfl, rfl⟩
  · exact absurd k0 h0
  · exact absurd h0 k0
  · obtain rfl := hp.unique kp
    rcases h with ⟨a1, a2, rfl, rfl, rfl, rfl, rfl, rfl⟩ | ⟨a1, a2, rfl, rfl, rfl, rfl, rfl, rfl⟩ | ⟨a1, a2, rfl, rfl, rfl, rfl, rfl, rfl⟩ | ⟨a1, a2, rfl, rfl, rfl, rfl, rfl, rfl⟩ <;> rcases h' with ⟨b1, b2, rfl, rfl, rfl, rfl, rfl, rfl⟩ | ⟨b1, b2, rfl, rfl, rfl, rfl, rfl, rfl⟩ | ⟨b1, b2, rfl, rfl, rfl, rfl, rfl, rfl⟩ | ⟨b1, b2, rfl, rfl, rfl, rfl, rfl, rfl⟩ <;> first
      | exact ⟨rfl, rfl, rfl, rfl, rfl, rfl⟩
      | exact absurd a1 b1
      | exact absurd b1 a1
      | exact absurd a2 b2
      | exact absurd b2 a2
theorem KpP.small {n : Int} {ts : List ByteArray} {rs : List T3} {x : ByteArray} {cd wd : Int} {t1 : List ByteArray} {r1 : List T3} {A B : ByteArray} (h : KpP n ts rs x cd wd t1 r1 A B) (hs : SoSm ts rs) : SoSm t1 r1 := by
  have h0 : SoSm ([] : List ByteArray) ([] : List T3) := ⟨by simp, by simp, fun i hi => by simp at hi⟩
  rcases h with ⟨_, rfl, rfl, rfl, rfl, rfl, rfl⟩ | ⟨_, r, hp, h⟩
  · exact h0
  · rcases h with ⟨a1, a2, rfl, rfl, rfl, rfl, rfl, rfl⟩ | ⟨a1, a2, rfl, rfl, rfl, rfl, rfl, rfl⟩ | ⟨a1, a2, rfl, rfl, rfl, rfl, rfl, rfl⟩ | ⟨a1, a2, rfl, rfl, rfl, rfl, rfl, rfl⟩
    · exact h0
    · exact hs
    · exact h0
    · exact ⟨by rw [insX_length _ _ _ hp.le]; omega, hs.2⟩
/-- What PutText hands out. -/
def KpOut (lo : Nat) (w : World) (e : Ending) (n : Int) (ts : List ByteArray) (rs : List T3) (x : ByteArray) : Prop := ∃ cd wd ts' rs' A B v1 v2, e = .returned (.agg #[.int .i64 cd, .int .i64 wd, v1, v2, .string A, .string B]) ∧ KpP n ts rs x cd wd ts' rs' A B ∧ OwnX w lo w.heap.size v1 ts' ∧ OwnQ w lo w.heap.size v2 rs'
theorem KpOut.zero {lo : Nat} {w : World} {n : Int} {ts : List ByteArray} {rs : List T3} {x A B : ByteArray} {cd : Int} (h : KpP n ts rs x cd 0 [] [] A B) : KpOut lo w (.returned (.agg #[.int .i64 cd, .int .i64 0, .slice none 0 0, .slice none 0 0, .string A, .string B])) n ts rs x :=
  ⟨cd, 0, [], [], A, B, _, _, rfl, h, OwnX.nil _ _ _, OwnQ.nil _ _ _⟩
theorem prog_lenP {is : List I3} (h : progOk is = true) : 1 ≤ is.length ∧ is.length ≤ 200 := by
  unfold progOk at h
  simp only [Bool.and_eq_true, decide_eq_true_eq] at h
  exact ⟨h.1.1, h.1.2⟩
theorem WdOk.recs {n : Int} {ts : List ByteArray} {rs : List T3} (h : WdOk n ts rs) : ∀ i, i < rs.length → 1 ≤ (qx rs i).code.length ∧ (qx rs i).code.length ≤ 1048576 ∧ (qx rs i).looks.length ≤ 1048576 := fun i hi => by
  have h1 := h.2.2.2.2 i hi
  have h2 := prog_lenP h1.1
  have h3 := h1.2.2.1
  exact ⟨h2.1, by omega, by omega⟩

end Go.Proofs.YtmeojnaoljgieadDoor
