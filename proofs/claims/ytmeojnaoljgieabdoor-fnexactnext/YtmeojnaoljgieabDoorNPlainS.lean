/-
  spec.l2Plain.
-/
import Derived.Test.YtmeojnaoljgieabDoorNNextP
namespace Go.Proofs.YtmeojnaoljgieabDoor
open Go.RowKit
set_option linter.unusedVariables false

theorem extract_all (x : ByteArray) : x.extract 0 x.size = x := by
  apply WideShapes.bytes_inj
  simp
theorem extract_none (x : ByteArray) : x.extract x.size x.size = ⟨#[]⟩ := by
  apply WideShapes.bytes_inj
  simp

/-- A row of texts at a block. -/
def OutAt (w : World) (e : Ending) (outs : List ByteArray) : Prop := ∃ g cap : Nat, e = .returned (.slice (some ⟨g, 0, none⟩) outs.length cap) ∧ ∀ j, j < outs.length → w.cell? ⟨g, j, none⟩ = some (.string (outs.getD j ByteArray.empty))
theorem out1 (w : World) (x : ByteArray) (ty : TypeId) : OutAt (w.alloc (.cells #[.string x] ty)) (.returned (.slice (some ⟨w.heap.size, 0, none⟩) 1 1)) [x] :=
  ⟨_, _, rfl, fun j hj => by obtain rfl : j = 0 := by simp at hj; omega
                             simp [go_sem]⟩
theorem out2 (w : World) (x y : ByteArray) (ty : TypeId) : OutAt (w.alloc (.cells #[.string x, .string y] ty)) (.returned (.slice (some ⟨w.heap.size, 0, none⟩) 2 2)) [x, y] :=
  ⟨_, _, rfl, fun j hj => by
    rcases (show j = 0 ∨ j = 1 by simp at hj; omega) with rfl | rfl
    · simp [go_sem]
    · simp [go_sem]⟩

variable (t : ByteArray) (n : Nat) (a b : ByteArray) (w : World)

set_option maxRecDepth 100000 in
set_option maxHeartbeats 1000000 in
theorem plain_1 (ha : a.size ≤ 2000) (hb : b.size ≤ 2000) (hn : n ≤ 2000) :
    Calls Tryd.prog 76 #[.agg #[.int .i64 1, .string t, .int .i64 n], .string a, .string b] w fun e w' => Below w.heap.size w w' ∧ OutAt w' e (outP 1 t n a b) := by
  go_enter Tryd.func76, Tryd.ntmps76
  go_wp2
  go_ret
  exact ⟨((Below.refl _ _).alloc (Nat.le_refl _) _).alloc (by simp) _, by have h := out1 (w.alloc (.cells #[.int .i64 1, .string t, .int .i64 n] 61)) (t) 9; simpa [outP] using h⟩

set_option maxRecDepth 100000 in
set_option maxHeartbeats 1000000 in
theorem plain_2 (ha : a.size ≤ 2000) (hb : b.size ≤ 2000) (hn : n ≤ 2000) :
    Calls Tryd.prog 76 #[.agg #[.int .i64 2, .string t, .int .i64 n], .string a, .string b] w fun e w' => Below w.heap.size w w' ∧ OutAt w' e (outP 2 t n a b) := by
  have hc : (b ++ a).size = b.size + a.size := ByteArray.size_append
  go_enter Tryd.func76, Tryd.ntmps76
  go_wp2
  go_ret
  exact ⟨((Below.refl _ _).alloc (Nat.le_refl _) _).alloc (by simp) _, by have h := out1 (w.alloc (.cells #[.int .i64 2, .string t, .int .i64 n] 61)) (b ++ a) 9; simpa [outP] using h⟩

set_option maxRecDepth 100000 in
set_option maxHeartbeats 1000000 in
theorem plain_3 (ha : a.size ≤ 2000) (hb : b.size ≤ 2000) (hn : n ≤ 2000) :
    Calls Tryd.prog 76 #[.agg #[.int .i64 3, .string t, .int .i64 n], .string a, .string b] w fun e w' => Below w.heap.size w w' ∧ OutAt w' e (outP 3 t n a b) := by
  by_cases h : n < a.size
  · have hI : (n : Int) < (a.size : Int) := by omega
    have e : min n a.size = n := by omega
    have hout : outP 3 t n a b = [a.extract 0 n] := by simp only [outP, e]
    rw [hout]
    clear e hout
    go_enter Tryd.func76, Tryd.ntmps76
    go_wp2
    go_ret
    exact ⟨((Below.refl _ _).alloc (Nat.le_refl _) _).alloc (by simp) _, by have h := out1 (w.alloc (.cells #[.int .i64 3, .string t, .int .i64 n] 61)) (a.extract 0 n) 9; simpa using h⟩
  · have hI : ¬ (n : Int) < (a.size : Int) := by omega
    have e : min n a.size = a.size := by omega
    have hout : outP 3 t n a b = [a] := by simp only [outP, e, extract_all]
    rw [hout]
    clear e hout
    go_enter Tryd.func76, Tryd.ntmps76
    go_wp2
    go_ret
    exact ⟨((Below.refl _ _).alloc (Nat.le_refl _) _).alloc (by simp) _, by have h := out1 (w.alloc (.cells #[.int .i64 3, .string t, .int .i64 n] 61)) (a) 9; simpa using h⟩

set_option maxRecDepth 100000 in
set_option maxHeartbeats 1000000 in
theorem plain_4 (ha : a.size ≤ 2000) (hb : b.size ≤ 2000) (hn : n ≤ 2000) :
    Calls Tryd.prog 76 #[.agg #[.int .i64 4, .string t, .int .i64 n], .string a, .string b] w fun e w' => Below w.heap.size w w' ∧ OutAt w' e (outP 4 t n a b) := by
  by_cases h : n < a.size
  · have hI : (n : Int) < (a.size : Int) := by omega
    have e : min n a.size = n := by omega
    have hout : outP 4 t n a b = [a.extract n a.size] := by simp only [outP, e]
    rw [hout]
    clear e hout
    go_enter Tryd.func76, Tryd.ntmps76
    go_wp2
    go_ret
    exact ⟨((Below.refl _ _).alloc (Nat.le_refl _) _).alloc (by simp) _, by have h := out1 (w.alloc (.cells #[.int .i64 4, .string t, .int .i64 n] 61)) (a.extract n a.size) 9; simpa using h⟩
  · have hI : ¬ (n : Int) < (a.size : Int) := by omega
    have e : min n a.size = a.size := by omega
    have hout : outP 4 t n a b = [⟨#[]⟩] := by simp only [outP, e, extract_none]
    rw [hout]
    clear e hout
    go_enter Tryd.func76, Tryd.ntmps76
    go_wp2
    go_ret
    exact ⟨((Below.refl _ _).alloc (Nat.le_refl _) _).alloc (by simp) _, by have h := out1 (w.alloc (.cells #[.int .i64 4, .string t, .int .i64 n] 61)) (⟨#[]⟩) 9; simpa using h⟩

set_option maxRecDepth 100000 in
set_option maxHeartbeats 1000000 in
theorem plain_5 (ha : a.size ≤ 2000) (hb : b.size ≤ 2000) (hn : n ≤ 2000) :
    Calls Tryd.prog 76 #[.agg #[.int .i64 5, .string t, .int .i64 n], .string a, .string b] w fun e w' => Below w.heap.size w w' ∧ OutAt w' e (outP 5 t n a b) := by
  go_enter Tryd.func76, Tryd.ntmps76
  go_wp2_with (go_at_call 94; refine (l2Piece_any a n _ ha hn).mono ?_; rintro e w9 ⟨rfl, rfl⟩)
  go_ret
  exact ⟨((Below.refl _ _).alloc (Nat.le_refl _) _).alloc (by simp) _, by have h := out1 (w.alloc (.cells #[.int .i64 5, .string t, .int .i64 n] 61)) (pieceP a n) 9; simpa [outP] using h⟩

set_option maxRecDepth 100000 in
set_option maxHeartbeats 1000000 in
theorem plain_6 (ha : a.size ≤ 2000) (hb : b.size ≤ 2000) (hn : n ≤ 2000) :
    Calls Tryd.prog 76 #[.agg #[.int .i64 6, .string t, .int .i64 n], .string a, .string b] w fun e w' => Below w.heap.size w w' ∧ OutAt w' e (outP 6 t n a b) := by
  have hsym : (a.toList == b.toList) = (b.toList == a.toList) := BEq.comm
  obtain ⟨f, ef⟩ : ∃ f, flagB (a.toList == b.toList) = f := ⟨_, rfl⟩
  have EF : Hid (flagB (a.toList == b.toList) = f) := ef
  have hout : outP 6 t n a b = [f] := by simp only [outP, ← hsym, ef]
  rw [hout]
  clear hsym hout ef
  go_enter Tryd.func76, Tryd.ntmps76
  go_wp2_with (go_at_call 93; refine (l2Flag_any _ _).mono ?_; rintro e w9 ⟨rfl, rfl⟩; rw [EF.out])
  go_ret
  exact ⟨((Below.refl _ _).alloc (Nat.le_refl _) _).alloc (by simp) _, by have h := out1 (w.alloc (.cells #[.int .i64 6, .string t, .int .i64 n] 61)) f 9; simpa using h⟩

set_option maxRecDepth 100000 in
set_option maxHeartbeats 1000000 in
theorem plain_7 (ha : a.size ≤ 2000) (hb : b.size ≤ 2000) (hn : n ≤ 2000) :
    Calls Tryd.prog 76 #[.agg #[.int .i64 7, .string t, .int .i64 n], .string a, .string b] w fun e w' => Below w.heap.size w w' ∧ OutAt w' e (outP 7 t n a b) := by
  go_enter Tryd.func76, Tryd.ntmps76
  go_wp2
  go_ret
  exact ⟨((Below.refl _ _).alloc (Nat.le_refl _) _).alloc (by simp) _, by have h := out2 (w.alloc (.cells #[.int .i64 7, .string t, .int .i64 n] 61)) a a 9; simpa [outP] using h⟩

set_option maxRecDepth 100000 in
set_option maxHeartbeats 1000000 in
theorem plain_8 (ha : a.size ≤ 2000) (hb : b.size ≤ 2000) (hn : n ≤ 2000) :
    Calls Tryd.prog 76 #[.agg #[.int .i64 8, .string t, .int .i64 n], .string a, .string b] w fun e w' => Below w.heap.size w w' ∧ OutAt w' e (outP 8 t n a b) := by
  go_enter Tryd.func76, Tryd.ntmps76
  go_wp2
  go_ret
  exact ⟨((Below.refl _ _).alloc (Nat.le_refl _) _).alloc (by simp) _, by have h := out2 (w.alloc (.cells #[.int .i64 8, .string t, .int .i64 n] 61)) a b 9; simpa [outP] using h⟩

theorem plain_any (o : Nat) (ha : a.size ≤ 2000) (hb : b.size ≤ 2000) (hn : n ≤ 2000) (h1 : 1 ≤ o) (h2 : o ≤ 8) :
    Calls Tryd.prog 76 #[.agg #[.int .i64 (o : Int), .string t, .int .i64 n], .string a, .string b] w fun e w' => Below w.heap.size w w' ∧ OutAt w' e (outP o t n a b) := by
  rcases (show o = 1 ∨ o = 2 ∨ o = 3 ∨ o = 4 ∨ o = 5 ∨ o = 6 ∨ o = 7 ∨ o = 8 by omega) with rfl | rfl | rfl | rfl | rfl | rfl | rfl | rfl
  · exact plain_1 t n a b w ha hb hn
  · exact plain_2 t n a b w ha hb hn
  · exact plain_3 t n a b w ha hb hn
  · exact plain_4 t n a b w ha hb hn
  · exact plain_5 t n a b w ha hb hn
  · exact plain_6 t n a b w ha hb hn
  · exact plain_7 t n a b w ha hb hn
  · exact plain_8 t n a b w ha hb hn

end Go.Proofs.YtmeojnaoljgieabDoor
