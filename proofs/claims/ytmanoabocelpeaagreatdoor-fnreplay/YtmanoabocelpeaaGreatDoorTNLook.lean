import Derived.Test.YtmanoabocelpeaaGreatDoorTNWork2
import Derived.Test.YtmanoabocelpeaaGreatDoorTNWork6
namespace Go.Proofs.YtmanoabocelpeaaGreatDoor
open Go.RowKit
set_option linter.unusedVariables false
set_option maxHeartbeats 8000000
set_option maxRecDepth 100000
section
theorem extract_le (x : ByteArray) (a b : Nat) : (x.extract a b).size <= x.size := by rw [ByteArray.size_extract]; omega
theorem piece_le (s : ByteArray) : ∀ (d n st i : Nat), s.size - i <= d -> (pieceFrom s n st i).size <= s.size
 | 0, n, st, i, h => by
  rw [pf_end (by omega)]
  split
  ·exact extract_le _ _ _
  ·exact Nat.zero_le _
 | d + 1, n, st, i, h => by
  by_cases hi : i < s.size
  ·by_cases hg : gapB s[i] = true
   ·by_cases hst : st < i
    ·by_cases hn : n = 0
     ·subst hn; rw [pf_gap0 hi hg hst]; exact extract_le _ _ _
     ·rw [pf_gapS hi hg hst hn]; exact piece_le s d _ _ _ (by omega)
    ·rw [pf_none hi hg hst]; exact piece_le s d _ _ _ (by omega)
   ·rw [pf_in hi (by simpa using hg)]; exact piece_le s d _ _ _ (by omega)
  ·rw [pf_end hi]
   split
   ·exact extract_le _ _ _
   ·exact Nat.zero_le _
theorem flagB_size (b : Bool) : (flagB b).size = 1 := by cases b <;> rfl
theorem split0 (l : List ByteArray) : restL l 0 = l := by simp [restL]
theorem split1 {l : List ByteArray} (h : 1 <= l.length) : l = restL l 1 ++ [topB l] := by
 unfold restL topB
 have e : l.take (l.length - 1 + 1) = l.take (l.length - 1) ++ [l[l.length - 1]] := List.take_succ_eq_append_getElem (by omega)
 rw [List.getD_eq_getElem?_getD, List.getElem?_eq_getElem (show l.length - 1 < l.length by omega), Option.getD_some, <- e, List.take_of_length_le (by omega)]
theorem split2 {l : List ByteArray} (h : 2 <= l.length) : l = restL l 2 ++ [subB l] ++ [topB l] := by
 have h1 := split1 (l := l) (by omega)
 have e : l.take (l.length - 2 + 1) = l.take (l.length - 2) ++ [l[l.length - 2]] := List.take_succ_eq_append_getElem (by omega)
 have h2 : restL l 1 = restL l 2 ++ [subB l] := by
  unfold restL subB
  rw [List.getD_eq_getElem?_getD, List.getElem?_eq_getElem (show l.length - 2 < l.length by omega), Option.getD_some, <- e]
  congr 1; omega
 rw [<- h2]; exact h1
theorem restL_length (l : List ByteArray) (k : Nat) : (restL l k).length = l.length - k := by simp [restL]
theorem top_mem {l : List ByteArray} (h : 1 <= l.length) : topB l ∈ l := by
 unfold topB
 rw [List.getD_eq_getElem?_getD, List.getElem?_eq_getElem (show l.length - 1 < l.length by omega), Option.getD_some]
 exact List.getElem_mem _
theorem sub_mem {l : List ByteArray} (h : 2 <= l.length) : subB l ∈ l := by
 unfold subB
 rw [List.getD_eq_getElem?_getD, List.getElem?_eq_getElem (show l.length - 2 < l.length by omega), Option.getD_some]
 exact List.getElem_mem _
def Bad (o : Nat) (t : ByteArray) (n : Nat) (l : List ByteArray) : Prop := 50 < (restL l (takesN o)).length + (outP o t n (topB l) (subB l)).length \/ ∃ x ∈ outP o t n (topB l) (subB l), 2000 < x.size
def WorkPost (o : Nat) (t : ByteArray) (n : Nat) (l : List ByteArray) (B m : Nat) (cd : Value) (pl : Nat) (st lk : Int) (w : World) (e : Ending) (w' : World) : Prop :=
 KB B m w w' /\ ((e = .returned (.bool true) /\ ¬ Bad o t n l /\ MOk B w' m (restL l (takesN o) ++ outP o t n (topB l) (subB l)) cd (nextP o n pl (topB l) : Nat) st lk) \/ (e = .returned (.bool false) /\ Bad o t n l /\ ∃ ss, MOk B w' m ss cd pl st lk))
variable (B m : Nat) (l : List ByteArray) (cd : Value) (pl : Nat) (st lk : Int) (t : ByteArray) (n : Nat) (w : World)
theorem nextP_plain {o n pl : Nat} {a : ByteArray} (h : o ≠ 10) (h2 : o ≠ 11) : nextP o n pl a = pl + 1 := by simp [nextP, h, h2]
theorem work_1 (hM : MOk B w m l cd pl st lk) (hB : B <= w.heap.size) (hp1 : pl <= 200) (hn : n <= 2000) (hlen : l.length <= 50) (hsz : ∀ x ∈ l, x.size <= 2000) (ht : t.size <= 2000) :
  Calls Tryz.prog 39 #[.pointer (some ⟨m, 0, none⟩), .agg #[.int .i64 1, .string t, .int .i64 n]] w fun e w' => WorkPost 1 t n l B m cd pl st lk w e w' := by
 unfold WorkPost Bad
 rw [show takesN 1 = 0 from rfl, split0]
 by_cases h : l.length < 50
 ·refine (work_lit_ok B m l cd pl st lk t n w hM hB ht h (by omega) (by omega)).mono fun e w' ⟨h1, h2, h3⟩ => ⟨h2, Or.inl ⟨h1, ?_, by rw [nextP_plain (by decide) (by decide)]; exact h3⟩⟩
  simp [outP]; omega
 ·refine (work_lit_no B m l cd pl st lk t n w hM hB (by omega) (by omega) hn ht (by omega)).mono fun e w' ⟨h1, h2, h3⟩ => ⟨h2, Or.inr ⟨h1, ?_, _, h3⟩⟩
  simp [outP]; omega
theorem work_2 (hM : MOk B w m l cd pl st lk) (hB : B <= w.heap.size) (hp1 : pl <= 200) (hn : n <= 2000) (hlen : l.length <= 50) (hsz : ∀ x ∈ l, x.size <= 2000) (htk : 2 <= l.length) :
  Calls Tryz.prog 39 #[.pointer (some ⟨m, 0, none⟩), .agg #[.int .i64 2, .string t, .int .i64 n]] w fun e w' => WorkPost 2 t n l B m cd pl st lk w e w' := by
 have hs := split2 htk
 have hr := restL_length l 2
 have hx := hsz _ (top_mem (show 1 <= l.length by omega))
 have hy := hsz _ (sub_mem htk)
 unfold WorkPost Bad
 rw [show takesN 2 = 2 from rfl]
 rw [hs] at hM
 revert hM hr hx hy
 generalize restL l 2 = r
 generalize topB l = y
 generalize subB l = x
 intro hM hr hx hy
 have hc : (x ++ y).size = x.size + y.size := ByteArray.size_append
 by_cases h : (x ++ y).size <= 2000
 ·refine (work_cat_ok B m r x y cd pl st lk t n w hM hB (by omega) (by omega) hn (by omega) hy hx h).mono fun e w' ⟨h1, h2, h3⟩ => ⟨h2, Or.inl ⟨h1, ?_, by rw [nextP_plain (by decide) (by decide)]; exact h3⟩⟩
  simp [outP]; omega
 ·refine (work_cat_no B m r x y cd pl st lk t n w hM hB (by omega) (by omega) hn (by omega) hy hx (by omega) (by omega)).mono fun e w' ⟨h1, h2, h3⟩ => ⟨h2, Or.inr ⟨h1, ?_, _, h3⟩⟩
  simp [outP]; omega
theorem work_3 (hM : MOk B w m l cd pl st lk) (hB : B <= w.heap.size) (hp1 : pl <= 200) (hn : n <= 2000) (hlen : l.length <= 50) (hsz : ∀ x ∈ l, x.size <= 2000) (htk : 1 <= l.length) :
  Calls Tryz.prog 39 #[.pointer (some ⟨m, 0, none⟩), .agg #[.int .i64 3, .string t, .int .i64 n]] w fun e w' => WorkPost 3 t n l B m cd pl st lk w e w' := by
 have hs := split1 htk
 have hr := restL_length l 1
 have hx := hsz _ (top_mem htk)
 unfold WorkPost Bad
 rw [show takesN 3 = 1 from rfl]
 rw [hs] at hM
 revert hM hr hx
 generalize restL l 1 = r
 generalize topB l = x
 intro hM hr hx
 have hpc := extract_le x 0 (min n x.size)
 refine (work_cut B m r x cd pl st lk t n w hM hB (by omega) (by omega) hn (by omega) hx (min n x.size) (by omega) (by omega)).mono fun e w' ⟨h1, h2, h3⟩ => ⟨h2, Or.inl ⟨h1, ?_, by rw [nextP_plain (by decide) (by decide)]; exact h3⟩⟩
 simp only [outP, List.length_singleton, List.mem_singleton, exists_eq_left]; omega
theorem work_4 (hM : MOk B w m l cd pl st lk) (hB : B <= w.heap.size) (hp1 : pl <= 200) (hn : n <= 2000) (hlen : l.length <= 50) (hsz : ∀ x ∈ l, x.size <= 2000) (htk : 1 <= l.length) :
  Calls Tryz.prog 39 #[.pointer (some ⟨m, 0, none⟩), .agg #[.int .i64 4, .string t, .int .i64 n]] w fun e w' => WorkPost 4 t n l B m cd pl st lk w e w' := by
 have hs := split1 htk
 have hr := restL_length l 1
 have hx := hsz _ (top_mem htk)
 unfold WorkPost Bad
 rw [show takesN 4 = 1 from rfl]
 rw [hs] at hM
 revert hM hr hx
 generalize restL l 1 = r
 generalize topB l = x
 intro hM hr hx
 have hpc := extract_le x (min n x.size) x.size
 refine (work_rest B m r x cd pl st lk t n w hM hB (by omega) (by omega) hn (by omega) hx (min n x.size) (by omega) (by omega)).mono fun e w' ⟨h1, h2, h3⟩ => ⟨h2, Or.inl ⟨h1, ?_, by rw [nextP_plain (by decide) (by decide)]; exact h3⟩⟩
 simp only [outP, List.length_singleton, List.mem_singleton, exists_eq_left]; omega
theorem work_5 (hM : MOk B w m l cd pl st lk) (hB : B <= w.heap.size) (hp1 : pl <= 200) (hn : n <= 2000) (hlen : l.length <= 50) (hsz : ∀ x ∈ l, x.size <= 2000) (htk : 1 <= l.length) :
  Calls Tryz.prog 39 #[.pointer (some ⟨m, 0, none⟩), .agg #[.int .i64 5, .string t, .int .i64 n]] w fun e w' => WorkPost 5 t n l B m cd pl st lk w e w' := by
 have hs := split1 htk
 have hr := restL_length l 1
 have hx := hsz _ (top_mem htk)
 unfold WorkPost Bad
 rw [show takesN 5 = 1 from rfl]
 rw [hs] at hM
 revert hM hr hx
 generalize restL l 1 = r
 generalize topB l = x
 intro hM hr hx
 have hpc : (pieceP x n).size <= x.size := piece_le x x.size n 0 0 (by omega)
 refine (work_word B m r x cd pl st lk t n w hM hB (by omega) (by omega) hn (by omega) hx (by omega)).mono fun e w' ⟨h1, h2, h3⟩ => ⟨h2, Or.inl ⟨h1, ?_, by rw [nextP_plain (by decide) (by decide)]; exact h3⟩⟩
 simp only [outP, List.length_singleton, List.mem_singleton, exists_eq_left]; omega
theorem work_6 (hM : MOk B w m l cd pl st lk) (hB : B <= w.heap.size) (hp1 : pl <= 200) (hn : n <= 2000) (hlen : l.length <= 50) (hsz : ∀ x ∈ l, x.size <= 2000) (htk : 2 <= l.length) :
  Calls Tryz.prog 39 #[.pointer (some ⟨m, 0, none⟩), .agg #[.int .i64 6, .string t, .int .i64 n]] w fun e w' => WorkPost 6 t n l B m cd pl st lk w e w' := by
 have hs := split2 htk
 have hr := restL_length l 2
 have hx := hsz _ (top_mem (show 1 <= l.length by omega))
 have hy := hsz _ (sub_mem htk)
 unfold WorkPost Bad
 rw [show takesN 6 = 2 from rfl]
 rw [hs] at hM
 revert hM hr hx hy
 generalize restL l 2 = r
 generalize topB l = y
 generalize subB l = x
 intro hM hr hx hy
 have hf := flagB_size (x.toList == y.toList)
 refine (work_same B m r x y cd pl st lk t n w hM hB (by omega) (by omega) hn (by omega) hy hx (by omega)).mono fun e w' ⟨h1, h2, h3⟩ => ⟨h2, Or.inl ⟨h1, ?_, by rw [nextP_plain (by decide) (by decide)]; exact h3⟩⟩
 simp only [outP, List.length_singleton, List.mem_singleton, exists_eq_left]; omega
theorem work_7 (hM : MOk B w m l cd pl st lk) (hB : B <= w.heap.size) (hp1 : pl <= 200) (hn : n <= 2000) (hlen : l.length <= 50) (hsz : ∀ x ∈ l, x.size <= 2000) (htk : 1 <= l.length) :
  Calls Tryz.prog 39 #[.pointer (some ⟨m, 0, none⟩), .agg #[.int .i64 7, .string t, .int .i64 n]] w fun e w' => WorkPost 7 t n l B m cd pl st lk w e w' := by
 have hs := split1 htk
 have hr := restL_length l 1
 have hx := hsz _ (top_mem htk)
 unfold WorkPost Bad
 rw [show takesN 7 = 1 from rfl]
 rw [hs] at hM
 revert hM hr hx
 generalize restL l 1 = r
 generalize topB l = x
 intro hM hr hx
 by_cases h : r.length + 2 <= 50
 ·refine (work_dup_ok B m r x cd pl st lk t n w hM hB (by omega) (by omega) hn h hx).mono fun e w' ⟨h1, h2, h3⟩ => ⟨h2, Or.inl ⟨h1, ?_, by rw [nextP_plain (by decide) (by decide)]; simpa [outP] using h3⟩⟩
  simp [outP]; omega
 ·refine (work_dup_no B m r x cd pl st lk t n w hM hB (by omega) (by omega) hn (by omega) hx).mono fun e w' ⟨h1, h2, h3⟩ => ⟨h2, Or.inr ⟨h1, ?_, _, h3⟩⟩
  simp [outP]; omega
theorem work_8 (hM : MOk B w m l cd pl st lk) (hB : B <= w.heap.size) (hp1 : pl <= 200) (hn : n <= 2000) (hlen : l.length <= 50) (hsz : ∀ x ∈ l, x.size <= 2000) (htk : 2 <= l.length) :
  Calls Tryz.prog 39 #[.pointer (some ⟨m, 0, none⟩), .agg #[.int .i64 8, .string t, .int .i64 n]] w fun e w' => WorkPost 8 t n l B m cd pl st lk w e w' := by
 have hs := split2 htk
 have hr := restL_length l 2
 have hx := hsz _ (top_mem (show 1 <= l.length by omega))
 have hy := hsz _ (sub_mem htk)
 unfold WorkPost Bad
 rw [show takesN 8 = 2 from rfl]
 rw [hs] at hM
 revert hM hr hx hy
 generalize restL l 2 = r
 generalize topB l = y
 generalize subB l = x
 intro hM hr hx hy
 refine (work_swap B m r x y cd pl st lk t n w hM hB (by omega) (by omega) hn (by omega) hy hx).mono fun e w' ⟨h1, h2, h3⟩ => ⟨h2, Or.inl ⟨h1, ?_, by rw [nextP_plain (by decide) (by decide)]; simpa [outP] using h3⟩⟩
 simp [outP]; omega
theorem work_9 (hM : MOk B w m l cd pl st lk) (hB : B <= w.heap.size) (hp1 : pl <= 200) (hn : n <= 2000) (hlen : l.length <= 50) (hsz : ∀ x ∈ l, x.size <= 2000) (htk : 1 <= l.length) :
  Calls Tryz.prog 39 #[.pointer (some ⟨m, 0, none⟩), .agg #[.int .i64 9, .string t, .int .i64 n]] w fun e w' => WorkPost 9 t n l B m cd pl st lk w e w' := by
 have hs := split1 htk
 have hr := restL_length l 1
 have hx := hsz _ (top_mem htk)
 unfold WorkPost Bad
 rw [show takesN 9 = 1 from rfl]
 rw [hs] at hM
 revert hM hr hx
 generalize restL l 1 = r
 generalize topB l = x
 intro hM hr hx
 refine (work_drop B m r x cd pl st lk t n w hM hB (by omega) (by omega) hn (by omega)).mono fun e w' ⟨h1, h2, h3⟩ => ⟨h2, Or.inl ⟨h1, ?_, by rw [nextP_plain (by decide) (by decide)]; simpa [outP] using h3⟩⟩
 simp [outP]; omega
theorem work_10 (hM : MOk B w m l cd pl st lk) (hB : B <= w.heap.size) (hp1 : pl <= 200) (hn : n <= 2000) (hlen : l.length <= 50) (hsz : ∀ x ∈ l, x.size <= 2000) :
  Calls Tryz.prog 39 #[.pointer (some ⟨m, 0, none⟩), .agg #[.int .i64 10, .string t, .int .i64 n]] w fun e w' => WorkPost 10 t n l B m cd pl st lk w e w' := by
 unfold WorkPost Bad
 rw [show takesN 10 = 0 from rfl, split0]
 refine (work_jump B m l cd pl st lk t n w hM hB (by omega) (by omega) hn).mono fun e w' ⟨h1, h2, h3⟩ => ⟨h2, Or.inl ⟨h1, ?_, by simpa [outP, nextP] using h3⟩⟩
 simp [outP]; omega
theorem work_11 (hM : MOk B w m l cd pl st lk) (hB : B <= w.heap.size) (hp1 : pl <= 200) (hn : n <= 2000) (hlen : l.length <= 50) (hsz : ∀ x ∈ l, x.size <= 2000) (htk : 1 <= l.length) :
  Calls Tryz.prog 39 #[.pointer (some ⟨m, 0, none⟩), .agg #[.int .i64 11, .string t, .int .i64 n]] w fun e w' => WorkPost 11 t n l B m cd pl st lk w e w' := by
 have hs := split1 htk
 have hr := restL_length l 1
 have hx := hsz _ (top_mem htk)
 unfold WorkPost Bad
 rw [show takesN 11 = 1 from rfl]
 rw [hs] at hM
 revert hM hr hx
 generalize restL l 1 = r
 generalize topB l = x
 intro hM hr hx
 by_cases hx1 : x.toList.isEmpty = true
 ·refine (work_unless_0 B m r x cd pl st lk t n w hM hB (by omega) (by omega) hn (by omega) hx1).mono fun e w' ⟨h1, h2, h3⟩ => ⟨h2, Or.inl ⟨h1, ?_, by simpa [outP, nextP, emptyB, hx1] using h3⟩⟩
  simp [outP]; omega
 ·have hx1' : x.toList.isEmpty = false := by simpa using hx1
  by_cases hx2 : (x.toList == [48]) = true
  ·refine (work_unless_1 B m r x cd pl st lk t n w hM hB (by omega) (by omega) hn (by omega) hx1' hx2).mono fun e w' ⟨h1, h2, h3⟩ => ⟨h2, Or.inl ⟨h1, ?_, by
    have e1 : emptyB x = true := by simp only [emptyB, hx2, Bool.or_true]
    simpa [outP, nextP, e1] using h3⟩⟩
   simp [outP]; omega
  ·have hx2' : (x.toList == [48]) = false := by simpa using hx2
   refine (work_unless_2 B m r x cd pl st lk t n w hM hB (by omega) (by omega) hn (by omega) hx1' hx2').mono fun e w' ⟨h1, h2, h3⟩ => ⟨h2, Or.inl ⟨h1, ?_, by
    have e1 : emptyB x = false := by simp only [emptyB, hx1', hx2', Bool.or_false]
    simpa [outP, nextP, e1] using h3⟩⟩
   simp [outP]; omega
theorem work_any (o : Nat) (hM : MOk B w m l cd pl st lk) (hB : B <= w.heap.size) (hp1 : pl <= 200) (hn : n <= 2000) (hlen : l.length <= 50) (hsz : ∀ x ∈ l, x.size <= 2000) (ht : t.size <= 2000) (h1 : 1 <= o) (h2 : o <= 11) (htk : takesN o <= l.length) :
  Calls Tryz.prog 39 #[.pointer (some ⟨m, 0, none⟩), .agg #[.int .i64 (o : Int), .string t, .int .i64 n]] w fun e w' => WorkPost o t n l B m cd pl st lk w e w' := by
 rcases (show o = 1 \/ o = 2 \/ o = 3 \/ o = 4 \/ o = 5 \/ o = 6 \/ o = 7 \/ o = 8 \/ o = 9 \/ o = 10 \/ o = 11 by omega) with rfl | rfl | rfl | rfl | rfl | rfl | rfl | rfl | rfl | rfl | rfl
 ·exact work_1 B m l cd pl st lk t n w hM hB hp1 hn hlen hsz ht
 ·exact work_2 B m l cd pl st lk t n w hM hB hp1 hn hlen hsz htk
 ·exact work_3 B m l cd pl st lk t n w hM hB hp1 hn hlen hsz htk
 ·exact work_4 B m l cd pl st lk t n w hM hB hp1 hn hlen hsz htk
 ·exact work_5 B m l cd pl st lk t n w hM hB hp1 hn hlen hsz htk
 ·exact work_6 B m l cd pl st lk t n w hM hB hp1 hn hlen hsz htk
 ·exact work_7 B m l cd pl st lk t n w hM hB hp1 hn hlen hsz htk
 ·exact work_8 B m l cd pl st lk t n w hM hB hp1 hn hlen hsz htk
 ·exact work_9 B m l cd pl st lk t n w hM hB hp1 hn hlen hsz htk
 ·exact work_10 B m l cd pl st lk t n w hM hB hp1 hn hlen hsz
 ·exact work_11 B m l cd pl st lk t n w hM hB hp1 hn hlen hsz htk
end
theorem Tab.belowB {B : Nat} {w w' : World} (h : Tab w) (hb : Below B w w') (hB : 1 < B) : Tab w' := fun o ho =>
 ⟨(hb.cell (p := ⟨0, _, none⟩) (Nat.lt_of_succ_lt hB)).trans (h o ho).1, (hb.cell (p := ⟨0, _, none⟩) (Nat.lt_of_succ_lt hB)).trans (h o ho).2.1, (hb.cell (p := ⟨0, _, none⟩) (Nat.lt_of_succ_lt hB)).trans (h o ho).2.2⟩
theorem MOk.looks {B : Nat} {w : World} {m : Nat} {ss : List ByteArray} {cd : Value} {pl st lk : Int} (h : MOk B w m ss cd pl st lk) (p : Int) : MOk B (w.setCell ⟨m, 4, none⟩ (.int .i64 p)) m ss cd pl st p := by
 obtain ⟨hB, v, hm, ho⟩ := h
 refine ⟨hB, v, ?_, ?_⟩
 ·unfold Mach at *
  rw [Joins.block_setCell hm]
  rfl
 ·have hne := hm.ne' ho
  refine ⟨ho.1, ?_⟩
  rcases ho.2 with h0 | ⟨g, cap, cur, hv, hg, hh, r⟩
  ·exact Or.inl h0
  ·refine Or.inr ⟨g, cap, cur, hv, hg, ?_, r⟩
   rw [Below.heap_setCell w ⟨m, 4, none⟩ _ g (by rintro e; apply hne; rw [hv]; simp [Value.ownBlock, e])]
   exact hh
theorem MOk.cells {B : Nat} {w : World} {m : Nat} {ss : List ByteArray} {cd : Value} {pl st lk : Int} (h : MOk B w m ss cd pl st lk) : w.cell? ⟨m, 3, none⟩ = some (.int .i64 st) /\ w.cell? ⟨m, 4, none⟩ = some (.int .i64 lk) /\ w.frozen? ⟨m, 4, none⟩ = false /\ m < w.heap.size /\ B <= m := by
 obtain ⟨hB, v, hm, ho⟩ := h
 exact ⟨by rw [Lib.cell_of_heap hm]; rfl, by rw [Lib.cell_of_heap hm]; rfl, Lib.frozen_of_heap hm 4, hm.lt, hB⟩
theorem MOk.turn {B : Nat} {w : World} {m : Nat} {ss : List ByteArray} {cd : Value} {pl st lk : Int} {b : Nat} (h : MOk B w m ss cd pl st lk /\ ∃ cs, w.heap[b]? = some (.cells cs 44 (0, 0))) (j : Nat) (x : Value) :
  MOk B (w.setCell ⟨b, j, none⟩ x) m ss cd pl st lk /\ ∃ cs, (w.setCell ⟨b, j, none⟩ x).heap[b]? = some (.cells cs 44 (0, 0)) := by
 obtain ⟨⟨hB, v, hm, ho⟩, cs, hb⟩ := h
 have hmb : m ≠ b := by
  rintro rfl
  unfold Mach at hm
  rw [hm] at hb
  simp at hb
 refine ⟨⟨hB, v, ?_, ho.1, ?_⟩, _, Joins.block_setCell hb x⟩
 ·unfold Mach at *
  rw [Below.heap_setCell w ⟨b, j, none⟩ _ m hmb]
  exact hm
 ·rcases ho.2 with h0 | ⟨g, cap, cur, hv, hg, hh, r⟩
  ·exact Or.inl h0
  ·refine Or.inr ⟨g, cap, cur, hv, hg, ?_, r⟩
   have hgb : g ≠ b := by
    rintro rfl
    rw [hh] at hb
    simp at hb
   rw [Below.heap_setCell w ⟨b, j, none⟩ _ g hgb]
   exact hh
theorem look_wait (B m : Nat) (r : List ByteArray) (x : ByteArray) (cd : Value) (pl st lk : Int) (ask : Bool) (w : World) (hM : MOk B w m (r ++ [x]) cd pl st lk) (hB : B <= w.heap.size) (h2 : r.length < 50) (hx : x.size <= 2000) (hn : NameOk x) (hl0 : 0 <= lk) (hl1 : lk < 200) :
  Calls Tryz.prog 37 #[.pointer (some ⟨m, 0, none⟩), .bool ask] w fun e w' => e = .returned (turnV false 0 ⟨#[]⟩ ask x st) /\ KB B m w w' /\ MOk B w' m r cd pl st (lk + 1) := by
 have hnb := nameB_true hn
 have d1 : (lk == 200) = false := by simp; omega
 go_enter Tryz.func37, Tryz.ntmps37
 go_wp2_with fail
 have hmw := hM.cells.2.2.2.1
 have hba : Below w.heap.size w (w.alloc (.cells #[.bool false, .int .i64 0, .string ⟨#[]⟩, .bool false, .string ⟨#[]⟩, .int .i64 0] 44)) := (Below.refl _ _).alloc (Nat.le_refl _) _
 refine (take_anyK B m r x cd pl st lk _ (hM.below hba) (by simp; omega) h2).mono ?_
 rintro e w1 ⟨rfl, hb1, hM1, hk1⟩
 have hblk : w1.heap[w.heap.size]? = some (.cells #[.bool false, .int .i64 0, .string ⟨#[]⟩, .bool false, .string ⟨#[]⟩, .int .i64 0] 44 (0, 0)) := by
  rw [hk1 _ (by omega), heap_new]
 have k0 := Lib.cell_of_heap hblk 0
 have k1 := Lib.cell_of_heap hblk 1
 have k2 := Lib.cell_of_heap hblk 2
 have k3 := Lib.cell_of_heap hblk 3
 have k4 := Lib.cell_of_heap hblk 4
 have k5 := Lib.cell_of_heap hblk 5
 simp only [gA, gB, gC] at k0 k1 k2 k3 k4 k5
 have f0 : ∀ j, w1.frozen? ⟨w.heap.size, j, none⟩ = false := fun j => Lib.frozen_of_heap hblk j
 obtain ⟨c3, c4, f4, _, hBm⟩ := hM1.cells
 have hne : m ≠ w.heap.size := by omega
 have hne' : w.heap.size ≠ m := by omega
 have HM : Hid (MOk B (w1.setCell ⟨m, 4, none⟩ (.int .i64 (lk + 1))) m r cd pl st (lk + 1) /\ ∃ cs, (w1.setCell ⟨m, 4, none⟩ (.int .i64 (lk + 1))).heap[w.heap.size]? = some (.cells cs 44 (0, 0))) := ⟨hM1.looks _, _, by rw [Below.heap_setCell w1 ⟨m, 4, none⟩ _ _ hne']; exact hblk⟩
 have HB : Hid (KB B m w w1) := (KB.old hba hB).trans hb1
 clear hM1 hk1 hblk hM hba hb1 hmw
 go_wp2_with (first | (go_at_call 31; refine (validName_any x _ (by omega)).mono ?_; rintro e w9 ⟨rfl, rfl⟩))
 exact bodyPost_ret (v := turnV false 0 ⟨#[]⟩ ask x st) (by simp [results, Tryz.results37, go_sem, turnV, k0, k1, k2, k3, k4, k5]) rfl ⟨rfl, ((((((HB.out.setM 4 hBm _).setN 0 hB _).setN 1 hB _).setN 2 hB _).setN 3 hB _).setN 4 hB _).setN 5 hB _, (MOk.turn (MOk.turn (MOk.turn (MOk.turn (MOk.turn (MOk.turn HM.out 0 _) 1 _) 2 _) 3 _) 4 _) 5 _).1⟩
theorem P10.belowB {B : Nat} {w w' : World} (h : P10 w) (hb : Below B w w') (hB : 1 < B) : P10 w' := by
 unfold P10 Lib.TabIs World.var? at *
 rw [show Tryz.prog.globalNamed "internal/strconv.uint64pow10" = some 1 from by kernel_rfl] at *
 simp only [Option.bind_some] at *
 rw [hb.block 1 (by omega)]
 exact h
theorem look_bad (B m : Nat) (r : List ByteArray) (x : ByteArray) (cd : Value) (pl st lk : Int) (ask : Bool) (w : World) (hM : MOk B w m (r ++ [x]) cd pl st lk) (hB : B <= w.heap.size) (h2 : r.length < 50) (hx : x.size <= 2000) (hP : P10 w) (hB1 : 1 < B) (hp0 : 0 <= pl) (hp1 : pl <= 2000) (hn : ¬ NameOk x) :
  Calls Tryz.prog 37 #[.pointer (some ⟨m, 0, none⟩), .bool ask] w fun e w' => e = .returned (turnV true 2 ⟨(Lib.decDigits pl.toNat).toArray⟩ false ⟨#[]⟩ st) /\ KB B m w w' := by
 have hnb := nameB_false hn
 generalize hq : (⟨(Lib.decDigits pl.toNat).toArray⟩ : ByteArray) = q
 go_enter Tryz.func37, Tryz.ntmps37
 go_wp2_with fail
 have hmw := hM.cells.2.2.2.1
 have hba : Below w.heap.size w (w.alloc (.cells #[.bool false, .int .i64 0, .string ⟨#[]⟩, .bool false, .string ⟨#[]⟩, .int .i64 0] 44)) := (Below.refl _ _).alloc (Nat.le_refl _) _
 refine (take_anyK B m r x cd pl st lk _ (hM.below hba) (by simp; omega) h2).mono ?_
 rintro e w1 ⟨rfl, hb1, hM1, hk1⟩
 have hblk : w1.heap[w.heap.size]? = some (.cells #[.bool false, .int .i64 0, .string ⟨#[]⟩, .bool false, .string ⟨#[]⟩, .int .i64 0] 44 (0, 0)) := by
  rw [hk1 _ (by omega), heap_new]
 have HB : Hid (KB B m w w1) := (KB.old hba hB).trans hb1
 have HP : Hid (P10 w1) := hP.belowB HB.out.below hB1
 have hw1 : w.heap.size < w1.heap.size := by
  rcases Nat.lt_or_ge w.heap.size w1.heap.size with h' | h'
  ·exact h'
  ·rw [Array.getElem?_eq_none h'] at hblk; cases hblk
 obtain ⟨c3, c4, f4, _, hBm⟩ := hM1.cells
 obtain ⟨_, v, hm1, _⟩ := hM1
 clear hk1 hM hba hb1 hmw hP
 go_wp2_with (first | (go_at_call 31; refine (validName_any x _ (by omega)).mono ?_; rintro e w9 ⟨rfl, rfl⟩))
 refine (stuck_any m v cd pl st lk _ hm1 HP.out hp0 hp1).mono ?_
 rintro e w2 ⟨rfl, hb2⟩
 rw [hq]
 have hblk2 : w2.heap[w.heap.size]? = some (.cells #[.bool false, .int .i64 0, .string ⟨#[]⟩, .bool false, .string ⟨#[]⟩, .int .i64 0] 44 (0, 0)) := by
  rw [hb2.block _ hw1]; exact hblk
 have k0 := Lib.cell_of_heap hblk2 0
 have k1 := Lib.cell_of_heap hblk2 1
 have k2 := Lib.cell_of_heap hblk2 2
 have k3 := Lib.cell_of_heap hblk2 3
 have k4 := Lib.cell_of_heap hblk2 4
 have k5 := Lib.cell_of_heap hblk2 5
 simp only [gA, gB, gC] at k0 k1 k2 k3 k4 k5
 have f0 : ∀ j, w2.frozen? ⟨w.heap.size, j, none⟩ = false := fun j => Lib.frozen_of_heap hblk2 j
 have HB2 : Hid (KB B m w w2) := HB.out.trans (KB.old hb2 (by omega))
 clear hblk hblk2 hb2 hm1 c3 c4 f4
 unfold turnV
 go_wp2
 exact bodyPost_ret (v := turnV true 2 q false ⟨#[]⟩ st) (by simp [results, Tryz.results37, go_sem, turnV, k0, k1, k2, k3, k4, k5]) rfl ⟨rfl, (((((HB2.out.setN 0 hB _).setN 1 hB _).setN 2 hB _).setN 3 hB _).setN 4 hB _).setN 5 hB _⟩
theorem look_spent (B m : Nat) (r : List ByteArray) (x : ByteArray) (cd : Value) (pl st lk : Int) (ask : Bool) (w : World) (hM : MOk B w m (r ++ [x]) cd pl st lk) (hB : B <= w.heap.size) (h2 : r.length < 50) (hx : x.size <= 2000) (hP : P10 w) (hB1 : 1 < B) (hp0 : 0 <= pl) (hp1 : pl <= 2000) (hn : NameOk x) (hl : lk = 200) :
  Calls Tryz.prog 37 #[.pointer (some ⟨m, 0, none⟩), .bool ask] w fun e w' => e = .returned (turnV true 3 ⟨#[]⟩ false ⟨#[]⟩ st) /\ KB B m w w' := by
 have hnb := nameB_true hn
 subst hl
 go_enter Tryz.func37, Tryz.ntmps37
 go_wp2_with fail
 have hmw := hM.cells.2.2.2.1
 have hba : Below w.heap.size w (w.alloc (.cells #[.bool false, .int .i64 0, .string ⟨#[]⟩, .bool false, .string ⟨#[]⟩, .int .i64 0] 44)) := (Below.refl _ _).alloc (Nat.le_refl _) _
 refine (take_anyK B m r x cd pl st 200 _ (hM.below hba) (by simp; omega) h2).mono ?_
 rintro e w1 ⟨rfl, hb1, hM1, hk1⟩
 have hblk : w1.heap[w.heap.size]? = some (.cells #[.bool false, .int .i64 0, .string ⟨#[]⟩, .bool false, .string ⟨#[]⟩, .int .i64 0] 44 (0, 0)) := by
  rw [hk1 _ (by omega), heap_new]
 have HB : Hid (KB B m w w1) := (KB.old hba hB).trans hb1
 have HP : Hid (P10 w1) := hP.belowB HB.out.below hB1
 have hw1 : w.heap.size < w1.heap.size := by
  rcases Nat.lt_or_ge w.heap.size w1.heap.size with h' | h'
  ·exact h'
  ·rw [Array.getElem?_eq_none h'] at hblk; cases hblk
 obtain ⟨c3, c4, f4, _, hBm⟩ := hM1.cells
 obtain ⟨_, v, hm1, _⟩ := hM1
 clear hk1 hM hba hb1 hmw hP
 go_wp2_with (first | (go_at_call 31; refine (validName_any x _ (by omega)).mono ?_; rintro e w9 ⟨rfl, rfl⟩))
 refine (over_any m v cd pl st 200 3 ⟨#[]⟩ _ hm1).mono ?_
 rintro e w2 ⟨rfl, hb2⟩
 skip
 have hblk2 : w2.heap[w.heap.size]? = some (.cells #[.bool false, .int .i64 0, .string ⟨#[]⟩, .bool false, .string ⟨#[]⟩, .int .i64 0] 44 (0, 0)) := by
  rw [hb2.block _ hw1]; exact hblk
 have k0 := Lib.cell_of_heap hblk2 0
 have k1 := Lib.cell_of_heap hblk2 1
 have k2 := Lib.cell_of_heap hblk2 2
 have k3 := Lib.cell_of_heap hblk2 3
 have k4 := Lib.cell_of_heap hblk2 4
 have k5 := Lib.cell_of_heap hblk2 5
 simp only [gA, gB, gC] at k0 k1 k2 k3 k4 k5
 have f0 : ∀ j, w2.frozen? ⟨w.heap.size, j, none⟩ = false := fun j => Lib.frozen_of_heap hblk2 j
 have HB2 : Hid (KB B m w w2) := HB.out.trans (KB.old hb2 (by omega))
 clear hblk hblk2 hb2 hm1 c3 c4 f4
 unfold turnV
 go_wp2
 exact bodyPost_ret (v := turnV true 3 ⟨#[]⟩ false ⟨#[]⟩ st) (by simp [results, Tryz.results37, go_sem, turnV, k0, k1, k2, k3, k4, k5]) rfl ⟨rfl, (((((HB2.out.setN 0 hB _).setN 1 hB _).setN 2 hB _).setN 3 hB _).setN 4 hB _).setN 5 hB _⟩
end Go.Proofs.YtmanoabocelpeaaGreatDoor
