import Derived.Test.YtmeojnaoljgieaeGreatDoorTNKeep
import Derived.Test.YtmeojnaoljgieaeGreatDoorTNPiece
namespace Go.Proofs.YtmeojnaoljgieaeGreatDoor
open Go.RowKit
set_option linter.unusedVariables false
set_option maxHeartbeats 8000000
set_option maxRecDepth 100000
theorem MOk.place {B : Nat} {w : World} {m : Nat} {ss : List ByteArray} {cd : Value} {pl st lk : Int} (h : MOk B w m ss cd pl st lk) (p : Int) : MOk B (w.setCell ⟨m, 2, none⟩ (.int .i64 p)) m ss cd p st lk := by
  obtain ⟨hB, v, hm, ho⟩ := h
  refine ⟨hB, v, ?_, ?_⟩
  · unfold Mach at *
    rw [Joins.block_setCell hm]
    rfl
  · have hne := hm.ne' ho
    refine ⟨ho.1, ?_⟩
    rcases ho.2 with h0 | ⟨g, cap, cur, hv, hg, hh, r⟩
    · exact Or.inl h0
    · refine Or.inr ⟨g, cap, cur, hv, hg, ?_, r⟩
      rw [Below.heap_setCell w ⟨m, 2, none⟩ _ g (by rintro e; apply hne; rw [hv]; simp [Value.ownBlock, e])]
      exact hh
theorem MOk.cell2 {B : Nat} {w : World} {m : Nat} {ss : List ByteArray} {cd : Value} {pl st lk : Int} (h : MOk B w m ss cd pl st lk) : w.cell? ⟨m, 2, none⟩ = some (.int .i64 pl) /\ w.frozen? ⟨m, 2, none⟩ = false /\ m < w.heap.size /\ B <= m := by
  obtain ⟨hB, v, hm, ho⟩ := h
  exact ⟨by rw [Lib.cell_of_heap hm]; rfl, Lib.frozen_of_heap hm 2, hm.lt, hB⟩
theorem work_lit_ok (B m : Nat) (ss : List ByteArray) (cd : Value) (pl st lk : Int) (t : ByteArray) (n : Int) (w : World) (hM : MOk B w m ss cd pl st lk) (hB : B <= w.heap.size) (h1 : t.size <= 2000) (h2 : ss.length < 50) (hp0 : 0 <= pl) (hp1 : pl <= 2000) :
    Calls Tryz.prog 210 #[.pointer (some ⟨m, 0, none⟩), .agg #[.int .i64 1, .string t, .int .i64 n]] w fun e w' => e = .returned (.bool true) /\ KB B m w w' /\ MOk B w' m (ss ++ [t]) cd (pl + 1) st lk := by
  have hba : Below w.heap.size w (w.alloc (.cells #[.int .i64 1, .string t, .int .i64 n] 209)) := (Below.refl _ _).alloc (Nat.le_refl _) _
  have hM1 := hM.below hba
  obtain ⟨c2, f2, hml, hBm⟩ := hM1.cell2
  go_enter Tryz.func210, Tryz.ntmps210
  go_wp2_with fail
  go_region_with (first | (go_at_call 211; refine (put_okK B m ss cd pl st lk t _ ?_ ?_ h1 h2).mono ?_; (focus (exact hM1)); (focus (simp; omega)); rintro e w1 ⟨rfl, hb1, hM2⟩))
  all_goals
    obtain ⟨d2, e2, _, _⟩ := hM2.cell2
    have HM : Hid (MOk B w1 m (ss ++ [t]) cd pl st lk) := hM2
    clear hM2 hM hM1
    go_wp2
    go_ret
    exact ⟨rfl, (((KB.old hba hB).drew).trans hb1).setM 2 hBm _, HM.out.place _⟩
theorem work_lit_no (B m : Nat) (ss : List ByteArray) (cd : Value) (pl st lk : Int) (t : ByteArray) (n : Nat) (w : World) (hM : MOk B w m (ss) cd pl st lk) (hB : B <= w.heap.size) (hp0 : 0 <= pl) (hp1 : pl <= 2000) (hn : n <= 2000) (h1 : t.size <= 2000) (h2 : ss.length = 50) :
    Calls Tryz.prog 210 #[.pointer (some ⟨m, 0, none⟩), .agg #[.int .i64 1, .string t, .int .i64 n]] w fun e w' => e = .returned (.bool false) /\ KB B m w w' /\ MOk B w' m (ss) cd pl st lk := by
  have hba : Below w.heap.size w (w.alloc (.cells #[.int .i64 1, .string t, .int .i64 n] 209)) := (Below.refl _ _).alloc (Nat.le_refl _) _
  have hmw := hM.cell2.2.2.1
  have hM1 := hM.below hba
  obtain ⟨c2, f2, hml, hBm⟩ := hM1.cell2
  have hs1 : B <= (w.alloc (.cells #[.int .i64 1, .string t, .int .i64 n] 209)).heap.size := by simp; omega
  go_enter Tryz.func210, Tryz.ntmps210
  go_wp2_with fail
  go_region_with (first | (go_at_call 211; refine (put_no B m (ss) cd pl st lk (t) _ ?_ ?_ ?_ ?_).mono ?_; (focus (exact hM1)); (focus (first | omega | (simp; omega))); (focus (first | omega | (simp; omega))); (focus (exact Or.inr h2)); rintro e w1 ⟨rfl, rfl⟩))
  all_goals
    go_wp2
    go_ret
    exact ⟨rfl, (KB.old hba hB).drew, hM1⟩
theorem work_jump (B m : Nat) (ss : List ByteArray) (cd : Value) (pl st lk : Int) (t : ByteArray) (n : Nat) (w : World) (hM : MOk B w m (ss) cd pl st lk) (hB : B <= w.heap.size) (hp0 : 0 <= pl) (hp1 : pl <= 2000) (hn : n <= 2000)  :
    Calls Tryz.prog 210 #[.pointer (some ⟨m, 0, none⟩), .agg #[.int .i64 10, .string t, .int .i64 n]] w fun e w' => e = .returned (.bool true) /\ KB B m w w' /\ MOk B w' m (ss) cd n st lk := by
  have hba : Below w.heap.size w (w.alloc (.cells #[.int .i64 10, .string t, .int .i64 n] 209)) := (Below.refl _ _).alloc (Nat.le_refl _) _
  have hM1 := hM.below hba
  obtain ⟨c2, f2, hml, hBm⟩ := hM1.cell2
  have hs1 : B <= (w.alloc (.cells #[.int .i64 10, .string t, .int .i64 n] 209)).heap.size := by simp; omega
  go_enter Tryz.func210, Tryz.ntmps210
  go_wp2
  go_ret
  exact ⟨rfl, (KB.old hba hB).setM 2 hBm _, hM1.place _⟩
theorem work_drop (B m : Nat) (r : List ByteArray) (x : ByteArray) (cd : Value) (pl st lk : Int) (t : ByteArray) (n : Nat) (w : World) (hM : MOk B w m (r ++ [x]) cd pl st lk) (hB : B <= w.heap.size) (hp0 : 0 <= pl) (hp1 : pl <= 2000) (hn : n <= 2000) (h2 : r.length < 50) :
    Calls Tryz.prog 210 #[.pointer (some ⟨m, 0, none⟩), .agg #[.int .i64 9, .string t, .int .i64 n]] w fun e w' => e = .returned (.bool true) /\ KB B m w w' /\ MOk B w' m (r) cd (pl + 1) st lk := by
  have hba : Below w.heap.size w (w.alloc (.cells #[.int .i64 9, .string t, .int .i64 n] 209)) := (Below.refl _ _).alloc (Nat.le_refl _) _
  have hmw := hM.cell2.2.2.1
  have hM1 := hM.below hba
  obtain ⟨c2, f2, hml, hBm⟩ := hM1.cell2
  have hs1 : B <= (w.alloc (.cells #[.int .i64 9, .string t, .int .i64 n] 209)).heap.size := by simp; omega
  go_enter Tryz.func210, Tryz.ntmps210
  go_wp2_with (first | (go_at_call 209; refine (take_anyK B m (r) x cd pl st lk _ ?_ ?_ ?_).mono ?_; (focus (exact hM1)); (focus (exact hs1)); (focus (first | omega | (simp; omega))); rintro e w1 ⟨rfl, hb1, hM2, hk1⟩; have hs2 : B <= w1.heap.size := (Nat.le_trans hs1 hb1.size); obtain ⟨dd1, ee1, _, _⟩ := hM2.cell2; clear hk1))
  go_ret
  exact ⟨rfl, ((KB.old hba hB).trans hb1).setM 2 hBm _, hM2.place _⟩
theorem work_unless_0 (B m : Nat) (r : List ByteArray) (x : ByteArray) (cd : Value) (pl st lk : Int) (t : ByteArray) (n : Nat) (w : World) (hM : MOk B w m (r ++ [x]) cd pl st lk) (hB : B <= w.heap.size) (hp0 : 0 <= pl) (hp1 : pl <= 2000) (hn : n <= 2000) (h2 : r.length < 50) (hx : x.toList.isEmpty = true) :
    Calls Tryz.prog 210 #[.pointer (some ⟨m, 0, none⟩), .agg #[.int .i64 11, .string t, .int .i64 n]] w fun e w' => e = .returned (.bool true) /\ KB B m w w' /\ MOk B w' m (r) cd n st lk := by
  have hba : Below w.heap.size w (w.alloc (.cells #[.int .i64 11, .string t, .int .i64 n] 209)) := (Below.refl _ _).alloc (Nat.le_refl _) _
  have hmw := hM.cell2.2.2.1
  have hM1 := hM.below hba
  obtain ⟨c2, f2, hml, hBm⟩ := hM1.cell2
  have hs1 : B <= (w.alloc (.cells #[.int .i64 11, .string t, .int .i64 n] 209)).heap.size := by simp; omega
  go_enter Tryz.func210, Tryz.ntmps210
  go_wp2_with (first | (go_at_call 209; refine (take_anyK B m (r) x cd pl st lk _ ?_ ?_ ?_).mono ?_; (focus (exact hM1)); (focus (exact hs1)); (focus (first | omega | (simp; omega))); rintro e w1 ⟨rfl, hb1, hM2, hk1⟩; have hs2 : B <= w1.heap.size := (Nat.le_trans hs1 hb1.size); obtain ⟨dd1, ee1, _, _⟩ := hM2.cell2; have cn : w1.cell? ⟨w.heap.size, 2, none⟩ = some (.int .i64 (n : Int)) := (by rw [World.cell?_of_block (hk1 w.heap.size (by omega))]; simp [go_sem]); clear hk1))
  go_ret
  exact ⟨rfl, ((KB.old hba hB).trans hb1).setM 2 hBm _, hM2.place _⟩
theorem work_unless_1 (B m : Nat) (r : List ByteArray) (x : ByteArray) (cd : Value) (pl st lk : Int) (t : ByteArray) (n : Nat) (w : World) (hM : MOk B w m (r ++ [x]) cd pl st lk) (hB : B <= w.heap.size) (hp0 : 0 <= pl) (hp1 : pl <= 2000) (hn : n <= 2000) (h2 : r.length < 50) (hx : x.toList.isEmpty = false) (hx2 : (x.toList == [48]) = true) :
    Calls Tryz.prog 210 #[.pointer (some ⟨m, 0, none⟩), .agg #[.int .i64 11, .string t, .int .i64 n]] w fun e w' => e = .returned (.bool true) /\ KB B m w w' /\ MOk B w' m (r) cd n st lk := by
  have hba : Below w.heap.size w (w.alloc (.cells #[.int .i64 11, .string t, .int .i64 n] 209)) := (Below.refl _ _).alloc (Nat.le_refl _) _
  have hmw := hM.cell2.2.2.1
  have hM1 := hM.below hba
  obtain ⟨c2, f2, hml, hBm⟩ := hM1.cell2
  have hs1 : B <= (w.alloc (.cells #[.int .i64 11, .string t, .int .i64 n] 209)).heap.size := by simp; omega
  go_enter Tryz.func210, Tryz.ntmps210
  go_wp2_with (first | (go_at_call 209; refine (take_anyK B m (r) x cd pl st lk _ ?_ ?_ ?_).mono ?_; (focus (exact hM1)); (focus (exact hs1)); (focus (first | omega | (simp; omega))); rintro e w1 ⟨rfl, hb1, hM2, hk1⟩; have hs2 : B <= w1.heap.size := (Nat.le_trans hs1 hb1.size); obtain ⟨dd1, ee1, _, _⟩ := hM2.cell2; have cn : w1.cell? ⟨w.heap.size, 2, none⟩ = some (.int .i64 (n : Int)) := (by rw [World.cell?_of_block (hk1 w.heap.size (by omega))]; simp [go_sem]); clear hk1))
  go_ret
  exact ⟨rfl, ((KB.old hba hB).trans hb1).setM 2 hBm _, hM2.place _⟩
theorem work_unless_2 (B m : Nat) (r : List ByteArray) (x : ByteArray) (cd : Value) (pl st lk : Int) (t : ByteArray) (n : Nat) (w : World) (hM : MOk B w m (r ++ [x]) cd pl st lk) (hB : B <= w.heap.size) (hp0 : 0 <= pl) (hp1 : pl <= 2000) (hn : n <= 2000) (h2 : r.length < 50) (hx : x.toList.isEmpty = false) (hx2 : (x.toList == [48]) = false) :
    Calls Tryz.prog 210 #[.pointer (some ⟨m, 0, none⟩), .agg #[.int .i64 11, .string t, .int .i64 n]] w fun e w' => e = .returned (.bool true) /\ KB B m w w' /\ MOk B w' m (r) cd (pl + 1) st lk := by
  have hba : Below w.heap.size w (w.alloc (.cells #[.int .i64 11, .string t, .int .i64 n] 209)) := (Below.refl _ _).alloc (Nat.le_refl _) _
  have hmw := hM.cell2.2.2.1
  have hM1 := hM.below hba
  obtain ⟨c2, f2, hml, hBm⟩ := hM1.cell2
  have hs1 : B <= (w.alloc (.cells #[.int .i64 11, .string t, .int .i64 n] 209)).heap.size := by simp; omega
  go_enter Tryz.func210, Tryz.ntmps210
  go_wp2_with (first | (go_at_call 209; refine (take_anyK B m (r) x cd pl st lk _ ?_ ?_ ?_).mono ?_; (focus (exact hM1)); (focus (exact hs1)); (focus (first | omega | (simp; omega))); rintro e w1 ⟨rfl, hb1, hM2, hk1⟩; have hs2 : B <= w1.heap.size := (Nat.le_trans hs1 hb1.size); obtain ⟨dd1, ee1, _, _⟩ := hM2.cell2; have cn : w1.cell? ⟨w.heap.size, 2, none⟩ = some (.int .i64 (n : Int)) := (by rw [World.cell?_of_block (hk1 w.heap.size (by omega))]; simp [go_sem]); clear hk1))
  go_ret
  exact ⟨rfl, ((KB.old hba hB).trans hb1).setM 2 hBm _, hM2.place _⟩
theorem work_cat_ok (B m : Nat) (r : List ByteArray) (x y : ByteArray) (cd : Value) (pl st lk : Int) (t : ByteArray) (n : Nat) (w : World) (hM : MOk B w m (r ++ [x] ++ [y]) cd pl st lk) (hB : B <= w.heap.size) (hp0 : 0 <= pl) (hp1 : pl <= 2000) (hn : n <= 2000) (h2 : r.length + 2 <= 50) (hx : x.size <= 2000) (hy : y.size <= 2000) (hxy : (x ++ y).size <= 2000) :
    Calls Tryz.prog 210 #[.pointer (some ⟨m, 0, none⟩), .agg #[.int .i64 2, .string t, .int .i64 n]] w fun e w' => e = .returned (.bool true) /\ KB B m w w' /\ MOk B w' m (r ++ [x ++ y]) cd (pl + 1) st lk := by
  have hba : Below w.heap.size w (w.alloc (.cells #[.int .i64 2, .string t, .int .i64 n] 209)) := (Below.refl _ _).alloc (Nat.le_refl _) _
  have hmw := hM.cell2.2.2.1
  have hM1 := hM.below hba
  obtain ⟨c2, f2, hml, hBm⟩ := hM1.cell2
  have hs1 : B <= (w.alloc (.cells #[.int .i64 2, .string t, .int .i64 n] 209)).heap.size := by simp; omega
  go_enter Tryz.func210, Tryz.ntmps210
  go_wp2_with fail
  go_region_with (first | (go_at_call 209; refine (take_anyK B m (r) x cd pl st lk _ ?_ ?_ ?_).mono ?_; (focus (exact hM2)); (focus (exact hs2)); (focus (first | omega | (simp; omega))); rintro e w2 ⟨rfl, hb2, hM3, hk2⟩; have hs3 : B <= w2.heap.size := (Nat.le_trans hs2 hb2.size); obtain ⟨dd2, ee2, _, _⟩ := hM3.cell2; clear hk2) | (go_at_call 209; refine (take_anyK B m (r ++ [x]) y cd pl st lk _ ?_ ?_ ?_).mono ?_; (focus (exact hM1)); (focus (exact hs1)); (focus (first | omega | (simp; omega))); rintro e w1 ⟨rfl, hb1, hM2, hk1⟩; have hs2 : B <= w1.heap.size := (Nat.le_trans hs1 hb1.size); obtain ⟨dd1, ee1, _, _⟩ := hM2.cell2; clear hk1))
  all_goals
    go_wp2_with (first | (go_at_call 211; refine (put_okK B m (r) cd pl st lk (x ++ y) _ ?_ ?_ hxy ?_).mono ?_; (focus (exact hM3)); (focus (exact hs3)); (focus (first | omega | (simp; omega))); rintro e w3 ⟨rfl, hb3, hM4⟩; have hs4 : B <= w3.heap.size := (Nat.le_trans hs3 hb3.size); obtain ⟨dd3, ee3, _, _⟩ := hM4.cell2))
    go_ret
    exact ⟨rfl, (((KB.old hba hB).drew.trans hb1).trans (hb2.trans hb3)).setM 2 hBm _, hM4.place _⟩
theorem work_cat_no (B m : Nat) (r : List ByteArray) (x y : ByteArray) (cd : Value) (pl st lk : Int) (t : ByteArray) (n : Nat) (w : World) (hM : MOk B w m (r ++ [x] ++ [y]) cd pl st lk) (hB : B <= w.heap.size) (hp0 : 0 <= pl) (hp1 : pl <= 2000) (hn : n <= 2000) (h2 : r.length + 2 <= 50) (hx : x.size <= 2000) (hy : y.size <= 2000) (hxy : 2000 < (x ++ y).size) (hxy2 : (x ++ y).size <= 4000) :
    Calls Tryz.prog 210 #[.pointer (some ⟨m, 0, none⟩), .agg #[.int .i64 2, .string t, .int .i64 n]] w fun e w' => e = .returned (.bool false) /\ KB B m w w' /\ MOk B w' m (r) cd pl st lk := by
  have hba : Below w.heap.size w (w.alloc (.cells #[.int .i64 2, .string t, .int .i64 n] 209)) := (Below.refl _ _).alloc (Nat.le_refl _) _
  have hmw := hM.cell2.2.2.1
  have hM1 := hM.below hba
  obtain ⟨c2, f2, hml, hBm⟩ := hM1.cell2
  have hs1 : B <= (w.alloc (.cells #[.int .i64 2, .string t, .int .i64 n] 209)).heap.size := by simp; omega
  go_enter Tryz.func210, Tryz.ntmps210
  go_wp2_with fail
  go_region_with (first | (go_at_call 209; refine (take_anyK B m (r) x cd pl st lk _ ?_ ?_ ?_).mono ?_; (focus (exact hM2)); (focus (exact hs2)); (focus (first | omega | (simp; omega))); rintro e w2 ⟨rfl, hb2, hM3, hk2⟩; have hs3 : B <= w2.heap.size := (Nat.le_trans hs2 hb2.size); obtain ⟨dd2, ee2, _, _⟩ := hM3.cell2; clear hk2) | (go_at_call 209; refine (take_anyK B m (r ++ [x]) y cd pl st lk _ ?_ ?_ ?_).mono ?_; (focus (exact hM1)); (focus (exact hs1)); (focus (first | omega | (simp; omega))); rintro e w1 ⟨rfl, hb1, hM2, hk1⟩; have hs2 : B <= w1.heap.size := (Nat.le_trans hs1 hb1.size); obtain ⟨dd1, ee1, _, _⟩ := hM2.cell2; clear hk1))
  all_goals
    go_wp2_with (first | (go_at_call 211; refine (put_no B m (r) cd pl st lk (x ++ y) _ ?_ ?_ ?_ ?_).mono ?_; (focus (exact hM3)); (focus (first | omega | (simp; omega))); (focus (first | omega | (simp; omega))); (focus (exact Or.inl hxy)); rintro e w3 ⟨rfl, rfl⟩))
    go_ret
    exact ⟨rfl, ((KB.old hba hB).drew.trans hb1).trans hb2, hM3⟩
end Go.Proofs.YtmeojnaoljgieaeGreatDoor
