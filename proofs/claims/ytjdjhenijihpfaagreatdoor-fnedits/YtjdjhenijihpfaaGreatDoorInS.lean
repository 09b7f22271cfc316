import Derived.Test.YtjdjhenijihpfaaGreatDoorWoA
import Derived.Shelf.Spec.SlicesInsertGrow
import Derived.Laws.CopyRow
import Derived.Laws.CopyOwn
namespace Go.Proofs.YtjdjhenijihpfaaGreatDoor
open Go.RowKit
set_option linter.unusedVariables false

theorem run_copy_row2 (w : World) (dT sT ty elem : TypeId) (g o dLen dCap : Nat) (a : Addr) (sLen sCap : Nat) (cur : Array Value) (t : TypeId) (cs : List Value)
    (hu : Tryz.prog.underlying dT = some (.slice elem)) (hs : (Tryz.prog.info? elem).map (·.size) = some 2)
    (hg : w.heap[g]? = some (.cells cur t (0, 0))) (hn : cs.length = Nat.min sLen dLen * 2)
    (hsrc : ∀ j v, cs[j]? = some v → w.cell? (a.add j) = some v) (hfit : o + cs.length ≤ cur.size) (h1 : ∀ v ∈ cs, v.oneCell' = true) :
    (Builtin.copy_ #[dT, sT] ty #[.slice (some ⟨g, o, none⟩) dLen dCap, .slice (some a) sLen sCap]).run Tryz.prog w =
      .ok (goInt (Nat.min sLen dLen)) (w.setRow g (cur.toList.take o ++ cs ++ cur.toList.drop (o + cs.length)).toArray) := by
  have hl := run_loadCells_list (P := Tryz.prog) w a cs hsrc
  have hst := run_storeCells_at Tryz.prog g o t cs 0 cur w hg (by simpa using hfit) h1
  cases hq : Tryz.prog.info? elem with
  | none => simp [hq] at hs
  | some i =>
    have hi : i.size = 2 := by simpa [hq] using hs
    simp [Builtin.copy_, run_underlying hu, Builtin.lenOf, Builtin.firstCells, sizeOf, typeInfo, hq, hi, ← hn, hl, hst]

theorem seg_take {α : Type} (L cs : List α) (o : Nat) (h : o ≤ L.length) : (L.take o ++ cs ++ L.drop (o + cs.length)).take (o + cs.length) = L.take o ++ cs := by
  rw [List.take_append_of_le_length (by simp; omega), List.take_of_length_le (by simp; omega)]
/-- Two copies make room and fill it. -/
theorem shift_take {α : Type} (C xs vs : List α) (i n : Nat) (hi : i ≤ n) (hx : C.take (n * 2) = xs) (hl : (n + 1) * 2 ≤ C.length) (hv : vs.length = 2) (C1 C2 : List α)
    (h1 : C1 = C.take ((i + 1) * 2) ++ xs.drop (i * 2) ++ C.drop ((i + 1) * 2 + (xs.drop (i * 2)).length)) (h2 : C2 = C1.take (i * 2) ++ vs ++ C1.drop (i * 2 + vs.length)) :
    C2.length = C.length ∧ C2.take ((n + 1) * 2) = xs.take (i * 2) ++ vs ++ xs.drop (i * 2) := by
  have hxl : xs.length = n * 2 := by rw [← hx, List.length_take]; omega
  have hdl : (xs.drop (i * 2)).length = n * 2 - i * 2 := by rw [List.length_drop, hxl]
  have hl1 : C1.length = C.length := by rw [h1]; simp [hdl]; omega
  have e1 : C1.take ((n + 1) * 2) = C.take ((i + 1) * 2) ++ xs.drop (i * 2) := by
    have := seg_take C (xs.drop (i * 2)) ((i + 1) * 2) (by omega)
    rw [← h1, hdl, show (i + 1) * 2 + (n * 2 - i * 2) = (n + 1) * 2 by omega] at this
    exact this
  have e2 : C1.take (i * 2) = xs.take (i * 2) := by
    have := congrArg (fun l => l.take (i * 2)) e1
    simp only [List.take_take] at this
    rw [Nat.min_eq_left (by omega), List.take_append_of_le_length (by simp; omega), List.take_take, Nat.min_eq_left (by omega)] at this
    rw [this, ← hx, List.take_take, Nat.min_eq_left (by omega)]
  have e3 : (C1.take ((n + 1) * 2)).drop ((i + 1) * 2) = xs.drop (i * 2) := by
    rw [e1, List.drop_append_of_le_length (by simp; omega), List.drop_of_length_le (by simp; omega), List.nil_append]
  have hl2 : C2.length = C.length := by rw [h2]; simp [hv, hl1]; omega
  refine ⟨hl2, ?_⟩
  rw [h2, hv, show i * 2 + 2 = (i + 1) * 2 by omega, List.take_append, List.take_of_length_le (by simp [hv, hl1]; omega)]
  rw [e2]
  congr 1
  rw [← e3, List.drop_take]
  congr 1
  simp [hv, hxl]
  omega
theorem grow_take {α : Type} (R xs vs Z : List α) (i n : Nat) (hi : i ≤ n) (hxl : xs.length = n * 2) (hR : R = xs.take (i * 2) ++ Z) (hZ : (n + 1 - i) * 2 ≤ Z.length) (hv : vs.length = 2) (C1 C2 : List α)
    (h1 : C1 = R.take (i * 2) ++ vs ++ R.drop (i * 2 + vs.length)) (h2 : C2 = C1.take ((i + 1) * 2) ++ xs.drop (i * 2) ++ C1.drop ((i + 1) * 2 + (xs.drop (i * 2)).length)) :
    C2.length = R.length ∧ C2.take ((n + 1) * 2) = xs.take (i * 2) ++ vs ++ xs.drop (i * 2) := by
  have hdl : (xs.drop (i * 2)).length = n * 2 - i * 2 := by rw [List.length_drop, hxl]
  have hRl : R.length = i * 2 + Z.length := by rw [hR]; simp [hxl]; omega
  have hl1 : C1.length = R.length := by rw [h1]; simp [hv]; omega
  have e1 : C1.take ((i + 1) * 2) = xs.take (i * 2) ++ vs := by
    have := seg_take R vs (i * 2) (by omega)
    rw [← h1, hv, show i * 2 + 2 = (i + 1) * 2 by omega] at this
    rw [this, hR, List.take_append_of_le_length (by simp [hxl]; omega), List.take_take, Nat.min_self]
  have e2 := seg_take C1 (xs.drop (i * 2)) ((i + 1) * 2) (by omega)
  rw [← h2, hdl, show (i + 1) * 2 + (n * 2 - i * 2) = (n + 1) * 2 by omega, e1] at e2
  refine ⟨?_, e2⟩
  rw [h2]; simp [hdl, hl1]; omega
theorem one_drop {xs : List Value} (h : ∀ v ∈ xs, v.oneCell' = true) (k : Nat) : ∀ v ∈ xs.drop k, v.oneCell' = true := fun v hv => h v (List.mem_of_mem_drop hv)
theorem filledS_one {l : List S2} {xs : List Value} (h : FilledS l l.length xs) (hl : xs.length = l.length * 2) : ∀ v ∈ xs, v.oneCell' = true := by
  intro v hv
  obtain ⟨j, hj, rfl⟩ := List.getElem_of_mem hv
  obtain ⟨h1, h2⟩ := h (j / 2) (by omega)
  rcases Nat.mod_two_eq_zero_or_one j with hm | hm
  · rw [show j / 2 * 2 = j by omega, List.getElem?_eq_getElem hj] at h1
    rw [Option.some.inj h1]; rfl
  · rw [show j / 2 * 2 + 1 = j by omega, List.getElem?_eq_getElem hj] at h2
    rw [Option.some.inj h2]; rfl


/-! ### Source -/
theorem Tryz.size103 : (Tryz.prog.info? 60).map (·.size) = some 2 := by kernel_rfl
theorem Tryz.szrun103 : ∀ w, (Go.sizeOf 60).run Tryz.prog w = .ok 2 w := fun w => by
  obtain ⟨i0, hi, hz0, hz1, hz2⟩ := info_parts Tryz.info103b
  simp [sizeOf, typeInfo, hi, hz1]
set_option maxHeartbeats 4000000 in
set_option maxRecDepth 100000 in
theorem insertSource_shift (g n c i vb : Nat) (cur : Array Value) (u1 u2 : Value) (w : World) (hi : i < n) (hroom : n + 1 ≤ c) (hcm : c ≤ maxLen) (hg : w.heap[g]? = some (.cells cur 60 (0, 0))) (hcur : cur.size = c * 2) (hb : w.heap[vb]? = some (.cells #[u1, u2] 60 (0, 0))) (hvb : vb ≠ g)
    (h1c : ∀ v ∈ cur.toList.take (n * 2), v.oneCell' = true) (h1v : ∀ v ∈ [u1, u2], v.oneCell' = true) (C1 C2 : List Value)
    (e1 : C1 = cur.toList.take ((i + 1) * 2) ++ (cur.toList.take (n * 2)).drop (i * 2) ++ cur.toList.drop ((i + 1) * 2 + ((cur.toList.take (n * 2)).drop (i * 2)).length)) (e2 : C2 = C1.take (i * 2) ++ [u1, u2] ++ C1.drop (i * 2 + [u1, u2].length)) :
    Calls Tryz.prog 27 #[.slice (some ⟨g, 0, none⟩) n c, .int .i64 i, .slice (some ⟨vb, 0, none⟩) 1 1] w fun e w' => e = .returned (.slice (some ⟨g, 0, none⟩) (n + 1) c) ∧ w' = (w.drew.setRow g C1.toArray).setRow g C2.toArray := by
  unfold maxLen at hcm
  have hdl : ((cur.toList.take (n * 2)).drop (i * 2)).length = (n - i) * 2 := by rw [List.length_drop, List.length_take, Array.length_toList, hcur]; omega
  have hl1 : C1.length = cur.size := by rw [e1]; simp [hdl, hcur]; omega
  have hov : ∀ lb cb, (callFunc 64 #[.slice (some ⟨vb, 0, none⟩) 1 1, .slice (some ⟨g, (i + 1) * 2, none⟩) lb cb]).run Tryz.prog w = .ok (.value (.bool false)) w := fun lb cb => by
    rw [run_callFunc_extern Tryz.func64 (by kernel_rfl) (by kernel_rfl) (by kernel_rfl) (e := Extern.SlicesOverlaps.overlaps #[23, 23] #[4]) (by kernel_rfl),
      Lib.run_overlaps_apart w 23 4 60 Tryz.underlying23 2 Tryz.szrun103 ⟨vb, 0, none⟩ ⟨g, (i + 1) * 2, none⟩ 1 1 lb cb hvb 60 60 2 cur.size (by simp [World.shape?, hb]) (by simp [World.shape?, hg]) (by omega) (Lib.frozen_of_heap hb 0) (Lib.frozen_of_heap hb 2)]
    rfl
  have hcp1 : ∀ ty dc sc, (Builtin.copy_ #[23, 23] ty #[.slice (some ⟨g, (i + 1) * 2, none⟩) (n - i) dc, .slice (some ⟨g, i * 2, none⟩) (n + 1 - i) sc]).run Tryz.prog w.drew = .ok (goInt ((n - i : Nat) : Int)) (w.drew.setRow g C1.toArray) := fun ty dc sc => by
    have h := run_copy_row2 w.drew 23 23 ty 60 g ((i + 1) * 2) (n - i) dc ⟨g, i * 2, none⟩ (n + 1 - i) sc cur 60 ((cur.toList.take (n * 2)).drop (i * 2)) Tryz.underlying23 Tryz.size103 hg (by rw [hdl]; simp only [Nat.min_def]; split <;> omega)
      (fun j v hj => by
        rw [Addr.add_lit, Lib.cell_of_heap (w := w.drew) (cs := cur) (T := 60) (fr := (0, 0)) hg]
        rw [List.getElem?_drop, List.getElem?_take] at hj
        split at hj
        · rw [← Array.getElem?_toList]; exact hj
        · cases hj) (by rw [hdl]; omega) (one_drop h1c _)
    rw [← e1, show Nat.min (n + 1 - i) (n - i) = n - i by simp only [Nat.min_def]; split <;> omega] at h
    exact h
  obtain ⟨W1, hW1⟩ : ∃ W1, W1 = w.drew.setRow g C1.toArray := ⟨_, rfl⟩
  have hg1 : W1.heap[g]? = some (.cells C1.toArray 60 (0, 0)) := by rw [hW1]; exact setRow_heap _ _ _ _ _ _ hg
  have hb1 : W1.heap[vb]? = some (.cells #[u1, u2] 60 (0, 0)) := by rw [hW1, setRow_other _ _ _ _ hvb]; exact hb
  have hcp2 : ∀ ty dc, (Builtin.copy_ #[23, 23] ty #[.slice (some ⟨g, i * 2, none⟩) (n + 1 - i) dc, .slice (some ⟨vb, 0, none⟩) 1 1]).run Tryz.prog W1 = .ok (goInt 1) (W1.setRow g C2.toArray) := fun ty dc => by
    have h := run_copy_row2 W1 23 23 ty 60 g (i * 2) (n + 1 - i) dc ⟨vb, 0, none⟩ 1 1 C1.toArray 60 [u1, u2] Tryz.underlying23 Tryz.size103 hg1 (by show 2 = _; simp only [Nat.min_def]; split <;> omega)
      (fun j v hj => by
        rw [Addr.add_lit, Lib.cell_of_heap hb1, Nat.zero_add]
        simpa using hj) (by simp [hl1, hcur]; omega) h1v
    rw [← e2, show Nat.min 1 (n + 1 - i) = 1 by simp only [Nat.min_def]; split <;> omega] at h
    exact h
  rw [← hW1] at hcp1 ⊢
  have hz2 : ¬ ((i : Int) = (n : Int)) := by omega
  have hzr : ¬ ((c : Int) < (n : Int) + 1) := by omega
  have hw1 : IntKind.i64.wrap ((i : Int) + 1) = (i : Int) + 1 := by rw [IntKind.wrap_i64]; omega
  have hw2 : IntKind.i64.wrap ((n : Int) + 1) = (n : Int) + 1 := by rw [IntKind.wrap_i64]; omega
  have hbb1 : (0 : Int) ≤ (i : Int) + 1 := by omega
  have hin : i ≤ n := by omega
  have htn : ((i : Int) + 1).toNat = i + 1 := by omega
  have htm : ((n : Int) + 1).toNat = n + 1 := by omega
  have hb2 : ¬ (c = i + 1) := by omega
  have hb3 : (i : Int) ≤ (n : Int) + 1 := by omega
  have hb4 : ¬ (c = i) := by omega
  clear hg hb hg1 hb1 e1 e2 h1c h1v hl1 hdl hcur hW1
  have mixed : Tryz.prog.follows .mixedOrders = true := by kernel_rfl
  go_enter Tryz.func27, Tryz.ntmps27
  go_wp2_with (simp only [hov])
  go_region_law_o (refine step_copy_runI rfl _ _ 23 23 rfl _ _ (by simp [Act.eval, Act.put]) (by simp [Act.eval, Act.put]) (hcp1 _ _ _) ?_)
  go_wp2_with (at_builtin; refine wpList_copy_runI _ rfl _ _ 23 23 rfl _ _ rfl rfl (hcp2 _ _) ?_)
  go_ret
  exact ⟨rfl, rfl⟩

set_option maxHeartbeats 4000000 in
set_option maxRecDepth 100000 in
theorem insertSource_grow (g n c i vb : Nat) (cur : Array Value) (xs : List Value) (u1 u2 : Value) (w : World) (hi : i < n) (hnc : n ≤ c) (hroom : c < n + 1) (hn : n ≤ 1048576) (hg : w.heap[g]? = some (.cells cur 60 (0, 0))) (hxs : cur.toList.take (n * 2) = xs) (hxl : xs.length = n * 2) (hb : w.heap[vb]? = some (.cells #[u1, u2] 60 (0, 0)))
    (h1c : ∀ v ∈ xs, v.oneCell' = true) (h1v : ∀ v ∈ [u1, u2], v.oneCell' = true) :
    Calls Tryz.prog 27 #[.slice (some ⟨g, 0, none⟩) n c, .int .i64 i, .slice (some ⟨vb, 0, none⟩) 1 1] w fun e w' => ∃ (G : Nat) (C : List Value), e = .returned (.slice (some ⟨w.heap.size, 0, none⟩) (n + 1) G) ∧ n + 1 ≤ G ∧ G ≤ maxLen ∧ C.length = G * 2 ∧ C.take ((n + 1) * 2) = xs.take (i * 2) ++ [u1, u2] ++ xs.drop (i * 2) ∧ w'.heap[w.heap.size]? = some (.cells C.toArray 60 (0, 0)) ∧ w'.heap.size = w.heap.size + 1 ∧ (∀ b, b < w.heap.size → w'.heap[b]? = w.heap[b]?) ∧ w'.os = w.os ∧ w'.tape = w.tape ∧ w'.output = w.output := by
  obtain ⟨i0, hi0, hz0, hzs, hzb⟩ := info_parts Tryz.info103b
  have hkk : (n : Int) + 1 - (i : Int) = ((n + 1 - i : Nat) : Int) := by omega
  have hik : i + (n + 1 - i) = n + 1 := by omega
  have hcell : ∀ j v, xs[j]? = some v → ∀ W : World, W.heap[g]? = w.heap[g]? → W.cell? ⟨g, j, none⟩ = some v := fun j v hj W hW => by
    rw [Lib.cell_of_heap (w := W) (hW.trans hg), ← Array.getElem?_toList]
    rw [← hxs, List.getElem?_take] at hj
    split at hj
    · exact hj
    · cases hj
  have hold : (Builtin.firstCells i0.size i (.slice (some ⟨g, 0, none⟩) i c)).run Tryz.prog w.drew = .ok (xs.take (i * 2)).toArray w.drew := by
    rw [hzs]
    exact run_firstCells_some w.drew 2 i ⟨g, 0, none⟩ i c (xs.take (i * 2)) (by rw [List.length_take]; omega) (fun j v hj => by
      rw [Addr.add_lit, Nat.zero_add]
      rw [List.getElem?_take] at hj
      split at hj
      · exact hcell j v hj _ rfl
      · cases hj)
  have hrz : ∀ ty, (Builtin.append_ #[23, 3] ty #[.slice (some ⟨g, 0, none⟩) i c, .int .i64 ((n : Int) + 1 - (i : Int))]).run Tryz.prog w =
      .ok (.slice (some ⟨w.heap.size, 0, none⟩) (n + 1) (grownCap w (n + 1) c 60)) (w.drew.alloc (.cells ((xs.take (i * 2)).toArray ++ Builtin.zeroCells (Value.agg #[.string ⟨#[]⟩, .string ⟨#[]⟩]).cells (n + 1 - i) ++ Builtin.zeroCells (Value.agg #[.string ⟨#[]⟩, .string ⟨#[]⟩]).cells (grownCap w (n + 1) c 60 - (n + 1))) 60)) := fun ty => by
    have h := Lib.run_append_grow_zeros w 23 3 ty 60 i0 _ .i64 .i64 Tryz.underlying23 Tryz.underlying3 hi0 hz0 (some ⟨g, 0, none⟩) i c (xs.take (i * 2)) hold (n + 1 - i) (by omega) (by omega) (by omega) (by omega) (by rw [hzb]; omega) (by rw [hzb, hik]; exact growslice_fits hroom (by omega))
    rw [hik] at h
    rw [hkk]
    exact h
  obtain ⟨G, hG⟩ : ∃ G, G = grownCap w (n + 1) c 60 := ⟨_, rfl⟩
  have hGn : n + 1 ≤ G := by rw [hG]; exact grownCap_ge w _ _ _
  have hGm : G ≤ maxLen := by rw [hG]; exact grownCap_le_maxLen w (n + 1) c 60 (by unfold maxLen; omega)
  obtain ⟨Z, hZ⟩ : ∃ Z : List Value, Z = (Builtin.zeroCells (Value.agg #[.string ⟨#[]⟩, .string ⟨#[]⟩]).cells (n + 1 - i)).toList ++ (Builtin.zeroCells (Value.agg #[.string ⟨#[]⟩, .string ⟨#[]⟩]).cells (G - (n + 1))).toList := ⟨_, rfl⟩
  have hZl : Z.length = (G - i) * 2 := by
    rw [hZ]
    simp [Builtin.zeroCells, Value.cells]
    omega
  obtain ⟨R, hR⟩ : ∃ R : List Value, R = xs.take (i * 2) ++ Z := ⟨_, rfl⟩
  have hRl : R.length = G * 2 := by rw [hR]; simp [hxl, hZl]; omega
  have hROW : (xs.take (i * 2)).toArray ++ Builtin.zeroCells (Value.agg #[.string ⟨#[]⟩, .string ⟨#[]⟩]).cells (n + 1 - i) ++ Builtin.zeroCells (Value.agg #[.string ⟨#[]⟩, .string ⟨#[]⟩]).cells (G - (n + 1)) = R.toArray := by
    apply Array.ext'
    rw [hR, hZ]
    simp
  rw [← hG, hROW] at hrz
  obtain ⟨C1, h1⟩ : ∃ C1, C1 = R.take (i * 2) ++ [u1, u2] ++ R.drop (i * 2 + [u1, u2].length) := ⟨_, rfl⟩
  obtain ⟨C2, h2⟩ : ∃ C2, C2 = C1.take ((i + 1) * 2) ++ xs.drop (i * 2) ++ C1.drop ((i + 1) * 2 + (xs.drop (i * 2)).length) := ⟨_, rfl⟩
  obtain ⟨hl2, ht2⟩ := grow_take R xs [u1, u2] Z i n (by omega) hxl hR (by rw [hZl]; omega) rfl C1 C2 h1 h2
  have hl1 : C1.length = G * 2 := by rw [h1]; simp [hRl]; omega
  have hdl : (xs.drop (i * 2)).length = (n - i) * 2 := by rw [List.length_drop, hxl]; omega
  have hvb : vb < w.heap.size := blkW_lt hb
  have hgb : g < w.heap.size := blkW_lt hg
  have hA : (w.alloc (.cells R.toArray 60)).heap[w.heap.size]? = some (.cells R.toArray 60 (0, 0)) := heapW_new _ _
  have hcpA : ∀ (W : World), W.heap = (w.alloc (.cells R.toArray 60)).heap → ∀ ty dc, (Builtin.copy_ #[23, 23] ty #[.slice (some ⟨w.heap.size, i * 2, none⟩) (n + 1 - i) dc, .slice (some ⟨vb, 0, none⟩) 1 1]).run Tryz.prog W = .ok (goInt 1) (W.setRow w.heap.size C1.toArray) := fun W hW ty dc => by
    have h := run_copy_row2 W 23 23 ty 60 w.heap.size (i * 2) (n + 1 - i) dc ⟨vb, 0, none⟩ 1 1 R.toArray 60 [u1, u2] Tryz.underlying23 Tryz.size103 (by rw [hW]; exact hA) (by show 2 = _; simp only [Nat.min_def]; split <;> omega)
      (fun j v hj => by
        rw [Addr.add_lit, Lib.cell_of_heap (w := W) (cs := #[u1, u2]) (T := 60) (fr := (0, 0)) (by rw [hW, Lib.alloc_old _ _ _ hvb]; exact hb), Nat.zero_add]
        simpa using hj) (by simp [hRl]; omega) h1v
    rw [← h1, show Nat.min 1 (n + 1 - i) = 1 by simp only [Nat.min_def]; split <;> omega] at h
    exact h
  have hcpB : ∀ (W : World), W.heap = ((w.alloc (.cells R.toArray 60)).setRow w.heap.size C1.toArray).heap → ∀ ty dc sc, (Builtin.copy_ #[23, 23] ty #[.slice (some ⟨w.heap.size, (i + 1) * 2, none⟩) (n - i) dc, .slice (some ⟨g, i * 2, none⟩) (n - i) sc]).run Tryz.prog W = .ok (goInt ((n - i : Nat) : Int)) (W.setRow w.heap.size C2.toArray) := fun W hW ty dc sc => by
    have h := run_copy_row2 W 23 23 ty 60 w.heap.size ((i + 1) * 2) (n - i) dc ⟨g, i * 2, none⟩ (n - i) sc C1.toArray 60 (xs.drop (i * 2)) Tryz.underlying23 Tryz.size103 (by rw [hW]; exact setRow_heap _ _ _ _ _ _ hA) (by rw [hdl]; simp)
      (fun j v hj => by
        rw [Addr.add_lit]
        rw [List.getElem?_drop] at hj
        exact hcell _ v hj W (by rw [hW, setRow_other _ _ _ _ (by omega), Lib.alloc_old _ _ _ hgb])) (by simp [hl1, hdl]; omega) (one_drop h1c _)
    rw [← h2, show Nat.min (n - i) (n - i) = n - i by simp] at h
    exact h
  have hcpA' := hcpA (w.alloc (.cells R.toArray 60)).drew rfl
  have hcpB' := hcpB ((w.alloc (.cells R.toArray 60)).drew.setRow w.heap.size C1.toArray).drew rfl
  clear hcpA hcpB
  have HX : Hid ((((w.alloc (.cells R.toArray 60)).drew.setRow w.heap.size C1.toArray).drew.setRow w.heap.size C2.toArray).heap[w.heap.size]? = some (.cells C2.toArray 60 (0, 0)) ∧ (((w.alloc (.cells R.toArray 60)).drew.setRow w.heap.size C1.toArray).drew.setRow w.heap.size C2.toArray).heap.size = w.heap.size + 1 ∧ ∀ b, b < w.heap.size → (((w.alloc (.cells R.toArray 60)).drew.setRow w.heap.size C1.toArray).drew.setRow w.heap.size C2.toArray).heap[b]? = w.heap[b]?) := by
    refine ⟨setRow_heap _ _ _ _ _ _ (setRow_heap (w.alloc (.cells R.toArray 60)).drew _ _ C1.toArray _ _ hA), by simp, fun b hb' => ?_⟩
    rw [setRow_other _ _ _ _ (by omega)]
    show ((w.alloc (.cells R.toArray 60)).drew.setRow w.heap.size C1.toArray).heap[b]? = _
    rw [setRow_other _ _ _ _ (by omega)]
    exact Lib.alloc_old _ _ _ hb'
  have HC2 : Hid (C2.length = G * 2 ∧ C2.take ((n + 1) * 2) = xs.take (i * 2) ++ [u1, u2] ++ xs.drop (i * 2)) := ⟨by rw [hl2, hRl], ht2⟩
  have hz2 : ¬ ((i : Int) = (n : Int)) := by omega
  have hz3 : (c : Int) < (n : Int) + 1 := by omega
  have hG63 : G ≤ 9223372036854775807 := by unfold maxLen at hGm; omega
  have hGi : ¬ (G = i) := by omega
  have hGim : ¬ (G = i + 1) := by omega
  have hci : ¬ (c = i) := by omega
  have hw1 : IntKind.i64.wrap ((i : Int) + 1) = (i : Int) + 1 := by rw [IntKind.wrap_i64]; omega
  have hw2 : IntKind.i64.wrap ((n : Int) + 1) = (n : Int) + 1 := by rw [IntKind.wrap_i64]; omega
  have hbb1 : (0 : Int) ≤ (i : Int) + 1 := by omega
  have hin : i ≤ n := by omega
  have htn : ((i : Int) + 1).toNat = i + 1 := by omega
  have hb3 : (i : Int) ≤ (n : Int) := by omega
  have mixed : Tryz.prog.follows .mixedOrders = true := by kernel_rfl
  have HGM : Hid (G ≤ maxLen) := hGm
  clear hkk hik hold hROW hG hRl hGm hl1 hl2 ht2 h1 h2 hR hZ hZl hg hb hxs hcell hA h1c h1v hdl
  go_enter Tryz.func27, Tryz.ntmps27
  go_wp2_with (first
    | (at_builtin; refine Lib.wpList_append_run _ rfl _ _ _ _ rfl _ _ rfl rfl _ _ (hrz _) ?_)
    | (at_builtin; refine wpList_copy_runI _ rfl _ _ 23 23 rfl _ _ rfl rfl (hcpA' _ _) ?_))
  go_region_law_o (refine step_copy_runI rfl _ _ 23 23 rfl _ _ (by simp [Act.eval, Act.put]) (by simp [Act.eval, Act.put]) (hcpB' _ _ _) ?_)
  go_wp2
  go_ret
  exact ⟨G, C2, rfl, hGn, HGM.out, HC2.out.1, HC2.out.2, HX.out.1, HX.out.2.1, HX.out.2.2, rfl, rfl, rfl⟩

set_option maxHeartbeats 2000000 in
set_option maxRecDepth 100000 in
theorem insertSource_end (B n vb : Nat) (v : Value) (xs : List Value) (u1 u2 : Value) (w : World) (ho : w.ownsRow B 60 2 v n xs) (hB : B ≤ w.heap.size) (hn : n ≤ 200) (hb : w.heap[vb]? = some (.cells #[u1, u2] 60 (0, 0))) (h1v : ∀ u ∈ [u1, u2], u.oneCell' = true) :
    Calls Tryz.prog 27 #[v, .int .i64 n, .slice (some ⟨vb, 0, none⟩) 1 1] w fun e w' => ∃ g' cp, e = .returned (.slice (some ⟨g', 0, none⟩) (n + 1) cp) ∧ w'.ownsRow B 60 2 (.slice (some ⟨g', 0, none⟩) (n + 1) cp) (n + 1) (xs ++ [u1, u2]) ∧ Below B w w' ∧ KeepO v.ownBlock w w' := by
  obtain ⟨i0, hi, hz0, hz1, hz2⟩ := info_parts Tryz.info103b
  have HB : Hid (∀ (v' : Value) (w2 : World), w2.ownsRow B 60 2 v' (n + 1) (xs ++ [u1, u2]) → w.grownBy w2 v.ownBlock → ∃ g' cp, v' = .slice (some ⟨g', 0, none⟩) (n + 1) cp ∧ w2.ownsRow B 60 2 (.slice (some ⟨g', 0, none⟩) (n + 1) cp) (n + 1) (xs ++ [u1, u2]) ∧ Below B w w2 ∧ KeepO v.ownBlock w w2) := fun v' w2 k1 k2 => by
    obtain ⟨g', cp, rfl⟩ := own_first k1 (by omega)
    exact ⟨g', cp, rfl, k1, (Below.refl _ _).grown k2 hB (fun k hk => (ho.lt k hk).1), fun b hl hne => k2.block b hl hne⟩
  have HN : Hid (∀ j u, [u1, u2][j]? = some u → w.cell? ((⟨vb, 0, none⟩ : Addr).add j) = some u) := World.news_of_block (cs := #[u1, u2]) (t := 60) (fr := (0, 0)) hb
  have HO : Hid (w.ownsRow B 60 2 v n xs) := ho
  rcases own_cases ho with ⟨rfl, rfl⟩ | ⟨g, c, rfl⟩
  · clear hb ho
    go_enter Tryz.func27, Tryz.ntmps27
    go_wp2_with (first | (at_builtin; refine wpList_append_own _ rfl (.tmp 23) (.tmp 24) 23 rfl B 60 i0 (.agg #[.string ⟨#[]⟩, .string ⟨#[]⟩]) 2 32 Tryz.underlying23 hi hz0 hz1 hz2 rfl (by decide) _ _ _ rfl HO.out ⟨vb, 0, none⟩ 1 1 [u1, u2] rfl rfl HN.out h1v (by unfold maxLen; omega) (by omega) hB ?_; intro v' w2 hown' hgrow hnil; clear hnil; obtain ⟨g', cp, rfl, k1, k2, k3⟩ := HB.out v' w2 hown' hgrow; clear hown' hgrow))
    go_ret
    exact ⟨g', cp, rfl, k1, k2, k3⟩
  · have hcl : n ≤ c ∧ c ≤ maxLen := by
      rcases ho.2 with ⟨h, _⟩ | ⟨g', c', cur, hv, _, _, h1, h2, _⟩
      · cases h
      · cases hv; exact ⟨h1, h2⟩
    obtain ⟨hc1, hc2⟩ := hcl
    unfold maxLen at hc2
    clear hb ho
    by_cases hcn : c = n
    · subst hcn
      go_enter Tryz.func27, Tryz.ntmps27
      go_wp2_with (first | (at_builtin; refine wpList_append_own _ rfl (.tmp 23) (.tmp 24) 23 rfl B 60 i0 (.agg #[.string ⟨#[]⟩, .string ⟨#[]⟩]) 2 32 Tryz.underlying23 hi hz0 hz1 hz2 rfl (by decide) _ _ _ rfl HO.out ⟨vb, 0, none⟩ 1 1 [u1, u2] rfl rfl HN.out h1v (by unfold maxLen; omega) (by omega) hB ?_; intro v' w2 hown' hgrow hnil; clear hnil; obtain ⟨g', cp, rfl, k1, k2, k3⟩ := HB.out v' w2 hown' hgrow; clear hown' hgrow))
      go_ret
      exact ⟨g', cp, rfl, k1, k2, k3⟩
    · go_enter Tryz.func27, Tryz.ntmps27
      go_wp2_with (first | (at_builtin; refine wpList_append_own _ rfl (.tmp 23) (.tmp 24) 23 rfl B 60 i0 (.agg #[.string ⟨#[]⟩, .string ⟨#[]⟩]) 2 32 Tryz.underlying23 hi hz0 hz1 hz2 rfl (by decide) _ _ _ rfl HO.out ⟨vb, 0, none⟩ 1 1 [u1, u2] rfl rfl HN.out h1v (by unfold maxLen; omega) (by omega) hB ?_; intro v' w2 hown' hgrow hnil; clear hnil; obtain ⟨g', cp, rfl, k1, k2, k3⟩ := HB.out v' w2 hown' hgrow; clear hown' hgrow))
      go_ret
      exact ⟨g', cp, rfl, k1, k2, k3⟩

theorem insertSource_own (B n i vb : Nat) (v : Value) (xs : List Value) (u1 u2 : Value) (w : World) (ho : w.ownsRow B 60 2 v n xs) (hB : B ≤ w.heap.size) (hi : i ≤ n) (hn : n ≤ 200) (hb : w.heap[vb]? = some (.cells #[u1, u2] 60 (0, 0))) (hne : v.ownBlock ≠ some vb) (h1c : ∀ u ∈ xs, u.oneCell' = true) (h1v : ∀ u ∈ [u1, u2], u.oneCell' = true) :
    Calls Tryz.prog 27 #[v, .int .i64 i, .slice (some ⟨vb, 0, none⟩) 1 1] w fun e w' => ∃ g' cp, e = .returned (.slice (some ⟨g', 0, none⟩) (n + 1) cp) ∧ w'.ownsRow B 60 2 (.slice (some ⟨g', 0, none⟩) (n + 1) cp) (n + 1) (xs.take (i * 2) ++ [u1, u2] ++ xs.drop (i * 2)) ∧ Below B w w' ∧ KeepO v.ownBlock w w' := by
  have hxl : xs.length = n * 2 := ho.1
  rcases Nat.lt_or_ge i n with hlt | hge
  · rcases ho.2 with ⟨_, h0⟩ | ⟨g, c, cur, rfl, hg, hh, h1, h2, h3, h4⟩
    · omega
    · have hvb : vb ≠ g := fun e => hne (by rw [e]; rfl)
      have hgl : g < w.heap.size := blkW_lt hh
      rcases Nat.lt_or_ge c (n + 1) with hr | hr
      · refine (insertSource_grow g n c i vb cur xs u1 u2 w hlt h1 hr (by omega) hh h4 hxl hb h1c h1v).mono ?_
        rintro e w' ⟨G, C, rfl, k1, k2, k3, k4, k5, k6, k7, k8, k9, k10⟩
        refine ⟨_, G, rfl, ⟨by simp [hxl]; omega, Or.inr ⟨w.heap.size, G, C.toArray, rfl, hB, k5, k1, k2, by simpa using k3, by simpa using k4⟩⟩, ⟨k8, k9, k10, by omega, fun b hbb => k7 b (by omega)⟩, fun b hl _ => k7 b hl⟩
      · refine (insertSource_shift g n c i vb cur u1 u2 w hlt hr h2 hh h3 hb hvb (by rw [h4]; exact h1c) h1v _ _ rfl rfl).mono ?_
        rintro e w' ⟨rfl, rfl⟩
        rw [h4]
        obtain ⟨l2, t2⟩ := shift_take cur.toList xs [u1, u2] i n hi h4 (by rw [Array.length_toList, h3]; omega) rfl _ _ rfl rfl
        refine ⟨g, c, rfl, ⟨by simp [hxl]; omega, Or.inr ⟨g, c, _, rfl, hg, setRow_heap _ _ _ _ _ _ (setRow_heap w.drew _ _ _ _ _ hh), hr, h2, ?_, by simpa using t2⟩⟩, ?_, ?_⟩
        · rw [List.size_toArray, l2, Array.length_toList]; exact h3
        · exact below_setRow (below_setRow (Below.refl _ _).drew hg _) hg _
        · intro b hl hne'
          have hbg : b ≠ g := fun e => hne' (by rw [e]; rfl)
          rw [setRow_other _ _ _ _ hbg, setRow_other _ _ _ _ hbg]
          rfl
  · obtain rfl : i = n := by omega
    refine (insertSource_end B i vb v xs u1 u2 w ho hB hn hb h1v).mono ?_
    rintro e w' ⟨g', cp, rfl, k1, k2, k3⟩
    refine ⟨g', cp, rfl, ?_, k2, k3⟩
    rw [List.take_of_length_le (by omega), List.drop_of_length_le (by omega), List.append_nil]
    exact k1

end Go.Proofs.YtjdjhenijihpfaaGreatDoor
