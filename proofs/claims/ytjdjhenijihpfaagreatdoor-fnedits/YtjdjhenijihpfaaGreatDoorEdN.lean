import Derived.Test.YtjdjhenijihpfaaGreatDoorEdA
namespace Go.Proofs.YtjdjhenijihpfaaGreatDoor
open Go.RowKit Go.Deep
set_option linter.unusedVariables false
set_option maxRecDepth 100000

theorem hid0 {p : Prop} (h : p) : Hid p := h

set_option maxHeartbeats 2000000 in
theorem wProgram_same (a a' : Option Addr) (cap cap' n : Nat) (is : List I3) (w : World) (hn : n = is.length) (hc : Row3 w a is) (hc' : Row3 w a' is) (hl : n ≤ 1048576) :
    Calls Tryz.prog 31 #[.agg #[.slice a n cap], .agg #[.slice a' n cap']] w fun e w' => e = .returned (.bool true) ∧ Below w.heap.size w w' := by
  obtain ⟨W, eW⟩ : ∃ W, (w.alloc (.cells #[.slice a n cap] 31)).alloc (.cells #[.slice a' n cap'] 31) = W := ⟨_, rfl⟩
  have hbW : Below w.heap.size w W := eW ▸ ((Below.refl _ _).alloc (Nat.le_refl _) _).alloc (by simp) _
  have c1 : W.cell? ⟨w.heap.size, 0, none⟩ = some (.slice a n cap) := by rw [← eW]; simp [go_sem]
  have c2 : W.cell? ⟨w.heap.size + 1, 0, none⟩ = some (.slice a' n cap') := by rw [← eW]; simp [go_sem]
  have HN : Hid (n = is.length) := hn
  clear hn
  go_enter Tryz.func31, Tryz.ntmps31
  go_wp2
  go_loopw [5] (fun i wr => ∃ k : Nat, k ≤ n ∧ i = .int .i64 k ∧ wr.cell? ⟨w.heap.size, 0, none⟩ = some (.slice a n cap) ∧ wr.cell? ⟨w.heap.size + 1, 0, none⟩ = some (.slice a' n cap') ∧ Below w.heap.size w wr) (fun i _ => n - (intOf i).toNat)
  case atStart => exact ⟨0, Nat.zero_le _, rfl, c1, c2, hbW⟩
  case round =>
    clear c1 c2 hbW eW
    obtain ⟨k, hk, rfl, c1, c2, hB⟩ := hrel
    by_cases hlt : k < n
    · obtain ⟨b, off, rfl, e1, e2, e3⟩ := (hc.below hB) k (by have := HN.out; omega)
      obtain ⟨b', off', rfl, f1, f2, f3⟩ := (hc'.below hB) k (by have := HN.out; omega)
      have hkI : (k : Int) < (n : Int) := by omega
      have hk0 : (0 : Int) ≤ (k : Int) := by omega
      generalize (ix is k).op = op at *
      generalize (ix is k).text = tx at *
      generalize (ix is k).n = nn at *
      go_wp2_with fail
      go_region_held3 (fun w' => w'.cell? ⟨w.heap.size, 0, none⟩ = some (.slice (some ⟨b, off, none⟩) n cap) ∧ w'.cell? ⟨w.heap.size + 1, 0, none⟩ = some (.slice (some ⟨b', off', none⟩) n cap') ∧ w'.cell? ⟨b, off + k * 3, none⟩ = some (.int .i64 op) ∧ w'.cell? ⟨b, off + k * 3 + 1, none⟩ = some (.string tx) ∧ w'.cell? ⟨b, off + k * 3 + 2, none⟩ = some (.int .i64 nn) ∧ w'.cell? ⟨b', off' + k * 3, none⟩ = some (.int .i64 op) ∧ w'.cell? ⟨b', off' + k * 3 + 1, none⟩ = some (.string tx) ∧ w'.cell? ⟨b', off' + k * 3 + 2, none⟩ = some (.int .i64 nn))
        (first | assumption | (simp [*]; done)) (fail)
      all_goals
        go_wp2
        exact ⟨⟨k + 1, by omega, by go_num, c1, c2, hB.drew⟩, by simp [intOf]; omega⟩
    · have ek : k = n := by omega
      subst ek
      go_wp2
      go_ret
      exact ⟨rfl, hB⟩


set_option maxHeartbeats 8000000 in
theorem wSpace_same (sa ta sb tb : Option Addr) (c1 c2 c3 c4 : Nat) (ss : List S2) (ts : List T2) (w : World) (r1 : RowS w sa ss) (r2 : RowT w ta ts) (r3 : RowS w sb ss) (r4 : RowT w tb ts) (hl1 : ss.length ≤ 1048576) (hl2 : ts.length ≤ 1048576) (hl3 : ∀ i, i < ts.length → (tx ts i).code.length ≤ 1048576) :
    Calls Tryz.prog 8 #[.agg #[.slice sa ss.length c1, .slice ta ts.length c2], .agg #[.slice sb ss.length c3, .slice tb ts.length c4]] w fun e w' => e = .returned (.bool true) ∧ Below w.heap.size w w' := by
  obtain ⟨W, eW⟩ : ∃ W, (w.alloc (.cells #[.slice sa ss.length c1, .slice ta ts.length c2] 26)).alloc (.cells #[.slice sb ss.length c3, .slice tb ts.length c4] 26) = W := ⟨_, rfl⟩
  have hbW : Below w.heap.size w W := eW ▸ ((Below.refl _ _).alloc (Nat.le_refl _) _).alloc (by simp) _
  have c1' : W.cell? ⟨w.heap.size, 0, none⟩ = some (.slice sa ss.length c1) := by rw [← eW]; simp [go_sem]
  have c2' : W.cell? ⟨w.heap.size, 1, none⟩ = some (.slice ta ts.length c2) := by rw [← eW]; simp [go_sem]
  have c3' : W.cell? ⟨w.heap.size + 1, 0, none⟩ = some (.slice sb ss.length c3) := by rw [← eW]; simp [go_sem]
  have c4' : W.cell? ⟨w.heap.size + 1, 1, none⟩ = some (.slice tb ts.length c4) := by rw [← eW]; simp [go_sem]
  have HL := hid0 hl3
  clear hl3
  go_enter Tryz.func8, Tryz.ntmps8
  go_wp2
  go_loopw [5] (fun i wr => ∃ k : Nat, k ≤ ss.length ∧ i = .int .i64 k ∧ wr.cell? ⟨w.heap.size, 0, none⟩ = some (.slice sa ss.length c1) ∧ wr.cell? ⟨w.heap.size + 1, 0, none⟩ = some (.slice sb ss.length c3) ∧ Hid (wr.cell? ⟨w.heap.size, 1, none⟩ = some (.slice ta ts.length c2) ∧ wr.cell? ⟨w.heap.size + 1, 1, none⟩ = some (.slice tb ts.length c4)) ∧ Below w.heap.size w wr) (fun i _ => ss.length - (intOf i).toNat)
  case atStart => exact ⟨0, Nat.zero_le _, rfl, c1', c3', ⟨c2', c4'⟩, hbW⟩
  case round =>
    clear c1' c2' c3' c4' hbW eW
    obtain ⟨k, hk, rfl, x1, x3, HX, hB⟩ := hrel
    by_cases hlt : k < ss.length
    · obtain ⟨b, off, rfl, e1, e2⟩ := (r1.below hB) k hlt
      obtain ⟨b', off', rfl, f1, f2⟩ := (r3.below hB) k hlt
      have hkI : (k : Int) < (ss.length : Int) := by omega
      have hk0 : (0 : Int) ≤ (k : Int) := by omega
      generalize (sx ss k).name = nm at *
      generalize (sx ss k).text = tx at *
      go_wp2_with fail
      go_region_held3 (fun w' => w'.cell? ⟨w.heap.size, 0, none⟩ = some (.slice (some ⟨b, off, none⟩) ss.length c1) ∧ w'.cell? ⟨w.heap.size + 1, 0, none⟩ = some (.slice (some ⟨b', off', none⟩) ss.length c3) ∧ w'.cell? ⟨b, off + k * 2, none⟩ = some (.string nm) ∧ w'.cell? ⟨b, off + k * 2 + 1, none⟩ = some (.string tx) ∧ w'.cell? ⟨b', off' + k * 2, none⟩ = some (.string nm) ∧ w'.cell? ⟨b', off' + k * 2 + 1, none⟩ = some (.string tx))
        (first | assumption | (simp [*]; done)) (fail)
      all_goals
        go_wp2
        exact ⟨⟨k + 1, by omega, by go_num, x1, x3, HX, hB.drew⟩, by simp [intOf]; omega⟩
    · have ek : k = ss.length := by omega
      subst ek
      obtain ⟨y1, y3⟩ := HX.out
      clear HX
      go_wp2_with fail
      go_loopw [6] (fun i wr => ∃ k : Nat, k ≤ ts.length ∧ i = .int .i64 k ∧ wr.cell? ⟨w.heap.size, 1, none⟩ = some (.slice ta ts.length c2) ∧ wr.cell? ⟨w.heap.size + 1, 1, none⟩ = some (.slice tb ts.length c4) ∧ Below w.heap.size w wr) (fun i _ => ts.length - (intOf i).toNat)
      case atStart => exact ⟨0, Nat.zero_le _, rfl, y1, y3, hB⟩
      case round =>
        clear x1 x3 y1 y3 hB
        obtain ⟨k, hk, rfl, y1, y3, hB⟩ := hrel
        by_cases hlt : k < ts.length
        · obtain ⟨b, off, rfl, e1, ca, cc, e2, r5⟩ := (r2.below hB) k hlt
          obtain ⟨b', off', rfl, f1, da, dc, f2, r6⟩ := (r4.below hB) k hlt
          have hkI : (k : Int) < (ts.length : Int) := by omega
          have hk0 : (0 : Int) ≤ (k : Int) := by omega
          have hcl := HL.out k hlt
          have HCP := hid0 (fun (W : World) (hW : Below wr.heap.size wr W) => wProgram_same ca da cc dc _ (tx ts k).code W rfl (r5.below hW) (r6.below hW) hcl)
          generalize (tx ts k).name = nm at *
          generalize (tx ts k).code.length = cl at *
          clear r5 r6
          have hbd : Below wr.heap.size wr wr.drew := (Below.refl _ _).drew
          have heq := str_eq (rfl : nm = nm)
          go_wp2_with fail
          go_region_held3 (fun w' => w'.cell? ⟨w.heap.size, 1, none⟩ = some (.slice (some ⟨b, off, none⟩) ts.length c2) ∧ w'.cell? ⟨w.heap.size + 1, 1, none⟩ = some (.slice (some ⟨b', off', none⟩) ts.length c4) ∧ w'.cell? ⟨b, off + k * 2, none⟩ = some (.string nm) ∧ w'.cell? ⟨b, off + k * 2 + 1, none⟩ = some (.slice ca cl cc) ∧ w'.cell? ⟨b', off' + k * 2, none⟩ = some (.string nm) ∧ w'.cell? ⟨b', off' + k * 2 + 1, none⟩ = some (.slice da cl dc))
            (first | exact ⟨cell_below hB9 y1, cell_below hB9 y3, cell_below hB9 e1, cell_below hB9 e2, cell_below hB9 f1, cell_below hB9 f2⟩ | assumption | (simp [*]; done))
            (first | (go_at_call 31; refine (HCP.out _ hbd).mono ?_; rintro e w9 ⟨rfl, hb9⟩; have hB9 := bt hbd hb9))
          all_goals
            go_wp2
            exact ⟨⟨k + 1, by omega, by go_num, cell_below hB9 y1, cell_below hB9 y3, bt hB hB9⟩, by simp [intOf]; omega⟩
        · have ek : k = ts.length := by omega
          subst ek
          go_wp2
          go_ret
          exact ⟨rfl, hB⟩
set_option maxHeartbeats 1000000 in
theorem wList_nil (w : World) : Calls Tryz.prog 39 #[.slice none 0 0, .slice none 0 0] w fun e w' => e = .returned (.bool true) ∧ Below w.heap.size w w' := by
  go_enter Tryz.func39, Tryz.ntmps39
  go_wp2
  go_loopw [5] (fun i wr => i = .int .i64 0 ∧ Below w.heap.size w wr) (fun i _ => 0)
  case atStart => exact ⟨rfl, Below.refl _ _⟩
  case round =>
    obtain ⟨rfl, hB⟩ := hrel
    go_wp2
    go_ret
    exact ⟨rfl, hB⟩
set_option maxHeartbeats 1000000 in
theorem wResult_same (c : Int) (t : ByteArray) (w : World) : Calls Tryz.prog 10 #[.agg #[.int .i64 c, .string t, .slice none 0 0], .agg #[.int .i64 c, .string t, .slice none 0 0]] w fun e w' => e = .returned (.bool true) ∧ Below w.heap.size w w' := by
  have heq := str_eq (rfl : t = t)
  obtain ⟨W, eW⟩ : ∃ W, (w.alloc (.cells #[.int .i64 c, .string t, .slice none 0 0] 41)).alloc (.cells #[.int .i64 c, .string t, .slice none 0 0] 41) = W := ⟨_, rfl⟩
  have hbW : Below w.heap.size w W := eW ▸ ((Below.refl _ _).alloc (Nat.le_refl _) _).alloc (by simp) _
  have x0 : W.cell? ⟨w.heap.size, 0, none⟩ = some (.int .i64 c) := by rw [← eW]; simp [go_sem]
  have x1 : W.cell? ⟨w.heap.size, 1, none⟩ = some (.string t) := by rw [← eW]; simp [go_sem]
  have x2 : W.cell? ⟨w.heap.size, 2, none⟩ = some (.slice none 0 0) := by rw [← eW]; simp [go_sem]
  have y0 : W.cell? ⟨w.heap.size + 1, 0, none⟩ = some (.int .i64 c) := by rw [← eW]; simp [go_sem]
  have y1 : W.cell? ⟨w.heap.size + 1, 1, none⟩ = some (.string t) := by rw [← eW]; simp [go_sem]
  have y2 : W.cell? ⟨w.heap.size + 1, 2, none⟩ = some (.slice none 0 0) := by rw [← eW]; simp [go_sem]
  go_enter Tryz.func10, Tryz.ntmps10
  go_wp2_with fail
  refine (wList_nil W).mono ?_
  rintro e w2 ⟨rfl, hb2⟩
  have hB2 := bt hbW hb2
  clear hb2 x0 x1 x2 y0 y1 y2 hbW eW
  go_wp2
  go_ret
  exact ⟨rfl, hB2⟩
end Go.Proofs.YtjdjhenijihpfaaGreatDoor
