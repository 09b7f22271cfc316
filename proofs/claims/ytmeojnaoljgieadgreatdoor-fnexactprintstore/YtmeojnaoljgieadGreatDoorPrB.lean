/-
  strings.Builder's writers: what they leave alone.
-/
import Derived.Test.YtmeojnaoljgieadGreatDoorIPrint
import Derived.Test.YtmeojnaoljgieadGreatDoorPrA
namespace Go.Proofs.YtmeojnaoljgieadGreatDoor
open Go.RowKit
set_option linter.unusedVariables false

/-- All blocks stay but the builder's and rows of bytes. -/
def Keep5 (b : Nat) (w w' : World) : Prop := ∀ k cs T, T ≠ 5 → k ≠ b → w.heap[k]? = some (.cells cs T (0, 0)) → w'.heap[k]? = some (.cells cs T (0, 0))
theorem Keep5.refl (b : Nat) (w : World) : Keep5 b w w := fun _ _ _ _ _ h => h
theorem Keep5.trans {b : Nat} {u v w : World} (h : Keep5 b u v) (k : Keep5 b v w) : Keep5 b u w := fun i cs T h1 h2 h3 => k i cs T h1 h2 (h i cs T h1 h2 h3)
theorem Keep5.below {b : Nat} {w w' : World} (h : Below w.heap.size w w') : Keep5 b w w' := fun i cs T h1 h2 h3 => by
  rw [h.block i (Array.getElem?_eq_some_iff.1 h3).1]; exact h3
theorem Keep5.alloc (b : Nat) (w : World) (o : Obj) : Keep5 b w (w.alloc o) := Keep5.below ((Below.refl _ _).alloc (Nat.le_refl _) _)
theorem Keep5.set {b : Nat} (w : World) (j : Nat) (v : Value) : Keep5 b w (w.setCell ⟨b, j, none⟩ v) := fun i cs T h1 h2 h3 => by
  rw [Below.heap_setCell w ⟨b, j, none⟩ v i h2]; exact h3
theorem Keep5.grown {b B n : Nat} {w w' : World} {v : Value} {xs : List Value} (hr : w.ownsRow B 5 1 v n xs) (hg : w.grownBy w' v.ownBlock) : Keep5 b w w' := fun i cs T h1 h2 h3 => by
  rw [hg.block i (Array.getElem?_eq_some_iff.1 h3).1 (fun e => ?_)]
  · exact h3
  · rcases hr.2 with ⟨rfl, _⟩ | ⟨g, cap, cur, rfl, _, hh, _⟩
    · simp [Value.ownBlock] at e
    · obtain rfl : i = g := by simpa [Value.ownBlock] using e
      rw [hh] at h3
      simp at h3
      exact h1 h3.2.symm

theorem copyCheckK (B b : Nat) (bs : List Value) (w : World) (h : Lib.IsBuilder 91 5 B b bs w) :
    Calls Tryz.prog 207 #[.pointer (some ⟨b, 0, none⟩)] w fun e w' => e = .returned (.tuple #[]) ∧ Lib.BuilderAt 91 5 B b (.pointer (some ⟨b, 0, none⟩)) bs w' ∧ Below B w w' ∧ Keep5 b w w' := by
  rcases h with h | h
  · refine (copyCheck_fresh b w h.cell0 h.shape h.frozen0).mono ?_
    rintro e w' ⟨rfl, rfl⟩
    exact ⟨rfl, h.used _, (Below.refl B w).setCell (p := ⟨b, 0, none⟩) h.1 _, Keep5.set _ _ _⟩
  · refine (copyCheck_used b w h.cell0).mono ?_
    rintro e w' ⟨rfl, rfl⟩
    exact ⟨rfl, h, Below.refl B _, Keep5.refl _ _⟩

set_option maxRecDepth 100000 in
set_option maxHeartbeats 800000 in
theorem writeByteK (B b : Nat) (bs : List Value) (c : Int) (w : World) (h : Lib.IsBuilder 91 5 B b bs w) (hlen : bs.length ≤ 10000000) (hBw : B ≤ w.heap.size) :
    Calls Tryz.prog 128 #[.pointer (some ⟨b, 0, none⟩), .int .u8 c] w fun e w' => e = .returned .nilIface ∧ Lib.IsBuilder 91 5 B b (bs ++ [.int .u8 c]) w' ∧ Below B w w' ∧ Keep5 b w w' := by
  obtain ⟨i0, hi, hz0, hz1, hz2⟩ := info_parts Tryz.info5B
  go_enter Tryz.func128, Tryz.ntmps128
  go_wp2_with fail
  refine (copyCheckK B b bs _ h).mono ?_
  rintro e w1 ⟨rfl, h1, hb1, hk1⟩
  obtain ⟨v, hB, hlt, hbk, hown, hne⟩ := builder_cells h1
  have c0 : w1.cell? ⟨b, 0, none⟩ = some (.pointer (some ⟨b, 0, none⟩)) := by rw [Lib.cell_of_heap hbk]; rfl
  have c1 : w1.cell? ⟨b, 1, none⟩ = some v := by rw [Lib.cell_of_heap hbk]; rfl
  have hsz := hb1.size
  clear h h1
  go_wp2_with (first | (at_builtin; refine wpList_append_own _ rfl (.tmp 11) (.tmp 13) 34 rfl B 5 i0 (.int .u8 0) 1 1 Tryz.underlying34 hi hz0 hz1 hz2 rfl (by decide) _ _ _ rfl (hown.alloc _) ⟨w1.heap.size, 0, none⟩ 1 1 [.int .u8 c] rfl rfl (cell_one_new _ _ _) (by intro u hu; simp at hu; subst hu; rfl) (by unfold maxLen; omega) (by omega) (by simp; omega) ?_; intro v' w2 hown' hgrow hnil; have hb2 : w2.heap[b]? = some (.cells #[.pointer (some ⟨b, 0, none⟩), v] 91 (0, 0)) := (by rw [hgrow.block b (by simp; omega) (fun e => hne e.symm), Lib.alloc_old w1 _ b hlt]; exact hbk); have d1 : w2.cell? ⟨b, 1, none⟩ = some v := (by rw [Lib.cell_of_heap hb2]; rfl); have f1 : w2.frozen? ⟨b, 1, none⟩ = false := Lib.frozen_of_heap hb2 1; have hbB : Below B w w2 := (hb1.alloc (by omega) _).grown hgrow (by simp; omega) (fun k hk => (hown.lt k hk).1); have hk2 : Keep5 b w w2 := (hk1.trans (Keep5.alloc _ _ _)).trans (Keep5.grown (hown.alloc _) hgrow); obtain ⟨g, cap, hv'⟩ : ∃ g cap, v' = .slice (some ⟨g, 0, none⟩) (bs.length + 1) cap := (by rcases hown'.2 with ⟨_, h0⟩ | ⟨g, cap, cur, hv, _⟩; omega; exact ⟨g, cap, hv⟩); rw [hv'] at hown' ⊢))
  go_ret
  exact ⟨rfl, Or.inr (Lib.BuilderAt.put (T := 91) (e := 5) hB hb2 (bs' := bs ++ [.int .u8 c]) (by simpa using hown') (by decide)), hbB.setCell (p := ⟨b, 1, none⟩) hB _, hk2.trans (Keep5.set _ _ _)⟩

set_option maxRecDepth 100000 in
set_option maxHeartbeats 800000 in
theorem writeStringK (B b : Nat) (bs : List Value) (s : ByteArray) (w : World) (h : Lib.IsBuilder 91 5 B b bs w) (hlen : bs.length + s.size ≤ 10000000) (hBw : B ≤ w.heap.size) :
    Calls Tryz.prog 126 #[.pointer (some ⟨b, 0, none⟩), .string s] w fun e w' => e = .returned (.tuple #[.int .i64 s.size, .nilIface]) ∧ Lib.IsBuilder 91 5 B b (bs ++ Lib.strCells s) w' ∧ Below B w w' ∧ Keep5 b w w' := by
  obtain ⟨i0, hi, hz0, hz1, hz2⟩ := info_parts Tryz.info5B
  go_enter Tryz.func126, Tryz.ntmps126
  go_wp2_with fail
  refine (copyCheckK B b bs _ h).mono ?_
  rintro e w1 ⟨rfl, h1, hb1, hk1⟩
  obtain ⟨v, hB, hlt, hbk, hown, hne⟩ := builder_cells h1
  have c0 : w1.cell? ⟨b, 0, none⟩ = some (.pointer (some ⟨b, 0, none⟩)) := by rw [Lib.cell_of_heap hbk]; rfl
  have c1 : w1.cell? ⟨b, 1, none⟩ = some v := by rw [Lib.cell_of_heap hbk]; rfl
  have hsz := hb1.size
  clear h h1
  go_wp2_with (first | (at_builtin; refine Lib.wpList_append_own_string _ rfl (.tmp 12) (.tmp 13) 34 9 rfl B 5 i0 Tryz.underlying34 Tryz.underlying9 hi hz0 hz1 hz2 _ _ _ rfl hown s rfl (by unfold maxLen; omega) (by omega) (by omega) ?_; intro v' w2 hown' hgrow hnil; have hb2 : w2.heap[b]? = some (.cells #[.pointer (some ⟨b, 0, none⟩), v] 91 (0, 0)) := (by rw [hgrow.block b hlt (fun e => hne e.symm)]; exact hbk); have d1 : w2.cell? ⟨b, 1, none⟩ = some v := (by rw [Lib.cell_of_heap hb2]; rfl); have f1 : w2.frozen? ⟨b, 1, none⟩ = false := Lib.frozen_of_heap hb2 1; have hbB : Below B w w2 := hb1.grown hgrow (by omega) (fun k hk => (hown.lt k hk).1); have hk2 : Keep5 b w w2 := hk1.trans (Keep5.grown hown hgrow); obtain ⟨ao, n', cap, hv'⟩ : ∃ ao n' cap, v' = .slice ao n' cap := (by rcases hown'.2 with ⟨hv, _⟩ | ⟨g, cap, cur, hv, _⟩; exact ⟨_, _, _, hv⟩; exact ⟨_, _, _, hv⟩); rw [hv'] at hown' ⊢))
  go_ret2
  exact ⟨rfl, Or.inr (Lib.BuilderAt.put (T := 91) (e := 5) hB hb2 (bs' := bs ++ Lib.strCells s) (by simpa [Lib.strCells_length] using hown') (by decide)), hbB.setCell (p := ⟨b, 1, none⟩) hB _, hk2.trans (Keep5.set _ _ _)⟩

/-- What a writer leaves: the builder's text, the frame. -/
def WrP (B b : Nat) (w : World) (c : List UInt8) (e : Ending) (w' : World) : Prop := e = .returned (.tuple #[]) ∧ Lib.IsBuilder 91 5 B b (Lib.byteCells c) w' ∧ Below B w w' ∧ Keep5 b w w'
theorem byteCells_append (a b : List UInt8) : Lib.byteCells (a ++ b) = Lib.byteCells a ++ Lib.byteCells b := by simp [Lib.byteCells]

set_option maxHeartbeats 1000000 in
theorem writeLine_any (B b bk cap : Nat) (c : List UInt8) (ws : List ByteArray) (w : World) (hI : Lib.IsBuilder 91 5 B b (Lib.byteCells c) w) (hB : B ≤ w.heap.size) (hws : ∀ (j : Nat) x, ws[j]? = some x → w.cell? ⟨bk, 0 + j, none⟩ = some (.string x)) (hbk : bk < w.heap.size) (hn : ws.length ≤ 3) (hcap : ws.length ≤ cap) (hlen : c.length + (Lib.join (ws.map (·.data.toList)) [32]).length ≤ 9000000) :
    Calls Tryz.prog 46 #[.pointer (some ⟨b, 0, none⟩), .slice (some ⟨bk, 0, none⟩) ws.length cap] w fun e w' => WrP B b w (c ++ nl (Lib.join (ws.map (·.data.toList)) [32])) e w' := by
  have hbl : (Lib.byteCells c).length = c.length := by simp [Lib.byteCells]
  have HJ : Hid (∀ _ : Unit, Calls Tryz.prog 127 #[.slice (some ⟨bk, 0, none⟩) ws.length cap, .string ⟨#[32]⟩] w fun e w' => e = .returned (.string ⟨(Lib.join (ws.map (·.data.toList)) [32]).toArray⟩) ∧ Below w.heap.size w w') := fun _ => Tryz.strings_Join bk 0 cap ws ⟨#[32]⟩ w hws hbk (by omega) hcap (by show (Lib.join (ws.map (·.data.toList)) [32]).length ≤ _; omega)
  obtain ⟨l, el⟩ : ∃ l, Lib.join (ws.map (·.data.toList)) [32] = l := ⟨_, rfl⟩
  rw [el] at HJ hlen ⊢
  clear el hws
  have hsz : (⟨l.toArray⟩ : ByteArray).size = l.length := by show l.toArray.size = _; simp
  go_enter Tryz.func46, Tryz.ntmps46
  go_wp2_with fail
  refine (HJ.out ()).mono ?_
  rintro e w1 ⟨rfl, hb1⟩
  have hI1 := builder_below hI hb1
  have hs1 := hb1.size
  have HK1 : Hid (Keep5 b w w1) := Keep5.below hb1
  have HB1 : Hid (Below B w w1) := hb1.mono hB
  clear hI hb1 HJ
  go_wp2_with fail
  refine (writeStringK B b _ _ _ hI1 (by omega) (by omega)).mono ?_
  rintro e w2 ⟨rfl, hI2, hb2, hk2⟩
  rw [str_cells, ← byteCells_append] at hI2
  have hs2 := hb2.size
  have hbl2 : (Lib.byteCells (c ++ l)).length = c.length + l.length := by simp [Lib.byteCells]
  have HK2 : Hid (Keep5 b w w2) := HK1.out.trans hk2
  have HB2 : Hid (Below B w w2) := HB1.out.trans hb2
  clear hI1 hb2 hk2 HK1 HB1
  go_wp2_with fail
  refine (writeByteK B b _ _ _ hI2 (by omega) (by omega)).mono ?_
  rintro e w3 ⟨rfl, hI3, hb3, hk3⟩
  have HI3 : Hid (Lib.IsBuilder 91 5 B b (Lib.byteCells (c ++ nl l)) w3) := by
    have h : Lib.byteCells (c ++ l) ++ [.int .u8 10] = Lib.byteCells (c ++ nl l) := by simp [Lib.byteCells, nl]
    rw [h] at hI3
    exact hI3
  have HK3 : Hid (Keep5 b w w3) := HK2.out.trans hk3
  have HB3 : Hid (Below B w w3) := HB2.out.trans hb3
  clear hI2 hI3 hb3 hk3 HK2 HB2
  go_wp2
  exact bodyPost_end (v := .tuple #[]) (by simp [results, Tryz.results46, go_sem]) rfl ⟨rfl, HI3.out, HB3.out, HK3.out⟩

end Go.Proofs.YtmeojnaoljgieadGreatDoor
