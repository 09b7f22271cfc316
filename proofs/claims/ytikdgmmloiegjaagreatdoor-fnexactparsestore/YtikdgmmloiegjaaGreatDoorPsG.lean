import Derived.Test.YtikdgmmloiegjaaGreatDoorPsH
namespace Go.Proofs.YtikdgmmloiegjaaGreatDoor
open Go.RowKit
set_option linter.unusedVariables false
/-- The last part of lookOrEnd: one look more. -/
def lookV (F R : Nat) (s : Sta) (tv qv : Value) (es : List Ent) (c l : Value) (r : T3) (g : G3) (w : World) (e : Ending) (w' : World) : Prop := Below F w w' ∧ e = .returned (fnV F .look) ∧ ∃ l', FS F ⟨s.w, s.ts, s.rs, some ⟨r.code, r.looks ++ [g], r.out⟩⟩ tv qv (.pointer (some ⟨R, 0, none⟩)) es [(c, l', ⟨r.code, r.looks ++ [g], r.out⟩)] w'
theorem bB_eq (x : List UInt8) : (⟨x.toArray⟩ : ByteArray).data.toList = x := by simp
set_option maxRecDepth 100000 in
set_option maxHeartbeats 4000000 in
theorem look_any (p : Nat → Addr) (F R : Nat) (s : Sta) (L : List UInt8) (tv qv c l : Value) (r : T3) (es : List Ent) (w : World) (hE : EnvF p F w) (hF : FS F s tv qv (.pointer (some ⟨R, 0, none⟩)) es [(c, l, r)] w) (hL : L.length ≤ 200000) (hk : r.looks.length ≤ 200000) (hne : L ≠ endL) :
    Calls Tryz.prog 89 #[.pointer (some ⟨F, 0, none⟩), .string ⟨L.toArray⟩] w fun e w' => Below F w w' ∧ StepR F (stLook s r L) e w' := by
  obtain ⟨i0, hi, hz0, hz1, hz2⟩ := info_parts Tryz.info60
  have HC := hid (cut32 hE (l := ⟨L.toArray⟩) (by rw [bytes_size]; exact hL))
  have hlr := cut_size (l := ⟨L.toArray⟩) (by rw [bytes_size]; exact hL)
  rw [bB_eq] at HC hlr
  have HO1 : Hid (∀ o, stLook s r L = o → (match unhexS (cutL 32 (cutL 32 L).2.1).2.1 with
    | none => none
    | some m => if (cutL 32 L).1 = wAsk then some (Md.look, (⟨s.w, s.ts, s.rs, some ⟨r.code, r.looks ++ [⟨⟨(cutL 32 (cutL 32 L).2.1).1.toArray⟩, true, ⟨m.toArray⟩⟩], r.out⟩⟩ : Sta))
      else if (cutL 32 L).1 = wHas then some (.look, ⟨s.w, s.ts, s.rs, some ⟨r.code, r.looks ++ [⟨⟨(cutL 32 (cutL 32 L).2.1).1.toArray⟩, false, ⟨m.toArray⟩⟩], r.out⟩⟩)
      else none) = o) := fun o h => by
    rw [← h]; unfold stLook; rw [if_neg hne]; rfl
  generalize stLook s r L = O at *
  have HO2 := HO1.out O rfl
  clear HO1
  have de : (L == [101, 110, 100]) = false := by simpa [endL] using hne
  clear hne
  generalize cutL 32 L = q at *
  obtain ⟨wd, be, fl⟩ := q
  dsimp only at HC HO2 hlr
  have HC2 : Hid (∀ w', EnvF p F w' → _) := fun w' h => cut32 h (l := ⟨be.toArray⟩) (by rw [bytes_size]; exact hlr)
  have hlr2 := cut_size (l := ⟨be.toArray⟩) (by rw [bytes_size]; exact hlr)
  rw [bB_eq] at HC2 hlr2
  generalize cutL 32 be = q at *
  obtain ⟨nm, dg, fl2⟩ := q
  dsimp only at HC2 HO2 hlr2
  have HO := hid HO2
  clear HO2
  have hlF := hF.lt
  go_enter Tryz.func89, Tryz.ntmps89
  go_wp2_with fail
  refine HC.out.mono ?_
  rintro e w1 ⟨hb1, rfl⟩
  have HF1 : Hid (FS F s tv qv (.pointer (some ⟨R, 0, none⟩)) es [(c, l, r)] w1) := hF.below hb1
  have hB1 : Below F w w1 := hb1.mono (by omega)
  have hF1 := HF1.out.lt
  have HC3 := hid (HC2.out w1 (hE.below hB1))
  clear hF HC hE HC2
  go_wp2_with fail
  refine HC3.out.mono ?_
  rintro e w2 ⟨hb2, rfl⟩
  have HF2 : Hid (FS F s tv qv (.pointer (some ⟨R, 0, none⟩)) es [(c, l, r)] w2) := HF1.out.below hb2
  have hB2 := bmono hB1 (by omega) hb2
  have hF2 := HF2.out.lt
  have HN := hid (readSum_any ⟨dg.toArray⟩ w2 (by rw [bytes_size]; omega))
  clear HF1 HC3 hb1 hb2 hF1
  go_wp2_with fail
  refine HN.out.mono ?_
  clear HN
  rintro e w3 ⟨hb3, ⟨x, hx, rfl⟩ | ⟨hno, rfl⟩⟩
  · have HF3 : Hid (FS F s tv qv (.pointer (some ⟨R, 0, none⟩)) es [(c, l, r)] w3) := HF2.out.below hb3
    have hB3 := bmono hB2 (by omega) hb3
    have HO2 : Hid (O = if wd = wAsk then some (Md.look, (⟨s.w, s.ts, s.rs, some ⟨r.code, r.looks ++ [⟨⟨nm.toArray⟩, true, ⟨x.toArray⟩⟩], r.out⟩⟩ : Sta))
      else if wd = wHas then some (.look, ⟨s.w, s.ts, s.rs, some ⟨r.code, r.looks ++ [⟨⟨nm.toArray⟩, false, ⟨x.toArray⟩⟩], r.out⟩⟩)
      else none) := by
      show _ = _
      have := HO.out
      rw [show unhexS dg = some x from hx] at this
      exact this.symm
    clear HF2 HO hb3 hx
    by_cases h1 : wd = wAsk
    · have d1 : (wd == [97, 115, 107]) = true := by subst h1; decide
      have HO3 := hid (HO2.out.trans (if_pos h1))
      clear HO2
      generalize (⟨x.toArray⟩ : ByteArray) = xb at *
      generalize (⟨nm.toArray⟩ : ByteArray) = nb at *
      have hFw := HF3.out.lt
      have hRw := hlt HF3.out.rcells.1
      have hFR := HF3.out.rcells.2.1
      have hlR : l.ownBlock ≠ some R := neB (HF3.out.loo (c, l, r) (by simp)) HF3.out.rcells.1 (by decide)
      have HLR : Hid (l.ownBlock ≠ some R) := hlR
      clear hlR
      have hbU : Below w3.heap.size w3 w3.drew := (Below.refl _ _).drew
      have hU := (HF3.out.below hbU)
      obtain ⟨_, _, _, u3, _, _, _, _⟩ := hU.cells
      have r1 : w3.drew.cell? ⟨R, 1, none⟩ = some l := by rw [Lib.cell_of_heap hU.rcells.1]; rfl
      clear hU hbU
      have hbX : Below w3.heap.size w3 (w3.alloc (.cells #[.string nb, .bool true, .string xb] 60)).drew := ((Below.refl _ _).alloc (Nat.le_refl _) _).drew
      have HFX : Hid (FS F s tv qv (.pointer (some ⟨R, 0, none⟩)) es [(c, l, r)] (w3.alloc (.cells #[.string nb, .bool true, .string xb] 60)).drew) := HF3.out.below hbX
      have hBX : Below F w (w3.alloc (.cells #[.string nb, .bool true, .string xb] 60)).drew := bmono hB3 (by omega) hbX
      obtain ⟨_, _, _, x3, _, _, _, _⟩ := HFX.out.cells
      have x1 : (w3.alloc (.cells #[.string nb, .bool true, .string xb] 60)).drew.cell? ⟨R, 1, none⟩ = some l := by rw [Lib.cell_of_heap HFX.out.rcells.1]; rfl
      clear hbX HF3
      go_wp2_with fail
      go_region_law (first | ((refine step_append_lies _ (by rfl) _ _ 52 (by rfl) (F + 1) 60 i0 (.agg #[.string ByteArray.empty, .bool false, .string ByteArray.empty]) 3 40 Tryz.underlying52 hi hz0 hz1 hz2 (by rfl) (by decide) l r.looks.length (gloC r.looks) (by rfl) (HFX.out.loo (c, l, r) (by simp)) ⟨w3.heap.size, 0, none⟩ 1 1 [.string nb, .bool true, .string xb] (by rfl) (by rfl) (World.news_of_block (cs := #[.string nb, .bool true, .string xb]) (t := 60) (fr := (0, 0)) (heap_newD _ _)) (by intro u hu; simp at hu; rcases hu with rfl | rfl | rfl <;> rfl) (by decide) (by unfold maxLen; omega) (by omega) (by simp; omega) _ rfl ?_; intro g' cap2 w4 hown' hgrow hlie hlt3; have hF4 := HFX.out.txtBlk (HFX.out.loo (c, l, r) (by simp)) hgrow; have hR4 : w4.heap[R]? = some (.cells #[c, l, .string r.out] 54 (0, 0)) := (by rw [hgrow.block R (hlt HFX.out.rcells.1) (fun e => HLR.out e.symm)]; exact HFX.out.rcells.1); have k3 : w4.cell? ⟨F, 3, none⟩ = some (.pointer (some ⟨R, 0, none⟩)) := (by rw [Lib.cell_of_heap hF4]; rfl); have q1 : w4.cell? ⟨R, 1, none⟩ = some l := (by rw [Lib.cell_of_heap hR4]; rfl); have qf1 : w4.frozen? ⟨R, 1, none⟩ = false := Lib.frozen_of_heap hR4 1; have HFIN : Hid _ := hid (HFX.out.addL hgrow (⟨nb, true, xb⟩ : G3) rfl hown' hlie); have hB4 : Below F w w4 := grownF hBX (by simp; omega) (HFX.out.loo (c, l, r) (by simp)) hgrow; clear hF4 hR4 hown' hgrow hlie)))
      all_goals
        clear u3 x3 r1 x1 k3 q1
        go_wp2_with fail
        go_ret
        exact ⟨hB4.setCell (p := ⟨R, 1, none⟩) (by show F ≤ R; omega) _, Or.inr ⟨.look, _, HO3.out, rfl, _, _, _, _, _, HFIN.out⟩⟩
    · have d1 : (wd == [97, 115, 107]) = false := by simpa [wAsk] using h1
      by_cases h2 : wd = wHas
      · have d2 : (wd == [104, 97, 115]) = true := by subst h2; decide
        have HO3 := hid (HO2.out.trans ((if_neg h1).trans (if_pos h2)))
        clear HO2
        generalize (⟨x.toArray⟩ : ByteArray) = xb at *
        generalize (⟨nm.toArray⟩ : ByteArray) = nb at *
        have hFw := HF3.out.lt
        have hRw := hlt HF3.out.rcells.1
        have hFR := HF3.out.rcells.2.1
        have hlR : l.ownBlock ≠ some R := neB (HF3.out.loo (c, l, r) (by simp)) HF3.out.rcells.1 (by decide)
        have HLR : Hid (l.ownBlock ≠ some R) := hlR
        clear hlR
        have hbU : Below w3.heap.size w3 w3.drew := (Below.refl _ _).drew
        have hU := (HF3.out.below hbU)
        obtain ⟨_, _, _, u3, _, _, _, _⟩ := hU.cells
        have r1 : w3.drew.cell? ⟨R, 1, none⟩ = some l := by rw [Lib.cell_of_heap hU.rcells.1]; rfl
        clear hU hbU
        have hbX : Below w3.heap.size w3 (w3.alloc (.cells #[.string nb, .bool false, .string xb] 60)).drew := ((Below.refl _ _).alloc (Nat.le_refl _) _).drew
        have HFX : Hid (FS F s tv qv (.pointer (some ⟨R, 0, none⟩)) es [(c, l, r)] (w3.alloc (.cells #[.string nb, .bool false, .string xb] 60)).drew) := HF3.out.below hbX
        have hBX : Below F w (w3.alloc (.cells #[.string nb, .bool false, .string xb] 60)).drew := bmono hB3 (by omega) hbX
        obtain ⟨_, _, _, x3, _, _, _, _⟩ := HFX.out.cells
        have x1 : (w3.alloc (.cells #[.string nb, .bool false, .string xb] 60)).drew.cell? ⟨R, 1, none⟩ = some l := by rw [Lib.cell_of_heap HFX.out.rcells.1]; rfl
        clear hbX HF3
        go_wp2_with fail
        go_region_law (first | ((refine step_append_lies _ (by rfl) _ _ 52 (by rfl) (F + 1) 60 i0 (.agg #[.string ByteArray.empty, .bool false, .string ByteArray.empty]) 3 40 Tryz.underlying52 hi hz0 hz1 hz2 (by rfl) (by decide) l r.looks.length (gloC r.looks) (by rfl) (HFX.out.loo (c, l, r) (by simp)) ⟨w3.heap.size, 0, none⟩ 1 1 [.string nb, .bool false, .string xb] (by rfl) (by rfl) (World.news_of_block (cs := #[.string nb, .bool false, .string xb]) (t := 60) (fr := (0, 0)) (heap_newD _ _)) (by intro u hu; simp at hu; rcases hu with rfl | rfl | rfl <;> rfl) (by decide) (by unfold maxLen; omega) (by omega) (by simp; omega) _ rfl ?_; intro g' cap2 w4 hown' hgrow hlie hlt3; have hF4 := HFX.out.txtBlk (HFX.out.loo (c, l, r) (by simp)) hgrow; have hR4 : w4.heap[R]? = some (.cells #[c, l, .string r.out] 54 (0, 0)) := (by rw [hgrow.block R (hlt HFX.out.rcells.1) (fun e => HLR.out e.symm)]; exact HFX.out.rcells.1); have k3 : w4.cell? ⟨F, 3, none⟩ = some (.pointer (some ⟨R, 0, none⟩)) := (by rw [Lib.cell_of_heap hF4]; rfl); have q1 : w4.cell? ⟨R, 1, none⟩ = some l := (by rw [Lib.cell_of_heap hR4]; rfl); have qf1 : w4.frozen? ⟨R, 1, none⟩ = false := Lib.frozen_of_heap hR4 1; have HFIN : Hid _ := hid (HFX.out.addL hgrow (⟨nb, false, xb⟩ : G3) rfl hown' hlie); have hB4 : Below F w w4 := grownF hBX (by simp; omega) (HFX.out.loo (c, l, r) (by simp)) hgrow; clear hF4 hR4 hown' hgrow hlie)))
        all_goals
          clear u3 x3 r1 x1 k3 q1
          go_wp2_with fail
          go_ret
          exact ⟨hB4.setCell (p := ⟨R, 1, none⟩) (by show F ≤ R; omega) _, Or.inr ⟨.look, _, HO3.out, rfl, _, _, _, _, _, HFIN.out⟩⟩
      · have d2 : (wd == [104, 97, 115]) = false := by simpa [wHas] using h2
        have HO3 := hid (HO2.out.trans ((if_neg h1).trans (if_neg h2)))
        clear HO2 HF3
        go_wp2_with fail
        go_ret
        exact ⟨hB3, Or.inl ⟨HO3.out, rfl⟩⟩
  · have hB3 := bmono hB2 (by omega) hb3
    have HO2 : Hid (O = none) := by
      show _ = _
      have := HO.out
      rw [show unhexS dg = none from hno] at this
      exact this.symm
    clear HF2 HO hb3 hno
    by_cases h1 : wd = wAsk
    · have d1 : (wd == [97, 115, 107]) = true := by subst h1; decide
      go_wp2_with fail
      go_ret
      exact ⟨hB3, Or.inl ⟨HO2.out, rfl⟩⟩
    · have d1 : (wd == [97, 115, 107]) = false := by simpa [wAsk] using h1
      by_cases h2 : wd = wHas
      · have d2 : (wd == [104, 97, 115]) = true := by subst h2; decide
        go_wp2_with fail
        go_ret
        exact ⟨hB3, Or.inl ⟨HO2.out, rfl⟩⟩
      · have d2 : (wd == [104, 97, 115]) = false := by simpa [wHas] using h2
        go_wp2_with fail
        go_ret
        exact ⟨hB3, Or.inl ⟨HO2.out, rfl⟩⟩

end Go.Proofs.YtikdgmmloiegjaaGreatDoor
