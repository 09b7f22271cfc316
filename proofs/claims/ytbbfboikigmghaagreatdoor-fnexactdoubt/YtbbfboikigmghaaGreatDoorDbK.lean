import Derived.Test.YtbbfboikigmghaaGreatDoorDbI
import Derived.Test.YtbbfboikigmghaaGreatDoorChkS
import Derived.Test.YtbbfboikigmghaaGreatDoorStA
import Derived.Deep.RegionHeld3
import Derived.Test.YtbbfboikigmghaaGreatDoorDbJ
import Derived.Test.YtbbfboikigmghaaGreatDoorDbS
namespace Go.Proofs.YtbbfboikigmghaaGreatDoor
open Go.RowKit
set_option linter.unusedVariables false
set_option maxHeartbeats 32000000
set_option maxRecDepth 100000
section
open Go.Deep
theorem env_of {w : World} {sa ta : Option Addr} {ss : List S2} {ts : List T2} (h : SpOk w sa ss ta ts) (hc : chk ss ts = 0) : EnvS w sa ta ss ts := by
  unfold chk at hc
  split at hc
  · omega
  · rename_i h1
    split at hc
    · omega
    · rename_i h2
      split at hc
      · omega
      · rename_i h3
        split at hc
        · omega
        · rename_i h4
          split at hc
          · omega
          · rename_i h5
            split at hc
            · omega
            · rename_i h6
              split at hc
              · omega
              · rename_i h7
                have h2 := Classical.not_not.mp h2
                have h3 := Classical.not_not.mp h3
                have h4 := Classical.not_not.mp h4
                have h6 := Classical.not_not.mp h6
                have h7 := Classical.not_not.mp h7
                refine ⟨h.rs, h.rt, ⟨h3, h4, ?_, ?_, ?_, ?_⟩, by omega, by omega, ?_⟩
                · rintro nm ⟨i, hi, e⟩ hn
                  exact h5 ⟨i, hi, by rw [e]; exact hn⟩
                · exact h6
                · exact h7
                · intro i hi
                  have hq := h2.2 i (by rw [tnames_length]; exact hi)
                  rw [nx_tnames] at hq
                  unfold nameB at hq
                  simpa using hq
                · intro i j
                  have := h.xt i j
                  unfold maxLen at this
                  omega
theorem strs_nil (w : World) (a : Option Addr) : Strs w a [] := fun i hi => by simp at hi
theorem strs_row {w : World} {base g cp : Nat} {ch : List ByteArray} (h : w.ownsRow base 9 1 (.slice (some ⟨g, 0, none⟩) ch.length cp) ch.length (strV ch)) : Strs w (some ⟨g, 0, none⟩) ch := fun i hi => ⟨g, 0, rfl, by rw [Nat.zero_add, h.cellAt i (by omega), strV_get ch i hi]; rfl⟩
theorem nil9 (w : World) (B : Nat) : w.ownsRow B 9 1 (.slice none 0 0) ([] : List ByteArray).length (strV []) := ⟨rfl, Or.inl ⟨rfl, rfl⟩⟩
theorem looks_base {w : World} {B B' : Nat} {v : Value} {ls : List G3} (h : LooksO w B v ls) (hB : B' <= B) : LooksO w B' v ls := by
  obtain ⟨xs, h1, h2⟩ := h
  exact ⟨xs, own_base h1 hB, h2⟩
end

theorem RowS.setCell {w : World} {g : Nat} {is : List S2} (h : RowS w (some ⟨g, 0, none⟩) is) {b j : Nat} (hb : b ≠ g) (v : Value) : RowS (w.setCell ⟨b, j, none⟩ v) (some ⟨g, 0, none⟩) is := by
  intro i hi
  obtain ⟨b', off, ha, h1, h2⟩ := h i hi
  cases ha
  have e : ∀ o, (w.setCell ⟨b, j, none⟩ v).cell? ⟨g, o, none⟩ = w.cell? ⟨g, o, none⟩ := fun o => World.cell?_of_block (w := w) (Below.heap_setCell w ⟨b, j, none⟩ v g (fun e => hb e.symm))
  exact ⟨g, 0, rfl, by rw [e]; exact h1, by rw [e]; exact h2⟩
def RowTo (w : World) (B : Nat) (g : Nat) (is : List T2) : Prop :=
  B <= g /\ ∀ i, i < is.length -> w.cell? ⟨g, i * 2, none⟩ = some (.string (tx is i).name) /\ ∃ g', B <= g' /\ w.cell? ⟨g, i * 2 + 1, none⟩ = some (.slice (some ⟨g', 0, none⟩) (tx is i).code.length (tx is i).code.length) /\ Row3 w (some ⟨g', 0, none⟩) (tx is i).code
theorem RowTo.row {w : World} {B g : Nat} {is : List T2} (h : RowTo w B g is) : RowT w (some ⟨g, 0, none⟩) is := by
  intro i hi
  obtain ⟨h1, g', _, h2, h3⟩ := h.2 i hi
  exact ⟨g, 0, rfl, by rw [Nat.zero_add]; exact h1, _, _, by rw [Nat.zero_add]; exact h2, h3⟩
theorem RowTo.setCell {w : World} {B g : Nat} {is : List T2} (h : RowTo w B g is) {b j : Nat} (hb : b < B) (v : Value) : RowTo (w.setCell ⟨b, j, none⟩ v) B g is := by
  refine ⟨h.1, fun i hi => ?_⟩
  obtain ⟨h1, g', hg, h2, h3⟩ := h.2 i hi
  have hB := h.1
  have e : ∀ o, (w.setCell ⟨b, j, none⟩ v).cell? ⟨g, o, none⟩ = w.cell? ⟨g, o, none⟩ := fun o => World.cell?_of_block (w := w) (Below.heap_setCell w ⟨b, j, none⟩ v g (by simp; omega))
  exact ⟨by rw [e]; exact h1, g', hg, by rw [e]; exact h2, h3.setCell (by omega) v⟩
def FilledT (w : World) (B : Nat) (is : List T2) (k : Nat) (xs : List Value) : Prop :=
  ∀ i, i < k -> xs[i * 2]? = some (.string (tx is i).name) /\ ∃ g', B < g' /\ xs[i * 2 + 1]? = some (.slice (some ⟨g', 0, none⟩) (tx is i).code.length (tx is i).code.length) /\ Row3 w (some ⟨g', 0, none⟩) (tx is i).code
theorem filledT_set {w : World} {B : Nat} {is : List T2} {k g : Nat} {xs : List Value} (h : FilledT w B is k xs) (hx : k * 2 + 1 < xs.length) (hg : B < g) (hr : Row3 w (some ⟨g, 0, none⟩) (tx is k).code) :
    FilledT w B is (k + 1) ((xs.set (k * 2) (.string (tx is k).name)).set (k * 2 + 1) (.slice (some ⟨g, 0, none⟩) (tx is k).code.length (tx is k).code.length)) := by
  intro i hi
  rcases Nat.lt_or_ge i k with hl | hl
  · obtain ⟨h1, g', h2, h3, h4⟩ := h i hl
    simp only [List.getElem?_set]
    rw [if_neg (by omega), if_neg (by omega), if_neg (by omega), if_neg (by omega)]
    exact ⟨h1, g', h2, h3, h4⟩
  · obtain rfl : i = k := by omega
    refine ⟨?_, g, hg, ?_, hr⟩
    · simp [List.getElem?_set]; omega
    · simp [List.getElem?_set]; omega
theorem FilledT.setCell {w : World} {B : Nat} {is : List T2} {k : Nat} {xs : List Value} (h : FilledT w B is k xs) (j : Nat) (v : Value) : FilledT (w.setCell ⟨B, j, none⟩ v) B is k xs := by
  intro i hi
  obtain ⟨h1, g', h2, h3, h4⟩ := h i hi
  exact ⟨h1, g', h2, h3, h4.setCell (by omega) v⟩
theorem FilledT.below {w w' : World} {B : Nat} {is : List T2} {k : Nat} {xs : List Value} (h : FilledT w B is k xs) (hb : Below w.heap.size w w') : FilledT w' B is k xs := by
  intro i hi
  obtain ⟨h1, g', h2, h3, h4⟩ := h i hi
  exact ⟨h1, g', h2, h3, h4.below hb⟩
theorem rowT_own {w : World} {g n cap : Nat} {is : List T2} {xs : List Value} (hn : n = is.length) (h : w.ownsRow g 89 2 (.slice (some ⟨g, 0, none⟩) n cap) n xs) (hf : FilledT w g is n xs) : RowTo w g g is := by
  subst hn
  refine ⟨Nat.le_refl _, fun i hi => ?_⟩
  obtain ⟨h1, g', h2, h3, h4⟩ := hf i hi
  refine ⟨?_, g', by omega, ?_, h4⟩
  · rw [h.cellAt _ (by omega)]; exact h1
  · rw [h.cellAt _ (by omega)]; exact h3
theorem toSourceS_any (a : Option Addr) (cap : Nat) (is : List S2) (w : World) (hc : RowS w a is) (hl : is.length <= 1048576) :
    Calls Tryz.prog 23 #[.slice a is.length cap] w fun e w' => Below w.heap.size w w' /\ ∃ g : Nat, e = .returned (.slice (some ⟨g, 0, none⟩) is.length is.length) /\ w.heap.size <= g /\ g < w'.heap.size /\ RowS w' (some ⟨g, 0, none⟩) is := by
  obtain ⟨z0, hi, hz0, hz1, hz2⟩ := info_parts Tryz.info87
  go_enter Tryz.func23, Tryz.ntmps23
  go_wp2_with (first | (at_make; refine wpList_make_full _ rfl (.tmp 6) (.tmp 6) 38 rfl w.heap.size 87 z0 (.agg #[.string ByteArray.empty, .string ByteArray.empty]) 2 Tryz.underlying38 hi hz0 hz1 .i64 .i64 _ _ is.length rfl rfl rfl rfl (by rw [hz2]; omega) (by unfold maxLen; omega) (Nat.le_refl _) ?_; intro w1 hown hgrow))
  have hbel1 : Below w.heap.size w w1 := (Below.refl _ _).grown hgrow (Nat.le_refl _) (by simp)
  clear hgrow
  go_loopw [4] (fun i wr => ∃ k : Nat, ∃ xs : List Value, k <= is.length /\ i = .int .i64 k /\ wr.ownsRow w.heap.size 87 2 (.slice (some ⟨w.heap.size, 0, none⟩) is.length is.length) is.length xs /\ FilledS is k xs /\ Below w.heap.size w wr) (fun i _ => is.length - (intOf i).toNat)
  case atStart => exact ⟨0, _, Nat.zero_le _, rfl, hown, fun i hi => by omega, hbel1⟩
  case round =>
    obtain ⟨k, xs, hk, rfl, hown, hfi, hbel⟩ := hrel
    by_cases hlt : k < is.length
    · obtain ⟨b, off, rfl, c1, c2⟩ := (hc.below hbel) k hlt
      have hf2 := filledS_set hfi (show k * 2 + 1 < xs.length by rw [hown.1]; omega)
      generalize sx is k = i at *
      clear hbel1 hc hfi
      go_wp2_with fail
      refine (toSource_any i _).mono ?_
      rintro e w2 ⟨hb2, rfl⟩
      have hown2 := ownsRow_below hown hb2
      have hbw : Below w.heap.size w w2 := hbel.trans (hb2.mono hbel.size)
      have hfr := hown2.frozenAt
      obtain ⟨o1, d1⟩ := cell_of_length2 hown2 (j := k * 2) (by omega)
      obtain ⟨o2, d2⟩ := cell_of_length2 hown2 (j := k * 2 + 1) (by omega)
      have HO : Hid (w2.ownsRow w.heap.size 87 2 (.slice (some ⟨w.heap.size, 0, none⟩) is.length is.length) is.length xs) := hown2
      clear hown hown2 hb2 hbel
      go_wp2
      go_roundw
      case rel => exact ⟨k + 1, _, by omega, by go_num, ((HO.out.stored _ _).1.stored _ _).1, hf2, (hbw.setCell (Nat.le_refl _) _).setCell (Nat.le_refl _) _⟩
      case measure => simp [intOf]; omega
    · have ek : k = is.length := by omega
      subst ek
      go_wp2
      go_ret
      exact ⟨hbel, _, rfl, Nat.le_refl _, (hown.lt _ rfl).2, rowS_own rfl hown hfi⟩
theorem toTarget_any (n : ByteArray) (a : Option Addr) (cap : Nat) (is : List I3) (w : World) (hc : Row3 w a is) (hl : is.length <= 1048576) :
    Calls Tryz.prog 47 #[.agg #[.string n, .slice a is.length cap]] w fun e w' => Below w.heap.size w w' /\ ∃ g : Nat, e = .returned (.agg #[.string n, .slice (some ⟨g, 0, none⟩) is.length is.length]) /\ w.heap.size <= g /\ Row3 w' (some ⟨g, 0, none⟩) is := by
  go_enter Tryz.func47, Tryz.ntmps47
  go_wp2_with fail
  have hb0 : Below w.heap.size w (((w.alloc (.cells #[.string n, .slice a is.length cap] 78)).alloc (.cells #[.string ⟨#[]⟩, .slice none 0 0] 89)).alloc (.cells #[.string n, .slice none 0 0] 89)) := (((Below.refl _ _).alloc (Nat.le_refl _) _).alloc (by simp) _).alloc (by simp; omega) _
  refine (toProgram_fresh a cap is _ (hc.below hb0) hl).mono ?_
  rintro e w1 ⟨hb1, g, rfl, hg, hr⟩
  simp at hg
  have hb : Below w.heap.size w w1 := hb0.trans (hb1.mono hb0.size)
  have hz := hb1.size
  simp at hz
  have c10 : w1.cell? ⟨w.heap.size + 1, 0, none⟩ = some (.string ⟨#[]⟩) := cell_below hb1 (by simp [go_sem])
  have c11 : w1.cell? ⟨w.heap.size + 1, 1, none⟩ = some (.slice none 0 0) := cell_below hb1 (by simp [go_sem])
  have c20 : w1.cell? ⟨w.heap.size + 1 + 1, 0, none⟩ = some (.string n) := cell_below hb1 (by simp [go_sem])
  have c21 : w1.cell? ⟨w.heap.size + 1 + 1, 1, none⟩ = some (.slice none 0 0) := cell_below hb1 (by simp [go_sem])
  have f1 : ∀ j, w1.frozen? ⟨w.heap.size + 1, j, none⟩ = false := fun j => by rw [hb1.frozen (p := ⟨w.heap.size + 1, j, none⟩) (by simp)]; simp [go_sem]
  have f2 : ∀ j, w1.frozen? ⟨w.heap.size + 1 + 1, j, none⟩ = false := fun j => by rw [hb1.frozen (p := ⟨w.heap.size + 1 + 1, j, none⟩) (by simp)]; simp [go_sem]
  clear hb0 hb1
  go_wp2
  refine bodyPost_ret (v := .agg #[.string n, .slice (some ⟨g, 0, none⟩) is.length is.length]) (by simp [results, Tryz.results47, go_sem, c10, c11]) rfl ⟨?_, g, rfl, by omega, ?_⟩
  · exact ((hb.setCell (p := ⟨w.heap.size + 1 + 1, 1, none⟩) (by simp; omega) _).setCell (p := ⟨w.heap.size + 1, 0, none⟩) (by simp) _).setCell (p := ⟨w.heap.size + 1, 1, none⟩) (by simp) _
  · exact ((hr.setCell (by omega) _).setCell (by omega) _).setCell (by omega) _
theorem toTargetS_any (a : Option Addr) (cap : Nat) (is : List T2) (w : World) (hc : RowT w a is) (hl : is.length <= 1048576) (hk : ∀ i, i < is.length -> (tx is i).code.length <= 1048576) :
    Calls Tryz.prog 24 #[.slice a is.length cap] w fun e w' => Below w.heap.size w w' /\ ∃ g : Nat, e = .returned (.slice (some ⟨g, 0, none⟩) is.length is.length) /\ RowTo w' w.heap.size g is := by
  obtain ⟨z0, hi, hz0, hz1, hz2⟩ := info_parts Tryz.info89
  have HK : Hid (∀ i, i < is.length -> (tx is i).code.length <= 1048576) := hk
  clear hk
  go_enter Tryz.func24, Tryz.ntmps24
  go_wp2_with (first | (at_make; refine wpList_make_full _ rfl (.tmp 6) (.tmp 6) 39 rfl w.heap.size 89 z0 (.agg #[.string ByteArray.empty, .slice none 0 0]) 2 Tryz.underlying39 hi hz0 hz1 .i64 .i64 _ _ is.length rfl rfl rfl rfl (by rw [hz2]; omega) (by unfold maxLen; omega) (Nat.le_refl _) ?_; intro w1 hown hgrow))
  have hbel1 : Below w.heap.size w w1 := (Below.refl _ _).grown hgrow (Nat.le_refl _) (by simp)
  clear hgrow
  go_loopw [4] (fun i wr => ∃ k : Nat, ∃ xs : List Value, k <= is.length /\ i = .int .i64 k /\ wr.ownsRow w.heap.size 89 2 (.slice (some ⟨w.heap.size, 0, none⟩) is.length is.length) is.length xs /\ FilledT wr w.heap.size is k xs /\ Below w.heap.size w wr) (fun i _ => is.length - (intOf i).toNat)
  case atStart => exact ⟨0, _, Nat.zero_le _, rfl, hown, fun i hi => by omega, hbel1⟩
  case round =>
    obtain ⟨k, xs, hk, rfl, hown, hfi, hbel⟩ := hrel
    by_cases hlt : k < is.length
    · obtain ⟨b, off, rfl, c1, a', cap', c2, c3⟩ := (hc.below hbel) k hlt
      have hck := HK.out k hlt
      have hlx : k * 2 + 1 < xs.length := by rw [hown.1]; omega
      have hgl : w.heap.size < wr.heap.size := (hown.lt _ rfl).2
      have HF : Hid (∀ (W : World) (g : Nat), FilledT W w.heap.size is k xs -> w.heap.size < g -> Row3 W (some ⟨g, 0, none⟩) (tx is k).code -> FilledT W w.heap.size is (k + 1) ((xs.set (k * 2) (.string (tx is k).name)).set (k * 2 + 1) (.slice (some ⟨g, 0, none⟩) (tx is k).code.length (tx is k).code.length))) := fun W g h1 h2 h3 => filledT_set h1 hlx h2 h3
      generalize tx is k = i at *
      clear hbel1 hc
      go_wp2_with fail
      refine (toTarget_any i.name a' cap' i.code _ c3 hck).mono ?_
      rintro e w2 ⟨hb2, g, rfl, hg, hr⟩
      have hown2 := ownsRow_below hown hb2
      have hbw : Below w.heap.size w w2 := hbel.trans (hb2.mono hbel.size)
      have hfr := hown2.frozenAt
      have hf2 := HF.out _ g ((hfi.below hb2).setCell (k * 2) (.string i.name) |>.setCell (k * 2 + 1) (.slice (some ⟨g, 0, none⟩) i.code.length i.code.length)) (by omega) ((hr.setCell (by omega) _).setCell (by omega) _)
      obtain ⟨o1, d1⟩ := cell_of_length2 hown2 (j := k * 2) (by omega)
      obtain ⟨o2, d2⟩ := cell_of_length2 hown2 (j := k * 2 + 1) (by omega)
      have HO : Hid (w2.ownsRow w.heap.size 89 2 (.slice (some ⟨w.heap.size, 0, none⟩) is.length is.length) is.length xs) := hown2
      have HF2 : Hid _ := hf2
      clear hown hown2 hb2 hbel hf2 hfi
      go_wp2
      go_roundw
      case rel => exact ⟨k + 1, _, by omega, by go_num, ((HO.out.stored _ _).1.stored _ _).1, HF2.out, (hbw.setCell (Nat.le_refl _) _).setCell (Nat.le_refl _) _⟩
      case measure => simp [intOf]; omega
    · have ek : k = is.length := by omega
      subst ek
      go_wp2
      go_ret
      exact ⟨hbel, _, rfl, rowT_own rfl hown hfi⟩
theorem toSpace_any (sa ta : Option Addr) (c1 c2 : Nat) (ss : List S2) (ts : List T2) (w : World) (rs : RowS w sa ss) (rt : RowT w ta ts) (h : SpSmall ss ts) :
    Calls Tryz.prog 8 #[.agg #[.slice sa ss.length c1, .slice ta ts.length c2]] w fun e w' => Below w.heap.size w w' /\ ∃ g1 g2 : Nat, e = .returned (.agg #[.slice (some ⟨g1, 0, none⟩) ss.length ss.length, .slice (some ⟨g2, 0, none⟩) ts.length ts.length]) /\ RowS w' (some ⟨g1, 0, none⟩) ss /\ RowT w' (some ⟨g2, 0, none⟩) ts := by
  obtain ⟨h1, h2, h3⟩ := h
  go_enter Tryz.func8, Tryz.ntmps8
  go_wp2_with fail
  have hb0 : Below w.heap.size w (((w.alloc (.cells #[.slice sa ss.length c1, .slice ta ts.length c2] 29)).alloc (.cells #[.slice none 0 0, .slice none 0 0] 41)).alloc (.cells #[.slice none 0 0, .slice none 0 0] 41)) := (((Below.refl _ _).alloc (Nat.le_refl _) _).alloc (by simp) _).alloc (by simp; omega) _
  refine (toSourceS_any sa c1 ss _ (rs.below hb0) h1).mono ?_
  rintro e w1 ⟨hb1, g, rfl, hg, hg', hr⟩
  simp at hg
  have hb : Below w.heap.size w w1 := hb0.trans (hb1.mono hb0.size)
  have hz := hb1.size
  simp at hz
  have c01 : w1.cell? ⟨w.heap.size, 1, none⟩ = some (.slice ta ts.length c2) := cell_below hb1 (by simp [go_sem])
  have c10 : w1.cell? ⟨w.heap.size + 1, 0, none⟩ = some (.slice none 0 0) := cell_below hb1 (by simp [go_sem])
  have c11 : w1.cell? ⟨w.heap.size + 1, 1, none⟩ = some (.slice none 0 0) := cell_below hb1 (by simp [go_sem])
  have c20 : w1.cell? ⟨w.heap.size + 1 + 1, 0, none⟩ = some (.slice none 0 0) := cell_below hb1 (by simp [go_sem])
  have c21 : w1.cell? ⟨w.heap.size + 1 + 1, 1, none⟩ = some (.slice none 0 0) := cell_below hb1 (by simp [go_sem])
  have f1 : ∀ j, w1.frozen? ⟨w.heap.size + 1, j, none⟩ = false := fun j => by rw [hb1.frozen (p := ⟨w.heap.size + 1, j, none⟩) (by simp)]; simp [go_sem]
  have f2 : ∀ j, w1.frozen? ⟨w.heap.size + 1 + 1, j, none⟩ = false := fun j => by rw [hb1.frozen (p := ⟨w.heap.size + 1 + 1, j, none⟩) (by simp)]; simp [go_sem]
  clear hb0 hb1
  go_wp2_with fail
  have hbs : Below w.heap.size w (w1.setCell ⟨w.heap.size + 1 + 1, 0, none⟩ (.slice (some ⟨g, 0, none⟩) ss.length ss.length)) := hb.setCell (p := ⟨w.heap.size + 1 + 1, 0, none⟩) (by simp; omega) _
  refine (toTargetS_any ta c2 ts _ (rt.below hbs) h2 h3).mono ?_
  rintro e w2 ⟨hb2, g2, rfl, hr2⟩
  have hb3 : Below w.heap.size w w2 := hbs.trans (hb2.mono hbs.size)
  have hrs := (hr.setCell (b := w.heap.size + 1 + 1) (j := 0) (by omega) (.slice (some ⟨g, 0, none⟩) ss.length ss.length)).below hb2
  have hz2 := hb2.size
  simp at hz2
  simp at hr2
  have d10 : w2.cell? ⟨w.heap.size + 1, 0, none⟩ = some (.slice none 0 0) := cell_below hb2 (by simp [go_sem, c10])
  have d11 : w2.cell? ⟨w.heap.size + 1, 1, none⟩ = some (.slice none 0 0) := cell_below hb2 (by simp [go_sem, c11])
  have d20 : w2.cell? ⟨w.heap.size + 1 + 1, 0, none⟩ = some (.slice (some ⟨g, 0, none⟩) ss.length ss.length) := cell_below hb2 (by simp [go_sem, c20])
  have d21 : w2.cell? ⟨w.heap.size + 1 + 1, 1, none⟩ = some (.slice none 0 0) := cell_below hb2 (by simp [go_sem, c21])
  have e1 : ∀ j, w2.frozen? ⟨w.heap.size + 1, j, none⟩ = false := fun j => by rw [hb2.frozen (p := ⟨w.heap.size + 1, j, none⟩) (by simp; omega)]; simp [go_sem, f1]
  have e2 : ∀ j, w2.frozen? ⟨w.heap.size + 1 + 1, j, none⟩ = false := fun j => by rw [hb2.frozen (p := ⟨w.heap.size + 1 + 1, j, none⟩) (by simp; omega)]; simp [go_sem, f2]
  clear hb2 hbs hb c01 c10 c11 c20 c21 f1 f2 hr
  go_wp2
  refine bodyPost_ret (v := .agg #[.slice (some ⟨g, 0, none⟩) ss.length ss.length, .slice (some ⟨g2, 0, none⟩) ts.length ts.length]) (by simp [results, Tryz.results8, go_sem, d10, d11]) rfl ⟨?_, g, g2, rfl, ?_, ?_⟩
  · exact ((hb3.setCell (p := ⟨w.heap.size + 1 + 1, 1, none⟩) (by simp; omega) _).setCell (p := ⟨w.heap.size + 1, 0, none⟩) (by simp) _).setCell (p := ⟨w.heap.size + 1, 1, none⟩) (by simp) _
  · exact ((hrs.setCell (by omega) _).setCell (by omega) _).setCell (by omega) _
  · exact (((hr2.setCell (by omega) _).setCell (by omega) _).setCell (by omega) _).row
section
open Go.Deep
theorem szRecordS_le (a : Option Addr) (cap : Nat) (is : List T3) (lft : Int) (w : World) (hf0 : 0 <= lft) (hf1 : lft <= 1048576) (hc : RowQ w a is) (hk : QsOk is) :
    Calls Tryz.prog 13 #[.slice a is.length cap, .int .i64 lft] w fun e w' => Below w.heap.size w w' /\ ∃ r : Int, e = .returned (.int .i64 r) /\ (r < 0 \/ ((0 <= r /\ r <= lft) /\ QsSmall is)) := by
  have hl' := hk.lr
  unfold maxLen at hl'
  have HK0 : Hid (QsOk is) := hk
  clear hk
  by_cases h0 : (is.length : Int) <= lft
  · go_enter Tryz.func13, Tryz.ntmps13
    go_wp2
    go_loopw [1, 5] (fun l i wr => ∃ k : Nat, ∃ q : Int, k <= is.length /\ i = .int .i64 k /\ l = .int .i64 q /\ 0 <= q /\ q <= lft /\ Below w.heap.size w wr /\ Hid (∀ i, i < k -> (qx is i).code.length <= 1048576 /\ (qx is i).looks.length <= 1048576)) (fun _ i _ => is.length - (intOf i).toNat)
    case atStart => exact ⟨0, _, Nat.zero_le _, rfl, rfl, by omega, by omega, Below.refl _ _, (fun i hi => by omega : ∀ i, i < 0 -> (qx is i).code.length <= 1048576 /\ (qx is i).looks.length <= 1048576)⟩
    case round =>
      obtain ⟨k, q, hk, rfl, rfl, hq0, hq1, hbr, HK⟩ := hrel
      by_cases hlt : k < is.length
      · obtain ⟨b, off, rfl, ca, cc, la, lc, c1, c2, c3, c4, c5⟩ := (hc.below hbr) k hlt
        have hok : RecOk wr ca (qx is k).code la (qx is k).looks (qx is k).out := ⟨c4, c5, HK0.out.lc k, HK0.out.lg k, HK0.out.xc k, HK0.out.ng k, HK0.out.sg k, HK0.out.so k⟩
        clear hc c4 c5
        obtain ⟨i, ei⟩ : ∃ i, qx is k = i := ⟨_, rfl⟩
        rw [ei] at c1 c2 c3 hok
        have EI : Hid (qx is k = i) := ei
        clear ei
        go_wp2_with fail
        refine (szRecord_left ca la cc lc i.code i.looks i.out q (by omega) (by omega) _ hok).mono ?_
        rintro e w1 ⟨hb1, r, rfl, hr⟩
        rcases hr with hr | hr
        · go_wp2
          go_ret
          exact ⟨hbr.trans (hb1.mono hbr.size), -1, rfl, Or.inl (by omega)⟩
        · have hr0 : 0 <= r := by omega
          have hr1 : r <= q := by omega
          go_wp2
          go_roundw
          case rel => exact ⟨k + 1, _, by omega, by go_num, rfl, by omega, by omega, hbr.trans (hb1.mono hbr.size), ext_succ HK.out (by rw [EI.out]; omega)⟩
          case measure => simp [intOf]; omega
      · go_wp2
        go_ret
        exact ⟨hbr, _, rfl, by refine Or.inr ⟨⟨by omega, by omega⟩, by omega, fun i hi => HK.out i (by omega)⟩⟩
  · go_enter Tryz.func13, Tryz.ntmps13
    go_wp2
    go_ret
    exact ⟨Below.refl _ _, -1, rfl, Or.inl (by omega)⟩
theorem szStore_le (n : Int) (ta ra : Option Addr) (tc rc : Nat) (ts : List ByteArray) (rs : List T3) (w : World) (h : SoOk w ta ts ra rs) :
    Calls Tryz.prog 4 #[.agg #[.int .i64 n, .slice ta ts.length tc, .slice ra rs.length rc], .int .i64 1048576] w fun e w' => Below w.heap.size w w' /\ ∃ r : Int, e = .returned (.int .i64 r) /\ (r < 0 \/ ((0 <= r /\ r <= 1048576) /\ ts.length <= 1048576 /\ QsSmall rs)) := by
  have hb0 : Below w.heap.size w (w.alloc (.cells #[.int .i64 n, .slice ta ts.length tc, .slice ra rs.length rc] 25)) := (Below.refl _ _).alloc (Nat.le_refl _) _
  have k2 : (w.alloc (.cells #[.int .i64 n, .slice ta ts.length tc, .slice ra rs.length rc] 25)).cell? ⟨w.heap.size, 2, none⟩ = some (.slice ra rs.length rc) := by simp [go_sem]
  have HO : Hid (SoOk w ta ts ra rs) := h
  clear h
  go_enter Tryz.func4, Tryz.ntmps4
  go_wp2_with fail
  refine (szStringS_any ta tc ts _ (HO.out.st.below hb0) HO.out.lt HO.out.xt 1048576 (by omega) (by omega)).mono ?_
  rintro e w1 ⟨rfl, r, rfl, hr⟩
  rcases hr with hr | ⟨h1, hr0, hr1⟩
  · go_wp2
    go_ret
    exact ⟨hb0, -1, rfl, Or.inl (by omega)⟩
  · have hlt : ts.length <= 1048576 := by omega
    go_wp2_with fail
    refine (szRecordS_le ra rc rs r _ hr0 hr1 (HO.out.rq.below hb0) HO.out.ok).mono ?_
    rintro e w2 ⟨hb2, r2, rfl, hr2⟩
    have hB2 := bt hb0 hb2
    clear hb0 hb2 k2
    rcases hr2 with hr2 | ⟨hr2, hq⟩
    · go_wp2
      go_ret
      exact ⟨hB2, -1, rfl, Or.inl (by omega)⟩
    · have HQ : Hid (QsSmall rs) := hq
      clear hq
      go_wp2
      go_ret
      exact ⟨hB2, r2, rfl, Or.inr ⟨⟨by omega, by omega⟩, hlt, HQ.out⟩⟩
theorem szSpace_l (lft : Int) (hf0 : 0 <= lft) (hf1 : lft <= 1048576) (sa ta : Option Addr) (c1 c2 : Nat) (ss : List S2) (ts : List T2) (w : World) (h : SpOk w sa ss ta ts) :
    Calls Tryz.prog 5 #[.agg #[.slice sa ss.length c1, .slice ta ts.length c2], .int .i64 lft] w fun e w' => Below w.heap.size w w' /\ ∃ r : Int, e = .returned (.int .i64 r) /\ (r < 0 \/ (SpSmall ss ts /\ 0 <= r)) := by
  have hb0 : Below w.heap.size w (w.alloc (.cells #[.slice sa ss.length c1, .slice ta ts.length c2] 29)) := (Below.refl _ _).alloc (Nat.le_refl _) _
  have k0 : (w.alloc (.cells #[.slice sa ss.length c1, .slice ta ts.length c2] 29)).cell? ⟨w.heap.size, 1, none⟩ = some (.slice ta ts.length c2) := by simp [go_sem]
  obtain ⟨rs, rt, ls, lt, ns, xs, nt, lc, xt⟩ := h
  go_enter Tryz.func5, Tryz.ntmps5
  go_wp2_with fail
  refine (szSS_any sa c1 ss lft _ (by omega) (by omega) (rs.below hb0) ls ns xs).mono ?_
  rintro e w1 ⟨hb1, r, rfl, hr⟩
  have hB1 := bt hb0 hb1
  have k1 := cell_below hb1 k0
  rcases hr with hr | ⟨h1, hr0, hr1⟩
  · clear hb0 hb1 k0
    go_wp2
    go_ret
    exact ⟨hB1, -1, rfl, Or.inl (by omega)⟩
  · clear hb0 hb1 k0
    go_wp2_with fail
    refine (szTS_any ta c2 ts r _ (by omega) (by omega) (rt.below hB1) lt nt lc xt).mono ?_
    rintro e w2 ⟨hb2, r2, rfl, hr2⟩
    have hB2 := bt hB1 hb2
    clear hb2 hB1 k1
    rcases hr2 with hr2 | ⟨h2, hr2, hr3, h3⟩
    · go_wp2
      go_ret
      exact ⟨hB2, -1, rfl, Or.inl (by omega)⟩
    · go_wp2
      go_ret
      exact ⟨hB2, r2, rfl, Or.inr ⟨⟨by omega, by omega, h3⟩, by omega⟩⟩
theorem l3Clean_q (sa ta : Option Addr) (c1 c2 : Nat) (ss : List S2) (ts : List T2) (nm : ByteArray) (w : World) (hE : EnvS w sa ta ss ts) (hnm : NameOk nm) :
    Calls Tryz.prog 43 #[.agg #[.slice sa ss.length c1, .slice ta ts.length c2], .string nm] w fun e w' => Below w.heap.size w w' /\ CleanQ w.heap.size ss ts nm e w' := by
  refine (l3Clean_any sa ta c1 c2 ss ts nm w hE hnm).mono ?_
  rintro e w' ⟨hb, h, ms, a, rfl, hh, hdo, ⟨d, mv, kv, vs, rfl, dn⟩ | ⟨v, mv, kv, c, t, chv, k1, _, _, bs, vs, k4⟩⟩
  · exact ⟨hb, h, ms, _, vs, _, _, mv, _, _, _, _, _, _, rfl, hh, hdo, dn.blk, dn.row⟩
  · exact ⟨hb, h, ms, a, vs, _, _, mv, _, _, _, _, _, bs, rfl, hh, hdo, k1, k4⟩
theorem EnvS.below {w w' : World} {sa ta : Option Addr} {ss : List S2} {ts : List T2} (h : EnvS w sa ta ss ts) (hb : Below w.heap.size w w') : EnvS w' sa ta ss ts := ⟨h.rs.below hb, h.rt.below hb, h.v, h.l1, h.l2, h.xc⟩
theorem specDoubt_any (n : Int) (tb : Nat) (ra sa ua : Option Addr) (tc rc c1 c2 : Nat) (ts : List ByteArray) (rs : List T3) (ss : List S2) (tp : List T2) (nm : ByteArray) (w : World) (hns : nm.size <= 9223372036854775807) (hst : StIn w (some ⟨tb, 0, none⟩) ts ra rs) (hsp : SpOk w sa ss ua tp) (hsm : SpSmall ss tp) :
    Calls Tryz.prog 6 #[.agg #[.int .i64 n, .slice (some ⟨tb, 0, none⟩) ts.length tc, .slice ra rs.length rc], .agg #[.slice sa ss.length c1, .slice ua tp.length c2], .string nm] w fun e w' => Below w.heap.size w w' /\ ∃ A B ok, e = .returned (.tuple #[.string A, .string B, .bool ok]) /\ DoubtP n ts rs ss tp nm A B ok := by
  by_cases hv : WdOk n ts rs /\ chk ss tp = 0 /\ NameOk nm
  · obtain ⟨hw, hch, hnm⟩ := hv
    have h1 := hw.1
    have h8 := hw.2.1
    obtain ⟨m, rfl⟩ := Int.eq_ofNat_of_zero_le (show 0 <= n by omega)
    have hE := env_of hsp hch
    have htx : TxOk m ts := hw.2.2.1
    refine specDoubt_yes m _ ra sa ua tc rc c1 c2 ts rs ss tp nm w (by omega) (by omega) hw hch hnm hst hsp hsm (fun V hV => ?_)
    exact l5Texts_of m tb ra sa ua tc rs.length rc c1 c2 ts ss tp nm V (hE.below hV) hnm (hst.st.below hV) htx (fun V' hV' => l3Clean_q sa ua c1 c2 ss tp nm V' ((hE.below hV).below hV') hnm)
  · exact specDoubt_no n _ ra sa ua tc rc c1 c2 ts rs ss tp nm w hv hns hst hsp hsm
theorem implDoubt_any (n : Int) (tb : Nat) (ra sa ua : Option Addr) (tc rc c1 c2 : Nat) (ts : List ByteArray) (rs : List T3) (ss : List S2) (tp : List T2) (nm : ByteArray) (w : World) (hT : Tab w) (hP : P10 w) (hns : nm.size <= 9223372036854775807) (hst : StIn w (some ⟨tb, 0, none⟩) ts ra rs) (hsp : SpOk w sa ss ua tp) (hsm : SpSmall ss tp) :
    Calls Tryz.prog 9 #[.agg #[.int .i64 n, .slice (some ⟨tb, 0, none⟩) ts.length tc, .slice ra rs.length rc], .agg #[.slice sa ss.length c1, .slice ua tp.length c2], .string nm] w fun e w' => Below w.heap.size w w' /\ ∃ A B ok, e = .returned (.tuple #[.string A, .string B, .bool ok]) /\ DoubtP n ts rs ss tp nm A B ok := by
  by_cases hv : WdOk n ts rs /\ chk ss tp = 0 /\ NameOk nm
  · obtain ⟨hw, hch, hnm⟩ := hv
    have h1 := hw.1
    have h8 := hw.2.1
    obtain ⟨m, rfl⟩ := Int.eq_ofNat_of_zero_le (show 0 <= n by omega)
    exact implDoubt_yes m tb ra sa ua tc rc c1 c2 ts rs ss tp nm w (by omega) (by omega) hw hch (env_of hsp hch) hT hP hnm hst hsp hsm
  · exact implDoubt_no n _ ra sa ua tc rc c1 c2 ts rs ss tp nm w hv hT hns hst hsp hsm
end
end Go.Proofs.YtbbfboikigmghaaGreatDoor
