/-
  Spaces: laws.toSpace, eqSpace and what they call.
-/
import Derived.Test.YtmeojnaoljgieacDoorSpSize
namespace Go.Proofs.YtmeojnaoljgieacDoor
open Go.RowKit
set_option linter.unusedVariables false

theorem RowS.setCell {w : World} {g : Nat} {is : List S2} (h : RowS w (some ⟨g, 0, none⟩) is) {b j : Nat} (hb : b ≠ g) (v : Value) : RowS (w.setCell ⟨b, j, none⟩ v) (some ⟨g, 0, none⟩) is := by
  intro i hi
  obtain ⟨b', off, ha, h1, h2⟩ := h i hi
  cases ha
  have e : ∀ o, (w.setCell ⟨b, j, none⟩ v).cell? ⟨g, o, none⟩ = w.cell? ⟨g, o, none⟩ := fun o => World.cell?_of_block (w := w) (Below.heap_setCell w ⟨b, j, none⟩ v g (fun e => hb e.symm))
  exact ⟨g, 0, rfl, by rw [e]; exact h1, by rw [e]; exact h2⟩

/-- Targets of our own making: the row at a block, each action's row at a block that is none of those below B. -/
def RowTo (w : World) (B : Nat) (g : Nat) (is : List T2) : Prop :=
  B ≤ g ∧ ∀ i, i < is.length → w.cell? ⟨g, i * 2, none⟩ = some (.string (tx is i).name) ∧ ∃ g', B ≤ g' ∧ w.cell? ⟨g, i * 2 + 1, none⟩ = some (.slice (some ⟨g', 0, none⟩) (tx is i).code.length (tx is i).code.length) ∧ Row3 w (some ⟨g', 0, none⟩) (tx is i).code
theorem RowTo.row {w : World} {B g : Nat} {is : List T2} (h : RowTo w B g is) : RowT w (some ⟨g, 0, none⟩) is := by
  intro i hi
  obtain ⟨h1, g', _, h2, h3⟩ := h.2 i hi
  exact ⟨g, 0, rfl, by rw [Nat.zero_add]; exact h1, _, _, by rw [Nat.zero_add]; exact h2, h3⟩
theorem RowTo.setCell {w : World} {B g : Nat} {is : List T2} (h : RowTo w B g is) {b j : Nat} (hb : b < B) (v : Value) : RowTo (w.setCell ⟨b, j, none⟩ v) B g is := by
  refine ⟨h.1, fun i hi => ?_⟩
  obtain ⟨h1, g', hg, h2, h3⟩ := h.2 i hi
  have hB := h.1
  have e : ∀ o, (w.setCell ⟨b, j, none⟩ v).cell? ⟨g, o, none⟩ = w.cell? ⟨g, o, none⟩ := fun o => World.cell?_of_block (w := w) (Below.heap_setCell w ⟨b, j, none⟩ v g (by simp; omega))
  exact ⟨by rw [e]; exact h1, g', hg, by rw [e]; exact h2, h3.setCell (by omega) v⟩

def FilledS (is : List S2) (k : Nat) (xs : List Value) : Prop :=
  ∀ i, i < k → xs[i * 2]? = some (.string (sx is i).name) ∧ xs[i * 2 + 1]? = some (.string (sx is i).text)
theorem filledS_set {is : List S2} {k : Nat} {xs : List Value} (h : FilledS is k xs) (hx : k * 2 + 1 < xs.length) :
    FilledS is (k + 1) ((xs.set (k * 2) (.string (sx is k).name)).set (k * 2 + 1) (.string (sx is k).text)) := by
  intro i hi
  rcases Nat.lt_or_ge i k with hl | hl
  · obtain ⟨h1, h2⟩ := h i hl
    simp only [List.getElem?_set]
    rw [if_neg (by omega), if_neg (by omega), if_neg (by omega), if_neg (by omega)]
    exact ⟨h1, h2⟩
  · obtain rfl : i = k := by omega
    simp [List.getElem?_set]
    omega
def FilledT (w : World) (B : Nat) (is : List T2) (k : Nat) (xs : List Value) : Prop :=
  ∀ i, i < k → xs[i * 2]? = some (.string (tx is i).name) ∧ ∃ g', B < g' ∧ xs[i * 2 + 1]? = some (.slice (some ⟨g', 0, none⟩) (tx is i).code.length (tx is i).code.length) ∧ Row3 w (some ⟨g', 0, none⟩) (tx is i).code
theorem filledT_set {w : World} {B : Nat} {is : List T2} {k g : Nat} {xs : List Value} (h : FilledT w B is k xs) (hx : k * 2 + 1 < xs.length) (hg : B < g) (hr : Row3 w (some ⟨g, 0, none⟩) (tx is k).code) :
    FilledT w B is (k + 1) ((xs.set (k * 2) (.string (tx is k).name)).set (k * 2 + 1) (.slice (some ⟨g, 0, none⟩) (tx is k).code.length (tx is k).code.length)) := by
  intro i hi
  rcases Nat.lt_or_ge i k with hl | hl
  · obtain ⟨h1, g', h2, h3, h4⟩ := h i hl
    simp only [List.getElem?_set]
    rw [if_neg (by omega), if_neg (by omega), if_neg (by omega), if_neg (by omega)]
    exact ⟨h1, g', h2, h3, h4⟩
  · obtain rfl : i = k := by omega
    refine ⟨?_, g, hg, ?_, hr⟩
    · simp [List.getElem?_set]; omega
    · simp [List.getElem?_set]; omega
theorem FilledT.setCell {w : World} {B : Nat} {is : List T2} {k : Nat} {xs : List Value} (h : FilledT w B is k xs) (j : Nat) (v : Value) : FilledT (w.setCell ⟨B, j, none⟩ v) B is k xs := by
  intro i hi
  obtain ⟨h1, g', h2, h3, h4⟩ := h i hi
  exact ⟨h1, g', h2, h3, h4.setCell (by omega) v⟩
theorem FilledT.below {w w' : World} {B : Nat} {is : List T2} {k : Nat} {xs : List Value} (h : FilledT w B is k xs) (hb : Below w.heap.size w w') : FilledT w' B is k xs := by
  intro i hi
  obtain ⟨h1, g', h2, h3, h4⟩ := h i hi
  exact ⟨h1, g', h2, h3, h4.below hb⟩

theorem rowS_own {w : World} {B g n cap : Nat} {is : List S2} {xs : List Value} (hn : n = is.length) (h : w.ownsRow B 104 2 (.slice (some ⟨g, 0, none⟩) n cap) n xs) (hf : FilledS is n xs) : RowS w (some ⟨g, 0, none⟩) is := by
  subst hn
  intro i hi
  obtain ⟨h1, h2⟩ := hf i hi
  refine ⟨g, 0, rfl, ?_, ?_⟩
  · rw [Nat.zero_add, h.cellAt _ (by omega)]; exact h1
  · rw [Nat.zero_add, h.cellAt _ (by omega)]; exact h2
theorem rowT_own {w : World} {g n cap : Nat} {is : List T2} {xs : List Value} (hn : n = is.length) (h : w.ownsRow g 120 2 (.slice (some ⟨g, 0, none⟩) n cap) n xs) (hf : FilledT w g is n xs) : RowTo w g g is := by
  subst hn
  refine ⟨Nat.le_refl _, fun i hi => ?_⟩
  obtain ⟨h1, g', h2, h3, h4⟩ := hf i hi
  refine ⟨?_, g', by omega, ?_, h4⟩
  · rw [h.cellAt _ (by omega)]; exact h1
  · rw [h.cellAt _ (by omega)]; exact h3

theorem Tryd.info104 : (Tryd.prog.info? 104).map (fun i => (i.zero, i.size, i.bytes)) = some (some (.agg #[.string ByteArray.empty, .string ByteArray.empty]), 2, 32) := by kernel_rfl
theorem Tryd.info120 : (Tryd.prog.info? 120).map (fun i => (i.zero, i.size, i.bytes)) = some (some (.agg #[.string ByteArray.empty, .slice none 0 0]), 2, 40) := by kernel_rfl

theorem cell_of_length2 {w : World} {B g n cap j T : Nat} {xs : List Value} (h : w.ownsRow B T 2 (.slice (some ⟨g, 0, none⟩) n cap) n xs) (hj : j < n * 2) : ∃ v, w.cell? ⟨g, j, none⟩ = some v := by
  have hl := h.1
  exact ⟨xs[j]'(by omega), by rw [h.cellAt j hj]; exact List.getElem?_eq_getElem _⟩

set_option maxHeartbeats 400000 in
theorem toSource_any (i : S2) (w : World) :
    Calls Tryd.prog 110 #[.agg #[.string i.name, .string i.text]] w fun e w' => Below w.heap.size w w' ∧ e = .returned (.agg #[.string i.name, .string i.text]) := by
  go_enter Tryd.func110, Tryd.ntmps110
  go_wp2
  exact bodyPost_ret (v := .agg #[.string i.name, .string i.text]) (by simp [results, Tryd.results110, go_sem]) rfl ⟨(((Below.refl _ _).alloc (Nat.le_refl _) _).alloc (by simp) _).alloc (by simp; omega) _, rfl⟩

set_option maxHeartbeats 1000000 in
theorem toSourceS_any (a : Option Addr) (cap : Nat) (is : List S2) (w : World) (hc : RowS w a is) (hl : is.length ≤ 1048576) :
    Calls Tryd.prog 59 #[.slice a is.length cap] w fun e w' => Below w.heap.size w w' ∧ ∃ g : Nat, e = .returned (.slice (some ⟨g, 0, none⟩) is.length is.length) ∧ w.heap.size ≤ g ∧ g < w'.heap.size ∧ RowS w' (some ⟨g, 0, none⟩) is := by
  obtain ⟨z0, hi, hz0, hz1, hz2⟩ := info_parts Tryd.info104
  go_enter Tryd.func59, Tryd.ntmps59
  go_wp2_with (first | (at_make; refine wpList_make_full _ rfl (.tmp 6) (.tmp 6) 39 rfl w.heap.size 104 z0 (.agg #[.string ByteArray.empty, .string ByteArray.empty]) 2 Tryd.underlying39 hi hz0 hz1 .i64 .i64 _ _ is.length rfl rfl rfl rfl (by rw [hz2]; omega) (by unfold maxLen; omega) (Nat.le_refl _) ?_; intro w1 hown hgrow))
  have hbel1 : Below w.heap.size w w1 := (Below.refl _ _).grown hgrow (Nat.le_refl _) (by simp)
  clear hgrow
  go_loopw [4] (fun i wr => ∃ k : Nat, ∃ xs : List Value, k ≤ is.length ∧ i = .int .i64 k ∧ wr.ownsRow w.heap.size 104 2 (.slice (some ⟨w.heap.size, 0, none⟩) is.length is.length) is.length xs ∧ FilledS is k xs ∧ Below w.heap.size w wr) (fun i _ => is.length - (intOf i).toNat)
  case atStart => exact ⟨0, _, Nat.zero_le _, rfl, hown, fun i hi => by omega, hbel1⟩
  case round =>
    obtain ⟨k, xs, hk, rfl, hown, hfi, hbel⟩ := hrel
    by_cases hlt : k < is.length
    · obtain ⟨b, off, rfl, c1, c2⟩ := (hc.below hbel) k hlt
      have hf2 := filledS_set hfi (show k * 2 + 1 < xs.length by rw [hown.1]; omega)
      generalize sx is k = i at *
      clear hbel1 hc hfi
      go_wp2_with fail
      refine (toSource_any i _).mono ?_
      rintro e w2 ⟨hb2, rfl⟩
      have hown2 := ownsRow_below hown hb2
      have hbw : Below w.heap.size w w2 := hbel.trans (hb2.mono hbel.size)
      have hfr := hown2.frozenAt
      obtain ⟨o1, d1⟩ := cell_of_length2 hown2 (j := k * 2) (by omega)
      obtain ⟨o2, d2⟩ := cell_of_length2 hown2 (j := k * 2 + 1) (by omega)
      have HO : Hid (w2.ownsRow w.heap.size 104 2 (.slice (some ⟨w.heap.size, 0, none⟩) is.length is.length) is.length xs) := hown2
      clear hown hown2 hb2 hbel
      go_wp2
      go_roundw
      case rel => exact ⟨k + 1, _, by omega, by go_num, ((HO.out.stored _ _).1.stored _ _).1, hf2, (hbw.setCell (Nat.le_refl _) _).setCell (Nat.le_refl _) _⟩
      case measure => simp [intOf]; omega
    · have ek : k = is.length := by omega
      subst ek
      go_wp2
      go_ret
      exact ⟨hbel, _, rfl, Nat.le_refl _, (hown.lt _ rfl).2, rowS_own rfl hown hfi⟩

set_option maxHeartbeats 1000000 in
theorem toTarget_any (n : ByteArray) (a : Option Addr) (cap : Nat) (is : List I3) (w : World) (hc : Row3 w a is) (hl : is.length ≤ 1048576) :
    Calls Tryd.prog 111 #[.agg #[.string n, .slice a is.length cap]] w fun e w' => Below w.heap.size w w' ∧ ∃ g : Nat, e = .returned (.agg #[.string n, .slice (some ⟨g, 0, none⟩) is.length is.length]) ∧ w.heap.size ≤ g ∧ Row3 w' (some ⟨g, 0, none⟩) is := by
  go_enter Tryd.func111, Tryd.ntmps111
  go_wp2_with fail
  have hb0 : Below w.heap.size w (((w.alloc (.cells #[.string n, .slice a is.length cap] 156)).alloc (.cells #[.string ⟨#[]⟩, .slice none 0 0] 120)).alloc (.cells #[.string n, .slice none 0 0] 120)) := (((Below.refl _ _).alloc (Nat.le_refl _) _).alloc (by simp) _).alloc (by simp; omega) _
  refine (toProgram_fresh a cap is _ (hc.below hb0) hl).mono ?_
  rintro e w1 ⟨hb1, g, rfl, hg, hr⟩
  simp at hg
  have hb : Below w.heap.size w w1 := hb0.trans (hb1.mono hb0.size)
  have hz := hb1.size
  simp at hz
  have c10 : w1.cell? ⟨w.heap.size + 1, 0, none⟩ = some (.string ⟨#[]⟩) := cell_below hb1 (by simp [go_sem])
  have c11 : w1.cell? ⟨w.heap.size + 1, 1, none⟩ = some (.slice none 0 0) := cell_below hb1 (by simp [go_sem])
  have c20 : w1.cell? ⟨w.heap.size + 1 + 1, 0, none⟩ = some (.string n) := cell_below hb1 (by simp [go_sem])
  have c21 : w1.cell? ⟨w.heap.size + 1 + 1, 1, none⟩ = some (.slice none 0 0) := cell_below hb1 (by simp [go_sem])
  have f1 : ∀ j, w1.frozen? ⟨w.heap.size + 1, j, none⟩ = false := fun j => by rw [hb1.frozen (p := ⟨w.heap.size + 1, j, none⟩) (by simp)]; simp [go_sem]
  have f2 : ∀ j, w1.frozen? ⟨w.heap.size + 1 + 1, j, none⟩ = false := fun j => by rw [hb1.frozen (p := ⟨w.heap.size + 1 + 1, j, none⟩) (by simp)]; simp [go_sem]
  clear hb0 hb1
  go_wp2
  refine bodyPost_ret (v := .agg #[.string n, .slice (some ⟨g, 0, none⟩) is.length is.length]) (by simp [results, Tryd.results111, go_sem, c10, c11]) rfl ⟨?_, g, rfl, by omega, ?_⟩
  · exact ((hb.setCell (p := ⟨w.heap.size + 1 + 1, 1, none⟩) (by simp; omega) _).setCell (p := ⟨w.heap.size + 1, 0, none⟩) (by simp) _).setCell (p := ⟨w.heap.size + 1, 1, none⟩) (by simp) _
  · exact ((hr.setCell (by omega) _).setCell (by omega) _).setCell (by omega) _

set_option maxHeartbeats 1000000 in
theorem toTargetS_any (a : Option Addr) (cap : Nat) (is : List T2) (w : World) (hc : RowT w a is) (hl : is.length ≤ 1048576) (hk : ∀ i, i < is.length → (tx is i).code.length ≤ 1048576) :
    Calls Tryd.prog 60 #[.slice a is.length cap] w fun e w' => Below w.heap.size w w' ∧ ∃ g : Nat, e = .returned (.slice (some ⟨g, 0, none⟩) is.length is.length) ∧ RowTo w' w.heap.size g is := by
  obtain ⟨z0, hi, hz0, hz1, hz2⟩ := info_parts Tryd.info120
  have HK : Hid (∀ i, i < is.length → (tx is i).code.length ≤ 1048576) := hk
  clear hk
  go_enter Tryd.func60, Tryd.ntmps60
  go_wp2_with (first | (at_make; refine wpList_make_full _ rfl (.tmp 6) (.tmp 6) 40 rfl w.heap.size 120 z0 (.agg #[.string ByteArray.empty, .slice none 0 0]) 2 Tryd.underlying40 hi hz0 hz1 .i64 .i64 _ _ is.length rfl rfl rfl rfl (by rw [hz2]; omega) (by unfold maxLen; omega) (Nat.le_refl _) ?_; intro w1 hown hgrow))
  have hbel1 : Below w.heap.size w w1 := (Below.refl _ _).grown hgrow (Nat.le_refl _) (by simp)
  clear hgrow
  go_loopw [4] (fun i wr => ∃ k : Nat, ∃ xs : List Value, k ≤ is.length ∧ i = .int .i64 k ∧ wr.ownsRow w.heap.size 120 2 (.slice (some ⟨w.heap.size, 0, none⟩) is.length is.length) is.length xs ∧ FilledT wr w.heap.size is k xs ∧ Below w.heap.size w wr) (fun i _ => is.length - (intOf i).toNat)
  case atStart => exact ⟨0, _, Nat.zero_le _, rfl, hown, fun i hi => by omega, hbel1⟩
  case round =>
    obtain ⟨k, xs, hk, rfl, hown, hfi, hbel⟩ := hrel
    by_cases hlt : k < is.length
    · obtain ⟨b, off, rfl, c1, a', cap', c2, c3⟩ := (hc.below hbel) k hlt
      have hck := HK.out k hlt
      have hlx : k * 2 + 1 < xs.length := by rw [hown.1]; omega
      have hgl : w.heap.size < wr.heap.size := (hown.lt _ rfl).2
      have HF : Hid (∀ (W : World) (g : Nat), FilledT W w.heap.size is k xs → w.heap.size < g → Row3 W (some ⟨g, 0, none⟩) (tx is k).code → FilledT W w.heap.size is (k + 1) ((xs.set (k * 2) (.string (tx is k).name)).set (k * 2 + 1) (.slice (some ⟨g, 0, none⟩) (tx is k).code.length (tx is k).code.length))) := fun W g h1 h2 h3 => filledT_set h1 hlx h2 h3
      generalize tx is k = i at *
      clear hbel1 hc
      go_wp2_with fail
      refine (toTarget_any i.name a' cap' i.code _ c3 hck).mono ?_
      rintro e w2 ⟨hb2, g, rfl, hg, hr⟩
      have hown2 := ownsRow_below hown hb2
      have hbw : Below w.heap.size w w2 := hbel.trans (hb2.mono hbel.size)
      have hfr := hown2.frozenAt
      have hf2 := HF.out _ g ((hfi.below hb2).setCell (k * 2) (.string i.name) |>.setCell (k * 2 + 1) (.slice (some ⟨g, 0, none⟩) i.code.length i.code.length)) (by omega) ((hr.setCell (by omega) _).setCell (by omega) _)
      obtain ⟨o1, d1⟩ := cell_of_length2 hown2 (j := k * 2) (by omega)
      obtain ⟨o2, d2⟩ := cell_of_length2 hown2 (j := k * 2 + 1) (by omega)
      have HO : Hid (w2.ownsRow w.heap.size 120 2 (.slice (some ⟨w.heap.size, 0, none⟩) is.length is.length) is.length xs) := hown2
      have HF2 : Hid _ := hf2
      clear hown hown2 hb2 hbel hf2 hfi
      go_wp2
      go_roundw
      case rel => exact ⟨k + 1, _, by omega, by go_num, ((HO.out.stored _ _).1.stored _ _).1, HF2.out, (hbw.setCell (Nat.le_refl _) _).setCell (Nat.le_refl _) _⟩
      case measure => simp [intOf]; omega
    · have ek : k = is.length := by omega
      subst ek
      go_wp2
      go_ret
      exact ⟨hbel, _, rfl, rowT_own rfl hown hfi⟩

set_option maxHeartbeats 1000000 in
theorem toSpace_any (sa ta : Option Addr) (c1 c2 : Nat) (ss : List S2) (ts : List T2) (w : World) (rs : RowS w sa ss) (rt : RowT w ta ts) (h : SpSmall ss ts) :
    Calls Tryd.prog 16 #[.agg #[.slice sa ss.length c1, .slice ta ts.length c2]] w fun e w' => Below w.heap.size w w' ∧ ∃ g1 g2 : Nat, e = .returned (.agg #[.slice (some ⟨g1, 0, none⟩) ss.length ss.length, .slice (some ⟨g2, 0, none⟩) ts.length ts.length]) ∧ RowS w' (some ⟨g1, 0, none⟩) ss ∧ RowT w' (some ⟨g2, 0, none⟩) ts := by
  obtain ⟨h1, h2, h3⟩ := h
  go_enter Tryd.func16, Tryd.ntmps16
  go_wp2_with fail
  have hb0 : Below w.heap.size w (((w.alloc (.cells #[.slice sa ss.length c1, .slice ta ts.length c2] 37)).alloc (.cells #[.slice none 0 0, .slice none 0 0] 42)).alloc (.cells #[.slice none 0 0, .slice none 0 0] 42)) := (((Below.refl _ _).alloc (Nat.le_refl _) _).alloc (by simp) _).alloc (by simp; omega) _
  refine (toSourceS_any sa c1 ss _ (rs.below hb0) h1).mono ?_
  rintro e w1 ⟨hb1, g, rfl, hg, hg', hr⟩
  simp at hg
  have hb : Below w.heap.size w w1 := hb0.trans (hb1.mono hb0.size)
  have hz := hb1.size
  simp at hz
  have c01 : w1.cell? ⟨w.heap.size, 1, none⟩ = some (.slice ta ts.length c2) := cell_below hb1 (by simp [go_sem])
  have c10 : w1.cell? ⟨w.heap.size + 1, 0, none⟩ = some (.slice none 0 0) := cell_below hb1 (by simp [go_sem])
  have c11 : w1.cell? ⟨w.heap.size + 1, 1, none⟩ = some (.slice none 0 0) := cell_below hb1 (by simp [go_sem])
  have c20 : w1.cell? ⟨w.heap.size + 1 + 1, 0, none⟩ = some (.slice none 0 0) := cell_below hb1 (by simp [go_sem])
  have c21 : w1.cell? ⟨w.heap.size + 1 + 1, 1, none⟩ = some (.slice none 0 0) := cell_below hb1 (by simp [go_sem])
  have f1 : ∀ j, w1.frozen? ⟨w.heap.size + 1, j, none⟩ = false := fun j => by rw [hb1.frozen (p := ⟨w.heap.size + 1, j, none⟩) (by simp)]; simp [go_sem]
  have f2 : ∀ j, w1.frozen? ⟨w.heap.size + 1 + 1, j, none⟩ = false := fun j => by rw [hb1.frozen (p := ⟨w.heap.size + 1 + 1, j, none⟩) (by simp)]; simp [go_sem]
  clear hb0 hb1
  go_wp2_with fail
  have hbs : Below w.heap.size w (w1.setCell ⟨w.heap.size + 1 + 1, 0, none⟩ (.slice (some ⟨g, 0, none⟩) ss.length ss.length)) := hb.setCell (p := ⟨w.heap.size + 1 + 1, 0, none⟩) (by simp; omega) _
  refine (toTargetS_any ta c2 ts _ (rt.below hbs) h2 h3).mono ?_
  rintro e w2 ⟨hb2, g2, rfl, hr2⟩
  have hb3 : Below w.heap.size w w2 := hbs.trans (hb2.mono hbs.size)
  have hrs := (hr.setCell (b := w.heap.size + 1 + 1) (j := 0) (by omega) (.slice (some ⟨g, 0, none⟩) ss.length ss.length)).below hb2
  have hz2 := hb2.size
  simp at hz2
  simp at hr2
  have d10 : w2.cell? ⟨w.heap.size + 1, 0, none⟩ = some (.slice none 0 0) := cell_below hb2 (by simp [go_sem, c10])
  have d11 : w2.cell? ⟨w.heap.size + 1, 1, none⟩ = some (.slice none 0 0) := cell_below hb2 (by simp [go_sem, c11])
  have d20 : w2.cell? ⟨w.heap.size + 1 + 1, 0, none⟩ = some (.slice (some ⟨g, 0, none⟩) ss.length ss.length) := cell_below hb2 (by simp [go_sem, c20])
  have d21 : w2.cell? ⟨w.heap.size + 1 + 1, 1, none⟩ = some (.slice none 0 0) := cell_below hb2 (by simp [go_sem, c21])
  have e1 : ∀ j, w2.frozen? ⟨w.heap.size + 1, j, none⟩ = false := fun j => by rw [hb2.frozen (p := ⟨w.heap.size + 1, j, none⟩) (by simp; omega)]; simp [go_sem, f1]
  have e2 : ∀ j, w2.frozen? ⟨w.heap.size + 1 + 1, j, none⟩ = false := fun j => by rw [hb2.frozen (p := ⟨w.heap.size + 1 + 1, j, none⟩) (by simp; omega)]; simp [go_sem, f2]
  clear hb2 hbs hb c01 c10 c11 c20 c21 f1 f2 hr
  go_wp2
  refine bodyPost_ret (v := .agg #[.slice (some ⟨g, 0, none⟩) ss.length ss.length, .slice (some ⟨g2, 0, none⟩) ts.length ts.length]) (by simp [results, Tryd.results16, go_sem, d10, d11]) rfl ⟨?_, g, g2, rfl, ?_, ?_⟩
  · exact ((hb3.setCell (p := ⟨w.heap.size + 1 + 1, 1, none⟩) (by simp; omega) _).setCell (p := ⟨w.heap.size + 1, 0, none⟩) (by simp) _).setCell (p := ⟨w.heap.size + 1, 1, none⟩) (by simp) _
  · exact ((hrs.setCell (by omega) _).setCell (by omega) _).setCell (by omega) _
  · exact (((hr2.setCell (by omega) _).setCell (by omega) _).setCell (by omega) _).row

end Go.Proofs.YtmeojnaoljgieacDoor
