import Derived.Test.YtllhbgmadiclcaaGreatDoorMkH
namespace Go.Proofs.YtllhbgmadiclcaaGreatDoor
open Go.RowKit
set_option linter.unusedVariables false

/-- All blocks but one stay. -/
def KeepO (ob : Option Nat) (w w' : World) : Prop := ∀ b, b < w.heap.size → some b ≠ ob → w'.heap[b]? = w.heap[b]?
theorem KeepO.below {ob : Option Nat} {w w' w2 : World} (h : KeepO ob w w') (hs : w.heap.size ≤ w'.heap.size) (hb : Below w'.heap.size w' w2) : KeepO ob w w2 := fun b hl hne => by
  rw [hb.block b (by omega)]; exact h b hl hne
theorem KeepO.after {ob : Option Nat} {w w1 w' : World} (h : KeepO ob w1 w') (hb : Below w.heap.size w w1) : KeepO ob w w' := fun b hl hne => by
  rw [h b (Nat.lt_of_lt_of_le hl hb.size) hne]; exact hb.block b hl
theorem own_ltM {w : World} {B e sz n : Nat} {v : Value} {xs : List Value} (h : w.ownsRow B e sz v n xs) {b : Nat} (hb : v.ownBlock = some b) : B ≤ b ∧ b < w.heap.size := h.lt b hb
theorem own_keep {w w' : World} {B e sz n : Nat} {v : Value} {xs : List Value} {ob : Option Nat} (h : w.ownsRow B e sz v n xs) (hk : KeepO ob w w') (hne : ∀ b, v.ownBlock = some b → some b ≠ ob) : w'.ownsRow B e sz v n xs := by
  refine ⟨h.1, ?_⟩
  rcases h.2 with h2 | ⟨g, cap, cur, hv, hg, hh, r⟩
  · exact Or.inl h2
  · refine Or.inr ⟨g, cap, cur, hv, hg, ?_, r⟩
    subst hv
    rw [hk g (h.lt g rfl).2 (hne g rfl)]; exact hh
theorem own_set {w : World} {B e sz n g cap : Nat} {xs : List Value} (h : w.ownsRow B e sz (.slice (some ⟨g, 0, none⟩) n cap) n xs) {b j : Nat} (hb : b ≠ g) (v : Value) : (w.setCell ⟨b, j, none⟩ v).ownsRow B e sz (.slice (some ⟨g, 0, none⟩) n cap) n xs := by
  refine ⟨h.1, ?_⟩
  rcases h.2 with ⟨h2, _⟩ | ⟨g', cap, cur, hv, hg, hh, r⟩
  · cases h2
  · cases hv
    refine Or.inr ⟨g, cap, cur, rfl, hg, ?_, r⟩
    rw [Below.heap_setCell w ⟨b, j, none⟩ v g (fun e => hb e.symm)]; exact hh
theorem own_base {w : World} {B B' e sz n : Nat} {v : Value} {xs : List Value} (h : w.ownsRow B e sz v n xs) (hB : B' ≤ B) : w.ownsRow B' e sz v n xs := by
  refine ⟨h.1, ?_⟩
  rcases h.2 with h | ⟨g, cap, cur, hv, hg, r⟩
  · exact Or.inl h
  · exact Or.inr ⟨g, cap, cur, hv, Nat.le_trans hB hg, r⟩
theorem own_casesM {w : World} {B e sz n : Nat} {v : Value} {xs : List Value} (h : w.ownsRow B e sz v n xs) : (v = .slice none 0 0 ∧ n = 0) ∨ ∃ g cap, v = .slice (some ⟨g, 0, none⟩) n cap := by
  rcases h.2 with h | ⟨g, cap, cur, hv, hg, r⟩
  · exact Or.inl h
  · exact Or.inr ⟨g, cap, hv⟩

set_option maxHeartbeats 400000 in
theorem toInsS_own (a : Option Addr) (cap : Nat) (is : List I3) (w : World) (hc : Row3 w a is) (hl : is.length ≤ 1048576) :
    Calls Tryz.prog 85 #[.slice a is.length cap] w fun e w' => Below w.heap.size w w' ∧ ∃ g : Nat, e = .returned (.slice (some ⟨g, 0, none⟩) is.length is.length) ∧ ∃ xs, w'.ownsRow w.heap.size 98 3 (.slice (some ⟨g, 0, none⟩) is.length is.length) is.length xs ∧ Filled3 is is.length xs := by
  obtain ⟨z0, hi, hz0, hz1, hz2⟩ := info_parts Tryz.info98
  go_enter Tryz.func85, Tryz.ntmps85
  go_wp2_with (first | (at_make; refine wpList_make_full _ rfl (.tmp 6) (.tmp 6) 45 rfl w.heap.size 98 z0 (.agg #[.int .i64 0, .string ByteArray.empty, .int .i64 0]) 3 Tryz.underlying45 hi hz0 hz1 .i64 .i64 _ _ is.length rfl rfl rfl rfl (by rw [hz2]; omega) (by unfold maxLen; omega) (Nat.le_refl _) ?_; intro w1 hown hgrow))
  have hbel1 : Below w.heap.size w w1 := (Below.refl _ _).grown hgrow (Nat.le_refl _) (by simp)
  clear hgrow
  go_loopw [4] (fun i wr => ∃ k : Nat, ∃ xs : List Value, k ≤ is.length ∧ i = .int .i64 k ∧ wr.ownsRow w.heap.size 98 3 (.slice (some ⟨w.heap.size, 0, none⟩) is.length is.length) is.length xs ∧ Filled3 is k xs ∧ Below w.heap.size w wr) (fun i _ => is.length - (intOf i).toNat)
  case atStart => exact ⟨0, _, Nat.zero_le _, rfl, hown, fun i hi => by omega, hbel1⟩
  case round =>
    obtain ⟨k, xs, hk, rfl, hown, hfi, hbel⟩ := hrel
    by_cases hlt : k < is.length
    · obtain ⟨b, off, rfl, c1, c2, c3⟩ := (hc.below hbel) k hlt
      have hf2 := filled3_set hfi (show k * 3 + 2 < xs.length by rw [hown.1]; omega)
      generalize ix is k = i at *
      clear hbel1 hc hfi
      go_wp2_with fail
      refine (toIns_any i _).mono ?_
      rintro e w2 ⟨hb2, rfl⟩
      have hown2 := ownsRow_below hown hb2
      have hbw : Below w.heap.size w w2 := hbel.trans (hb2.mono hbel.size)
      have hfr := hown2.frozenAt
      obtain ⟨o1, d1⟩ := cell_of_length hown2 (j := k * 3) (by omega)
      obtain ⟨o2, d2⟩ := cell_of_length hown2 (j := k * 3 + 1) (by omega)
      obtain ⟨o3, d3⟩ := cell_of_length hown2 (j := k * 3 + 2) (by omega)
      have HO : Hid (w2.ownsRow w.heap.size 98 3 (.slice (some ⟨w.heap.size, 0, none⟩) is.length is.length) is.length xs) := hown2
      clear hown hown2 hb2 hbel
      go_wp2
      go_roundw
      case rel => exact ⟨k + 1, _, by omega, by go_num, (((HO.out.stored _ _).1.stored _ _).1.stored _ _).1, hf2, ((hbw.setCell (Nat.le_refl _) _).setCell (Nat.le_refl _) _).setCell (Nat.le_refl _) _⟩
      case measure => simp [intOf]; omega
    · have ek : k = is.length := by omega
      subst ek
      go_wp2
      go_ret
      exact ⟨hbel, _, rfl, _, hown, hfi⟩

set_option maxHeartbeats 400000 in
theorem toStringS_own (a : Option Addr) (cap : Nat) (ss : List ByteArray) (w : World) (hc : Strs w a ss) (hl : ss.length ≤ 1048576) :
    Calls Tryz.prog 20 #[.slice a ss.length cap] w fun e w' => Below w.heap.size w w' ∧ ∃ g : Nat, e = .returned (.slice (some ⟨g, 0, none⟩) ss.length ss.length) ∧ w'.ownsRow w.heap.size 9 1 (.slice (some ⟨g, 0, none⟩) ss.length ss.length) ss.length (filled ss ss.length ss.length) := by
  obtain ⟨i0, hi, hz0, hz1, hz2⟩ := info_parts Tryz.info9
  go_enter Tryz.func20, Tryz.ntmps20
  go_wp2_with (first | (at_make; refine wpList_make_full _ rfl (.tmp 6) (.tmp 6) 22 rfl w.heap.size 9 i0 (.string ByteArray.empty) 1 Tryz.underlying22 hi hz0 hz1 .i64 .i64 _ _ ss.length rfl rfl rfl rfl (by rw [hz2]; omega) (by unfold maxLen; omega) (Nat.le_refl _) ?_; intro w1 hown hgrow))
  rw [made_strings] at hown
  have hbel1 : Below w.heap.size w w1 := (Below.refl _ _).grown hgrow (Nat.le_refl _) (by simp)
  clear hgrow
  go_loopw [4] (fun i wr => ∃ k : Nat, k ≤ ss.length ∧ i = .int .i64 k ∧ wr.ownsRow w.heap.size 9 1 (.slice (some ⟨w.heap.size, 0, none⟩) ss.length ss.length) ss.length (filled ss k ss.length) ∧ Below w.heap.size w wr) (fun i _ => ss.length - (intOf i).toNat)
  case atStart => exact ⟨0, Nat.zero_le _, rfl, by simpa [filled] using hown, hbel1⟩
  case round =>
    obtain ⟨k, hk, rfl, hown, hbel⟩ := hrel
    by_cases hlt : k < ss.length
    · obtain ⟨b, off, rfl, hck⟩ := (hc.below hbel) k hlt
      have hst := hown.stored k (.string (ss.getD k ByteArray.empty))
      rw [filled_set ss k hlt] at hst
      have hfr := hown.frozenAt k
      have hce : wr.cell? ⟨w.heap.size, k, none⟩ = some ((filled ss k ss.length)[k]'(by rw [filled_length ss k hk]; exact hlt)) := by
        rw [hown.cellAt k (by omega)]; exact List.getElem?_eq_getElem _
      generalize (filled ss k ss.length)[k]'(by rw [filled_length ss k hk]; exact hlt) = old at hce
      generalize ss.getD k ByteArray.empty = s at *
      have hbel2 : Below w.heap.size w (wr.setCell ⟨w.heap.size, k, none⟩ (.string s)) := hbel.setCell (Nat.le_refl _) _
      clear hown hbel hbel1 hc
      go_wp2
      go_roundw
      case rel => exact ⟨k + 1, by omega, by go_num, hst.1, hbel2⟩
      case measure => simp [intOf]; omega
    · have ek : k = ss.length := by omega
      subst ek
      go_wp2
      go_ret
      exact ⟨hbel, _, rfl, hown⟩

set_option maxHeartbeats 400000 in
theorem toProgram_own (a : Option Addr) (cap : Nat) (is : List I3) (w : World) (hc : Row3 w a is) (hl : is.length ≤ 1048576) :
    Calls Tryz.prog 61 #[.agg #[.slice a is.length cap]] w fun e w' => Below w.heap.size w w' ∧ ∃ g : Nat, e = .returned (.agg #[.slice (some ⟨g, 0, none⟩) is.length is.length]) ∧ ∃ xs, w'.ownsRow w.heap.size 98 3 (.slice (some ⟨g, 0, none⟩) is.length is.length) is.length xs ∧ Filled3 is is.length xs := by
  go_enter Tryz.func61, Tryz.ntmps61
  go_wp2_with fail
  have hb0 : Below w.heap.size w (((w.alloc (.cells #[.slice a is.length cap] 80)).alloc (.cells #[.slice none 0 0] 47)).alloc (.cells #[.slice none 0 0] 47)) := (((Below.refl _ _).alloc (Nat.le_refl _) _).alloc (by simp) _).alloc (by simp; omega) _
  refine (toInsS_own a cap is _ (hc.below hb0) hl).mono ?_
  rintro e w1 ⟨hb1, g, rfl, xs, hr, hf⟩
  have hg := (hr.lt g rfl).1
  simp at hg
  have hb : Below w.heap.size w w1 := hb0.trans (hb1.mono hb0.size)
  have hz := hb1.size
  simp at hz
  have c1 : w1.cell? ⟨w.heap.size + 1, 0, none⟩ = some (.slice none 0 0) := cell_below hb1 (by simp [go_sem])
  have c2 : w1.cell? ⟨w.heap.size + 1 + 1, 0, none⟩ = some (.slice none 0 0) := cell_below hb1 (by simp [go_sem])
  have f1 : w1.frozen? ⟨w.heap.size + 1, 0, none⟩ = false := by rw [hb1.frozen (p := ⟨w.heap.size + 1, 0, none⟩) (by simp)]; simp [go_sem]
  have f2 : w1.frozen? ⟨w.heap.size + 1 + 1, 0, none⟩ = false := by rw [hb1.frozen (p := ⟨w.heap.size + 1 + 1, 0, none⟩) (by simp)]; simp [go_sem]
  clear hb0 hb1
  go_wp2
  exact bodyPost_ret (v := .agg #[.slice (some ⟨g, 0, none⟩) is.length is.length]) (by simp [results, Tryz.results61, go_sem, c1]) rfl ⟨setCell_below (setCell_below hb (by omega) _) (by omega) _, g, rfl, xs, own_set (own_set (own_base hr (by simp; omega)) (by omega) _) (by omega) _, hf⟩

set_option maxHeartbeats 400000 in
theorem markInsS_nil (K : Nat) (w : World) (h2 : K ≤ 900000000000000) :
    Calls Tryz.prog 53 #[.slice none 0 0, .int .i64 K] w fun e w' => e = .returned (.int .i64 (K : Int)) ∧ w = w' := by
  go_enter Tryz.func53, Tryz.ntmps53
  go_wp2
  go_loopw [1, 5] (fun k i wr => i = .int .i64 0 ∧ k = .int .i64 (K : Int) ∧ w = wr) (fun _ i _ => 0)
  case atStart => exact ⟨rfl, rfl, rfl⟩
  case round =>
    obtain ⟨rfl, rfl, rfl⟩ := hrel
    go_wp2
    go_ret
    exact ⟨rfl, rfl⟩

theorem markInsS_own (B n K : Nat) (v : Value) (xs : List Value) (w : World) (hown : w.ownsRow B 98 3 v n xs) (hB : B ≤ w.heap.size) (hn : n ≤ 1048576) (h1 : 1 ≤ K) (h2 : K ≤ 900000000000000) :
    Calls Tryz.prog 53 #[v, .int .i64 K] w fun e w' => e = .returned (.int .i64 ((K + 3 * n : Nat) : Int)) ∧ Below B w w' ∧ KeepO v.ownBlock w w' ∧ ∃ ys, w'.ownsRow B 98 3 v n ys ∧ MkI K n ys := by
  rcases own_casesM hown with ⟨rfl, rfl⟩ | ⟨g, cap, rfl⟩
  · refine (markInsS_nil K w h2).mono ?_
    rintro e w' ⟨rfl, rfl⟩
    exact ⟨rfl, Below.refl _ _, fun _ _ _ => rfl, xs, hown, fun i hi => by omega⟩
  · refine (markInsS_any B g n cap K xs w hown hB hn h1 h2).mono ?_
    rintro e w' ⟨he, hb, hk, ys, ho, hm⟩
    exact ⟨he, hb, fun b hl hne => hk b hl (fun e => hne (by subst e; rfl)), ys, ho, hm⟩

set_option maxHeartbeats 400000 in
theorem markGlanceS_nil (K : Nat) (w : World) (h2 : K ≤ 900000000000000) :
    Calls Tryz.prog 54 #[.slice none 0 0, .int .i64 K] w fun e w' => e = .returned (.int .i64 (K : Int)) ∧ w = w' := by
  go_enter Tryz.func54, Tryz.ntmps54
  go_wp2
  go_loopw [1, 5] (fun k i wr => i = .int .i64 0 ∧ k = .int .i64 (K : Int) ∧ w = wr) (fun _ i _ => 0)
  case atStart => exact ⟨rfl, rfl, rfl⟩
  case round =>
    obtain ⟨rfl, rfl, rfl⟩ := hrel
    go_wp2
    go_ret
    exact ⟨rfl, rfl⟩

theorem markGlanceS_own (B n K : Nat) (v : Value) (xs : List Value) (w : World) (hown : w.ownsRow B 90 3 v n xs) (hB : B ≤ w.heap.size) (hn : n ≤ 1048576) (h1 : 1 ≤ K) (h2 : K ≤ 900000000000000) :
    Calls Tryz.prog 54 #[v, .int .i64 K] w fun e w' => e = .returned (.int .i64 ((K + 3 * n : Nat) : Int)) ∧ Below B w w' ∧ KeepO v.ownBlock w w' ∧ ∃ ys, w'.ownsRow B 90 3 v n ys ∧ MkG K n ys := by
  rcases own_casesM hown with ⟨rfl, rfl⟩ | ⟨g, cap, rfl⟩
  · refine (markGlanceS_nil K w h2).mono ?_
    rintro e w' ⟨rfl, rfl⟩
    exact ⟨rfl, Below.refl _ _, fun _ _ _ => rfl, xs, hown, fun i hi => by omega⟩
  · refine (markGlanceS_any B g n cap K xs w hown hB hn h1 h2).mono ?_
    rintro e w' ⟨he, hb, hk, ys, ho, hm⟩
    exact ⟨he, hb, fun b hl hne => hk b hl (fun e => hne (by subst e; rfl)), ys, ho, hm⟩

set_option maxHeartbeats 400000 in
theorem markStringS_nil (K : Nat) (w : World) (h2 : K ≤ 900000000000000) :
    Calls Tryz.prog 32 #[.slice none 0 0, .int .i64 K] w fun e w' => e = .returned (.int .i64 (K : Int)) ∧ w = w' := by
  go_enter Tryz.func32, Tryz.ntmps32
  go_wp2
  go_loopw [1, 5] (fun k i wr => i = .int .i64 0 ∧ k = .int .i64 (K : Int) ∧ w = wr) (fun _ i _ => 0)
  case atStart => exact ⟨rfl, rfl, rfl⟩
  case round =>
    obtain ⟨rfl, rfl, rfl⟩ := hrel
    go_wp2
    go_ret
    exact ⟨rfl, rfl⟩

theorem markStringS_own (B n K : Nat) (v : Value) (xs : List Value) (w : World) (hown : w.ownsRow B 9 1 v n xs) (hB : B ≤ w.heap.size) (hn : n ≤ 1048576) (h1 : 1 ≤ K) (h2 : K ≤ 900000000000000) :
    Calls Tryz.prog 32 #[v, .int .i64 K] w fun e w' => e = .returned (.int .i64 ((K + n : Nat) : Int)) ∧ Below B w w' ∧ KeepO v.ownBlock w w' := by
  rcases own_casesM hown with ⟨rfl, rfl⟩ | ⟨g, cap, rfl⟩
  · refine (markStringS_nil K w h2).mono ?_
    rintro e w' ⟨rfl, rfl⟩
    exact ⟨rfl, Below.refl _ _, fun _ _ _ => rfl⟩
  · refine (markStringS_any B g n cap K xs w hown hB hn h1 h2).mono ?_
    rintro e w' ⟨he, hb, hk⟩
    exact ⟨he, hb, fun b hl hne => hk b hl (fun e => hne (by subst e; rfl))⟩

set_option maxHeartbeats 400000 in
theorem heldInsS_nil (K : Nat) (w : World) (h2 : K ≤ 900000000000000) :
    Calls Tryz.prog 79 #[.slice none 0 0, .int .i64 K] w fun e w' => e = .returned (.int .i64 (K : Int)) ∧ w = w' := by
  go_enter Tryz.func79, Tryz.ntmps79
  go_wp2
  go_loopw [1, 5] (fun k i wr => i = .int .i64 0 ∧ k = .int .i64 (K : Int) ∧ w = wr) (fun _ i _ => 0)
  case atStart => exact ⟨rfl, rfl, rfl⟩
  case round =>
    obtain ⟨rfl, rfl, rfl⟩ := hrel
    go_wp2
    go_ret
    exact ⟨rfl, rfl⟩

theorem heldInsS_own (B n K : Nat) (v : Value) (ys : List Value) (w : World) (hown : w.ownsRow B 98 3 v n ys) (hm : MkI K n ys) (hn : n ≤ 1048576) (h1 : 1 ≤ K) (h2 : K ≤ 900000000000000) :
    Calls Tryz.prog 79 #[v, .int .i64 K] w fun e w' => e = .returned (.int .i64 ((K + 3 * n : Nat) : Int)) ∧ Below w.heap.size w w' := by
  rcases own_casesM hown with ⟨rfl, rfl⟩ | ⟨g, cap, rfl⟩
  · refine (heldInsS_nil K w h2).mono ?_
    rintro e w' ⟨rfl, rfl⟩
    exact ⟨rfl, Below.refl _ _⟩
  · exact heldInsS_any g n cap K w (MkI.read hown hm) hn h1 h2

set_option maxHeartbeats 400000 in
theorem heldGlanceS_nil (K : Nat) (w : World) (h2 : K ≤ 900000000000000) :
    Calls Tryz.prog 80 #[.slice none 0 0, .int .i64 K] w fun e w' => e = .returned (.int .i64 (K : Int)) ∧ w = w' := by
  go_enter Tryz.func80, Tryz.ntmps80
  go_wp2
  go_loopw [1, 5] (fun k i wr => i = .int .i64 0 ∧ k = .int .i64 (K : Int) ∧ w = wr) (fun _ i _ => 0)
  case atStart => exact ⟨rfl, rfl, rfl⟩
  case round =>
    obtain ⟨rfl, rfl, rfl⟩ := hrel
    go_wp2
    go_ret
    exact ⟨rfl, rfl⟩

theorem heldGlanceS_own (B n K : Nat) (v : Value) (ys : List Value) (w : World) (hown : w.ownsRow B 90 3 v n ys) (hm : MkG K n ys) (hn : n ≤ 1048576) (h1 : 1 ≤ K) (h2 : K ≤ 900000000000000) :
    Calls Tryz.prog 80 #[v, .int .i64 K] w fun e w' => e = .returned (.int .i64 ((K + 3 * n : Nat) : Int)) ∧ Below w.heap.size w w' := by
  rcases own_casesM hown with ⟨rfl, rfl⟩ | ⟨g, cap, rfl⟩
  · refine (heldGlanceS_nil K w h2).mono ?_
    rintro e w' ⟨rfl, rfl⟩
    exact ⟨rfl, Below.refl _ _⟩
  · exact heldGlanceS_any g n cap K w (MkG.read hown hm) hn h1 h2

end Go.Proofs.YtllhbgmadiclcaaGreatDoor
