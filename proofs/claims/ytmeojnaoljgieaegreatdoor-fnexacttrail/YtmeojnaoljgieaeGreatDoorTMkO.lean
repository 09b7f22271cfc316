import Derived.Test.YtmeojnaoljgieaeGreatDoorTMkT
import Derived.Test.YtmeojnaoljgieaeGreatDoorTChkA
namespace Go.Proofs.YtmeojnaoljgieaeGreatDoor
open Go.RowKit
set_option linter.unusedVariables false
set_option maxHeartbeats 8000000
set_option maxRecDepth 100000
def KeepB (g : Nat) (w w' : World) : Prop := ∀ b, b < w.heap.size -> b ≠ g -> w'.heap[b]? = w.heap[b]?
theorem KeepB.set {g : Nat} {w w' : World} (h : KeepB g w w') (j : Nat) (v : Value) : KeepB g w (w'.setCell ⟨g, j, none⟩ v) := fun b hb hne => by
  rw [Below.heap_setCell w' ⟨g, j, none⟩ v b hne]; exact h b hb hne
theorem KeepB.below {g : Nat} {w w' w2 : World} (h : KeepB g w w') (hs : w.heap.size <= w'.heap.size) (hb : Below w'.heap.size w' w2) : KeepB g w w2 := fun b hl hne => by
  rw [hb.block b (by omega)]; exact h b hl hne
def MkI (K n : Nat) (ys : List Value) : Prop := ∀ i, i < n -> ys[i * 3]? = some (.int .i64 ((K + 3 * i : Nat) : Int)) /\ ys[i * 3 + 1]? = some (.string (mt (K + 3 * i + 1))) /\ ys[i * 3 + 2]? = some (.int .i64 ((K + 3 * i + 2 : Nat) : Int))
theorem mkI_set {K k : Nat} {ys : List Value} (h : MkI K k ys) (hx : k * 3 + 2 < ys.length) :
    MkI K (k + 1) (((ys.set (k * 3) (.int .i64 ((K + 3 * k : Nat) : Int))).set (k * 3 + 1) (.string (mt (K + 3 * k + 1)))).set (k * 3 + 2) (.int .i64 ((K + 3 * k + 2 : Nat) : Int))) := by
  intro i hi
  rcases Nat.lt_or_ge i k with hl | hl
  · obtain ⟨h1, h2, h3⟩ := h i hl
    simp only [List.getElem?_set]
    rw [if_neg (by omega), if_neg (by omega), if_neg (by omega), if_neg (by omega), if_neg (by omega), if_neg (by omega), if_neg (by omega), if_neg (by omega), if_neg (by omega)]
    exact ⟨h1, h2, h3⟩
  · obtain rfl : i = k := by omega
    refine ⟨?_, ?_, ?_⟩ <;> simp [List.getElem?_set] <;> omega
theorem markInsS_any (B g n cap K : Nat) (xs : List Value) (w : World) (hown : w.ownsRow B 209 3 (.slice (some ⟨g, 0, none⟩) n cap) n xs) (hB : B <= w.heap.size) (hn : n <= 1048576) (h1 : 1 <= K) (h2 : K <= 900000000000000) :
    Calls Tryz.prog 138 #[.slice (some ⟨g, 0, none⟩) n cap, .int .i64 K] w fun e w' => e = .returned (.int .i64 ((K + 3 * n : Nat) : Int)) /\ Below B w w' /\ KeepB g w w' /\ ∃ ys, w'.ownsRow B 209 3 (.slice (some ⟨g, 0, none⟩) n cap) n ys /\ MkI K n ys := by
  have hBg : B <= g := (hown.lt g rfl).1
  go_enter Tryz.func138, Tryz.ntmps138
  go_wp2
  go_loopw [1, 5] (fun k i wr => ∃ (m : Nat) (ys : List Value), m <= n /\ i = .int .i64 m /\ k = .int .i64 ((K + 3 * m : Nat) : Int) /\ Hid (wr.ownsRow B 209 3 (.slice (some ⟨g, 0, none⟩) n cap) n ys) /\ Hid (MkI K m ys) /\ Hid (KeepB g w wr) /\ w.heap.size <= wr.heap.size /\ Below B w wr) (fun _ i _ => n - (intOf i).toNat)
  case atStart => exact ⟨0, xs, Nat.zero_le _, rfl, rfl, hown, (fun i hi => by omega : MkI K 0 xs), (fun b _ _ => rfl : KeepB g w w), Nat.le_refl _, Below.refl _ _⟩
  case round =>
    obtain ⟨m, ys, hm, rfl, rfl, HO, HM, HK, hsz, hbr⟩ := hrel
    clear hown
    by_cases hlt : m < n
    · have hlx : m * 3 + 2 < ys.length := by rw [HO.out.1]; omega
      have HM2 : Hid (MkI K (m + 1) (((ys.set (m * 3) (.int .i64 ((K + 3 * m : Nat) : Int))).set (m * 3 + 1) (.string (mt (K + 3 * m + 1)))).set (m * 3 + 2) (.int .i64 ((K + 3 * m + 2 : Nat) : Int)))) := mkI_set HM.out hlx
      have hKb : K + 3 * m + 1 < 1000000000000000 := by omega
      have HT : Hid (∀ W : World, Calls Tryz.prog 95 #[.int .i64 ((K + 3 * m + 1 : Nat) : Int)] W fun e w' => Below W.heap.size W w' /\ e = .returned (.string (mt (K + 3 * m + 1)))) := fun W => markText_any (K + 3 * m + 1) W (by omega) hKb
      generalize mt (K + 3 * m + 1) = t at *
      obtain ⟨c, ec⟩ : ∃ c, K + 3 * m = c := ⟨_, rfl⟩
      rw [ec] at HM2 HT hKb ⊢
      have HE : Hid (K + 3 * m = c) := ec
      clear ec
      obtain ⟨o1, d1⟩ := cell_of_length3 HO.out (j := m * 3) (by omega)
      have hfr := HO.out.frozenAt
      have hown1 := (HO.out.stored (m * 3) (.int .i64 (c : Int))).1
      have hmI : (m : Int) < (n : Int) := by omega
      go_wp2_with fail
      refine (HT.out _).mono ?_
      rintro e w2 ⟨hb2, rfl⟩
      have hown2 := ownsRow_below hown1 hb2
      have hbw : Below B w w2 := (hbr.setCell (p := ⟨g, m * 3, none⟩) hBg _).trans (hb2.mono (by simp; omega))
      have hfr2 := hown2.frozenAt
      obtain ⟨o2, d2⟩ := cell_of_length3 hown2 (j := m * 3 + 1) (by omega)
      obtain ⟨o3, d3⟩ := cell_of_length3 hown2 (j := m * 3 + 2) (by omega)
      have HO2 : Hid (w2.ownsRow B 209 3 (.slice (some ⟨g, 0, none⟩) n cap) n (ys.set (m * 3) (.int .i64 (c : Int)))) := hown2
      have HK2 : Hid (KeepB g w w2) := (HK.out.set (m * 3) (.int .i64 (c : Int))).below (by simpa using hsz) hb2
      have hs2 : w.heap.size <= w2.heap.size := by have := hb2.size; simp at this; omega
      clear hown1 hown2 hb2 hfr d1 hbr
      go_wp2
      go_roundw
      case rel => exact ⟨m + 1, _, by omega, by go_num, congrArg (Value.int .i64) (by have := HE.out; omega), ((HO2.out.stored _ _).1.stored _ _).1, HM2.out, (HK2.out.set _ _).set _ _, by simpa using hs2, (hbw.setCell (p := ⟨g, m * 3 + 1, none⟩) hBg _).setCell (p := ⟨g, m * 3 + 2, none⟩) hBg _⟩
      case measure => simp [intOf]; omega
    · have em : m = n := by omega
      subst em
      go_wp2
      go_ret
      exact ⟨rfl, hbr, HK.out, ys, HO.out, HM.out⟩
def mb (k : Nat) : Bool := decide (k % 3 = 0)
def MkG (K n : Nat) (ys : List Value) : Prop := ∀ i, i < n -> ys[i * 3]? = some (.string (mt (K + 3 * i))) /\ ys[i * 3 + 1]? = some (.bool (mb (K + 3 * i + 1))) /\ ys[i * 3 + 2]? = some (.string (mt (K + 3 * i + 2)))
theorem mkG_set {K k : Nat} {ys : List Value} (h : MkG K k ys) (hx : k * 3 + 2 < ys.length) :
    MkG K (k + 1) (((ys.set (k * 3) (.string (mt (K + 3 * k)))).set (k * 3 + 1) (.bool (mb (K + 3 * k + 1)))).set (k * 3 + 2) (.string (mt (K + 3 * k + 2)))) := by
  intro i hi
  rcases Nat.lt_or_ge i k with hl | hl
  · obtain ⟨h1, h2, h3⟩ := h i hl
    simp only [List.getElem?_set]
    rw [if_neg (by omega), if_neg (by omega), if_neg (by omega), if_neg (by omega), if_neg (by omega), if_neg (by omega), if_neg (by omega), if_neg (by omega), if_neg (by omega)]
    exact ⟨h1, h2, h3⟩
  · obtain rfl : i = k := by omega
    refine ⟨?_, ?_, ?_⟩ <;> simp [List.getElem?_set] <;> omega
theorem rem3 (c : Nat) : (((c : Int) + 1) % 3 == 0) = mb (c + 1) := by
  unfold mb
  rw [Bool.eq_iff_iff]
  simp
  omega
theorem cell_of_length1 {w : World} {B g n cap j T : Nat} {xs : List Value} (h : w.ownsRow B T 1 (.slice (some ⟨g, 0, none⟩) n cap) n xs) (hj : j < n) : ∃ v, w.cell? ⟨g, j, none⟩ = some v := by
  have hl := h.1
  exact ⟨xs[j]'(by omega), by rw [h.cellAt j (by omega)]; exact List.getElem?_eq_getElem _⟩
def RdG (K n : Nat) (w : World) (g : Nat) : Prop := ∀ i, i < n -> w.cell? ⟨g, i * 3, none⟩ = some (.string (mt (K + 3 * i))) /\ w.cell? ⟨g, i * 3 + 1, none⟩ = some (.bool (mb (K + 3 * i + 1))) /\ w.cell? ⟨g, i * 3 + 2, none⟩ = some (.string (mt (K + 3 * i + 2)))
theorem MkG.read {w : World} {B g n cap K T : Nat} {ys : List Value} (h : w.ownsRow B T 3 (.slice (some ⟨g, 0, none⟩) n cap) n ys) (hm : MkG K n ys) : RdG K n w g := by
  intro i hi
  obtain ⟨h1, h2, h3⟩ := hm i hi
  exact ⟨by rw [h.cellAt _ (by omega)]; exact h1, by rw [h.cellAt _ (by omega)]; exact h2, by rw [h.cellAt _ (by omega)]; exact h3⟩
theorem RdG.below {w w' : World} {g n K : Nat} (h : RdG K n w g) (hb : Below w.heap.size w w') : RdG K n w' g := fun i hi =>
  ⟨cell_below hb (h i hi).1, cell_below hb (h i hi).2.1, cell_below hb (h i hi).2.2⟩
def KeepO (ob : Option Nat) (w w' : World) : Prop := ∀ b, b < w.heap.size -> some b ≠ ob -> w'.heap[b]? = w.heap[b]?
theorem KeepO.after {ob : Option Nat} {w w1 w' : World} (h : KeepO ob w1 w') (hb : Below w.heap.size w w1) : KeepO ob w w' := fun b hl hne => by
  rw [h b (Nat.lt_of_lt_of_le hl hb.size) hne]; exact hb.block b hl
theorem own_keep {w w' : World} {B e sz n : Nat} {v : Value} {xs : List Value} {ob : Option Nat} (h : w.ownsRow B e sz v n xs) (hk : KeepO ob w w') (hne : ∀ b, v.ownBlock = some b -> some b ≠ ob) : w'.ownsRow B e sz v n xs := by
  refine ⟨h.1, ?_⟩
  rcases h.2 with h2 | ⟨g, cap, cur, hv, hg, hh, r⟩
  · exact Or.inl h2
  · refine Or.inr ⟨g, cap, cur, hv, hg, ?_, r⟩
    subst hv
    rw [hk g (h.lt g rfl).2 (hne g rfl)]; exact hh
theorem qown_set {w : World} {B e sz n g cap : Nat} {xs : List Value} (h : w.ownsRow B e sz (.slice (some ⟨g, 0, none⟩) n cap) n xs) {b j : Nat} (hb : b ≠ g) (v : Value) : (w.setCell ⟨b, j, none⟩ v).ownsRow B e sz (.slice (some ⟨g, 0, none⟩) n cap) n xs := by
  refine ⟨h.1, ?_⟩
  rcases h.2 with ⟨h2, _⟩ | ⟨g', cap, cur, hv, hg, hh, r⟩
  · cases h2
  · cases hv
    refine Or.inr ⟨g, cap, cur, rfl, hg, ?_, r⟩
    rw [Below.heap_setCell w ⟨b, j, none⟩ v g (fun e => hb e.symm)]; exact hh
theorem qown_base {w : World} {B B' e sz n : Nat} {v : Value} {xs : List Value} (h : w.ownsRow B e sz v n xs) (hB : B' <= B) : w.ownsRow B' e sz v n xs := by
  refine ⟨h.1, ?_⟩
  rcases h.2 with h | ⟨g, cap, cur, hv, hg, r⟩
  · exact Or.inl h
  · exact Or.inr ⟨g, cap, cur, hv, Nat.le_trans hB hg, r⟩
theorem qown_cases {w : World} {B e sz n : Nat} {v : Value} {xs : List Value} (h : w.ownsRow B e sz v n xs) : (v = .slice none 0 0 /\ n = 0) \/ ∃ g cap, v = .slice (some ⟨g, 0, none⟩) n cap := by
  rcases h.2 with h | ⟨g, cap, cur, hv, hg, r⟩
  · exact Or.inl h
  · exact Or.inr ⟨g, cap, hv⟩
theorem toInsS_own (a : Option Addr) (cap : Nat) (is : List I3) (w : World) (hc : Row3 w a is) (hl : is.length <= 1048576) :
    Calls Tryz.prog 119 #[.slice a is.length cap] w fun e w' => Below w.heap.size w w' /\ ∃ g : Nat, e = .returned (.slice (some ⟨g, 0, none⟩) is.length is.length) /\ ∃ xs, w'.ownsRow w.heap.size 209 3 (.slice (some ⟨g, 0, none⟩) is.length is.length) is.length xs /\ Filled3 is is.length xs := by
  obtain ⟨z0, hi, hz0, hz1, hz2⟩ := info_parts Tryz.info209
  go_enter Tryz.func119, Tryz.ntmps119
  go_wp2_with (first | (at_make; refine wpList_make_full _ rfl (.tmp 6) (.tmp 6) 58 rfl w.heap.size 209 z0 (.agg #[.int .i64 0, .string ByteArray.empty, .int .i64 0]) 3 Tryz.underlying58 hi hz0 hz1 .i64 .i64 _ _ is.length rfl rfl rfl rfl (by rw [hz2]; omega) (by unfold maxLen; omega) (Nat.le_refl _) ?_; intro w1 hown hgrow))
  have hbel1 : Below w.heap.size w w1 := (Below.refl _ _).grown hgrow (Nat.le_refl _) (by simp)
  clear hgrow
  go_loopw [4] (fun i wr => ∃ k : Nat, ∃ xs : List Value, k <= is.length /\ i = .int .i64 k /\ wr.ownsRow w.heap.size 209 3 (.slice (some ⟨w.heap.size, 0, none⟩) is.length is.length) is.length xs /\ Filled3 is k xs /\ Below w.heap.size w wr) (fun i _ => is.length - (intOf i).toNat)
  case atStart => exact ⟨0, _, Nat.zero_le _, rfl, hown, fun i hi => by omega, hbel1⟩
  case round =>
    obtain ⟨k, xs, hk, rfl, hown, hfi, hbel⟩ := hrel
    by_cases hlt : k < is.length
    · obtain ⟨b, off, rfl, c1, c2, c3⟩ := (hc.below hbel) k hlt
      have hf2 := filled3_set hfi (show k * 3 + 2 < xs.length by rw [hown.1]; omega)
      generalize ix is k = i at *
      clear hbel1 hc hfi
      go_wp2_with fail
      refine (toIns_any i _).mono ?_
      rintro e w2 ⟨hb2, rfl⟩
      have hown2 := ownsRow_below hown hb2
      have hbw : Below w.heap.size w w2 := hbel.trans (hb2.mono hbel.size)
      have hfr := hown2.frozenAt
      obtain ⟨o1, d1⟩ := cell_of_length hown2 (j := k * 3) (by omega)
      obtain ⟨o2, d2⟩ := cell_of_length hown2 (j := k * 3 + 1) (by omega)
      obtain ⟨o3, d3⟩ := cell_of_length hown2 (j := k * 3 + 2) (by omega)
      have HO : Hid (w2.ownsRow w.heap.size 209 3 (.slice (some ⟨w.heap.size, 0, none⟩) is.length is.length) is.length xs) := hown2
      clear hown hown2 hb2 hbel
      go_wp2
      go_roundw
      case rel => exact ⟨k + 1, _, by omega, by go_num, (((HO.out.stored _ _).1.stored _ _).1.stored _ _).1, hf2, ((hbw.setCell (Nat.le_refl _) _).setCell (Nat.le_refl _) _).setCell (Nat.le_refl _) _⟩
      case measure => simp [intOf]; omega
    · have ek : k = is.length := by omega
      subst ek
      go_wp2
      go_ret
      exact ⟨hbel, _, rfl, _, hown, hfi⟩
theorem toProgram_own (a : Option Addr) (cap : Nat) (is : List I3) (w : World) (hc : Row3 w a is) (hl : is.length <= 1048576) :
    Calls Tryz.prog 62 #[.agg #[.slice a is.length cap]] w fun e w' => Below w.heap.size w w' /\ ∃ g : Nat, e = .returned (.agg #[.slice (some ⟨g, 0, none⟩) is.length is.length]) /\ ∃ xs, w'.ownsRow w.heap.size 209 3 (.slice (some ⟨g, 0, none⟩) is.length is.length) is.length xs /\ Filled3 is is.length xs := by
  go_enter Tryz.func62, Tryz.ntmps62
  go_wp2_with fail
  have hb0 : Below w.heap.size w (((w.alloc (.cells #[.slice a is.length cap] 47)).alloc (.cells #[.slice none 0 0] 60)).alloc (.cells #[.slice none 0 0] 60)) := (((Below.refl _ _).alloc (Nat.le_refl _) _).alloc (by simp) _).alloc (by simp; omega) _
  refine (toInsS_own a cap is _ (hc.below hb0) hl).mono ?_
  rintro e w1 ⟨hb1, g, rfl, xs, hr, hf⟩
  have hg := (hr.lt g rfl).1
  simp at hg
  have hb : Below w.heap.size w w1 := hb0.trans (hb1.mono hb0.size)
  have hz := hb1.size
  simp at hz
  have c1 : w1.cell? ⟨w.heap.size + 1, 0, none⟩ = some (.slice none 0 0) := cell_below hb1 (by simp [go_sem])
  have c2 : w1.cell? ⟨w.heap.size + 1 + 1, 0, none⟩ = some (.slice none 0 0) := cell_below hb1 (by simp [go_sem])
  have f1 : w1.frozen? ⟨w.heap.size + 1, 0, none⟩ = false := by rw [hb1.frozen (p := ⟨w.heap.size + 1, 0, none⟩) (by simp)]; simp [go_sem]
  have f2 : w1.frozen? ⟨w.heap.size + 1 + 1, 0, none⟩ = false := by rw [hb1.frozen (p := ⟨w.heap.size + 1 + 1, 0, none⟩) (by simp)]; simp [go_sem]
  clear hb0 hb1
  go_wp2
  exact bodyPost_ret (v := .agg #[.slice (some ⟨g, 0, none⟩) is.length is.length]) (by simp [results, Tryz.results62, go_sem, c1]) rfl ⟨setCell_below (setCell_below hb (by omega) _) (by omega) _, g, rfl, xs, qown_set (qown_set (qown_base hr (by simp; omega)) (by omega) _) (by omega) _, hf⟩
theorem markInsS_nil (K : Nat) (w : World) (h2 : K <= 900000000000000) :
    Calls Tryz.prog 138 #[.slice none 0 0, .int .i64 K] w fun e w' => e = .returned (.int .i64 (K : Int)) /\ w = w' := by
  go_enter Tryz.func138, Tryz.ntmps138
  go_wp2
  go_loopw [1, 5] (fun k i wr => i = .int .i64 0 /\ k = .int .i64 (K : Int) /\ w = wr) (fun _ i _ => 0)
  case atStart => exact ⟨rfl, rfl, rfl⟩
  case round =>
    obtain ⟨rfl, rfl, rfl⟩ := hrel
    go_wp2
    go_ret
    exact ⟨rfl, rfl⟩
theorem markInsS_own (B n K : Nat) (v : Value) (xs : List Value) (w : World) (hown : w.ownsRow B 209 3 v n xs) (hB : B <= w.heap.size) (hn : n <= 1048576) (h1 : 1 <= K) (h2 : K <= 900000000000000) :
    Calls Tryz.prog 138 #[v, .int .i64 K] w fun e w' => e = .returned (.int .i64 ((K + 3 * n : Nat) : Int)) /\ Below B w w' /\ KeepO v.ownBlock w w' /\ ∃ ys, w'.ownsRow B 209 3 v n ys /\ MkI K n ys := by
  rcases qown_cases hown with ⟨rfl, rfl⟩ | ⟨g, cap, rfl⟩
  · refine (markInsS_nil K w h2).mono ?_
    rintro e w' ⟨rfl, rfl⟩
    exact ⟨rfl, Below.refl _ _, fun _ _ _ => rfl, xs, hown, fun i hi => by omega⟩
  · refine (markInsS_any B g n cap K xs w hown hB hn h1 h2).mono ?_
    rintro e w' ⟨he, hb, hk, ys, ho, hm⟩
    exact ⟨he, hb, fun b hl hne => hk b hl (fun e => hne (by subst e; rfl)), ys, ho, hm⟩
theorem markStringS_nil (K : Nat) (w : World) (h2 : K <= 900000000000000) :
    Calls Tryz.prog 79 #[.slice none 0 0, .int .i64 K] w fun e w' => e = .returned (.int .i64 (K : Int)) /\ w = w' := by
  go_enter Tryz.func79, Tryz.ntmps79
  go_wp2
  go_loopw [1, 5] (fun k i wr => i = .int .i64 0 /\ k = .int .i64 (K : Int) /\ w = wr) (fun _ i _ => 0)
  case atStart => exact ⟨rfl, rfl, rfl⟩
  case round =>
    obtain ⟨rfl, rfl, rfl⟩ := hrel
    go_wp2
    go_ret
    exact ⟨rfl, rfl⟩
end Go.Proofs.YtmeojnaoljgieaeGreatDoor
