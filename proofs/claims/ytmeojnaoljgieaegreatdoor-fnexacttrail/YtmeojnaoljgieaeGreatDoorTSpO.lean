import Derived.Test.YtmeojnaoljgieaeGreatDoorTChkA
import Derived.Test.YtmeojnaoljgieaeGreatDoorTMkO
namespace Go.Proofs.YtmeojnaoljgieaeGreatDoor
open Go.RowKit
set_option linter.unusedVariables false
set_option maxHeartbeats 8000000
set_option maxRecDepth 100000
def KeepR (lo hi : Nat) (w w' : World) : Prop := ∀ b, b < w.heap.size -> (b < lo \/ hi <= b) -> w'.heap[b]? = w.heap[b]?
theorem KeepR.trans {lo hi : Nat} {a b c : World} (h : KeepR lo hi a b) (hs : a.heap.size <= b.heap.size) (k : KeepR lo hi b c) : KeepR lo hi a c := fun i hi hr => (k i (by omega) hr).trans (h i hi hr)
theorem KeepR.of_below {lo hi : Nat} {w w' : World} (h : Below w.heap.size w w') : KeepR lo hi w w' := fun b hb _ => h.block b hb
theorem KeepO.keepR {lo hi : Nat} {ob : Option Nat} {w w' : World} (h : KeepO ob w w') (hin : ∀ b, ob = some b -> lo <= b /\ b < hi) : KeepR lo hi w w' := fun b hb hr => h b hb (fun e => by have := hin b e.symm; omega)
theorem KeepR.set {lo hi : Nat} {w : World} {g : Nat} (h1 : lo <= g) (h2 : g < hi) (j : Nat) (v : Value) : KeepR lo hi w (w.setCell ⟨g, j, none⟩ v) := fun b hb hr => Below.heap_setCell w ⟨g, j, none⟩ v b (by show b ≠ g; omega)
structure RowO (w : World) (lo hi e sz : Nat) (v : Value) (n : Nat) (xs : List Value) : Prop where
  own : w.ownsRow lo e sz v n xs
  top : ∀ b, v.ownBlock = some b -> b < hi
theorem qown_same {w w' : World} {B e sz n : Nat} {v : Value} {xs : List Value} (h : w.ownsRow B e sz v n xs) (hk : ∀ b, v.ownBlock = some b -> w'.heap[b]? = w.heap[b]?) : w'.ownsRow B e sz v n xs := by
  refine ⟨h.1, ?_⟩
  rcases h.2 with h2 | ⟨g, cap, cur, hv, hg, hh, r⟩
  · exact Or.inl h2
  · refine Or.inr ⟨g, cap, cur, hv, hg, ?_, r⟩
    subst hv
    rw [hk g rfl]; exact hh
theorem RowO.same {w w' : World} {lo hi e sz n : Nat} {v : Value} {xs : List Value} (h : RowO w lo hi e sz v n xs) (hk : ∀ b, v.ownBlock = some b -> w'.heap[b]? = w.heap[b]?) : RowO w' lo hi e sz v n xs := ⟨qown_same h.own hk, h.top⟩
theorem RowO.below {w w' : World} {lo hi e sz n : Nat} {v : Value} {xs : List Value} (h : RowO w lo hi e sz v n xs) (hb : Below w.heap.size w w') : RowO w' lo hi e sz v n xs := h.same fun b e => hb.block b (h.own.lt b e).2
theorem RowO.keep {w w' : World} {lo hi lo' hi' e sz n : Nat} {v : Value} {xs : List Value} (h : RowO w lo hi e sz v n xs) (hk : KeepR lo' hi' w w') (hd : hi <= lo' \/ hi' <= lo) : RowO w' lo hi e sz v n xs := h.same fun b e => hk b (h.own.lt b e).2 (by have h1 := (h.own.lt b e).1; have h2 := h.top b e; omega)
theorem RowO.wide {w : World} {lo hi lo' hi' e sz n : Nat} {v : Value} {xs : List Value} (h : RowO w lo hi e sz v n xs) (h1 : lo' <= lo) (h2 : hi <= hi') : RowO w lo' hi' e sz v n xs := ⟨qown_base h.own h1, fun b e => by have := h.top b e; omega⟩
theorem RowO.new {w : World} {lo e sz n : Nat} {v : Value} {xs : List Value} (h : w.ownsRow lo e sz v n xs) : RowO w lo w.heap.size e sz v n xs := ⟨h, fun b e => (h.lt b e).2⟩
theorem neT {w : World} {B B' e e' sz sz' n n' : Nat} {v v' : Value} {xs xs' : List Value} (h : w.ownsRow B e sz v n xs) (h' : w.ownsRow B' e' sz' v' n' xs') (hne : e ≠ e') : ∀ b, v.ownBlock = some b -> v'.ownBlock ≠ some b := by
  intro b hb eb
  rcases h.2 with ⟨rfl, _⟩ | ⟨g, cap, cur, rfl, hg, hh, _⟩
  · simp [Value.ownBlock] at hb
  · rcases h'.2 with ⟨rfl, _⟩ | ⟨g', cap', cur', rfl, hg', hh', _⟩
    · simp [Value.ownBlock] at eb
    · simp only [Value.ownBlock, Option.some.injEq] at hb eb
      subst hb
      rw [eb] at hh'
      rw [hh] at hh'
      simp at hh'
      exact hne hh'.2
def OwnS (w : World) (lo hi : Nat) (v : Value) (ss : List S2) : Prop := ∃ xs, RowO w lo hi 144 2 v ss.length xs /\ FilledS ss ss.length xs
theorem OwnS.below {w w' : World} {lo hi : Nat} {v : Value} {ss : List S2} (h : OwnS w lo hi v ss) (hb : Below w.heap.size w w') : OwnS w' lo hi v ss := by
  obtain ⟨xs, h1, h2⟩ := h; exact ⟨xs, h1.below hb, h2⟩
theorem OwnS.keep {w w' : World} {lo hi lo' hi' : Nat} {v : Value} {ss : List S2} (h : OwnS w lo hi v ss) (hk : KeepR lo' hi' w w') (hd : hi <= lo' \/ hi' <= lo) : OwnS w' lo hi v ss := by
  obtain ⟨xs, h1, h2⟩ := h; exact ⟨xs, h1.keep hk hd, h2⟩
theorem OwnS.wide {w : World} {lo hi lo' hi' : Nat} {v : Value} {ss : List S2} (h : OwnS w lo hi v ss) (h1 : lo' <= lo) (h2 : hi <= hi') : OwnS w lo' hi' v ss := by
  obtain ⟨xs, k1, k2⟩ := h; exact ⟨xs, k1.wide h1 h2, k2⟩
theorem OwnS.sl {w : World} {lo hi : Nat} {v : Value} {ss : List S2} (h : OwnS w lo hi v ss) : ∃ a cap, v = .slice a ss.length cap /\ RowS w a ss := by
  obtain ⟨xs, h1, h2⟩ := h
  rcases qown_cases h1.own with ⟨rfl, h0⟩ | ⟨g, cap, rfl⟩
  · exact ⟨none, 0, by rw [h0], fun i hi => by omega⟩
  · exact ⟨_, cap, rfl, rowS_own rfl h1.own h2⟩
structure OwnT1 (w : World) (lo hi : Nat) (v : Value) (ts : List T2) (xs : List Value) (cv : Nat -> Value) : Prop where
  row : RowO w lo hi 148 2 v ts.length xs
  fil : ∀ i, i < ts.length -> xs[i * 2]? = some (.string (tx ts i).name) /\ xs[i * 2 + 1]? = some (cv i)
  code : ∀ i, i < ts.length -> ∃ ys, RowO w lo hi 209 3 (cv i) (tx ts i).code.length ys /\ Filled3 (tx ts i).code (tx ts i).code.length ys
  apart : ∀ i j, i < j -> j < ts.length -> ∀ b, (cv i).ownBlock = some b -> (cv j).ownBlock ≠ some b
def OwnT (w : World) (lo hi : Nat) (v : Value) (ts : List T2) : Prop := ∃ xs cv, OwnT1 w lo hi v ts xs cv
theorem OwnT1.below {w w' : World} {lo hi : Nat} {v : Value} {ts : List T2} {xs : List Value} {cv : Nat -> Value} (h : OwnT1 w lo hi v ts xs cv) (hb : Below w.heap.size w w') : OwnT1 w' lo hi v ts xs cv :=
  ⟨h.row.below hb, h.fil, fun i hi => by obtain ⟨ys, h1, h2⟩ := h.code i hi; exact ⟨ys, h1.below hb, h2⟩, h.apart⟩
theorem OwnT1.keep {w w' : World} {lo hi lo' hi' : Nat} {v : Value} {ts : List T2} {xs : List Value} {cv : Nat -> Value} (h : OwnT1 w lo hi v ts xs cv) (hk : KeepR lo' hi' w w') (hd : hi <= lo' \/ hi' <= lo) : OwnT1 w' lo hi v ts xs cv :=
  ⟨h.row.keep hk hd, h.fil, fun i hi => by obtain ⟨ys, h1, h2⟩ := h.code i hi; exact ⟨ys, h1.keep hk hd, h2⟩, h.apart⟩
theorem OwnT1.wide {w : World} {lo hi lo' hi' : Nat} {v : Value} {ts : List T2} {xs : List Value} {cv : Nat -> Value} (h : OwnT1 w lo hi v ts xs cv) (h1 : lo' <= lo) (h2 : hi <= hi') : OwnT1 w lo' hi' v ts xs cv :=
  ⟨h.row.wide h1 h2, h.fil, fun i hi => by obtain ⟨ys, k1, k2⟩ := h.code i hi; exact ⟨ys, k1.wide h1 h2, k2⟩, h.apart⟩
theorem OwnT.below {w w' : World} {lo hi : Nat} {v : Value} {ts : List T2} (h : OwnT w lo hi v ts) (hb : Below w.heap.size w w') : OwnT w' lo hi v ts := by
  obtain ⟨xs, cv, h⟩ := h; exact ⟨xs, cv, h.below hb⟩
theorem OwnT.keep {w w' : World} {lo hi lo' hi' : Nat} {v : Value} {ts : List T2} (h : OwnT w lo hi v ts) (hk : KeepR lo' hi' w w') (hd : hi <= lo' \/ hi' <= lo) : OwnT w' lo hi v ts := by
  obtain ⟨xs, cv, h⟩ := h; exact ⟨xs, cv, h.keep hk hd⟩
theorem OwnT.wide {w : World} {lo hi lo' hi' : Nat} {v : Value} {ts : List T2} (h : OwnT w lo hi v ts) (h1 : lo' <= lo) (h2 : hi <= hi') : OwnT w lo' hi' v ts := by
  obtain ⟨xs, cv, h⟩ := h; exact ⟨xs, cv, h.wide h1 h2⟩
theorem row3_RowO {w : World} {lo hi : Nat} {v : Value} {is : List I3} {ys : List Value} (h : RowO w lo hi 209 3 v is.length ys) (hf : Filled3 is is.length ys) : ∃ a cap, v = .slice a is.length cap /\ Row3 w a is := by
  rcases qown_cases h.own with ⟨rfl, h0⟩ | ⟨g, cap, rfl⟩
  · exact ⟨none, 0, by rw [h0], fun i hi => by omega⟩
  · refine ⟨_, cap, rfl, fun i hi => ?_⟩
    obtain ⟨h1, h2, h3⟩ := hf i hi
    refine ⟨g, 0, rfl, ?_, ?_, ?_⟩
    · rw [Nat.zero_add, h.own.cellAt _ (by omega)]; exact h1
    · rw [Nat.zero_add, h.own.cellAt _ (by omega)]; exact h2
    · rw [Nat.zero_add, h.own.cellAt _ (by omega)]; exact h3
theorem OwnT.sl {w : World} {lo hi : Nat} {v : Value} {ts : List T2} (h : OwnT w lo hi v ts) : ∃ a cap, v = .slice a ts.length cap /\ RowT w a ts := by
  obtain ⟨xs, cv, h⟩ := h
  rcases qown_cases h.row.own with ⟨rfl, h0⟩ | ⟨g, cap, rfl⟩
  · exact ⟨none, 0, by rw [h0], fun i hi => by omega⟩
  · refine ⟨_, cap, rfl, fun i hi => ?_⟩
    obtain ⟨h1, h2⟩ := h.fil i hi
    obtain ⟨ys, k1, k2⟩ := h.code i hi
    obtain ⟨a', cap', e, r⟩ := row3_RowO k1 k2
    refine ⟨g, 0, rfl, ?_, a', cap', ?_, r⟩
    · rw [Nat.zero_add, h.row.own.cellAt _ (by omega)]; exact h1
    · rw [Nat.zero_add, h.row.own.cellAt _ (by omega), h2, e]
theorem OwnS.set {w : World} {lo hi b j : Nat} {v : Value} {ss : List S2} (h : OwnS w lo hi v ss) (hb : b < lo) (u : Value) : OwnS (w.setCell ⟨b, j, none⟩ u) lo hi v ss := h.keep (KeepR.set (lo := b) (hi := b + 1) (Nat.le_refl _) (Nat.lt_succ_self _) j u) (Or.inr hb)
theorem OwnT.set {w : World} {lo hi b j : Nat} {v : Value} {ts : List T2} (h : OwnT w lo hi v ts) (hb : b < lo) (u : Value) : OwnT (w.setCell ⟨b, j, none⟩ u) lo hi v ts := h.keep (KeepR.set (lo := b) (hi := b + 1) (Nat.le_refl _) (Nat.lt_succ_self _) j u) (Or.inr hb)
structure PartT (w : World) (lo : Nat) (is : List T2) (k : Nat) (xs : List Value) (cv : Nat -> Value) : Prop where
  fil : ∀ i, i < k -> xs[i * 2]? = some (.string (tx is i).name) /\ xs[i * 2 + 1]? = some (cv i)
  code : ∀ i, i < k -> ∃ ys, w.ownsRow lo 209 3 (cv i) (tx is i).code.length ys /\ Filled3 (tx is i).code (tx is i).code.length ys
  apart : ∀ i j, i < j -> j < k -> ∀ b, (cv i).ownBlock = some b -> (cv j).ownBlock ≠ some b
theorem PartT.same {w w' : World} {lo : Nat} {is : List T2} {k : Nat} {xs : List Value} {cv : Nat -> Value} (h : PartT w lo is k xs cv) (hk : ∀ b, lo <= b -> b < w.heap.size -> w'.heap[b]? = w.heap[b]?) : PartT w' lo is k xs cv :=
  ⟨h.fil, fun i hi => by
    obtain ⟨ys, h1, h2⟩ := h.code i hi
    exact ⟨ys, qown_same h1 (fun b e => hk b (h1.lt b e).1 (h1.lt b e).2), h2⟩, h.apart⟩
theorem PartT.set {w : World} {lo b j : Nat} {is : List T2} {k : Nat} {xs : List Value} {cv : Nat -> Value} (h : PartT w lo is k xs cv) (hb : b < lo) (u : Value) : PartT (w.setCell ⟨b, j, none⟩ u) lo is k xs cv := h.same fun c hc _ => Below.heap_setCell w ⟨b, j, none⟩ u c (by show c ≠ b; omega)
theorem PartT.zero (w : World) (lo : Nat) (is : List T2) (xs : List Value) : PartT w lo is 0 xs (fun _ => .slice none 0 0) := ⟨fun i hi => by omega, fun i hi => by omega, fun i j _ hj => by omega⟩
theorem PartT.add {w w2 : World} {lo : Nat} {is : List T2} {k : Nat} {xs xs2 : List Value} {cv : Nat -> Value} (h : PartT w lo is k xs cv) (hb : Below w.heap.size w w2) (hl : lo <= w.heap.size) {c : Value} {ys : List Value} (ho : w2.ownsRow w.heap.size 209 3 c (tx is k).code.length ys) (hf : Filled3 (tx is k).code (tx is k).code.length ys)
    (h1 : ∀ j, j < k * 2 -> xs2[j]? = xs[j]?) (h2 : xs2[k * 2]? = some (.string (tx is k).name)) (h3 : xs2[k * 2 + 1]? = some c) : PartT w2 lo is (k + 1) xs2 (fun i => if i = k then c else cv i) := by
  refine ⟨fun i hi => ?_, fun i hi => ?_, fun i j hij hj => ?_⟩
  · rcases Nat.lt_or_ge i k with hl | hl
    · obtain ⟨k1, k2⟩ := h.fil i hl
      rw [h1 _ (by omega), h1 _ (by omega), if_neg (by omega)]
      exact ⟨k1, k2⟩
    · obtain rfl : i = k := by omega
      rw [if_pos rfl]
      exact ⟨h2, h3⟩
  · rcases Nat.lt_or_ge i k with hlt | hge
    · obtain ⟨zs, k1, k2⟩ := h.code i hlt
      simp only [if_neg (show ¬ i = k by omega)]
      exact ⟨zs, qown_same k1 (fun b e => hb.block b (k1.lt b e).2), k2⟩
    · obtain rfl : i = k := by omega
      simp only [if_true]
      exact ⟨ys, qown_base ho hl, hf⟩
  · rcases Nat.lt_or_ge j k with hlt | hge
    · simp only [if_neg (show ¬ i = k by omega), if_neg (show ¬ j = k by omega)]
      exact h.apart i j hij hlt
    · obtain rfl : j = k := by omega
      simp only [if_neg (show ¬ i = j by omega), if_true]
      intro b e1 e2
      obtain ⟨zs, k1, _⟩ := h.code i hij
      have := (k1.lt b e1).2
      have := (ho.lt b e2).1
      omega
theorem PartT.own {w : World} {lo lo' hi : Nat} {v : Value} {is : List T2} {xs : List Value} {cv : Nat -> Value} (h : PartT w lo' is is.length xs cv) (hr : w.ownsRow lo 148 2 v is.length xs) (hl : lo <= lo') (hh : w.heap.size <= hi) : OwnT w lo hi v is :=
  ⟨xs, cv, ⟨hr, fun b e => by have := (hr.lt b e).2; omega⟩, h.fil, fun i hi => by
    obtain ⟨ys, h1, h2⟩ := h.code i hi
    exact ⟨ys, ⟨qown_base h1 hl, fun b e => by have := (h1.lt b e).2; omega⟩, h2⟩, h.apart⟩
theorem set2_old {xs : List Value} {k j : Nat} (u v : Value) (hj : j < k * 2) : ((xs.set (k * 2) u).set (k * 2 + 1) v)[j]? = xs[j]? := by
  simp only [List.getElem?_set]
  rw [if_neg (by omega), if_neg (by omega)]
theorem set2_0 {xs : List Value} {k : Nat} (u v : Value) (hx : k * 2 + 1 < xs.length) : ((xs.set (k * 2) u).set (k * 2 + 1) v)[k * 2]? = some u := by
  simp only [List.getElem?_set]
  rw [if_neg (by omega), if_pos trivial, if_pos (by omega)]
theorem set2_1 {xs : List Value} {k : Nat} (u v : Value) (hx : k * 2 + 1 < xs.length) : ((xs.set (k * 2) u).set (k * 2 + 1) v)[k * 2 + 1]? = some v := by
  simp only [List.getElem?_set]
  rw [if_pos trivial, if_pos (by simp; omega)]
/-! ### toSpace -/
theorem toSourceS_own (a : Option Addr) (cap : Nat) (is : List S2) (w : World) (hc : RowS w a is) (hl : is.length <= 1048576) :
    Calls Tryz.prog 73 #[.slice a is.length cap] w fun e w' => Below w.heap.size w w' /\ ∃ g : Nat, e = .returned (.slice (some ⟨g, 0, none⟩) is.length is.length) /\ ∃ xs, w'.ownsRow w.heap.size 144 2 (.slice (some ⟨g, 0, none⟩) is.length is.length) is.length xs /\ FilledS is is.length xs := by
  obtain ⟨z0, hi, hz0, hz1, hz2⟩ := info_parts Tryz.info144
  go_enter Tryz.func73, Tryz.ntmps73
  go_wp2_with (first | (at_make; refine wpList_make_full _ rfl (.tmp 6) (.tmp 6) 23 rfl w.heap.size 144 z0 (.agg #[.string ByteArray.empty, .string ByteArray.empty]) 2 Tryz.underlying23 hi hz0 hz1 .i64 .i64 _ _ is.length rfl rfl rfl rfl (by rw [hz2]; omega) (by unfold maxLen; omega) (Nat.le_refl _) ?_; intro w1 hown hgrow))
  have hbel1 : Below w.heap.size w w1 := (Below.refl _ _).grown hgrow (Nat.le_refl _) (by simp)
  clear hgrow
  go_loopw [4] (fun i wr => ∃ k : Nat, ∃ xs : List Value, k <= is.length /\ i = .int .i64 k /\ wr.ownsRow w.heap.size 144 2 (.slice (some ⟨w.heap.size, 0, none⟩) is.length is.length) is.length xs /\ FilledS is k xs /\ Below w.heap.size w wr) (fun i _ => is.length - (intOf i).toNat)
  case atStart => exact ⟨0, _, Nat.zero_le _, rfl, hown, fun i hi => by omega, hbel1⟩
  case round =>
    obtain ⟨k, xs, hk, rfl, hown, hfi, hbel⟩ := hrel
    by_cases hlt : k < is.length
    · obtain ⟨b, off, rfl, c1, c2⟩ := (hc.below hbel) k hlt
      have hf2 := filledS_set hfi (show k * 2 + 1 < xs.length by rw [hown.1]; omega)
      generalize sx is k = i at *
      clear hbel1 hc hfi
      go_wp2_with fail
      refine (toSource_any i _).mono ?_
      rintro e w2 ⟨hb2, rfl⟩
      have hown2 := ownsRow_below hown hb2
      have hbw : Below w.heap.size w w2 := hbel.trans (hb2.mono hbel.size)
      have hfr := hown2.frozenAt
      obtain ⟨o1, d1⟩ := cell_of_length2 hown2 (j := k * 2) (by omega)
      obtain ⟨o2, d2⟩ := cell_of_length2 hown2 (j := k * 2 + 1) (by omega)
      have HO : Hid (w2.ownsRow w.heap.size 144 2 (.slice (some ⟨w.heap.size, 0, none⟩) is.length is.length) is.length xs) := hown2
      clear hown hown2 hb2 hbel
      go_wp2
      go_roundw
      case rel => exact ⟨k + 1, _, by omega, by go_num, ((HO.out.stored _ _).1.stored _ _).1, hf2, (hbw.setCell (Nat.le_refl _) _).setCell (Nat.le_refl _) _⟩
      case measure => simp [intOf]; omega
    · have ek : k = is.length := by omega
      subst ek
      go_wp2
      go_ret
      exact ⟨hbel, _, rfl, _, hown, hfi⟩
theorem toTarget_own (n : ByteArray) (a : Option Addr) (cap : Nat) (is : List I3) (w : World) (hc : Row3 w a is) (hl : is.length <= 1048576) :
    Calls Tryz.prog 135 #[.agg #[.string n, .slice a is.length cap]] w fun e w' => Below w.heap.size w w' /\ ∃ g : Nat, e = .returned (.agg #[.string n, .slice (some ⟨g, 0, none⟩) is.length is.length]) /\ ∃ xs, w'.ownsRow w.heap.size 209 3 (.slice (some ⟨g, 0, none⟩) is.length is.length) is.length xs /\ Filled3 is is.length xs := by
  go_enter Tryz.func135, Tryz.ntmps135
  go_wp2_with fail
  have hb0 : Below w.heap.size w (((w.alloc (.cells #[.string n, .slice a is.length cap] 199)).alloc (.cells #[.string ⟨#[]⟩, .slice none 0 0] 148)).alloc (.cells #[.string n, .slice none 0 0] 148)) := (((Below.refl _ _).alloc (Nat.le_refl _) _).alloc (by simp) _).alloc (by simp; omega) _
  refine (toProgram_own a cap is _ (hc.below hb0) hl).mono ?_
  rintro e w1 ⟨hb1, g, rfl, xs, hr, hf⟩
  have hg := (hr.lt g rfl).1
  simp at hg
  have hb : Below w.heap.size w w1 := hb0.trans (hb1.mono hb0.size)
  have hz := hb1.size
  simp at hz
  have c10 : w1.cell? ⟨w.heap.size + 1, 0, none⟩ = some (.string ⟨#[]⟩) := cell_below hb1 (by simp [go_sem])
  have c11 : w1.cell? ⟨w.heap.size + 1, 1, none⟩ = some (.slice none 0 0) := cell_below hb1 (by simp [go_sem])
  have c20 : w1.cell? ⟨w.heap.size + 1 + 1, 0, none⟩ = some (.string n) := cell_below hb1 (by simp [go_sem])
  have c21 : w1.cell? ⟨w.heap.size + 1 + 1, 1, none⟩ = some (.slice none 0 0) := cell_below hb1 (by simp [go_sem])
  have f1 : ∀ j, w1.frozen? ⟨w.heap.size + 1, j, none⟩ = false := fun j => by rw [hb1.frozen (p := ⟨w.heap.size + 1, j, none⟩) (by simp)]; simp [go_sem]
  have f2 : ∀ j, w1.frozen? ⟨w.heap.size + 1 + 1, j, none⟩ = false := fun j => by rw [hb1.frozen (p := ⟨w.heap.size + 1 + 1, j, none⟩) (by simp)]; simp [go_sem]
  clear hb0 hb1
  go_wp2
  refine bodyPost_ret (v := .agg #[.string n, .slice (some ⟨g, 0, none⟩) is.length is.length]) (by simp [results, Tryz.results135, go_sem, c10, c11]) rfl ⟨?_, g, rfl, xs, ?_, hf⟩
  · exact ((hb.setCell (p := ⟨w.heap.size + 1 + 1, 1, none⟩) (by simp; omega) _).setCell (p := ⟨w.heap.size + 1, 0, none⟩) (by simp) _).setCell (p := ⟨w.heap.size + 1, 1, none⟩) (by simp) _
  · exact qown_set (qown_set (qown_set (qown_base hr (by simp; omega)) (by omega) _) (by omega) _) (by omega) _
theorem toTargetS_own (a : Option Addr) (cap : Nat) (is : List T2) (w : World) (hc : RowT w a is) (hl : is.length <= 1048576) (hk : ∀ i, i < is.length -> (tx is i).code.length <= 1048576) :
    Calls Tryz.prog 74 #[.slice a is.length cap] w fun e w' => Below w.heap.size w w' /\ ∃ g : Nat, e = .returned (.slice (some ⟨g, 0, none⟩) is.length is.length) /\ OwnT w' w.heap.size w'.heap.size (.slice (some ⟨g, 0, none⟩) is.length is.length) is := by
  obtain ⟨z0, hi, hz0, hz1, hz2⟩ := info_parts Tryz.info148
  have HK : Hid (∀ i, i < is.length -> (tx is i).code.length <= 1048576) := hk
  clear hk
  go_enter Tryz.func74, Tryz.ntmps74
  go_wp2_with (first | (at_make; refine wpList_make_full _ rfl (.tmp 6) (.tmp 6) 24 rfl w.heap.size 148 z0 (.agg #[.string ByteArray.empty, .slice none 0 0]) 2 Tryz.underlying24 hi hz0 hz1 .i64 .i64 _ _ is.length rfl rfl rfl rfl (by rw [hz2]; omega) (by unfold maxLen; omega) (Nat.le_refl _) ?_; intro w1 hown hgrow))
  have hbel1 : Below w.heap.size w w1 := (Below.refl _ _).grown hgrow (Nat.le_refl _) (by simp)
  clear hgrow
  go_loopw [4] (fun i wr => ∃ (k : Nat) (xs : List Value) (cv : Nat -> Value), k <= is.length /\ i = .int .i64 k /\ wr.ownsRow w.heap.size 148 2 (.slice (some ⟨w.heap.size, 0, none⟩) is.length is.length) is.length xs /\ Hid (PartT wr (w.heap.size + 1) is k xs cv) /\ Below w.heap.size w wr) (fun i _ => is.length - (intOf i).toNat)
  case atStart => exact ⟨0, _, _, Nat.zero_le _, rfl, hown, PartT.zero _ _ _ _, hbel1⟩
  case round =>
    obtain ⟨k, xs, cv, hk, rfl, hown, HP, hbel⟩ := hrel
    by_cases hlt : k < is.length
    · obtain ⟨b, off, rfl, c1, a', cap', c2, c3⟩ := (hc.below hbel) k hlt
      have hck := HK.out k hlt
      have hlx : k * 2 + 1 < xs.length := by rw [hown.1]; omega
      have hgl : w.heap.size < wr.heap.size := (hown.lt _ rfl).2
      have HF : Hid (∀ (W : World) (c : Value) (ys : List Value), Below wr.heap.size wr W -> W.ownsRow wr.heap.size 209 3 c (tx is k).code.length ys -> Filled3 (tx is k).code (tx is k).code.length ys -> PartT W (w.heap.size + 1) is (k + 1) ((xs.set (k * 2) (.string (tx is k).name)).set (k * 2 + 1) c) (fun i => if i = k then c else cv i)) := fun W c ys h1 h2 h3 => HP.out.add h1 hgl h2 h3 (fun j hj => set2_old _ _ hj) (set2_0 _ _ hlx) (set2_1 _ _ hlx)
      generalize tx is k = i at *
      clear hbel1 hc
      go_wp2_with fail
      refine (toTarget_own i.name a' cap' i.code _ c3 hck).mono ?_
      rintro e w2 ⟨hb2, g, rfl, ys, hr, hfy⟩
      have hown2 := ownsRow_below hown hb2
      have hbw : Below w.heap.size w w2 := hbel.trans (hb2.mono hbel.size)
      have hfr := hown2.frozenAt
      have hf2 := ((HF.out w2 _ ys hb2 hr hfy).set (b := w.heap.size) (j := k * 2) (Nat.lt_succ_self _) (.string i.name)).set (b := w.heap.size) (j := k * 2 + 1) (Nat.lt_succ_self _) (.slice (some ⟨g, 0, none⟩) i.code.length i.code.length)
      obtain ⟨o1, d1⟩ := cell_of_length2 hown2 (j := k * 2) (by omega)
      obtain ⟨o2, d2⟩ := cell_of_length2 hown2 (j := k * 2 + 1) (by omega)
      have HO : Hid (w2.ownsRow w.heap.size 148 2 (.slice (some ⟨w.heap.size, 0, none⟩) is.length is.length) is.length xs) := hown2
      have HF2 : Hid _ := hf2
      clear hown hown2 hb2 hbel hf2 HP HF hr hfy
      go_wp2
      go_roundw
      case rel => exact ⟨k + 1, _, _, by omega, by go_num, ((HO.out.stored _ _).1.stored _ _).1, HF2.out, (hbw.setCell (Nat.le_refl _) _).setCell (Nat.le_refl _) _⟩
      case measure => simp [intOf]; omega
    · have ek : k = is.length := by omega
      subst ek
      go_wp2
      go_ret
      exact ⟨hbel, _, rfl, HP.out.own hown (Nat.le_succ _) (Nat.le_refl _)⟩
theorem toSpace_own (sa ta : Option Addr) (c1 c2 : Nat) (ss : List S2) (ts : List T2) (w : World) (rs : RowS w sa ss) (rt : RowT w ta ts) (h : SpSmall ss ts) :
    Calls Tryz.prog 26 #[.agg #[.slice sa ss.length c1, .slice ta ts.length c2]] w fun e w' => Below w.heap.size w w' /\ ∃ v1 v2 : Value, e = .returned (.agg #[v1, v2]) /\ OwnS w' w.heap.size w'.heap.size v1 ss /\ OwnT w' w.heap.size w'.heap.size v2 ts := by
  obtain ⟨h1, h2, h3⟩ := h
  go_enter Tryz.func26, Tryz.ntmps26
  go_wp2_with fail
  have hb0 : Below w.heap.size w (((w.alloc (.cells #[.slice sa ss.length c1, .slice ta ts.length c2] 71)).alloc (.cells #[.slice none 0 0, .slice none 0 0] 26)).alloc (.cells #[.slice none 0 0, .slice none 0 0] 26)) := (((Below.refl _ _).alloc (Nat.le_refl _) _).alloc (by simp) _).alloc (by simp; omega) _
  refine (toSourceS_own sa c1 ss _ (rs.below hb0) h1).mono ?_
  rintro e w1 ⟨hb1, g, rfl, xs, hr, hfr⟩
  have hg := (hr.lt g rfl).1
  simp at hg
  have HS1 : Hid (OwnS w1 (w.heap.size + 1 + 1 + 1) w1.heap.size (.slice (some ⟨g, 0, none⟩) ss.length ss.length) ss) := ⟨xs, RowO.new (qown_base hr (by simp)), hfr⟩
  have hb : Below w.heap.size w w1 := hb0.trans (hb1.mono hb0.size)
  have hz := hb1.size
  simp at hz
  have c01 : w1.cell? ⟨w.heap.size, 1, none⟩ = some (.slice ta ts.length c2) := cell_below hb1 (by simp [go_sem])
  have c10 : w1.cell? ⟨w.heap.size + 1, 0, none⟩ = some (.slice none 0 0) := cell_below hb1 (by simp [go_sem])
  have c11 : w1.cell? ⟨w.heap.size + 1, 1, none⟩ = some (.slice none 0 0) := cell_below hb1 (by simp [go_sem])
  have c20 : w1.cell? ⟨w.heap.size + 1 + 1, 0, none⟩ = some (.slice none 0 0) := cell_below hb1 (by simp [go_sem])
  have c21 : w1.cell? ⟨w.heap.size + 1 + 1, 1, none⟩ = some (.slice none 0 0) := cell_below hb1 (by simp [go_sem])
  have f1 : ∀ j, w1.frozen? ⟨w.heap.size + 1, j, none⟩ = false := fun j => by rw [hb1.frozen (p := ⟨w.heap.size + 1, j, none⟩) (by simp)]; simp [go_sem]
  have f2 : ∀ j, w1.frozen? ⟨w.heap.size + 1 + 1, j, none⟩ = false := fun j => by rw [hb1.frozen (p := ⟨w.heap.size + 1 + 1, j, none⟩) (by simp)]; simp [go_sem]
  clear hb0 hb1
  go_wp2_with fail
  have hbs : Below w.heap.size w (w1.setCell ⟨w.heap.size + 1 + 1, 0, none⟩ (.slice (some ⟨g, 0, none⟩) ss.length ss.length)) := hb.setCell (p := ⟨w.heap.size + 1 + 1, 0, none⟩) (by simp; omega) _
  refine (toTargetS_own ta c2 ts _ (rt.below hbs) h2 h3).mono ?_
  rintro e w2 ⟨hb2, g2, rfl, hr2⟩
  have hb3 : Below w.heap.size w w2 := hbs.trans (hb2.mono hbs.size)
  have HS2 : Hid (OwnS w2 (w.heap.size + 1 + 1 + 1) w1.heap.size (.slice (some ⟨g, 0, none⟩) ss.length ss.length) ss) := (HS1.out.set (j := 0) (show w.heap.size + 1 + 1 < w.heap.size + 1 + 1 + 1 by omega) _).below hb2
  have hz2 := hb2.size
  simp at hz2
  have HT2 : Hid (OwnT w2 (w.heap.size + 1 + 1 + 1) w2.heap.size (.slice (some ⟨g2, 0, none⟩) ts.length ts.length) ts) := hr2.wide (by simp; omega) (Nat.le_refl _)
  have hs12 : w1.heap.size <= w2.heap.size := by simpa using hb2.size
  have d10 : w2.cell? ⟨w.heap.size + 1, 0, none⟩ = some (.slice none 0 0) := cell_below hb2 (by simp [go_sem, c10])
  have d11 : w2.cell? ⟨w.heap.size + 1, 1, none⟩ = some (.slice none 0 0) := cell_below hb2 (by simp [go_sem, c11])
  have d20 : w2.cell? ⟨w.heap.size + 1 + 1, 0, none⟩ = some (.slice (some ⟨g, 0, none⟩) ss.length ss.length) := cell_below hb2 (by simp [go_sem, c20])
  have d21 : w2.cell? ⟨w.heap.size + 1 + 1, 1, none⟩ = some (.slice none 0 0) := cell_below hb2 (by simp [go_sem, c21])
  have e1 : ∀ j, w2.frozen? ⟨w.heap.size + 1, j, none⟩ = false := fun j => by rw [hb2.frozen (p := ⟨w.heap.size + 1, j, none⟩) (by simp; omega)]; simp [go_sem, f1]
  have e2 : ∀ j, w2.frozen? ⟨w.heap.size + 1 + 1, j, none⟩ = false := fun j => by rw [hb2.frozen (p := ⟨w.heap.size + 1 + 1, j, none⟩) (by simp; omega)]; simp [go_sem, f2]
  clear hb2 hbs hb c01 c10 c11 c20 c21 f1 f2 hr hr2 HS1
  go_wp2
  refine bodyPost_ret (v := .agg #[.slice (some ⟨g, 0, none⟩) ss.length ss.length, .slice (some ⟨g2, 0, none⟩) ts.length ts.length]) (by simp [results, Tryz.results26, go_sem, d10, d11]) rfl ⟨?_, _, _, rfl, ?_, ?_⟩
  · exact ((hb3.setCell (p := ⟨w.heap.size + 1 + 1, 1, none⟩) (by simp; omega) _).setCell (p := ⟨w.heap.size + 1, 0, none⟩) (by simp) _).setCell (p := ⟨w.heap.size + 1, 1, none⟩) (by simp) _
  · exact (((HS2.out.set (by omega) _).set (by omega) _).set (by omega) _).wide (by omega) (by simp; omega)
  · exact (((HT2.out.set (by omega) _).set (by omega) _).set (by omega) _).wide (by omega) (by simp)
end Go.Proofs.YtmeojnaoljgieaeGreatDoor
