import Derived.Test.YtmanoabocelpeaaGreatDoorTNPiece
import Derived.Test.YtmanoabocelpeaaGreatDoorProg
import Derived.WalkKit
import Derived.WalkSpells
import Derived.WalkLawsBesides
import Derived.ProofKit
import Derived.OpenShut
import Derived.Below
import Derived.Shelf.SlSorted.Search
import Derived.Test.YtmanoabocelpeaaGreatDoorTValidP
import Derived.Deep.AppendLies
import Derived.Laws.AppendOwnNone
import Derived.Maps.AppendAt
namespace Go.Proofs.YtmanoabocelpeaaGreatDoor
open Go.RowKit
set_option linter.unusedVariables false
set_option maxHeartbeats 8000000
set_option maxRecDepth 100000
def FilledS (is : List S2) (k : Nat) (xs : List Value) : Prop :=
 ∀ i, i < k -> xs[i * 2]? = some (.string (sx is i).name) /\ xs[i * 2 + 1]? = some (.string (sx is i).text)
theorem rowS_own {w : World} {B g n cap : Nat} {is : List S2} {xs : List Value} (hn : n = is.length) (h : w.ownsRow B 84 2 (.slice (some ⟨g, 0, none⟩) n cap) n xs) (hf : FilledS is n xs) : RowS w (some ⟨g, 0, none⟩) is := by
 subst hn
 intro i hi
 obtain ⟨h1, h2⟩ := hf i hi
 refine ⟨g, 0, rfl, ?_, ?_⟩
 ·rw [Nat.zero_add, h.cellAt _ (by omega)]; exact h1
 ·rw [Nat.zero_add, h.cellAt _ (by omega)]; exact h2
def Strs (w : World) (a : Option Addr) (ss : List ByteArray) : Prop :=
 ∀ i, i < ss.length -> ∃ b off, a = some ⟨b, off, none⟩ /\ w.cell? ⟨b, off + i, none⟩ = some (.string (ss.getD i ByteArray.empty))
theorem Strs.below {w w' : World} {a : Option Addr} {ss : List ByteArray} (h : Strs w a ss) (hb : Below w.heap.size w w') : Strs w' a ss := by
 intro i hi
 obtain ⟨b, off, ha, hc⟩ := h i hi
 exact ⟨b, off, ha, (hb.cell (p := ⟨b, off + i, none⟩) (World.block_lt_of_cell? w _ hc)).trans hc⟩
def lessB (a b : ByteArray) : Bool := Op.bytesLess a.toList b.toList
theorem lessB_trans {a b c : ByteArray} (h : lessB a b = true) (k : lessB b c = true) : lessB a c = true := by
 unfold lessB at *
 rw [bytesLess_eq] at *
 simp only [decide_eq_true_eq] at *
 exact List.lt_trans h k
theorem lessB_irrefl (a : ByteArray) : lessB a a = false := by
 unfold lessB
 rw [bytesLess_eq]
 simp only [decide_eq_false_iff_not]
 exact List.lt_irrefl _
def nx (l : List ByteArray) (i : Nat) : ByteArray := l.getD i ByteArray.empty
def Asc (l : List ByteArray) : Prop := ∀ i, 1 <= i -> i < l.length -> lessB (nx l (i - 1)) (nx l i) = true
theorem Asc.lt {l : List ByteArray} (h : Asc l) : ∀ (d i : Nat), i + d + 1 < l.length -> lessB (nx l i) (nx l (i + d + 1)) = true
 | 0, i, hi => by have := h (i + 0 + 1) (by omega) hi; simpa using this
 | d + 1, i, hi => by
  have h1 := Asc.lt h d i (by omega)
  have h2 := h (i + (d + 1) + 1) (by omega) hi
  exact lessB_trans h1 (by have := h2; rw [Nat.add_sub_cancel] at this; exact this)
theorem Asc.pair {l : List ByteArray} (h : Asc l) {i j : Nat} (hij : i < j) (hj : j < l.length) : lessB (nx l i) (nx l j) = true := by
 have := h.lt (j - i - 1) i (by omega)
 rwa [show i + (j - i - 1) + 1 = j by omega] at this
theorem iff_no {P : Prop} (h : ¬ P) : (false = true ↔ P) := ⟨fun k => absurd k (by decide), fun k => absurd k h⟩
theorem iff_yes {P : Prop} (h : P) : (true = true ↔ P) := ⟨fun _ => h, fun _ => rfl⟩
theorem ascending_step {l : List ByteArray} {m : Nat} (h : ∀ j, 1 <= j -> j < m + 1 -> lessB (nx l (j - 1)) (nx l j) = true) (hk : lessB (nx l m) (nx l (m + 1)) = true) : ∀ j, 1 <= j -> j < m + 1 + 1 -> lessB (nx l (j - 1)) (nx l j) = true := by
 intro j h1 h2
 rcases Nat.lt_or_ge j (m + 1) with h3 | h3
 ·exact h j h1 h3
 ·obtain rfl : j = m + 1 := by omega
  simpa using hk
theorem ascending_any (a : Option Addr) (cap : Nat) (l : List ByteArray) (w : World) (hc : Strs w a l) (hl : l.length <= 1048576) :
  Calls Tryz.prog 59 #[.slice a l.length cap] w fun e w' => Below w.heap.size w w' /\ ∃ b : Bool, e = .returned (.bool b) /\ (b = true ↔ Asc l) := by
 go_enter Tryz.func59, Tryz.ntmps59
 go_wp2
 go_loopw [3] (fun i wr => ∃ m : Nat, (m = 0 \/ m + 1 <= l.length) /\ i = .int .i64 (m + 1) /\ Hid (∀ j, 1 <= j -> j < m + 1 -> lessB (nx l (j - 1)) (nx l j) = true) /\ Below w.heap.size w wr) (fun i _ => l.length + 1 - (intOf i).toNat)
 case atStart => exact ⟨0, Or.inl rfl, rfl, (fun j h1 h2 => by omega : ∀ j, 1 <= j -> j < 0 + 1 -> lessB (nx l (j - 1)) (nx l j) = true), Below.refl _ _⟩
 case round =>
  obtain ⟨m, hm, rfl, HA, hbel⟩ := hrel
  by_cases hlt : m + 1 < l.length
  ·obtain ⟨b, off, rfl, c1⟩ := (hc.below hbel) m (by omega)
   obtain ⟨b', off', e', c2⟩ := (hc.below hbel) (m + 1) hlt
   simp only [Option.some.injEq, Addr.mk.injEq, and_true] at e'
   obtain ⟨rfl, rfl⟩ := e'
   replace c1 : wr.cell? ⟨b, off + m, none⟩ = some (.string (nx l m)) := c1
   replace c2 : wr.cell? ⟨b, off + (m + 1), none⟩ = some (.string (nx l (m + 1))) := c2
   obtain ⟨v, hv⟩ : ∃ v, lessB (nx l m) (nx l (m + 1)) = v := ⟨_, rfl⟩
   have HV : Hid (lessB (nx l m) (nx l (m + 1)) = v) := hv
   unfold lessB at hv
   clear hc
   generalize nx l m = s at c1 hv
   generalize nx l (m + 1) = s' at c2 hv
   have hltI : (m : Int) + 1 < (l.length : Int) := by omega
   cases v
   ·go_wp2
    go_region
    all_goals
     go_wp2
     go_ret
     exact ⟨by repeat (first | exact hbel | apply Below.drew), false, rfl, iff_no (fun h => by have := h (m + 1) (by omega) hlt; rw [Nat.add_sub_cancel, HV.out] at this; cases this)⟩
   ·go_wp2
    go_region
    all_goals
     go_wp2
     go_roundw
     case rel => exact ⟨m + 1, by omega, by go_num, ascending_step HA.out HV.out, by repeat (first | exact hbel | apply Below.drew)⟩
     case measure => simp [intOf]; omega
  ·go_wp2
   go_ret
   exact ⟨hbel, true, rfl, iff_yes (fun j h1 h2 => HA.out j h1 (by omega))⟩
theorem Strs.nx {w : World} {a : Option Addr} {ss : List ByteArray} (h : Strs w a ss) (i : Nat) (hi : i < ss.length) : ∃ b off, a = some ⟨b, off, none⟩ /\ w.cell? ⟨b, off + i, none⟩ = some (.string (nx ss i)) := h i hi
def AllN (l : List ByteArray) : Prop := ∀ i, i < l.length -> nameB (nx l i) = true
def Has (l : List ByteArray) (n : ByteArray) : Prop := ∃ j, j < l.length /\ nx l j = n
def Share (l m : List ByteArray) : Prop := ∃ i, i < l.length /\ Has m (nx l i)
def snames (ss : List S2) : List ByteArray := ss.map (·.name)
def tnames (ts : List T2) : List ByteArray := ts.map (·.name)
theorem snames_length (ss : List S2) : (snames ss).length = ss.length := by simp [snames]
theorem tnames_length (ts : List T2) : (tnames ts).length = ts.length := by simp [tnames]
theorem nx_snames (ss : List S2) (i : Nat) : nx (snames ss) i = (sx ss i).name := by
 unfold nx snames sx
 rw [List.getD_eq_getElem?_getD, List.getD_eq_getElem?_getD, List.getElem?_map]
 cases ss[i]? <;> rfl
theorem nx_tnames (ts : List T2) (i : Nat) : nx (tnames ts) i = (tx ts i).name := by
 unfold nx tnames tx
 rw [List.getD_eq_getElem?_getD, List.getD_eq_getElem?_getD, List.getElem?_map]
 cases ts[i]? <;> rfl
def TextsOk (ss : List S2) : Prop := ∀ i, i < ss.length -> (sx ss i).text.size <= 2000
def ActsOk (ts : List T2) : Prop := ∀ i, i < ts.length -> progOk (tx ts i).code = true
open Classical in
noncomputable def chk (ss : List S2) (ts : List T2) : Int :=
 if 200 < ss.length + ts.length then 1 else if ¬ (AllN (snames ss) /\ AllN (tnames ts)) then 2 else if ¬ Asc (snames ss) then 3 else if ¬ Asc (tnames ts) then 4
 else if Share (snames ss) (tnames ts) then 5 else if ¬ TextsOk ss then 6 else if ¬ ActsOk ts then 7 else 0
theorem chk1 {ss : List S2} {ts : List T2} (h : 200 < ss.length + ts.length) : chk ss ts = 1 := by simp [chk, h]
theorem chk2 {ss : List S2} {ts : List T2} (h : ¬ 200 < ss.length + ts.length) (h2 : ¬ (AllN (snames ss) /\ AllN (tnames ts))) : chk ss ts = 2 := by unfold chk; rw [if_neg h, if_pos h2]
theorem chk3 {ss : List S2} {ts : List T2} (h : ¬ 200 < ss.length + ts.length) (h2 : AllN (snames ss) /\ AllN (tnames ts)) (h3 : ¬ Asc (snames ss)) : chk ss ts = 3 := by unfold chk; rw [if_neg h, if_neg (fun k => k h2), if_pos h3]
theorem chk4 {ss : List S2} {ts : List T2} (h : ¬ 200 < ss.length + ts.length) (h2 : AllN (snames ss) /\ AllN (tnames ts)) (h3 : Asc (snames ss)) (h4 : ¬ Asc (tnames ts)) : chk ss ts = 4 := by unfold chk; rw [if_neg h, if_neg (fun k => k h2), if_neg (fun k => k h3), if_pos h4]
theorem chk5 {ss : List S2} {ts : List T2} (h : ¬ 200 < ss.length + ts.length) (h2 : AllN (snames ss) /\ AllN (tnames ts)) (h3 : Asc (snames ss)) (h4 : Asc (tnames ts)) (h5 : Share (snames ss) (tnames ts)) : chk ss ts = 5 := by unfold chk; rw [if_neg h, if_neg (fun k => k h2), if_neg (fun k => k h3), if_neg (fun k => k h4), if_pos h5]
theorem chk6 {ss : List S2} {ts : List T2} (h : ¬ 200 < ss.length + ts.length) (h2 : AllN (snames ss) /\ AllN (tnames ts)) (h3 : Asc (snames ss)) (h4 : Asc (tnames ts)) (h5 : ¬ Share (snames ss) (tnames ts)) (h6 : ¬ TextsOk ss) : chk ss ts = 6 := by unfold chk; rw [if_neg h, if_neg (fun k => k h2), if_neg (fun k => k h3), if_neg (fun k => k h4), if_neg h5, if_pos h6]
theorem chk7 {ss : List S2} {ts : List T2} (h : ¬ 200 < ss.length + ts.length) (h2 : AllN (snames ss) /\ AllN (tnames ts)) (h3 : Asc (snames ss)) (h4 : Asc (tnames ts)) (h5 : ¬ Share (snames ss) (tnames ts)) (h6 : TextsOk ss) (h7 : ¬ ActsOk ts) : chk ss ts = 7 := by unfold chk; rw [if_neg h, if_neg (fun k => k h2), if_neg (fun k => k h3), if_neg (fun k => k h4), if_neg h5, if_neg (fun k => k h6), if_pos h7]
theorem chk0 {ss : List S2} {ts : List T2} (h : ¬ 200 < ss.length + ts.length) (h2 : AllN (snames ss) /\ AllN (tnames ts)) (h3 : Asc (snames ss)) (h4 : Asc (tnames ts)) (h5 : ¬ Share (snames ss) (tnames ts)) (h6 : TextsOk ss) (h7 : ActsOk ts) : chk ss ts = 0 := by unfold chk; rw [if_neg h, if_neg (fun k => k h2), if_neg (fun k => k h3), if_neg (fun k => k h4), if_neg h5, if_neg (fun k => k h6), if_neg (fun k => k h7)]
theorem strs_own {w : World} {B n cap : Nat} {a : Option Addr} {ss : List ByteArray} (hn : n = ss.length) (h : w.ownsRow B 9 1 (.slice a n cap) n (strV ss)) : Strs w a ss := by
 subst hn
 intro i hi
 rcases h.2 with ⟨_, h0⟩ | ⟨g, cap', cur, hv, _⟩
 ·omega
 ·obtain ⟨rfl, _, rfl⟩ : a = some ⟨g, 0, none⟩ /\ True /\ cap = cap' := by simpa using hv
  refine ⟨g, 0, rfl, ?_⟩
  rw [Nat.zero_add, h.cellAt i (by omega)]
  simp [strV, List.getD_eq_getElem?_getD, List.getElem?_eq_getElem hi]
theorem strV_snoc (l : List ByteArray) (k : Nat) (h : k < l.length) : strV (l.take k) ++ [.string (nx l k)] = strV (l.take (k + 1)) := by
 rw [List.take_succ_eq_append_getElem h]
 simp only [strV, List.map_append, List.map_cons, List.map_nil, nx, List.getD_eq_getElem?_getD, List.getElem?_eq_getElem h, Option.getD_some]
theorem sourceNames_any (a ta : Option Addr) (cap tn tc : Nat) (is : List S2) (w : World) (hc : RowS w a is) (hl : is.length <= 1048576) :
  Calls Tryz.prog 56 #[.agg #[.slice a is.length cap, .slice ta tn tc]] w fun e w' => Below w.heap.size w w' /\ ∃ (a' : Option Addr) (cap' : Nat), e = .returned (.slice a' is.length cap') /\ Strs w' a' (snames is) := by
 obtain ⟨i0, hi, hz0, hz1, hz2⟩ := info_parts Tryz.info9b
 have hnl := snames_length is
 have hb0 : Below w.heap.size w (w.alloc (.cells #[.slice a is.length cap, .slice ta tn tc] 26)) := (Below.refl _ _).alloc (Nat.le_refl _) _
 go_enter Tryz.func56, Tryz.ntmps56
 go_wp2
 go_loopw [3, 9] (fun o i wr => ∃ (k : Nat) (ao : Option Addr) (cp : Nat), k <= is.length /\ i = .int .i64 k /\ o = .slice ao k cp /\ wr.ownsRow w.heap.size 9 1 (.slice ao k cp) k (strV ((snames is).take k)) /\ Below w.heap.size w wr) (fun _ i _ => is.length - (intOf i).toNat)
 case atStart => exact ⟨0, none, 0, Nat.zero_le _, rfl, rfl, ⟨by simp [strV], Or.inl ⟨rfl, rfl⟩⟩, hb0⟩
 case round =>
  obtain ⟨k, ao, cp, hk, rfl, rfl, hown, hbel⟩ := hrel
  have hlt0 : w.heap.size <= wr.heap.size := hbel.size
  by_cases hlt : k < is.length
  ·obtain ⟨b, off, rfl, c1, c2⟩ := (hc.below hbel) k hlt
   have hsn := strV_snoc (snames is) k (by omega)
   rw [nx_snames] at hsn
   generalize sx is k = i at *
   have HS : Hid (strV ((snames is).take k) ++ [.string i.name] = strV ((snames is).take (k + 1))) := hsn
   clear hsn hc
   have hown1 := (hown.alloc (.cells #[.string i.name, .string i.text] 84)).alloc (.cells #[.string i.name] 9)
   go_wp2_with (first | (at_builtin; refine wpList_append_own _ rfl (.tmp 13) (.tmp 16) 30 rfl w.heap.size 9 i0 (.string ⟨#[]⟩) 1 16 Tryz.underlying30 hi hz0 hz1 hz2 rfl (by decide) _ _ _ rfl hown1 ⟨wr.heap.size + 1, 0, none⟩ 1 1 [.string i.name] rfl rfl ?_ (by intro u hu; simp at hu; subst hu; rfl) (by unfold maxLen; omega) (by omega) (by simp; omega) ?_; (focus (have := cell_one_new (wr.alloc (.cells #[.string i.name, .string i.text] 84)) (.string i.name) 9; simpa using this)); intro v' w2 hown' hgrow hnil))
   have hbB : Below w.heap.size w w2 := ((hbel.alloc (by omega) _).alloc (by simp; omega) _).grown hgrow (by simp; omega) (fun k hk => (hown.lt k hk).1)
   obtain ⟨g', cap2, hv'⟩ : ∃ g cap, v' = .slice (some ⟨g, 0, none⟩) (k + 1) cap := by
    rcases hown'.2 with ⟨_, h0⟩ | ⟨g, cap, cur, hv, _⟩
    ·omega
    ·exact ⟨g, cap, hv⟩
   rw [HS.out, hv'] at hown'
   exact ⟨⟨k + 1, _, _, by omega, by go_num, hv', hown', hbB⟩, by simp [intOf]; omega⟩
  ·have ek : k = is.length := by omega
   subst ek
   rw [List.take_of_length_le (by omega)] at hown
   go_wp2
   go_ret
   exact ⟨hbel, ao, cp, rfl, strs_own (by omega) hown⟩
theorem targetNames_any (a ta : Option Addr) (cap tn tc : Nat) (is : List T2) (w : World) (hc : RowT w a is) (hl : is.length <= 1048576) :
  Calls Tryz.prog 57 #[.agg #[.slice ta tn tc, .slice a is.length cap]] w fun e w' => Below w.heap.size w w' /\ ∃ (a' : Option Addr) (cap' : Nat), e = .returned (.slice a' is.length cap') /\ Strs w' a' (tnames is) := by
 obtain ⟨i0, hi, hz0, hz1, hz2⟩ := info_parts Tryz.info9b
 have hnl := tnames_length is
 have hb0 : Below w.heap.size w (w.alloc (.cells #[.slice ta tn tc, .slice a is.length cap] 26)) := (Below.refl _ _).alloc (Nat.le_refl _) _
 go_enter Tryz.func57, Tryz.ntmps57
 go_wp2
 go_loopw [3, 9] (fun o i wr => ∃ (k : Nat) (ao : Option Addr) (cp : Nat), k <= is.length /\ i = .int .i64 k /\ o = .slice ao k cp /\ wr.ownsRow w.heap.size 9 1 (.slice ao k cp) k (strV ((tnames is).take k)) /\ Below w.heap.size w wr) (fun _ i _ => is.length - (intOf i).toNat)
 case atStart => exact ⟨0, none, 0, Nat.zero_le _, rfl, rfl, ⟨by simp [strV], Or.inl ⟨rfl, rfl⟩⟩, hb0⟩
 case round =>
  obtain ⟨k, ao, cp, hk, rfl, rfl, hown, hbel⟩ := hrel
  have hlt0 : w.heap.size <= wr.heap.size := hbel.size
  by_cases hlt : k < is.length
  ·obtain ⟨b, off, rfl, c1, x, p, c2, c3⟩ := (hc.below hbel) k hlt
   have hsn := strV_snoc (tnames is) k (by omega)
   rw [nx_tnames] at hsn
   generalize tx is k = i at *
   have HS : Hid (strV ((tnames is).take k) ++ [.string i.name] = strV ((tnames is).take (k + 1))) := hsn
   clear hsn hc
   have hown1 := (hown.alloc (.cells #[.string i.name, .slice x i.code.length p] 63)).alloc (.cells #[.string i.name] 9)
   go_wp2_with (first | (at_builtin; refine wpList_append_own _ rfl (.tmp 13) (.tmp 16) 30 rfl w.heap.size 9 i0 (.string ⟨#[]⟩) 1 16 Tryz.underlying30 hi hz0 hz1 hz2 rfl (by decide) _ _ _ rfl hown1 ⟨wr.heap.size + 1, 0, none⟩ 1 1 [.string i.name] rfl rfl ?_ (by intro u hu; simp at hu; subst hu; rfl) (by unfold maxLen; omega) (by omega) (by simp; omega) ?_; (focus (have := cell_one_new (wr.alloc (.cells #[.string i.name, .slice x i.code.length p] 63)) (.string i.name) 9; simpa using this)); intro v' w2 hown' hgrow hnil))
   have hbB : Below w.heap.size w w2 := ((hbel.alloc (by omega) _).alloc (by simp; omega) _).grown hgrow (by simp; omega) (fun k hk => (hown.lt k hk).1)
   obtain ⟨g', cap2, hv'⟩ : ∃ g cap, v' = .slice (some ⟨g, 0, none⟩) (k + 1) cap := by
    rcases hown'.2 with ⟨_, h0⟩ | ⟨g, cap, cur, hv, _⟩
    ·omega
    ·exact ⟨g, cap, hv⟩
   rw [HS.out, hv'] at hown'
   exact ⟨⟨k + 1, _, _, by omega, by go_num, hv', hown', hbB⟩, by simp [intOf]; omega⟩
  ·have ek : k = is.length := by omega
   subst ek
   rw [List.take_of_length_le (by omega)] at hown
   go_wp2
   go_ret
   exact ⟨hbel, ao, cp, rfl, strs_own (by omega) hown⟩
theorem validNames_any (a : Option Addr) (cap : Nat) (l : List ByteArray) (w : World) (hc : Strs w a l) (hl : l.length <= 1048576) (hs : ∀ i, (nx l i).size <= maxLen) :
  Calls Tryz.prog 58 #[.slice a l.length cap] w fun e w' => w = w' /\ ∃ b : Bool, e = .returned (.bool b) /\ (b = true ↔ AllN l) := by
 go_enter Tryz.func58, Tryz.ntmps58
 go_wp2
 go_loopw [7] (fun i wr => ∃ k : Nat, k <= l.length /\ i = .int .i64 k /\ Hid (∀ j, j < k -> nameB (nx l j) = true) /\ w = wr) (fun i _ => l.length - (intOf i).toNat)
 case atStart => exact ⟨0, Nat.zero_le _, rfl, (fun j hj => by omega : ∀ j, j < 0 -> nameB (nx l j) = true), rfl⟩
 case round =>
  obtain ⟨k, hk, rfl, HA, rfl⟩ := hrel
  by_cases hlt : k < l.length
  ·obtain ⟨b, off, rfl, c1⟩ := hc.nx k hlt
   have hsk := hs k
   unfold maxLen at hsk
   obtain ⟨v, hv⟩ : ∃ v, nameB (nx l k) = v := ⟨_, rfl⟩
   have HV : Hid (nameB (nx l k) = v) := hv
   have HN : Hid (∀ W : World, Calls Tryz.prog 31 #[.string (nx l k)] W fun e w' => e = .returned (.bool v) /\ W = w') := fun W => by rw [<- hv]; exact validName_any _ W hsk
   clear hc hs hv
   generalize nx l k = s at c1 HN hsk
   cases v
   ·go_wp2_with (go_at_call 31; refine (HN.out _).mono ?_; rintro e w' ⟨rfl, rfl⟩)
    go_ret
    exact ⟨rfl, false, rfl, iff_no (fun h => by have := h k hlt; rw [HV.out] at this; cases this)⟩
   ·go_wp2_with (go_at_call 31; refine (HN.out _).mono ?_; rintro e w' ⟨rfl, rfl⟩)
    go_roundw
    case rel => exact ⟨k + 1, by omega, by go_num, ext_succ HA.out HV.out, trivial⟩
    case measure => simp [intOf]; omega
  ·go_wp2
   go_ret
   exact ⟨rfl, true, rfl, iff_yes (fun j hj => HA.out j (by omega))⟩
end Go.Proofs.YtmanoabocelpeaaGreatDoor
