import Derived.Test.YtikdgmmloiegjaaGreatDoorValidP
import Derived.Lib.ItoaNum
import Derived.Test.YtikdgmmloiegjaaGreatDoorCopy
namespace Go.Proofs.YtikdgmmloiegjaaGreatDoor
open Go.RowKit
set_option linter.unusedVariables false

def hexL : List UInt8 := [48, 49, 50, 51, 52, 53, 54, 55, 56, 57, 97, 98, 99, 100, 101, 102]
def hexd (j : Nat) : UInt8 := hexL.getD j 0
def plainB (u : UInt8) : Bool := decide (32 ≤ u.toNat) && decide (u.toNat ≤ 126) && decide (u.toNat ≠ 34) && decide (u.toNat ≠ 92)
def qbyte (u : UInt8) : List UInt8 := if plainB u then [u] else [92, hexd (u.toNat / 16), hexd (u.toNat % 16)]
def quoteL (l : List UInt8) : List UInt8 := [34] ++ l.flatMap qbyte ++ [34]
def lineL (i : I3) : List UInt8 :=
  (wordB i.op.toNat).data.toList ++ (if kindOf i.op = 1 then 32 :: quoteL i.text.data.toList else if kindOf i.op = 0 then [] else 32 :: Lib.decDigits i.n.toNat)
def printL (is : List I3) (k : Nat) : List UInt8 := (List.range k).flatMap fun j => lineL (ix is j) ++ [10]
theorem printL_succ (is : List I3) (k : Nat) : printL is (k + 1) = printL is k ++ (lineL (ix is k) ++ [10]) := by simp [printL, List.range_succ]
theorem qbyte_length (u : UInt8) : (qbyte u).length ≤ 3 := by unfold qbyte; split <;> simp
theorem flat_length (l : List UInt8) : (l.flatMap qbyte).length ≤ 3 * l.length := by
  induction l with
  | nil => simp
  | cons u l ih => have := qbyte_length u; rw [List.flatMap_cons, List.length_append, List.length_cons]; omega
theorem quoteL_length (l : List UInt8) : (quoteL l).length ≤ 3 * l.length + 2 := by
  have := flat_length l
  unfold quoteL
  rw [List.length_append, List.length_append, List.length_singleton]
  omega
theorem dec_length : ∀ (k n : Nat), n < 10 ^ (k + 1) → (Lib.decDigits n).length ≤ k + 1
  | 0, n, h => by rw [Lib.decDigits, dif_pos (by simpa using h)]; simp
  | k + 1, n, h => by
    rw [Lib.decDigits]
    split
    · simp
    · have := dec_length k (n / 10) (by rw [Nat.pow_succ] at h; omega)
      simp; omega
theorem word_length (o : Nat) : (wordB o).data.toList.length ≤ 6 := by
  by_cases h : o < 16
  · rcases (show o = 0 ∨ o = 1 ∨ o = 2 ∨ o = 3 ∨ o = 4 ∨ o = 5 ∨ o = 6 ∨ o = 7 ∨ o = 8 ∨ o = 9 ∨ o = 10 ∨ o = 11 ∨ o = 12 ∨ o = 13 ∨ o = 14 ∨ o = 15 from by omega) with rfl | rfl | rfl | rfl | rfl | rfl | rfl | rfl | rfl | rfl | rfl | rfl | rfl | rfl | rfl | rfl <;> decide
  · have e : words.getD o [] = [] := by
      rw [List.getD_eq_getElem?_getD, List.getElem?_eq_none (show words.length ≤ o from by have : words.length = 16 := rfl; omega)]; rfl
    unfold wordB
    rw [e]; simp
theorem lineL_length {i : I3} (h : insOk i = true) : (lineL i).length ≤ 6100 := by
  simp only [insOk, Bool.and_eq_true, decide_eq_true_eq] at h
  obtain ⟨⟨⟨⟨_, _⟩, ht⟩, h0⟩, hn⟩ := h
  have hw := word_length i.op.toNat
  unfold lineL
  rw [List.length_append]
  split
  · rename_i hk
    rw [hk] at ht
    have ht' : i.text.size ≤ 2000 := by simp [mostT] at ht; omega
    have hq := quoteL_length i.text.data.toList
    have he : i.text.data.toList.length = i.text.size := Array.length_toList
    rw [List.length_cons]; omega
  · split
    · rw [List.length_nil]; omega
    · have hm : i.n.toNat ≤ 2000 := by
        have : mostN (kindOf i.op) ≤ 2000 := by
          unfold mostN
          split
          · omega
          · split <;> omega
        omega
      have hd := dec_length 3 i.n.toNat (by omega)
      rw [List.length_cons]; omega
theorem printL_length {is : List I3} (h : ∀ i, i < is.length → insOk (ix is i) = true) : ∀ k, k ≤ is.length → (printL is k).length ≤ 6101 * k
  | 0, _ => by simp [printL]
  | k + 1, hk => by
    have := printL_length h k (by omega)
    have h2 := lineL_length (h k (by omega))
    rw [printL_succ]; simp; omega

def bcells (l : List UInt8) : List Value := l.map fun b => Value.int .u8 b.toNat
theorem bcells_append (l m : List UInt8) : bcells (l ++ m) = bcells l ++ bcells m := by simp [bcells]
theorem bcells_length (l : List UInt8) : (bcells l).length = l.length := by simp [bcells]
theorem bcells_one (l : List UInt8) : ∀ u ∈ bcells l, u.oneCell' = true := by
  intro u hu; obtain ⟨_, _, rfl⟩ := List.mem_map.1 hu; rfl

theorem hexIdx (j : Nat) (h : j < 16) (w : World) : (Instr.index 9 (.string ⟨#[48, 49, 50, 51, 52, 53, 54, 55, 56, 57, 97, 98, 99, 100, 101, 102]⟩) (.int .u8 j)).run Tryz.prog w = .ok (.int .u8 (hexd j).toNat) w := by
  rcases (show j = 0 ∨ j = 1 ∨ j = 2 ∨ j = 3 ∨ j = 4 ∨ j = 5 ∨ j = 6 ∨ j = 7 ∨ j = 8 ∨ j = 9 ∨ j = 10 ∨ j = 11 ∨ j = 12 ∨ j = 13 ∨ j = 14 ∨ j = 15 from by omega) with rfl | rfl | rfl | rfl | rfl | rfl | rfl | rfl | rfl | rfl | rfl | rfl | rfl | rfl | rfl | rfl <;> kernel_rfl

set_option maxHeartbeats 400000 in
theorem l2Hex_any (u : UInt8) (w : World) :
    Calls Tryz.prog 63 #[.int .u8 u.toNat] w fun e w' => Below w.heap.size w w' ∧ ∃ g cap : Nat, w.heap.size ≤ g ∧ e = .returned (.slice (some ⟨g, 0, none⟩) 2 cap) ∧ w'.ownsRow w.heap.size 5 1 (.slice (some ⟨g, 0, none⟩) 2 cap) 2 (bcells [hexd (u.toNat / 16), hexd (u.toNat % 16)]) := by
  have hu : u.toNat < 256 := UInt8.toNat_lt u
  obtain ⟨j1, e1, h1, r1⟩ : ∃ j : Nat, (u.toNat : Int) / 16 = (j : Int) ∧ j < 16 ∧ u.toNat / 16 = j := ⟨u.toNat / 16, by omega, by omega, rfl⟩
  obtain ⟨j2, e2, h2, r2⟩ : ∃ j : Nat, (u.toNat : Int) % 16 = (j : Int) ∧ j < 16 ∧ u.toNat % 16 = j := ⟨u.toNat % 16, by omega, by omega, rfl⟩
  rw [r1, r2]
  clear r1 r2
  have x1 := hexIdx j1 h1
  have x2 := hexIdx j2 h2
  go_enter Tryz.func63, Tryz.ntmps63
  go_wp2
  go_region
  all_goals go_wp2
  all_goals go_ret
  all_goals
    refine ⟨(Below.drew (Below.refl _ _)).alloc (Nat.le_refl _) _, _, _, Nat.le_refl _, rfl, ?_⟩
    exact World.ownsRow_lit w.drew #[.int .u8 (hexd j1).toNat, .int .u8 (hexd j2).toNat] 2 (Nat.le_refl _) (by unfold maxLen; omega) (by simp)

end Go.Proofs.YtikdgmmloiegjaaGreatDoor
namespace Go.Proofs.YtikdgmmloiegjaaGreatDoor
open Go.RowKit
set_option linter.unusedVariables false

structure G3 where
  name : ByteArray
  ask : Bool
  sum : ByteArray
def g00 : G3 := ⟨ByteArray.empty, false, ByteArray.empty⟩
def gx (is : List G3) (i : Nat) : G3 := is.getD i g00

def RowG (w : World) (a : Option Addr) (is : List G3) : Prop :=
  ∀ i, i < is.length → ∃ b off, a = some ⟨b, off, none⟩ ∧ w.cell? ⟨b, off + i * 3, none⟩ = some (.string (gx is i).name) ∧ w.cell? ⟨b, off + i * 3 + 1, none⟩ = some (.bool (gx is i).ask) ∧ w.cell? ⟨b, off + i * 3 + 2, none⟩ = some (.string (gx is i).sum)

theorem RowG.below {w w' : World} {a : Option Addr} {is : List G3} (h : RowG w a is) (hb : Below w.heap.size w w') : RowG w' a is := by
  intro i hi
  obtain ⟨b, off, ha, h1, h2, h3⟩ := h i hi
  exact ⟨b, off, ha, cell_below hb h1, cell_below hb h2, cell_below hb h3⟩
theorem RowG.setCell {w : World} {g : Nat} {is : List G3} (h : RowG w (some ⟨g, 0, none⟩) is) {b j : Nat} (hb : b ≠ g) (v : Value) : RowG (w.setCell ⟨b, j, none⟩ v) (some ⟨g, 0, none⟩) is := by
  intro i hi
  obtain ⟨b', off, ha, h1, h2, h3⟩ := h i hi
  cases ha
  have e : ∀ o, (w.setCell ⟨b, j, none⟩ v).cell? ⟨g, o, none⟩ = w.cell? ⟨g, o, none⟩ := fun o => World.cell?_of_block (w := w) (Below.heap_setCell w ⟨b, j, none⟩ v g (fun e => hb e.symm))
  exact ⟨g, 0, rfl, by rw [e]; exact h1, by rw [e]; exact h2, by rw [e]; exact h3⟩

def FilledG (is : List G3) (k : Nat) (xs : List Value) : Prop :=
  ∀ i, i < k → xs[i * 3]? = some (.string (gx is i).name) ∧ xs[i * 3 + 1]? = some (.bool (gx is i).ask) ∧ xs[i * 3 + 2]? = some (.string (gx is i).sum)
theorem filledG_set {is : List G3} {k : Nat} {xs : List Value} (h : FilledG is k xs) (hx : k * 3 + 2 < xs.length) :
    FilledG is (k + 1) (((xs.set (k * 3) (.string (gx is k).name)).set (k * 3 + 1) (.bool (gx is k).ask)).set (k * 3 + 2) (.string (gx is k).sum)) := by
  intro i hi
  rcases Nat.lt_or_ge i k with hl | hl
  · obtain ⟨h1, h2, h3⟩ := h i hl
    simp only [List.getElem?_set]
    rw [if_neg (by omega), if_neg (by omega), if_neg (by omega), if_neg (by omega), if_neg (by omega), if_neg (by omega), if_neg (by omega), if_neg (by omega), if_neg (by omega)]
    exact ⟨h1, h2, h3⟩
  · obtain rfl : i = k := by omega
    simp [List.getElem?_set]
    omega
theorem rowG_own {w : World} {B g n cap T : Nat} {is : List G3} {xs : List Value} (hn : n = is.length) (h : w.ownsRow B T 3 (.slice (some ⟨g, 0, none⟩) n cap) n xs) (hf : FilledG is n xs) : RowG w (some ⟨g, 0, none⟩) is := by
  subst hn
  intro i hi
  obtain ⟨h1, h2, h3⟩ := hf i hi
  refine ⟨g, 0, rfl, ?_, ?_, ?_⟩
  · rw [Nat.zero_add, h.cellAt _ (by omega)]; exact h1
  · rw [Nat.zero_add, h.cellAt _ (by omega)]; exact h2
  · rw [Nat.zero_add, h.cellAt _ (by omega)]; exact h3
theorem cell_of_length3 {w : World} {B g n cap j T : Nat} {xs : List Value} (h : w.ownsRow B T 3 (.slice (some ⟨g, 0, none⟩) n cap) n xs) (hj : j < n * 3) : ∃ v, w.cell? ⟨g, j, none⟩ = some v := by
  have hl := h.1
  exact ⟨xs[j]'(by omega), by rw [h.cellAt j hj]; exact List.getElem?_eq_getElem _⟩
theorem ext_succ {P : Nat → Prop} {k : Nat} (h : ∀ i, i < k → P i) (hk : P k) : ∀ i, i < k + 1 → P i := by
  intro i hi
  rcases Nat.lt_or_ge i k with h1 | h1
  · exact h i h1
  · obtain rfl : i = k := by omega
    exact hk
theorem bt {w a b : World} (h : Below w.heap.size w a) (k : Below a.heap.size a b) : Below w.heap.size w b := h.trans (k.mono h.size)

theorem Tryz.info60 : (Tryz.prog.info? 60).map (fun i => (i.zero, i.size, i.bytes)) = some (some (.agg #[.string ByteArray.empty, .bool false, .string ByteArray.empty]), 3, 40) := by kernel_rfl

set_option maxHeartbeats 400000 in
theorem eqGlance_same (i : G3) (w : World) :
    Calls Tryz.prog 80 #[.agg #[.string i.name, .bool i.ask, .string i.sum], .agg #[.string i.name, .bool i.ask, .string i.sum]] w fun e w' => Below w.heap.size w w' ∧ e = .returned (.bool true) := by
  have e1 := str_eq (rfl : i.name = i.name)
  have e2 := str_eq (rfl : i.sum = i.sum)
  go_enter Tryz.func80, Tryz.ntmps80
  go_wp2
  go_ret
  exact ⟨((Below.refl _ _).alloc (Nat.le_refl _) _).alloc (by simp) _, rfl⟩

set_option maxHeartbeats 400000 in
theorem eqGlanceS_same (a a' : Option Addr) (cap cap' : Nat) (is : List G3) (w : World) (hc : RowG w a is) (hc' : RowG w a' is) (hl : is.length ≤ 1048576) :
    Calls Tryz.prog 60 #[.slice a is.length cap, .slice a' is.length cap'] w fun e w' => Below w.heap.size w w' ∧ e = .returned (.bool true) := by
  go_enter Tryz.func60, Tryz.ntmps60
  go_wp2
  go_loopw [5] (fun i wr => ∃ k : Nat, k ≤ is.length ∧ i = .int .i64 k ∧ Below w.heap.size w wr) (fun i _ => is.length - (intOf i).toNat)
  case atStart => exact ⟨0, Nat.zero_le _, rfl, Below.refl _ _⟩
  case round =>
    obtain ⟨k, hk, rfl, hbel⟩ := hrel
    by_cases hlt : k < is.length
    · obtain ⟨b, off, rfl, c1, c2, c3⟩ := (hc.below hbel) k hlt
      obtain ⟨b', off', rfl, d1, d2, d3⟩ := (hc'.below hbel) k hlt
      generalize gx is k = i at *
      clear hc hc'
      have hkI : (k : Int) < (is.length : Int) := by omega
      have hk0 : (0 : Int) ≤ (k : Int) := by omega
      go_wp2_with fail
      go_region_held3 (fun w' => (w'.cell? ⟨b, off + k * 3, none⟩ = some (.string i.name) ∧ w'.cell? ⟨b, off + k * 3 + 1, none⟩ = some (.bool i.ask) ∧ w'.cell? ⟨b, off + k * 3 + 2, none⟩ = some (.string i.sum)) ∧ (w'.cell? ⟨b', off' + k * 3, none⟩ = some (.string i.name) ∧ w'.cell? ⟨b', off' + k * 3 + 1, none⟩ = some (.bool i.ask) ∧ w'.cell? ⟨b', off' + k * 3 + 2, none⟩ = some (.string i.sum)))
        (first | assumption | (simp [*]; done) | exact ⟨⟨cell_below hb1 (by simp [*]), cell_below hb1 (by simp [*]), cell_below hb1 (by simp [*])⟩, cell_below hb1 (by simp [*]), cell_below hb1 (by simp [*]), cell_below hb1 (by simp [*])⟩)
        (first | (go_at_call 80; refine (eqGlance_same i _).mono ?_; rintro e w1 ⟨hb1, rfl⟩))
      all_goals
        go_wp2
        go_roundw
        case rel => exact ⟨k + 1, by omega, by go_num, hbel.trans (Below.trans (Below.drew (Below.refl _ _)) (hb1.mono (by simpa using hbel.size)))⟩
        case measure => simp [intOf]; omega
    · go_wp2
      go_ret
      exact ⟨hbel, rfl⟩

end Go.Proofs.YtikdgmmloiegjaaGreatDoor
