import Derived.Test.YtllhbgmadiclcaaGreatDoorStrs
import Derived.Shelf.SlSorted.Search
import Derived.Test.YtllhbgmadiclcaaGreatDoorCopy
import Derived.Test.YtllhbgmadiclcaaGreatDoorProg
import Derived.WalkKit
import Derived.WalkSpells
import Derived.WalkLawsBesides
namespace Go.Proofs.YtllhbgmadiclcaaGreatDoor
open Go.RowKit
set_option linter.unusedVariables false

def lessB (a b : ByteArray) : Bool := Op.bytesLess a.toList b.toList
theorem lessB_trans {a b c : ByteArray} (h : lessB a b = true) (k : lessB b c = true) : lessB a c = true := by
  unfold lessB at *
  rw [bytesLess_eq] at *
  simp only [decide_eq_true_eq] at *
  exact List.lt_trans h k
theorem lessB_irrefl (a : ByteArray) : lessB a a = false := by
  unfold lessB
  rw [bytesLess_eq]
  simp only [decide_eq_false_iff_not]
  exact List.lt_irrefl _

def nx (l : List ByteArray) (i : Nat) : ByteArray := l.getD i ByteArray.empty
def Asc (l : List ByteArray) : Prop := ∀ i, 1 ≤ i → i < l.length → lessB (nx l (i - 1)) (nx l i) = true
theorem Asc.lt {l : List ByteArray} (h : Asc l) : ∀ (d i : Nat), i + d + 1 < l.length → lessB (nx l i) (nx l (i + d + 1)) = true
  | 0, i, hi => by have := h (i + 0 + 1) (by omega) hi; simpa using this
  | d + 1, i, hi => by
    have h1 := Asc.lt h d i (by omega)
    have h2 := h (i + (d + 1) + 1) (by omega) hi
    exact lessB_trans h1 (by have := h2; rw [Nat.add_sub_cancel] at this; exact this)
theorem Asc.pair {l : List ByteArray} (h : Asc l) {i j : Nat} (hij : i < j) (hj : j < l.length) : lessB (nx l i) (nx l j) = true := by
  have := h.lt (j - i - 1) i (by omega)
  rwa [show i + (j - i - 1) + 1 = j by omega] at this

theorem iff_no {P : Prop} (h : ¬ P) : (false = true ↔ P) := ⟨fun k => absurd k (by decide), fun k => absurd k h⟩
theorem iff_yes {P : Prop} (h : P) : (true = true ↔ P) := ⟨fun _ => h, fun _ => rfl⟩

theorem ascending_step {l : List ByteArray} {m : Nat} (h : ∀ j, 1 ≤ j → j < m + 1 → lessB (nx l (j - 1)) (nx l j) = true) (hk : lessB (nx l m) (nx l (m + 1)) = true) : ∀ j, 1 ≤ j → j < m + 1 + 1 → lessB (nx l (j - 1)) (nx l j) = true := by
  intro j h1 h2
  rcases Nat.lt_or_ge j (m + 1) with h3 | h3
  · exact h j h1 h3
  · obtain rfl : j = m + 1 := by omega
    simpa using hk

set_option maxHeartbeats 1000000 in
theorem ascending_any (a : Option Addr) (cap : Nat) (l : List ByteArray) (w : World) (hc : Strs w a l) (hl : l.length ≤ 1048576) :
    Calls Tryz.prog 67 #[.slice a l.length cap] w fun e w' => Below w.heap.size w w' ∧ ∃ b : Bool, e = .returned (.bool b) ∧ (b = true ↔ Asc l) := by
  go_enter Tryz.func67, Tryz.ntmps67
  go_wp2
  go_loopw [3] (fun i wr => ∃ m : Nat, (m = 0 ∨ m + 1 ≤ l.length) ∧ i = .int .i64 (m + 1) ∧ Hid (∀ j, 1 ≤ j → j < m + 1 → lessB (nx l (j - 1)) (nx l j) = true) ∧ Below w.heap.size w wr) (fun i _ => l.length + 1 - (intOf i).toNat)
  case atStart => exact ⟨0, Or.inl rfl, rfl, (fun j h1 h2 => by omega : ∀ j, 1 ≤ j → j < 0 + 1 → lessB (nx l (j - 1)) (nx l j) = true), Below.refl _ _⟩
  case round =>
    obtain ⟨m, hm, rfl, HA, hbel⟩ := hrel
    by_cases hlt : m + 1 < l.length
    · obtain ⟨b, off, rfl, c1⟩ := (hc.below hbel) m (by omega)
      obtain ⟨b', off', e', c2⟩ := (hc.below hbel) (m + 1) hlt
      simp only [Option.some.injEq, Addr.mk.injEq, and_true] at e'
      obtain ⟨rfl, rfl⟩ := e'
      replace c1 : wr.cell? ⟨b, off + m, none⟩ = some (.string (nx l m)) := c1
      replace c2 : wr.cell? ⟨b, off + (m + 1), none⟩ = some (.string (nx l (m + 1))) := c2
      obtain ⟨v, hv⟩ : ∃ v, lessB (nx l m) (nx l (m + 1)) = v := ⟨_, rfl⟩
      have HV : Hid (lessB (nx l m) (nx l (m + 1)) = v) := hv
      unfold lessB at hv
      clear hc
      generalize nx l m = s at c1 hv
      generalize nx l (m + 1) = s' at c2 hv
      have hltI : (m : Int) + 1 < (l.length : Int) := by omega
      cases v
      · go_wp2
        go_region
        all_goals
          go_wp2
          go_ret
          exact ⟨by repeat (first | exact hbel | apply Below.drew), false, rfl, iff_no (fun h => by have := h (m + 1) (by omega) hlt; rw [Nat.add_sub_cancel, HV.out] at this; cases this)⟩
      · go_wp2
        go_region
        all_goals
          go_wp2
          go_roundw
          case rel => exact ⟨m + 1, by omega, by go_num, ascending_step HA.out HV.out, by repeat (first | exact hbel | apply Below.drew)⟩
          case measure => simp [intOf]; omega
    · go_wp2
      go_ret
      exact ⟨hbel, true, rfl, iff_yes (fun j h1 h2 => HA.out j h1 (by omega))⟩

end Go.Proofs.YtllhbgmadiclcaaGreatDoor
namespace Go.Proofs.YtllhbgmadiclcaaGreatDoor
open Go.RowKit
set_option linter.unusedVariables false

def NameOk (s : ByteArray) : Prop := 1 ≤ s.size ∧ s.size ≤ 60 ∧ ∀ j, (h : j < s.size) → 33 ≤ s[j].toNat ∧ s[j].toNat ≤ 126
noncomputable def nameB (s : ByteArray) : Bool := @decide (NameOk s) (Classical.propDecidable _)
theorem nameB_true {s : ByteArray} (h : NameOk s) : nameB s = true := by simp [nameB, h]
theorem nameB_false {s : ByteArray} (h : ¬ NameOk s) : nameB s = false := by simp [nameB, h]
set_option maxHeartbeats 400000 in
theorem l2NameOk_any (s : ByteArray) (w : World) (hs : s.size ≤ 9223372036854775807) : Calls Tryz.prog 84 #[.string s] w fun e w' => e = .returned (.bool (nameB s)) ∧ w = w' := by
  by_cases h1 : s.size < 1
  · rw [nameB_false (fun h => by have := h.1; omega)]
    have d1 : decide ((s.size : Int) < 1) = true := by simp; omega
    go_enter Tryz.func84, Tryz.ntmps84
    go_wp2
    go_ret
    exact ⟨rfl, rfl⟩
  · have d1 : decide ((s.size : Int) < 1) = false := by simp; omega
    by_cases h2 : 60 < s.size
    · rw [nameB_false (fun h => by have := h.2.1; omega)]
      have d2 : decide ((60 : Int) < s.size) = true := by simp; omega
      go_enter Tryz.func84, Tryz.ntmps84
      go_wp2
      go_ret
      exact ⟨rfl, rfl⟩
    · have d2 : decide ((60 : Int) < s.size) = false := by simp; omega
      go_enter Tryz.func84, Tryz.ntmps84
      go_wp2
      go_loopw [3] (fun i wr => ∃ k : Nat, k ≤ s.size ∧ i = .int .i64 k ∧ Hid (∀ j, (h : j < s.size) → j < k → 33 ≤ s[j].toNat ∧ s[j].toNat ≤ 126) ∧ w = wr) (fun i _ => s.size - (intOf i).toNat)
      case atStart => exact ⟨0, Nat.zero_le _, rfl, fun j _ hj => by omega, rfl⟩
      case round =>
        obtain ⟨k, hk, rfl, HA, rfl⟩ := hrel
        by_cases hlt : k < s.size
        · by_cases c1 : s[k].toNat < 33
          · have e1 : decide ((s[k].toNat : Int) < 33) = true := by simp; omega
            have HF : Hid (nameB s = false) := nameB_false (fun h => by have := h.2.2 k hlt; omega)
            clear c1
            go_wp2
            go_ret
            exact ⟨by rw [HF.out]; rfl, rfl⟩
          · have e1 : decide ((s[k].toNat : Int) < 33) = false := by simp; omega
            by_cases c2 : 126 < s[k].toNat
            · have e2 : decide ((126 : Int) < s[k].toNat) = true := by simp; omega
              have HF : Hid (nameB s = false) := nameB_false (fun h => by have := h.2.2 k hlt; omega)
              clear c1 c2
              go_wp2
              go_ret
              exact ⟨by rw [HF.out]; rfl, rfl⟩
            · have e2 : decide ((126 : Int) < s[k].toNat) = false := by simp; omega
              have HB : Hid (∀ j, (h : j < s.size) → j < k + 1 → 33 ≤ s[j].toNat ∧ s[j].toNat ≤ 126) := fun j h hj => by
                rcases Nat.lt_or_ge j k with h' | h'
                · exact HA.out j h h'
                · obtain rfl : j = k := by omega
                  omega
              clear c1 c2
              go_wp2
              go_roundw
              case rel => exact ⟨k + 1, by omega, by go_num, HB, by first | trivial | rfl⟩
              case measure => simp [intOf]; omega
        · have HF : Hid (nameB s = true) := nameB_true ⟨by omega, by omega, fun j h => HA.out j h (by omega)⟩
          go_wp2
          go_ret
          exact ⟨by rw [HF.out]; rfl, rfl⟩

set_option maxHeartbeats 400000 in
theorem validName_any (s : ByteArray) (w : World) (hs : s.size ≤ 9223372036854775807) : Calls Tryz.prog 98 #[.string s] w fun e w' => e = .returned (.bool (nameB s)) ∧ w = w' := by
  by_cases h1 : s.size < 1
  · rw [nameB_false (fun h => by have := h.1; omega)]
    have d1 : decide ((s.size : Int) < 1) = true := by simp; omega
    go_enter Tryz.func98, Tryz.ntmps98
    go_wp2
    go_ret
    exact ⟨rfl, rfl⟩
  · have d1 : decide ((s.size : Int) < 1) = false := by simp; omega
    by_cases h2 : 60 < s.size
    · rw [nameB_false (fun h => by have := h.2.1; omega)]
      have d2 : decide ((60 : Int) < s.size) = true := by simp; omega
      go_enter Tryz.func98, Tryz.ntmps98
      go_wp2
      go_ret
      exact ⟨rfl, rfl⟩
    · have d2 : decide ((60 : Int) < s.size) = false := by simp; omega
      go_enter Tryz.func98, Tryz.ntmps98
      go_wp2
      go_loopw [14] (fun i wr => ∃ k : Nat, k ≤ s.size ∧ i = .int .i64 k ∧ Hid (∀ j, (h : j < s.size) → j < k → 33 ≤ s[j].toNat ∧ s[j].toNat ≤ 126) ∧ w = wr) (fun i _ => s.size - (intOf i).toNat)
      case atStart => exact ⟨0, Nat.zero_le _, rfl, fun j _ hj => by omega, rfl⟩
      case round =>
        obtain ⟨k, hk, rfl, HA, rfl⟩ := hrel
        by_cases hlt : k < s.size
        · by_cases c1 : s[k].toNat < 33
          · have e1 : decide ((s[k].toNat : Int) < 33) = true := by simp; omega
            have HF : Hid (nameB s = false) := nameB_false (fun h => by have := h.2.2 k hlt; omega)
            clear c1
            go_wp2
            go_ret
            exact ⟨by rw [HF.out]; rfl, rfl⟩
          · have e1 : decide ((s[k].toNat : Int) < 33) = false := by simp; omega
            by_cases c2 : 126 < s[k].toNat
            · have e2 : decide ((126 : Int) < s[k].toNat) = true := by simp; omega
              have HF : Hid (nameB s = false) := nameB_false (fun h => by have := h.2.2 k hlt; omega)
              clear c1 c2
              go_wp2
              go_ret
              exact ⟨by rw [HF.out]; rfl, rfl⟩
            · have e2 : decide ((126 : Int) < s[k].toNat) = false := by simp; omega
              have HB : Hid (∀ j, (h : j < s.size) → j < k + 1 → 33 ≤ s[j].toNat ∧ s[j].toNat ≤ 126) := fun j h hj => by
                rcases Nat.lt_or_ge j k with h' | h'
                · exact HA.out j h h'
                · obtain rfl : j = k := by omega
                  omega
              clear c1 c2
              go_wp2
              go_roundw
              case rel => exact ⟨k + 1, by omega, by go_num, HB, by first | trivial | rfl⟩
              case measure => simp [intOf]; omega
        · have HF : Hid (nameB s = true) := nameB_true ⟨by omega, by omega, fun j h => HA.out j h (by omega)⟩
          go_wp2
          go_ret
          exact ⟨by rw [HF.out]; rfl, rfl⟩

end Go.Proofs.YtllhbgmadiclcaaGreatDoor
namespace Go.Proofs.YtllhbgmadiclcaaGreatDoor
open Go.RowKit

def hstep (v c : Int) : Int := IntKind.u64.wrap (bits BinOp.xor IntKind.u64 v (IntKind.u64.wrap c) * 1099511628211)
def hash (l : List UInt8) : Int := l.foldl (fun v c => hstep v c.toNat) 14695981039346656037
theorem hash_snoc (l : List UInt8) (c : UInt8) : hash (l ++ [c]) = hstep (hash l) c.toNat := by simp [hash, List.foldl_append]
theorem wrap_u64_bd (x : Int) : 0 ≤ IntKind.u64.wrap x ∧ IntKind.u64.wrap x < 18446744073709551616 := by
  have e : IntKind.u64.wrap x = x % 2 ^ 64 := rfl
  rw [e]; omega
theorem hash_bd (l : List UInt8) : 0 ≤ hash l ∧ hash l < 18446744073709551616 := by
  unfold hash
  rcases List.eq_nil_or_concat l with rfl | ⟨l', c, rfl⟩
  · simp
  · rw [List.concat_eq_append, List.foldl_append]; exact wrap_u64_bd _

def dig (V : Int) (k : Nat) : UInt8 := UInt8.ofNat ((V / 256 ^ k).toNat % 256)
def digs (V : Int) : Nat → List UInt8
  | 0 => []
  | k + 1 => dig V k :: digs V k
theorem digs_length (V : Int) : ∀ k, (digs V k).length = k
  | 0 => rfl
  | k + 1 => by simp [digs, digs_length V k]
theorem div_bd (V : Int) (k : Nat) (h : 0 ≤ V) (h2 : V < 18446744073709551616) : 0 ≤ V / 256 ^ k ∧ V / 256 ^ k < 18446744073709551616 := by
  have hp : (0 : Int) < 256 ^ k := Int.pow_pos (by omega)
  exact ⟨Int.ediv_nonneg h (Int.le_of_lt hp), Int.lt_of_le_of_lt (Int.ediv_le_self _ h) h2⟩
theorem dig_toNat (V : Int) (h : 0 ≤ V) (k : Nat) : ((dig V k).toNat : Int) = V / 256 ^ k % 256 := by
  have : 0 ≤ V / 256 ^ k := Int.ediv_nonneg h (Int.le_of_lt (Int.pow_pos (by omega)))
  unfold dig
  rw [UInt8.toNat_ofNat']
  omega
theorem div_succ (V : Int) (k : Nat) : V / 256 ^ (k + 1) = V / 256 ^ k / 256 := by
  rw [Int.pow_succ, Int.ediv_ediv_of_nonneg (Int.le_of_lt (Int.pow_pos (by omega)))]
def dcells (V : Int) (k : Nat) : List Value := (digs V k).map fun b => Value.int .u8 b.toNat
theorem dcells_length (V : Int) (k : Nat) : (dcells V k).length = k := by simp [dcells, digs_length]
theorem dcells_succ (V : Int) (h : 0 ≤ V) (k : Nat) : dcells V (k + 1) = [Value.int .u8 (V / 256 ^ k % 256)] ++ dcells V k := by
  simp [dcells, digs, dig_toNat V h]
theorem dcells_one (V : Int) (k : Nat) : ∀ u ∈ dcells V k, u.oneCell' = true := by
  intro u hu; obtain ⟨_, _, rfl⟩ := List.mem_map.1 hu; rfl

theorem take_snoc (s : ByteArray) (k : Nat) (h : k < s.size) : s.data.toList.take (k + 1) = s.data.toList.take k ++ [s[k]] := by
  rw [List.take_succ_eq_append_getElem (by simpa using h)]; rfl

/-- Place j of the array of eight bytes that impl.sumBytes fills. -/
def cell8 (V : Int) (n j : Nat) : Int := if j < n then V / 256 ^ (n - 1 - j) % 256 else 0
def cells8 (V : Int) (n : Nat) : Array Value :=
  #[.int .u8 (cell8 V n 0), .int .u8 (cell8 V n 1), .int .u8 (cell8 V n 2), .int .u8 (cell8 V n 3), .int .u8 (cell8 V n 4), .int .u8 (cell8 V n 5), .int .u8 (cell8 V n 6), .int .u8 (cell8 V n 7)]
theorem digs_get (V : Int) : ∀ (n j : Nat) (h : j < (digs V n).length), (digs V n)[j] = dig V (n - 1 - j)
  | 0, j, h => by simp [digs] at h
  | n + 1, 0, h => by simp [digs]
  | n + 1, j + 1, h => by
    have h' : j < (digs V n).length := by simpa [digs] using h
    have := digs_get V n j h'
    simp only [digs, List.getElem_cons_succ, this]
    congr 1
    omega
theorem cell8_digs (V : Int) (hV : 0 ≤ V) (n j : Nat) (h : j < (digs V n).length) : Value.int .u8 (cell8 V n j) = .int .u8 ((digs V n)[j].toNat : Int) := by
  have hn : j < n := by simpa [digs_length] using h
  rw [digs_get, dig_toNat V hV, cell8, if_pos hn]

end Go.Proofs.YtllhbgmadiclcaaGreatDoor
namespace Go.Proofs.YtllhbgmadiclcaaGreatDoor
open Go.RowKit

theorem Tryz.info5 : (Tryz.prog.info? 5).map (fun i => (i.zero, i.size, i.bytes)) = some (some (.int .u8 0), 1, 1) := by kernel_rfl

set_option maxHeartbeats 400000 in
theorem l1Width_yes (n : Int) (w : World) (h1 : 1 ≤ n) (h2 : n ≤ 8) :
    Calls Tryz.prog 36 #[.int .i64 n] w fun e w' => e = .returned (.bool true) ∧ w = w' := by
  go_enter Tryz.func36, Tryz.ntmps36
  go_wp2
  go_ret
  exact ⟨rfl, rfl⟩

set_option maxHeartbeats 400000 in
theorem l1Width_no (n : Int) (w : World) (h : n < 1 ∨ 8 < n) :
    Calls Tryz.prog 36 #[.int .i64 n] w fun e w' => e = .returned (.bool false) ∧ w = w' := by
  rcases h with h | h
  · have h' : decide (1 ≤ n) = false := by simp; omega
    go_enter Tryz.func36, Tryz.ntmps36
    go_wp2
    go_ret
    exact ⟨rfl, rfl⟩
  · have h' : 1 ≤ n := by omega
    have h'' : decide (n ≤ 8) = false := by simp; omega
    go_enter Tryz.func36, Tryz.ntmps36
    go_wp2
    go_ret
    exact ⟨rfl, rfl⟩

set_option maxHeartbeats 400000 in
theorem validWidth_yes (n : Int) (w : World) (h1 : 1 ≤ n) (h2 : n ≤ 8) :
    Calls Tryz.prog 63 #[.int .i64 n] w fun e w' => e = .returned (.bool true) ∧ w = w' := by
  go_enter Tryz.func63, Tryz.ntmps63
  go_wp2
  go_ret
  exact ⟨rfl, rfl⟩

set_option maxHeartbeats 400000 in
theorem validWidth_no (n : Int) (w : World) (h : n < 1 ∨ 8 < n) :
    Calls Tryz.prog 63 #[.int .i64 n] w fun e w' => e = .returned (.bool false) ∧ w = w' := by
  rcases h with h | h
  · have h' : decide (1 ≤ n) = false := by simp; omega
    go_enter Tryz.func63, Tryz.ntmps63
    go_wp2
    go_ret
    exact ⟨rfl, rfl⟩
  · have h' : 1 ≤ n := by omega
    have h'' : decide (n ≤ 8) = false := by simp; omega
    go_enter Tryz.func63, Tryz.ntmps63
    go_wp2
    go_ret
    exact ⟨rfl, rfl⟩

/-- What one round of spec.Sum's second loop leaves. -/
theorem specSum_step {w wr w1 : World} {V : Int} {j : Nat} {v' : Value} (hV : 0 ≤ V) (hsz : w.heap.size ≤ wr.heap.size) (hbel : Below w.heap.size w wr)
    (hown' : w1.ownsRow w.heap.size 5 1 v' (1 + j) ([Value.int .u8 (V / 256 ^ j % 256)] ++ dcells V j))
    (hgrow : (wr.alloc (.cells #[Value.int .u8 (V / 256 ^ j % 256)] 5)).grownBy w1 (Value.slice (some ⟨wr.heap.size, 0, none⟩) 1 1).ownBlock)
    (hnil : v' = .slice none 0 0 ↔ Value.slice (some ⟨wr.heap.size, 0, none⟩) 1 1 = .slice none 0 0 ∧ j = 0) :
    ∃ g cap : Nat, v' = .slice (some ⟨g, 0, none⟩) (j + 1) cap ∧ w1.ownsRow w.heap.size 5 1 (.slice (some ⟨g, 0, none⟩) (j + 1) cap) (j + 1) (dcells V (j + 1)) ∧ Below w.heap.size w w1 := by
  rw [← dcells_succ V hV, Nat.add_comm 1 j] at hown'
  have hb : Below w.heap.size w w1 := (hbel.alloc hsz _).grown hgrow (by simp; omega) (by intro k hk; simp [Value.ownBlock] at hk; omega)
  have h2 := hown'.2
  rcases h2 with ⟨h, _⟩ | ⟨g, cap, cur, hv, _⟩
  · have := hnil.1 h; simp at this
  · subst hv; exact ⟨g, cap, rfl, hown', hb⟩

set_option maxHeartbeats 400000 in
theorem specSum_yes (s : ByteArray) (n : Nat) (w : World) (hs : s.size ≤ 1048576) (h1 : 1 ≤ n) (h2 : n ≤ 8) :
    Calls Tryz.prog 17 #[.string s, .int .i64 n] w fun e w' => e = .returned (.string ⟨(digs (hash s.data.toList) n).toArray⟩) ∧ Below w.heap.size w w' := by
  obtain ⟨i0, hi, hz0, hz1, hz2⟩ := info_parts Tryz.info5
  obtain ⟨hV1, hV2⟩ := hash_bd s.data.toList
  generalize hV : hash s.data.toList = V at *
  have HV : Hid (hash s.data.toList = V) := hV
  clear hV
  go_enter Tryz.func17, Tryz.ntmps17
  go_wp2_with (first | (go_at_call 36; refine (l1Width_yes _ _ (by omega) (by omega)).mono ?_; rintro e w' ⟨rfl, rfl⟩))
  go_loop [5, 6] (fun v i => ∃ k : Nat, k ≤ s.size ∧ i = .int .i64 k ∧ v = .int .u64 (hash (s.data.toList.take k))) (fun _ i => s.size - (intOf i).toNat)
  case atStart => exact ⟨0, Nat.zero_le _, rfl, rfl⟩
  case round =>
    obtain ⟨k, hk, rfl, rfl⟩ := hrel
    by_cases hlt : k < s.size
    · have HS : Hid (hash (s.data.toList.take (k + 1)) = hstep (hash (s.data.toList.take k)) s[k].toNat) := by rw [take_snoc s k hlt]; exact hash_snoc _ _
      go_wp2
      go_round
      case rel => exact ⟨k + 1, by omega, by go_num, by rw [HS.out]; rfl⟩
      case measure => simp [intOf]; omega
    · rw [show s.data.toList.take k = s.data.toList from List.take_of_length_le (by simp; omega)]
      rw [HV.out]
      go_wp2
      go_loopw [5, 7, 8] (fun v o i wr => ∃ k : Nat, ∃ g cap : Nat, k ≤ n ∧ i = .int .i64 k ∧ v = .int .u64 (V / 256 ^ k) ∧ o = .slice (some ⟨g, 0, none⟩) k cap ∧
          wr.ownsRow w.heap.size 5 1 (.slice (some ⟨g, 0, none⟩) k cap) k (dcells V k) ∧ Below w.heap.size w wr)
        (fun _ _ i _ => n - (intOf i).toNat)
      case atStart =>
        refine ⟨0, w.heap.size, 0, Nat.zero_le _, rfl, by simp, rfl, ?_, (Below.refl _ _).alloc (Nat.le_refl _) _⟩
        exact World.ownsRow_lit w #[] 0 (Nat.le_refl _) (by unfold maxLen; omega) (by simp)
      case round =>
        obtain ⟨j, g, cap, hj, rfl, rfl, rfl, hown, hbel⟩ := hrel
        obtain ⟨hd1, hd2⟩ := div_bd V j hV1 hV2
        have hsz := hbel.size
        by_cases hjn : j < n
        · have hnew := World.ownsRow_lit (base := w.heap.size) (e := 5) (size := 1) wr #[Value.int .u8 (V / 256 ^ j % 256)] 1 hsz (by unfold maxLen; omega) (by simp)
          have hcs := (hown.alloc (.cells #[Value.int .u8 (V / 256 ^ j % 256)] 5)).cells (g := g) rfl
          go_wp2_with (first | (at_builtin; refine wpList_append_own _ rfl (.tmp 34) (.tmp 35) 87 rfl w.heap.size 5 i0 (.int .u8 0) 1 1 Tryz.underlying87 hi hz0 hz1 hz2 rfl (by decide) _ _ _ rfl hnew ⟨g, 0, none⟩ j cap (dcells V j) rfl (by simp [dcells_length]) hcs (dcells_one V j) (by unfold maxLen; omega) (by omega) (by simp; omega) ?_; intro v' w1 hown' hgrow hnil; obtain ⟨g', cap', hv', R⟩ := specSum_step hV1 hsz hbel hown' hgrow hnil; clear hown' hgrow hnil hnew hcs hown hbel; rw [hv']; clear hv'))
          go_roundw
          case rel => exact ⟨j + 1, g', cap', by omega, by go_num, by rw [div_succ], rfl, R.1, R.2⟩
          case measure => simp [intOf]; omega
        · have ej : j = n := by omega
          have hcv : (convert 87 9 (.slice (some ⟨g, 0, none⟩) j cap)).run Tryz.prog wr = .ok (.string ⟨(digs V j).toArray⟩) wr := by
            have := run_convert_bytes_back (P := Tryz.prog) wr 87 9 5 ⟨g, 0, none⟩ cap (digs V j) Tryz.underlying87 Tryz.underlying5 Tryz.underlying9 (fun t ht => hown.cells rfl t _ (by rw [dcells, List.getElem?_map, List.getElem?_eq_getElem ht]; rfl))
            rwa [digs_length] at this
          have Hej : Hid (j = n) := ej
          clear ej
          go_wp2
          go_ret
          exact ⟨by rw [Hej.out]; rfl, hbel⟩

end Go.Proofs.YtllhbgmadiclcaaGreatDoor
