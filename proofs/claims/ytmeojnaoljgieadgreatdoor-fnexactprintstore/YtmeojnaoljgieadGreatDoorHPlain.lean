/-
  PLAIN: the sum of a text as a number, and its digits to the base 256. No walk.
-/
import Derived.Test.YtmeojnaoljgieadGreatDoorProg
import Derived.WalkKit
import Derived.WalkSpells
import Derived.WalkLawsBesides
namespace Go.Proofs.YtmeojnaoljgieadGreatDoor
open Go.RowKit

def hstep (v c : Int) : Int := IntKind.u64.wrap (bits BinOp.xor IntKind.u64 v (IntKind.u64.wrap c) * 1099511628211)
def hash (l : List UInt8) : Int := l.foldl (fun v c => hstep v c.toNat) 14695981039346656037
theorem hash_snoc (l : List UInt8) (c : UInt8) : hash (l ++ [c]) = hstep (hash l) c.toNat := by simp [hash, List.foldl_append]
theorem wrap_u64_bd (x : Int) : 0 ≤ IntKind.u64.wrap x ∧ IntKind.u64.wrap x < 18446744073709551616 := by
  have e : IntKind.u64.wrap x = x % 2 ^ 64 := rfl
  rw [e]; omega
theorem hash_bd (l : List UInt8) : 0 ≤ hash l ∧ hash l < 18446744073709551616 := by
  unfold hash
  rcases List.eq_nil_or_concat l with rfl | ⟨l', c, rfl⟩
  · simp
  · rw [List.concat_eq_append, List.foldl_append]; exact wrap_u64_bd _

def dig (V : Int) (k : Nat) : UInt8 := UInt8.ofNat ((V / 256 ^ k).toNat % 256)
def digs (V : Int) : Nat → List UInt8
  | 0 => []
  | k + 1 => dig V k :: digs V k
theorem digs_length (V : Int) : ∀ k, (digs V k).length = k
  | 0 => rfl
  | k + 1 => by simp [digs, digs_length V k]
theorem div_bd (V : Int) (k : Nat) (h : 0 ≤ V) (h2 : V < 18446744073709551616) : 0 ≤ V / 256 ^ k ∧ V / 256 ^ k < 18446744073709551616 := by
  have hp : (0 : Int) < 256 ^ k := Int.pow_pos (by omega)
  exact ⟨Int.ediv_nonneg h (Int.le_of_lt hp), Int.lt_of_le_of_lt (Int.ediv_le_self _ h) h2⟩
theorem dig_toNat (V : Int) (h : 0 ≤ V) (k : Nat) : ((dig V k).toNat : Int) = V / 256 ^ k % 256 := by
  have : 0 ≤ V / 256 ^ k := Int.ediv_nonneg h (Int.le_of_lt (Int.pow_pos (by omega)))
  unfold dig
  rw [UInt8.toNat_ofNat']
  omega
theorem div_succ (V : Int) (k : Nat) : V / 256 ^ (k + 1) = V / 256 ^ k / 256 := by
  rw [Int.pow_succ, Int.ediv_ediv_of_nonneg (Int.le_of_lt (Int.pow_pos (by omega)))]
def dcells (V : Int) (k : Nat) : List Value := (digs V k).map fun b => Value.int .u8 b.toNat
theorem dcells_length (V : Int) (k : Nat) : (dcells V k).length = k := by simp [dcells, digs_length]
theorem dcells_succ (V : Int) (h : 0 ≤ V) (k : Nat) : dcells V (k + 1) = [Value.int .u8 (V / 256 ^ k % 256)] ++ dcells V k := by
  simp [dcells, digs, dig_toNat V h]
theorem dcells_one (V : Int) (k : Nat) : ∀ u ∈ dcells V k, u.oneCell' = true := by
  intro u hu; obtain ⟨_, _, rfl⟩ := List.mem_map.1 hu; rfl

theorem take_snoc (s : ByteArray) (k : Nat) (h : k < s.size) : s.data.toList.take (k + 1) = s.data.toList.take k ++ [s[k]] := by
  rw [List.take_succ_eq_append_getElem (by simpa using h)]; rfl

/-- Place j of the array of eight bytes that impl.sumBytes fills. -/
def cell8 (V : Int) (n j : Nat) : Int := if j < n then V / 256 ^ (n - 1 - j) % 256 else 0
def cells8 (V : Int) (n : Nat) : Array Value :=
  #[.int .u8 (cell8 V n 0), .int .u8 (cell8 V n 1), .int .u8 (cell8 V n 2), .int .u8 (cell8 V n 3), .int .u8 (cell8 V n 4), .int .u8 (cell8 V n 5), .int .u8 (cell8 V n 6), .int .u8 (cell8 V n 7)]
theorem digs_get (V : Int) : ∀ (n j : Nat) (h : j < (digs V n).length), (digs V n)[j] = dig V (n - 1 - j)
  | 0, j, h => by simp [digs] at h
  | n + 1, 0, h => by simp [digs]
  | n + 1, j + 1, h => by
    have h' : j < (digs V n).length := by simpa [digs] using h
    have := digs_get V n j h'
    simp only [digs, List.getElem_cons_succ, this]
    congr 1
    omega
theorem cell8_digs (V : Int) (hV : 0 ≤ V) (n j : Nat) (h : j < (digs V n).length) : Value.int .u8 (cell8 V n j) = .int .u8 ((digs V n)[j].toNat : Int) := by
  have hn : j < n := by simpa [digs_length] using h
  rw [digs_get, dig_toNat V hV, cell8, if_pos hn]

end Go.Proofs.YtmeojnaoljgieadGreatDoor
