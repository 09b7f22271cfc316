/-
  The reader of a code (spec.l1Rd): spec.pick.
-/
import Derived.Test.YtmeojnaoljgieaaStrs
namespace Go.Proofs.Ytmeojnaoljgieaa
open Go.RowKit

/-- The reader: block R holds the slice and the place; all of it lies below B. -/
structure Rd (B : Nat) (w : World) (R : Nat) (a : Option Addr) (len cap : Nat) (p : Nat) : Prop where
  block : w.heap[R]? = some (.cells #[.slice a len cap, .int .i64 p] 55 (0, 0))
  bytes : ∀ i, i < len → ∃ b off v, a = some ⟨b, off, none⟩ ∧ b ≠ R ∧ b < B ∧ w.cell? ⟨b, off + i, none⟩ = some (.int .u8 v) ∧ 0 ≤ v ∧ v ≤ 255
  short : len ≤ 2000
  lt : R < B

section
variable {B : Nat} {w : World} {R : Nat} {a : Option Addr} {len cap p : Nat}
theorem Rd.cell0 (h : Rd B w R a len cap p) : w.cell? ⟨R, 0, none⟩ = some (.slice a len cap) := by
  simp [World.cell?, h.block]
theorem Rd.cell1 (h : Rd B w R a len cap p) : w.cell? ⟨R, 1, none⟩ = some (.int .i64 p) := by
  simp [World.cell?, h.block]
theorem Rd.free (h : Rd B w R a len cap p) (j : Nat) : w.frozen? ⟨R, j, none⟩ = false := by
  simp [World.frozen?, h.block]
theorem Rd.kept {w' : World} {row : Option Nat} (h : Rd B w R a len cap p) (hB : B ≤ w.heap.size) (hg : w.grownBy w' row) (hr : ∀ k, row = some k → B ≤ k) : Rd B w' R a len cap p := by
  refine ⟨?_, fun i hi => ?_, h.short, h.lt⟩
  · rw [hg.block R (by have := h.lt; omega) (fun e => by have := hr R e.symm; have := h.lt; omega)]; exact h.block
  · obtain ⟨b, off, v, ha, hb, hbB, hc, h1, h2⟩ := h.bytes i hi
    exact ⟨b, off, v, ha, hb, hbB, hg.cell hc (fun e => by have := hr b e.symm; omega), h1, h2⟩
theorem Rd.step (h : Rd B w R a len cap p) : Rd B (w.setCell ⟨R, 1, none⟩ (.int .i64 (p + 1 : Nat))) R a len cap (p + 1) := by
  refine ⟨?_, fun i hi => ?_, h.short, h.lt⟩
  · simp [World.setCell, Array.getElem?_modify, h.block]
  · obtain ⟨b, off, v, ha, hb, hbB, hc, h1, h2⟩ := h.bytes i hi
    refine ⟨b, off, v, ha, hb, hbB, ?_, h1, h2⟩
    rw [World.cell?_of_block (w := w) (Below.heap_setCell w ⟨R, 1, none⟩ _ b hb)]; exact hc
theorem grown_setCell (w : World) (R j : Nat) (v : Value) : w.grownBy (w.setCell ⟨R, j, none⟩ v) (some R) :=
  ⟨rfl, rfl, rfl, by simp [World.setCell], fun k _ hne => Below.heap_setCell w ⟨R, j, none⟩ v k (fun e => hne (by rw [e]))⟩
theorem grown_drew {w w' : World} {row : Option Nat} (h : w.grownBy w' row) : w.grownBy w'.drew row := ⟨h.os, h.tape, h.output, h.size, h.block⟩
theorem Rd.drew (h : Rd B w R a len cap p) : Rd B w.drew R a len cap p := ⟨h.block, h.bytes, h.short, h.lt⟩
/-- One step more: what is written is R's block again or a block that is new. -/
theorem gb_trans {w a b : World} {R : Nat} {row : Option Nat} (h : w.grownBy a (some R)) (h2 : a.grownBy b row) (hrow : ∀ k, row = some k → k = R ∨ w.heap.size ≤ k) : w.grownBy b (some R) :=
  ⟨h2.os.trans h.os, h2.tape.trans h.tape, h2.output.trans h.output, Nat.le_trans h.size h2.size, fun k hk hne =>
    (h2.block k (by have := h.size; omega) (fun e => by rcases hrow k e.symm with rfl | h' ; exact hne rfl; omega)).trans (h.block k hk hne)⟩
end

theorem bits_xor_i64_nat (a b : Nat) (ha : a < 9223372036854775808) (hb : b < 9223372036854775808) :
    bits .xor .i64 (a : Int) (b : Int) = ((a ^^^ b : Nat) : Int) := by
  have hx : a ^^^ b < 2 ^ 63 := Nat.xor_lt_two_pow (by omega) (by omega)
  have h1 : (BitVec.ofInt 64 (a : Int)).toNat = a := by
    rw [BitVec.ofInt_natCast, BitVec.toNat_ofNat]; exact Nat.mod_eq_of_lt (by omega)
  have h2 : (BitVec.ofInt 64 (b : Int)).toNat = b := by
    rw [BitVec.ofInt_natCast, BitVec.toNat_ofNat]; exact Nat.mod_eq_of_lt (by omega)
  show IntKind.i64.wrap ((BitVec.ofInt 64 (a : Int) ^^^ BitVec.ofInt 64 (b : Int)).toNat : Int) = _
  rw [BitVec.toNat_xor, h1, h2]
  rw [IntKind.wrap_i64]
  omega

/-- The number that pick makes beyond the code's end. -/
theorem far_num (A : Int) (n : Nat) (h0 : 0 ≤ A) (h1 : A ≤ 1000000000) (hn : 1 ≤ n) : ∃ x : Nat, (bits .xor .i64 A (A / 64)).tmod n = (x : Int) ∧ x < n := by
  obtain ⟨m, rfl⟩ := Int.eq_ofNat_of_zero_le h0
  have e : ((m : Int) / 64) = ((m / 64 : Nat) : Int) := by omega
  rw [e, bits_xor_i64_nat m (m / 64) (by omega) (by omega)]
  exact ⟨(m ^^^ m / 64) % n, by rw [← Int.ofNat_tmod], Nat.mod_lt _ (by omega)⟩

set_option maxHeartbeats 400000 in
theorem pick_far (w : World) (B R : Nat) (b off len cap p : Nat) (n : Nat) (u v : Int) (i1 i2 q : Nat) (h : Rd B w R (some ⟨b, off, none⟩) len cap p) (hp : p ≤ 100000) (hn : 1 ≤ n) (hn2 : n ≤ 1000) (hl : len ≤ p) (h0 : 0 < len)
   (hu : w.cell? ⟨b, off + i1, none⟩ = some (.int .u8 u)) (hv : w.cell? ⟨b, off + i2, none⟩ = some (.int .u8 v)) (hu1 : 0 ≤ u) (hu2 : u ≤ 255) (hv1 : 0 ≤ v) (hv2 : v ≤ 255) (hb : b ≠ R)
   (e1 : (p : Int) % (len : Int) = (i1 : Int)) (e2 : ((p : Int) * 7 + 3) % (len : Int) = (i2 : Int)) (e3 : (p : Int) / (len : Int) = (q : Int)) (m1 : i1 < len) (m2 : i2 < len) (m3 : q ≤ p) :
    Calls Try.prog 27 #[.pointer (some ⟨R, 0, none⟩), .int .i64 n] w fun e w' => (∃ x : Nat, e = .returned (.int .i64 x) ∧ x < n) ∧ Rd B w' R (some ⟨b, off, none⟩) len cap (p + 1) ∧ w.grownBy w' (some R) := by
  have c0 := h.cell0
  have c1 := h.cell1
  have f1 := h.free 1
  have hsh := h.short
  have hne : ((len : Int) == 0) = false := by simp; omega
  have HR : Hid (Rd B w R (some ⟨b, off, none⟩) len cap p) := h
  clear h
  go_enter Try.func27, Try.ntmps27
  go_wp2
  go_region
  all_goals go_wp2
  all_goals go_ret
  all_goals
    obtain ⟨x, hx, hxn⟩ := far_num (u * 131 + v * 1117 + p * 29 + q * 53) n (by omega) (by omega) hn
    exact ⟨⟨x, congrArg (fun i => Ending.returned (.int .i64 i)) hx, hxn⟩, HR.out.step.drew, grown_drew (grown_setCell _ _ _ _)⟩

set_option maxHeartbeats 400000 in
theorem pick_near (w : World) (B R : Nat) (b off len cap p : Nat) (n : Nat) (u : Int) (h : Rd B w R (some ⟨b, off, none⟩) len cap p) (hp : p ≤ 100000) (hn : 1 ≤ n) (hn2 : n ≤ 1000) (hl : p < len)
   (hu : w.cell? ⟨b, off + p, none⟩ = some (.int .u8 u)) (hu1 : 0 ≤ u) (hu2 : u ≤ 255) (hb : b ≠ R) :
    Calls Try.prog 27 #[.pointer (some ⟨R, 0, none⟩), .int .i64 n] w fun e w' => (∃ x : Nat, e = .returned (.int .i64 x) ∧ x < n) ∧ Rd B w' R (some ⟨b, off, none⟩) len cap (p + 1) ∧ w.grownBy w' (some R) := by
  have c0 := h.cell0
  have c1 := h.cell1
  have f1 := h.free 1
  have hsh := h.short
  have hne : ((len : Int) == 0) = false := by simp; omega
  have HR : Hid (Rd B w R (some ⟨b, off, none⟩) len cap p) := h
  clear h
  obtain ⟨m, rfl⟩ := Int.eq_ofNat_of_zero_le hu1
  go_enter Try.func27, Try.ntmps27
  go_wp2
  go_ret
  exact ⟨⟨m % n, by first | rfl | (simp; omega), Nat.mod_lt _ (by omega)⟩, HR.out.step, grown_setCell _ _ _ _⟩

set_option maxHeartbeats 400000 in
theorem pick_none (w : World) (B R : Nat) (a : Option Addr) (cap p : Nat) (n : Nat) (h : Rd B w R a 0 cap p) (hp : p ≤ 100000) (hn : 1 ≤ n) (hn2 : n ≤ 1000) :
    Calls Try.prog 27 #[.pointer (some ⟨R, 0, none⟩), .int .i64 n] w fun e w' => (∃ x : Nat, e = .returned (.int .i64 x) ∧ x < n) ∧ Rd B w' R a 0 cap (p + 1) ∧ w.grownBy w' (some R) := by
  have c0 := h.cell0
  have c1 := h.cell1
  have f1 := h.free 1
  have HR : Hid (Rd B w R a 0 cap p) := h
  clear h
  go_enter Try.func27, Try.ntmps27
  go_wp2
  go_ret
  exact ⟨⟨0, rfl, by omega⟩, HR.out.step, grown_setCell _ _ _ _⟩

theorem pick_any (w : World) (B R : Nat) (a : Option Addr) (len cap p : Nat) (n : Nat) (h : Rd B w R a len cap p) (hp : p ≤ 100000) (hn : 1 ≤ n) (hn2 : n ≤ 1000) :
    Calls Try.prog 27 #[.pointer (some ⟨R, 0, none⟩), .int .i64 n] w fun e w' => (∃ x : Nat, e = .returned (.int .i64 x) ∧ x < n) ∧ Rd B w' R a len cap (p + 1) ∧ w.grownBy w' (some R) := by
  by_cases h0 : len = 0
  · subst h0; exact pick_none w B R a cap p n h hp hn hn2
  · by_cases hl : p < len
    · obtain ⟨b, off, u, rfl, hb, _, hc, h1, h2⟩ := h.bytes p hl
      exact pick_near w B R b off len cap p n u h hp hn hn2 hl hc h1 h2 hb
    · have m1 : p % len < len := Nat.mod_lt _ (by omega)
      have m2 : (p * 7 + 3) % len < len := Nat.mod_lt _ (by omega)
      obtain ⟨b, off, u, rfl, hb, _, hc, h1, h2⟩ := h.bytes (p % len) m1
      obtain ⟨b', off', v, he, _, _, hc', h1', h2'⟩ := h.bytes ((p * 7 + 3) % len) m2
      cases he
      exact pick_far w B R b off len cap p n u v (p % len) ((p * 7 + 3) % len) (p / len) h hp hn hn2 (by omega) (by omega) hc hc' h1 h2 h1' h2' hb (by simp) (by simp) (by simp) m1 m2 (Nat.div_le_self _ _)

end Go.Proofs.Ytmeojnaoljgieaa
