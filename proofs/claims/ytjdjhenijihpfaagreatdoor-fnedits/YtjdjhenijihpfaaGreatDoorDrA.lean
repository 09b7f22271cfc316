import Derived.Test.YtjdjhenijihpfaaGreatDoorDrO
namespace Go.Proofs.YtjdjhenijihpfaaGreatDoor
open Go.RowKit
set_option maxRecDepth 100000
set_option linter.unusedVariables false

/-- The reader: block R holds the slice and the place; all of it lies below B. -/
structure Rd (B : Nat) (w : World) (R : Nat) (a : Option Addr) (len cap : Nat) (p : Nat) : Prop where
  block : w.heap[R]? = some (.cells #[.slice a len cap, .int .i64 p] 81 (0, 0))
  bytes : ∀ i, i < len → ∃ b off v, a = some ⟨b, off, none⟩ ∧ b ≠ R ∧ b < B ∧ w.cell? ⟨b, off + i, none⟩ = some (.int .u8 v) ∧ 0 ≤ v ∧ v ≤ 255
  short : len ≤ 2000
  lt : R < B

section
variable {B : Nat} {w : World} {R : Nat} {a : Option Addr} {len cap p : Nat}
theorem Rd.cell0 (h : Rd B w R a len cap p) : w.cell? ⟨R, 0, none⟩ = some (.slice a len cap) := by
  simp [World.cell?, h.block]
theorem Rd.cell1 (h : Rd B w R a len cap p) : w.cell? ⟨R, 1, none⟩ = some (.int .i64 p) := by
  simp [World.cell?, h.block]
theorem Rd.free (h : Rd B w R a len cap p) (j : Nat) : w.frozen? ⟨R, j, none⟩ = false := by
  simp [World.frozen?, h.block]
theorem Rd.kept {w' : World} {row : Option Nat} (h : Rd B w R a len cap p) (hB : B ≤ w.heap.size) (hg : w.grownBy w' row) (hr : ∀ k, row = some k → B ≤ k) : Rd B w' R a len cap p := by
  refine ⟨?_, fun i hi => ?_, h.short, h.lt⟩
  · rw [hg.block R (by have := h.lt; omega) (fun e => by have := hr R e.symm; have := h.lt; omega)]; exact h.block
  · obtain ⟨b, off, v, ha, hb, hbB, hc, h1, h2⟩ := h.bytes i hi
    exact ⟨b, off, v, ha, hb, hbB, hg.cell hc (fun e => by have := hr b e.symm; omega), h1, h2⟩
theorem Rd.step (h : Rd B w R a len cap p) : Rd B (w.setCell ⟨R, 1, none⟩ (.int .i64 (p + 1 : Nat))) R a len cap (p + 1) := by
  refine ⟨?_, fun i hi => ?_, h.short, h.lt⟩
  · simp [World.setCell, Array.getElem?_modify, h.block]
  · obtain ⟨b, off, v, ha, hb, hbB, hc, h1, h2⟩ := h.bytes i hi
    refine ⟨b, off, v, ha, hb, hbB, ?_, h1, h2⟩
    rw [World.cell?_of_block (w := w) (Below.heap_setCell w ⟨R, 1, none⟩ _ b hb)]; exact hc
theorem grown_setCell (w : World) (R j : Nat) (v : Value) : w.grownBy (w.setCell ⟨R, j, none⟩ v) (some R) :=
  ⟨rfl, rfl, rfl, by simp [World.setCell], fun k _ hne => Below.heap_setCell w ⟨R, j, none⟩ v k (fun e => hne (by rw [e]))⟩
theorem grown_drew {w w' : World} {row : Option Nat} (h : w.grownBy w' row) : w.grownBy w'.drew row := ⟨h.os, h.tape, h.output, h.size, h.block⟩
theorem Rd.drew (h : Rd B w R a len cap p) : Rd B w.drew R a len cap p := ⟨h.block, h.bytes, h.short, h.lt⟩
/-- One step more: what is written is R's block again or a block that is new. -/
theorem gb_trans {w a b : World} {R : Nat} {row : Option Nat} (h : w.grownBy a (some R)) (h2 : a.grownBy b row) (hrow : ∀ k, row = some k → k = R ∨ w.heap.size ≤ k) : w.grownBy b (some R) :=
  ⟨h2.os.trans h.os, h2.tape.trans h.tape, h2.output.trans h.output, Nat.le_trans h.size h2.size, fun k hk hne =>
    (h2.block k (by have := h.size; omega) (fun e => by rcases hrow k e.symm with rfl | h' ; exact hne rfl; omega)).trans (h.block k hk hne)⟩
end

theorem bits_xor_i64_nat (a b : Nat) (ha : a < 9223372036854775808) (hb : b < 9223372036854775808) :
    bits .xor .i64 (a : Int) (b : Int) = ((a ^^^ b : Nat) : Int) := by
  have hx : a ^^^ b < 2 ^ 63 := Nat.xor_lt_two_pow (by omega) (by omega)
  have h1 : (BitVec.ofInt 64 (a : Int)).toNat = a := by
    rw [BitVec.ofInt_natCast, BitVec.toNat_ofNat]; exact Nat.mod_eq_of_lt (by omega)
  have h2 : (BitVec.ofInt 64 (b : Int)).toNat = b := by
    rw [BitVec.ofInt_natCast, BitVec.toNat_ofNat]; exact Nat.mod_eq_of_lt (by omega)
  show IntKind.i64.wrap ((BitVec.ofInt 64 (a : Int) ^^^ BitVec.ofInt 64 (b : Int)).toNat : Int) = _
  rw [BitVec.toNat_xor, h1, h2]
  rw [IntKind.wrap_i64]
  omega

/-- The number that pick makes beyond the code's end. -/
theorem far_num (A : Int) (n : Nat) (h0 : 0 ≤ A) (h1 : A ≤ 1000000000) (hn : 1 ≤ n) : ∃ x : Nat, (bits .xor .i64 A (A / 64)).tmod n = (x : Int) ∧ x < n := by
  obtain ⟨m, rfl⟩ := Int.eq_ofNat_of_zero_le h0
  have e : ((m : Int) / 64) = ((m / 64 : Nat) : Int) := by omega
  rw [e, bits_xor_i64_nat m (m / 64) (by omega) (by omega)]
  exact ⟨(m ^^^ m / 64) % n, by rw [← Int.ofNat_tmod], Nat.mod_lt _ (by omega)⟩

set_option maxHeartbeats 400000 in
theorem pick_far (w : World) (B R : Nat) (b off len cap p : Nat) (n : Nat) (u v : Int) (i1 i2 q : Nat) (h : Rd B w R (some ⟨b, off, none⟩) len cap p) (hp : p ≤ 100000) (hn : 1 ≤ n) (hn2 : n ≤ 1000) (hl : len ≤ p) (h0 : 0 < len)
   (hu : w.cell? ⟨b, off + i1, none⟩ = some (.int .u8 u)) (hv : w.cell? ⟨b, off + i2, none⟩ = some (.int .u8 v)) (hu1 : 0 ≤ u) (hu2 : u ≤ 255) (hv1 : 0 ≤ v) (hv2 : v ≤ 255) (hb : b ≠ R)
   (e1 : (p : Int) % (len : Int) = (i1 : Int)) (e2 : ((p : Int) * 7 + 3) % (len : Int) = (i2 : Int)) (e3 : (p : Int) / (len : Int) = (q : Int)) (m1 : i1 < len) (m2 : i2 < len) (m3 : q ≤ p) :
    Calls Tryz.prog 19 #[.pointer (some ⟨R, 0, none⟩), .int .i64 n] w fun e w' => (∃ x : Nat, e = .returned (.int .i64 x) ∧ x < n) ∧ Rd B w' R (some ⟨b, off, none⟩) len cap (p + 1) ∧ w.grownBy w' (some R) := by
  have c0 := h.cell0
  have c1 := h.cell1
  have f1 := h.free 1
  have hsh := h.short
  have hne : ((len : Int) == 0) = false := by simp; omega
  have HR : Hid (Rd B w R (some ⟨b, off, none⟩) len cap p) := h
  clear h
  go_enter Tryz.func19, Tryz.ntmps19
  go_wp2
  go_region
  all_goals go_wp2
  all_goals go_ret
  all_goals
    obtain ⟨x, hx, hxn⟩ := far_num (u * 131 + v * 1117 + p * 29 + q * 53) n (by omega) (by omega) hn
    exact ⟨⟨x, congrArg (fun i => Ending.returned (.int .i64 i)) hx, hxn⟩, HR.out.step.drew, grown_drew (grown_setCell _ _ _ _)⟩

set_option maxHeartbeats 400000 in
theorem pick_near (w : World) (B R : Nat) (b off len cap p : Nat) (n : Nat) (u : Int) (h : Rd B w R (some ⟨b, off, none⟩) len cap p) (hp : p ≤ 100000) (hn : 1 ≤ n) (hn2 : n ≤ 1000) (hl : p < len)
   (hu : w.cell? ⟨b, off + p, none⟩ = some (.int .u8 u)) (hu1 : 0 ≤ u) (hu2 : u ≤ 255) (hb : b ≠ R) :
    Calls Tryz.prog 19 #[.pointer (some ⟨R, 0, none⟩), .int .i64 n] w fun e w' => (∃ x : Nat, e = .returned (.int .i64 x) ∧ x < n) ∧ Rd B w' R (some ⟨b, off, none⟩) len cap (p + 1) ∧ w.grownBy w' (some R) := by
  have c0 := h.cell0
  have c1 := h.cell1
  have f1 := h.free 1
  have hsh := h.short
  have hne : ((len : Int) == 0) = false := by simp; omega
  have HR : Hid (Rd B w R (some ⟨b, off, none⟩) len cap p) := h
  clear h
  obtain ⟨m, rfl⟩ := Int.eq_ofNat_of_zero_le hu1
  go_enter Tryz.func19, Tryz.ntmps19
  go_wp2
  go_ret
  exact ⟨⟨m % n, by first | rfl | (simp; omega), Nat.mod_lt _ (by omega)⟩, HR.out.step, grown_setCell _ _ _ _⟩

set_option maxHeartbeats 400000 in
theorem pick_none (w : World) (B R : Nat) (a : Option Addr) (cap p : Nat) (n : Nat) (h : Rd B w R a 0 cap p) (hp : p ≤ 100000) (hn : 1 ≤ n) (hn2 : n ≤ 1000) :
    Calls Tryz.prog 19 #[.pointer (some ⟨R, 0, none⟩), .int .i64 n] w fun e w' => (∃ x : Nat, e = .returned (.int .i64 x) ∧ x < n) ∧ Rd B w' R a 0 cap (p + 1) ∧ w.grownBy w' (some R) := by
  have c0 := h.cell0
  have c1 := h.cell1
  have f1 := h.free 1
  have HR : Hid (Rd B w R a 0 cap p) := h
  clear h
  go_enter Tryz.func19, Tryz.ntmps19
  go_wp2
  go_ret
  exact ⟨⟨0, rfl, by omega⟩, HR.out.step, grown_setCell _ _ _ _⟩

theorem pick_any (w : World) (B R : Nat) (a : Option Addr) (len cap p : Nat) (n : Nat) (h : Rd B w R a len cap p) (hp : p ≤ 100000) (hn : 1 ≤ n) (hn2 : n ≤ 1000) :
    Calls Tryz.prog 19 #[.pointer (some ⟨R, 0, none⟩), .int .i64 n] w fun e w' => (∃ x : Nat, e = .returned (.int .i64 x) ∧ x < n) ∧ Rd B w' R a len cap (p + 1) ∧ w.grownBy w' (some R) := by
  by_cases h0 : len = 0
  · subst h0; exact pick_none w B R a cap p n h hp hn hn2
  · by_cases hl : p < len
    · obtain ⟨b, off, u, rfl, hb, _, hc, h1, h2⟩ := h.bytes p hl
      exact pick_near w B R b off len cap p n u h hp hn hn2 hl hc h1 h2 hb
    · have m1 : p % len < len := Nat.mod_lt _ (by omega)
      have m2 : (p * 7 + 3) % len < len := Nat.mod_lt _ (by omega)
      obtain ⟨b, off, u, rfl, hb, _, hc, h1, h2⟩ := h.bytes (p % len) m1
      obtain ⟨b', off', v, he, _, _, hc', h1', h2'⟩ := h.bytes ((p * 7 + 3) % len) m2
      cases he
      exact pick_far w B R b off len cap p n u v (p % len) ((p * 7 + 3) % len) (p / len) h hp hn hn2 (by omega) (by omega) hc hc' h1 h2 h1' h2' hb (by simp) (by simp) (by simp) m1 m2 (Nat.div_le_self _ _)

end Go.Proofs.YtjdjhenijihpfaaGreatDoor
namespace Go.Proofs.YtjdjhenijihpfaaGreatDoor
open Go.RowKit
set_option maxRecDepth 100000
set_option linter.unusedVariables false

/-- What is known of the code's bytes. -/
def Bytes (w : World) (a : Option Addr) (len : Nat) : Prop := ∀ i, i < len → ∃ b off v, a = some ⟨b, off, none⟩ ∧ w.cell? ⟨b, off + i, none⟩ = some (.int .u8 v) ∧ 0 ≤ v ∧ v ≤ 255

theorem rd_new {w : World} {a : Option Addr} {len cap : Nat} (h : Bytes w a len) (hs : len ≤ 2000) : Rd (w.heap.size + 1) (w.alloc (.cells #[.slice a len cap, .int .i64 0] 81)) w.heap.size a len cap 0 := by
  refine ⟨heap_newD w _, fun i hi => ?_, hs, by omega⟩
  obtain ⟨b, off, v, ha, hc, h1, h2⟩ := h i hi
  have hb : b < w.heap.size := World.block_lt_of_cell? w _ hc
  exact ⟨b, off, v, ha, by omega, by omega, (World.grownBy_alloc w _ none).cell hc (by simp), h1, h2⟩

set_option maxHeartbeats 400000 in
theorem l1Open_any (w : World) (a : Option Addr) (len cap : Nat) (h : Bytes w a len) (hlc : len ≤ cap) (hl : len ≤ 1048576) :
    Calls Tryz.prog 16 #[.slice a len cap] w fun e w' => ∃ len' : Nat, e = .returned (.pointer (some ⟨w.heap.size, 0, none⟩)) ∧ Rd (w.heap.size + 1) w' w.heap.size a len' cap 0 ∧ w.heap.size + 1 = w'.heap.size ∧ Below w.heap.size w w' := by
  by_cases h2 : len ≤ 2000
  · go_enter Tryz.func16, Tryz.ntmps16
    go_wp2
    go_ret
    exact ⟨len, rfl, rd_new h h2, by simp, (Below.refl _ _).alloc (Nat.le_refl _) _⟩
  · have h3 : (2000 : Int) ≤ cap := by omega
    have h4 : ¬ cap = 0 := by omega
    go_enter Tryz.func16, Tryz.ntmps16
    go_wp2
    go_ret
    exact ⟨2000, rfl, rd_new (fun i hi => h i (by omega)) (Nat.le_refl _), by simp, (Below.refl _ _).alloc (Nat.le_refl _) _⟩

theorem pick_int (w : World) (B R : Nat) (a : Option Addr) (len cap p : Nat) (n : Int) (h : Rd B w R a len cap p) (hp : p ≤ 100000) (hn : 1 ≤ n) (hn2 : n ≤ 1000) :
    Calls Tryz.prog 19 #[.pointer (some ⟨R, 0, none⟩), .int .i64 n] w fun e w' => ∃ x : Nat, e = .returned (.int .i64 x) ∧ (x : Int) < n ∧ Rd B w' R a len cap (p + 1) ∧ w.grownBy w' (some R) := by
  obtain ⟨m, rfl⟩ := Int.eq_ofNat_of_zero_le (show 0 ≤ n by omega)
  refine (pick_any w B R a len cap p m h hp (by omega) (by omega)).mono ?_
  rintro e w' ⟨⟨x, rfl, hx⟩, h1, h2⟩
  exact ⟨x, rfl, by omega, h1, h2⟩

theorem gb_fresh {w a b : World} {R : Nat} (h : w.grownBy a (some R)) (h2 : a.grownBy b (some R)) : w.grownBy b (some R) := gb_trans h h2 (fun k hk => by cases hk; exact Or.inl rfl)

theorem Tryz.info5' : (Tryz.prog.info? 5).map (fun i => (i.zero, i.size, i.bytes)) = some (some (.int .u8 0), 1, 1) := by kernel_rfl

theorem byte_of (c : Nat) (h : c < 4) : ∃ u : UInt8, (u.toNat : Int) = 97 + c := ⟨UInt8.ofNat (97 + c), by rw [UInt8.toNat_ofNat']; omega⟩

theorem l1Text_step {w wx w1 : World} {B R : Nat} {a : Option Addr} {len cap p j g cap' : Nat} {l : List UInt8} {u : UInt8} {v' : Value} (hB : B ≤ w.heap.size) (hg : w.heap.size ≤ g) (hgw : w.grownBy wx (some R)) (hR : Rd B wx R a len cap p)
    (hown' : w1.ownsRow w.heap.size 5 1 v' (j + 1) (bcells l ++ [.int .u8 u.toNat])) (hgrow : (wx.alloc (.cells #[.int .u8 u.toNat] 5)).grownBy w1 (Value.slice (some ⟨g, 0, none⟩) j cap').ownBlock) :
    ∃ g cap' : Nat, v' = .slice (some ⟨g, 0, none⟩) (j + 1) cap' ∧ w1.ownsRow w.heap.size 5 1 (.slice (some ⟨g, 0, none⟩) (j + 1) cap') (j + 1) (bcells (l ++ [u])) ∧ Rd B w1 R a len cap p ∧ w.grownBy w1 (some R) := by
  have hs := hgw.size
  have e : bcells (l ++ [u]) = bcells l ++ [.int .u8 u.toNat] := by simp [bcells]
  rw [← e] at hown'
  have r1 : Rd B w1 R a len cap p := (hR.kept (by omega) (World.grownBy_alloc _ _ none) (by simp)).kept (by simp; omega) hgrow (by intro k hk; simp [Value.ownBlock] at hk; omega)
  have r2 : w.grownBy w1 (some R) := gb_trans (gb_trans hgw (World.grownBy_alloc _ _ none) (by simp)) hgrow (by intro k hk; simp [Value.ownBlock] at hk; omega)
  rcases hown'.2 with ⟨_, h⟩ | ⟨g, cap, cur, hv, _⟩
  · omega
  · subst hv; exact ⟨g, cap, rfl, hown', r1, r2⟩

set_option maxHeartbeats 1000000 in
theorem l1Text_any (w : World) (B R : Nat) (a : Option Addr) (len cap p : Nat) (h : Rd B w R a len cap p) (hB : B ≤ w.heap.size) (hp : p ≤ 90000) :
    Calls Tryz.prog 23 #[.pointer (some ⟨R, 0, none⟩)] w fun e w' => ∃ s : ByteArray, ∃ p' : Nat, e = .returned (.string s) ∧ s.size ≤ 10 ∧ Rd B w' R a len cap p' ∧ p' ≤ p + 10 ∧ w.grownBy w' (some R) := by
  obtain ⟨i0, hi, hz0, hz1, hz2⟩ := info_parts Tryz.info5'
  go_enter Tryz.func23, Tryz.ntmps23
  go_wp2_with fail
  refine (pick_int w B R a len cap p _ h (by omega) (by omega) (by omega)).mono ?_
  rintro e w1 ⟨x, rfl, hx, hR1, hg1⟩
  rcases (show x = 0 ∨ x = 1 ∨ x = 2 ∨ x = 3 ∨ x = 4 ∨ x = 5 ∨ 6 ≤ x from by omega) with rfl | rfl | rfl | rfl | rfl | rfl | hx6
  iterate 6
    · go_wp2
      go_ret
      exact ⟨_, p + 1, rfl, by decide, hR1, by omega, hg1⟩
  · go_wp2_with fail
    refine (pick_int w1 B R a len cap (p + 1) _ hR1 (by omega) (by omega) (by omega)).mono ?_
    rintro e w2 ⟨n, rfl, hn, hR2, hg2⟩
    have hg : w.grownBy w2 (some R) := gb_fresh hg1 hg2
    clear hg1 hg2 hR1
    go_wp2_with fail
    have hs0 := hg.size
    go_loopw [4, 5] (fun o i wr => ∃ j g cap' : Nat, ∃ l : List UInt8, j ≤ n + 1 ∧ l.length = j ∧ i = .int .i64 j ∧ o = .slice (some ⟨g, 0, none⟩) j cap' ∧ wr.ownsRow w.heap.size 5 1 (.slice (some ⟨g, 0, none⟩) j cap') j (bcells l) ∧ Rd B wr R a len cap (p + 2 + j) ∧ w.grownBy wr (some R)) (fun _ i _ => n + 1 - (intOf i).toNat)
    case atStart =>
      refine ⟨0, w2.heap.size, 0, [], by omega, rfl, rfl, rfl, World.ownsRow_lit w2 #[] 0 hs0 (by unfold maxLen; omega) (by simp), hR2.kept (by omega) (World.grownBy_alloc _ _ none) (by simp), gb_trans hg (World.grownBy_alloc _ _ none) (by simp)⟩
    case round =>
      obtain ⟨j, g, cap', l, hj, hl, rfl, rfl, hown, hR, hgw⟩ := hrel
      by_cases hlt : j ≤ n
      · go_wp2_with fail
        refine (pick_int wr B R a len cap (p + 2 + j) _ hR (by omega) (by omega) (by omega)).mono ?_
        rintro e wx ⟨c, rfl, hc, hR', hgp⟩
        have hgB := (hown.lt g rfl).1
        have hRB := hR.lt
        have hown2 := hown.kept hgp (Or.inr (by simp [Value.ownBlock]; omega))
        have hgx : w.grownBy wx (some R) := gb_fresh hgw hgp
        have hsx := hgx.size
        obtain ⟨u, hu⟩ := byte_of c (by omega)
        clear hown hR hgp hgw
        go_wp2_with (first | (at_builtin; rw [← hu]; refine wpList_append_own _ rfl (.tmp 28) (.tmp 33) 22 rfl w.heap.size 5 i0 (.int .u8 0) 1 1 Tryz.underlying22 hi hz0 hz1 hz2 rfl (by decide) _ _ _ rfl (hown2.alloc _) ⟨wx.heap.size, 0, none⟩ 1 1 [.int .u8 u.toNat] rfl rfl (cell_one_new _ _ _) (by intro u hu; simp at hu; subst hu; rfl) (by unfold maxLen; omega) (by omega) (by simp; omega) ?_; intro v' w1 hown' hgrow hnil; obtain ⟨g', cap2, hv', R⟩ := l1Text_step hB hgB hgx hR' hown' hgrow; clear hown' hgrow hnil hown2 hgx hR'; rw [hv']; clear hv'))
        go_roundw
        case rel => exact ⟨j + 1, g', cap2, l ++ [u], by omega, by simp [hl], by go_num, rfl, R.1, by rw [show p + 2 + (j + 1) = p + 2 + j + 1 by omega]; exact R.2.1, R.2.2⟩
        case measure => simp [intOf]; omega
      · have hcv : (convert 22 9 (.slice (some ⟨g, 0, none⟩) j cap')).run Tryz.prog wr = .ok (.string ⟨l.toArray⟩) wr := by
          have := run_convert_bytes_back (P := Tryz.prog) wr 22 9 5 ⟨g, 0, none⟩ cap' l Tryz.underlying22 Tryz.underlying5 Tryz.underlying9 (fun t ht => hown.cells rfl t _ (by rw [bcells, List.getElem?_map, List.getElem?_eq_getElem ht]; rfl))
          rwa [hl] at this
        go_wp2
        go_ret
        exact ⟨⟨l.toArray⟩, p + 2 + j, rfl, by show l.toArray.size ≤ 10; simp; omega, hR, by omega, hgw⟩

end Go.Proofs.YtjdjhenijihpfaaGreatDoor
