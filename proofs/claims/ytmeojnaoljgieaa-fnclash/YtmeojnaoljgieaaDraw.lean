/-
  spec.l1Open, spec.l1Text, spec.DrawClash: some list of short texts, some width.
-/
import Derived.Test.YtmeojnaoljgieaaReader
namespace Go.Proofs.Ytmeojnaoljgieaa
open Go.RowKit

/-- What is known of the code's bytes. -/
def Bytes (w : World) (a : Option Addr) (len : Nat) : Prop := ∀ i, i < len → ∃ b off v, a = some ⟨b, off, none⟩ ∧ w.cell? ⟨b, off + i, none⟩ = some (.int .u8 v) ∧ 0 ≤ v ∧ v ≤ 255

theorem rd_new {w : World} {a : Option Addr} {len cap : Nat} (h : Bytes w a len) (hs : len ≤ 2000) : Rd (w.heap.size + 1) (w.alloc (.cells #[.slice a len cap, .int .i64 0] 55)) w.heap.size a len cap 0 := by
  refine ⟨heap_alloc_new w _, fun i hi => ?_, hs, by omega⟩
  obtain ⟨b, off, v, ha, hc, h1, h2⟩ := h i hi
  have hb : b < w.heap.size := World.block_lt_of_cell? w _ hc
  exact ⟨b, off, v, ha, by omega, by omega, (World.grownBy_alloc w _ none).cell hc (by simp), h1, h2⟩

set_option maxHeartbeats 400000 in
theorem l1Open_any (w : World) (a : Option Addr) (len cap : Nat) (h : Bytes w a len) (hlc : len ≤ cap) (hl : len ≤ 1048576) :
    Calls Try.prog 26 #[.slice a len cap] w fun e w' => ∃ len' : Nat, e = .returned (.pointer (some ⟨w.heap.size, 0, none⟩)) ∧ Rd (w.heap.size + 1) w' w.heap.size a len' cap 0 ∧ w.heap.size + 1 = w'.heap.size ∧ Below w.heap.size w w' := by
  by_cases h2 : len ≤ 2000
  · go_enter Try.func26, Try.ntmps26
    go_wp2
    go_ret
    exact ⟨len, rfl, rd_new h h2, by simp, (Below.refl _ _).alloc (Nat.le_refl _) _⟩
  · have h3 : (2000 : Int) ≤ cap := by omega
    have h4 : ¬ cap = 0 := by omega
    go_enter Try.func26, Try.ntmps26
    go_wp2
    go_ret
    exact ⟨2000, rfl, rd_new (fun i hi => h i (by omega)) (Nat.le_refl _), by simp, (Below.refl _ _).alloc (Nat.le_refl _) _⟩

theorem pick_int (w : World) (B R : Nat) (a : Option Addr) (len cap p : Nat) (n : Int) (h : Rd B w R a len cap p) (hp : p ≤ 100000) (hn : 1 ≤ n) (hn2 : n ≤ 1000) :
    Calls Try.prog 27 #[.pointer (some ⟨R, 0, none⟩), .int .i64 n] w fun e w' => ∃ x : Nat, e = .returned (.int .i64 x) ∧ (x : Int) < n ∧ Rd B w' R a len cap (p + 1) ∧ w.grownBy w' (some R) := by
  obtain ⟨m, rfl⟩ := Int.eq_ofNat_of_zero_le (show 0 ≤ n by omega)
  refine (pick_any w B R a len cap p m h hp (by omega) (by omega)).mono ?_
  rintro e w' ⟨⟨x, rfl, hx⟩, h1, h2⟩
  exact ⟨x, rfl, by omega, h1, h2⟩

theorem gb_fresh {w a b : World} {R : Nat} (h : w.grownBy a (some R)) (h2 : a.grownBy b (some R)) : w.grownBy b (some R) := gb_trans h h2 (fun k hk => by cases hk; exact Or.inl rfl)

theorem Try.info5' : (Try.prog.info? 5).map (fun i => (i.zero, i.size, i.bytes)) = some (some (.int .u8 0), 1, 1) := by kernel_rfl

def bcells (l : List UInt8) : List Value := l.map fun b => Value.int .u8 b.toNat
theorem bcells_length (l : List UInt8) : (bcells l).length = l.length := by simp [bcells]

theorem byte_of (c : Nat) (h : c < 4) : ∃ u : UInt8, (u.toNat : Int) = 97 + c := ⟨UInt8.ofNat (97 + c), by rw [UInt8.toNat_ofNat']; omega⟩

theorem l1Text_step {w wx w1 : World} {B R : Nat} {a : Option Addr} {len cap p j g cap' : Nat} {l : List UInt8} {u : UInt8} {v' : Value} (hB : B ≤ w.heap.size) (hg : w.heap.size ≤ g) (hgw : w.grownBy wx (some R)) (hR : Rd B wx R a len cap p)
    (hown' : w1.ownsRow w.heap.size 5 1 v' (j + 1) (bcells l ++ [.int .u8 u.toNat])) (hgrow : (wx.alloc (.cells #[.int .u8 u.toNat] 5)).grownBy w1 (Value.slice (some ⟨g, 0, none⟩) j cap').ownBlock) :
    ∃ g cap' : Nat, v' = .slice (some ⟨g, 0, none⟩) (j + 1) cap' ∧ w1.ownsRow w.heap.size 5 1 (.slice (some ⟨g, 0, none⟩) (j + 1) cap') (j + 1) (bcells (l ++ [u])) ∧ Rd B w1 R a len cap p ∧ w.grownBy w1 (some R) := by
  have hs := hgw.size
  have e : bcells (l ++ [u]) = bcells l ++ [.int .u8 u.toNat] := by simp [bcells]
  rw [← e] at hown'
  have r1 : Rd B w1 R a len cap p := (hR.kept (by omega) (World.grownBy_alloc _ _ none) (by simp)).kept (by simp; omega) hgrow (by intro k hk; simp [Value.ownBlock] at hk; omega)
  have r2 : w.grownBy w1 (some R) := gb_trans (gb_trans hgw (World.grownBy_alloc _ _ none) (by simp)) hgrow (by intro k hk; simp [Value.ownBlock] at hk; omega)
  rcases hown'.2 with ⟨_, h⟩ | ⟨g, cap, cur, hv, _⟩
  · omega
  · subst hv; exact ⟨g, cap, rfl, hown', r1, r2⟩

set_option maxHeartbeats 1000000 in
theorem l1Text_any (w : World) (B R : Nat) (a : Option Addr) (len cap p : Nat) (h : Rd B w R a len cap p) (hB : B ≤ w.heap.size) (hp : p ≤ 90000) :
    Calls Try.prog 28 #[.pointer (some ⟨R, 0, none⟩)] w fun e w' => ∃ s : ByteArray, ∃ p' : Nat, e = .returned (.string s) ∧ s.size ≤ 10 ∧ Rd B w' R a len cap p' ∧ p' ≤ p + 10 ∧ w.grownBy w' (some R) := by
  obtain ⟨i0, hi, hz0, hz1, hz2⟩ := info_parts Try.info5'
  go_enter Try.func28, Try.ntmps28
  go_wp2_with fail
  refine (pick_int w B R a len cap p _ h (by omega) (by omega) (by omega)).mono ?_
  rintro e w1 ⟨x, rfl, hx, hR1, hg1⟩
  rcases (show x = 0 ∨ x = 1 ∨ x = 2 ∨ x = 3 ∨ x = 4 ∨ x = 5 ∨ 6 ≤ x from by omega) with rfl | rfl | rfl | rfl | rfl | rfl | hx6
  iterate 6
    · go_wp2
      go_ret
      exact ⟨_, p + 1, rfl, by decide, hR1, by omega, hg1⟩
  · go_wp2_with fail
    refine (pick_int w1 B R a len cap (p + 1) _ hR1 (by omega) (by omega) (by omega)).mono ?_
    rintro e w2 ⟨n, rfl, hn, hR2, hg2⟩
    have hg : w.grownBy w2 (some R) := gb_fresh hg1 hg2
    clear hg1 hg2 hR1
    go_wp2_with fail
    have hs0 := hg.size
    go_loopw [4, 5] (fun o i wr => ∃ j g cap' : Nat, ∃ l : List UInt8, j ≤ n + 1 ∧ l.length = j ∧ i = .int .i64 j ∧ o = .slice (some ⟨g, 0, none⟩) j cap' ∧ wr.ownsRow w.heap.size 5 1 (.slice (some ⟨g, 0, none⟩) j cap') j (bcells l) ∧ Rd B wr R a len cap (p + 2 + j) ∧ w.grownBy wr (some R)) (fun _ i _ => n + 1 - (intOf i).toNat)
    case atStart =>
      refine ⟨0, w2.heap.size, 0, [], by omega, rfl, rfl, rfl, World.ownsRow_lit w2 #[] 0 hs0 (by unfold maxLen; omega) (by simp), hR2.kept (by omega) (World.grownBy_alloc _ _ none) (by simp), gb_trans hg (World.grownBy_alloc _ _ none) (by simp)⟩
    case round =>
      obtain ⟨j, g, cap', l, hj, hl, rfl, rfl, hown, hR, hgw⟩ := hrel
      by_cases hlt : j ≤ n
      · go_wp2_with fail
        refine (pick_int wr B R a len cap (p + 2 + j) _ hR (by omega) (by omega) (by omega)).mono ?_
        rintro e wx ⟨c, rfl, hc, hR', hgp⟩
        have hgB := (hown.lt g rfl).1
        have hRB := hR.lt
        have hown2 := hown.kept hgp (Or.inr (by simp [Value.ownBlock]; omega))
        have hgx : w.grownBy wx (some R) := gb_fresh hgw hgp
        have hsx := hgx.size
        obtain ⟨u, hu⟩ := byte_of c (by omega)
        clear hown hR hgp hgw
        go_wp2_with (first | (at_builtin; rw [← hu]; refine wpList_append_own _ rfl (.tmp 28) (.tmp 33) 38 rfl w.heap.size 5 i0 (.int .u8 0) 1 1 Try.underlying38 hi hz0 hz1 hz2 rfl (by decide) _ _ _ rfl (hown2.alloc _) ⟨wx.heap.size, 0, none⟩ 1 1 [.int .u8 u.toNat] rfl rfl (cell_one_new _ _ _) (by intro u hu; simp at hu; subst hu; rfl) (by unfold maxLen; omega) (by omega) (by simp; omega) ?_; intro v' w1 hown' hgrow hnil; obtain ⟨g', cap2, hv', R⟩ := l1Text_step hB hgB hgx hR' hown' hgrow; clear hown' hgrow hnil hown2 hgx hR'; rw [hv']; clear hv'))
        go_roundw
        case rel => exact ⟨j + 1, g', cap2, l ++ [u], by omega, by simp [hl], by go_num, rfl, R.1, by rw [show p + 2 + (j + 1) = p + 2 + j + 1 by omega]; exact R.2.1, R.2.2⟩
        case measure => simp [intOf]; omega
      · have hcv : (convert 38 9 (.slice (some ⟨g, 0, none⟩) j cap')).run Try.prog wr = .ok (.string ⟨l.toArray⟩) wr := by
          have := run_convert_bytes_back (P := Try.prog) wr 38 9 5 ⟨g, 0, none⟩ cap' l Try.underlying38 Try.underlying5 Try.underlying9 (fun t ht => hown.cells rfl t _ (by rw [bcells, List.getElem?_map, List.getElem?_eq_getElem ht]; rfl))
          rwa [hl] at this
        go_wp2
        go_ret
        exact ⟨⟨l.toArray⟩, p + 2 + j, rfl, by show l.toArray.size ≤ 10; simp; omega, hR, by omega, hgw⟩

end Go.Proofs.Ytmeojnaoljgieaa
