/-
  spec.DrawValidProgram.
-/
import Derived.Test.YtmcafdobfmheaaaGreatDoorDrF
namespace Go.Proofs.YtmcafdobfmheaaaGreatDoor
open Go.RowKit
set_option linter.unusedVariables false
set_option maxRecDepth 100000

/-- What is drawn: a row of instructions of its own, its texts short. -/
def DrawnP (w : World) (e : Ending) (w' : World) : Prop :=
  ∃ (g n c : Nat) (is : List I3), e = .returned (.agg #[.slice (some ⟨g, 0, none⟩) n c]) ∧ n = is.length ∧ n ≤ 400 ∧ (∀ x ∈ is, x.text.size ≤ 50000) ∧ Row3 w' (some ⟨g, 0, none⟩) is ∧ Below w.heap.size w w'
theorem row3_ow {w0 w : World} {g n c : Nat} {is : List I3} (h : Ow w0 w g n c is) : Row3 w (some ⟨g, 0, none⟩) is := by
  intro i hi
  have hl := h.ln
  have e : ∀ j, j < 3 → w.cell? ⟨g, i * 3 + j, none⟩ = (insC1 (ix is i))[j]? := fun j hj => by
    rw [h.row.cellAt _ (by omega), insC_get is i j hi hj]
  refine ⟨g, 0, rfl, ?_, ?_, ?_⟩
  · rw [Nat.zero_add]; exact e 0 (by omega)
  · rw [Nat.zero_add]; exact e 1 (by omega)
  · rw [Nat.zero_add]; exact e 2 (by omega)
theorem ow_ge {w0 w : World} {g n c : Nat} {is : List I3} (h : Ow w0 w g n c is) : w0.heap.size ≤ g := by
  rcases h.row.2 with ⟨q, _⟩ | ⟨g1, cap1, cur, q, hg, _⟩
  · cases q
  · simp only [Value.slice.injEq, Option.some.injEq, Addr.mk.injEq] at q; omega
theorem row3_set {w : World} {g b : Nat} {is : List I3} (h : Row3 w (some ⟨g, 0, none⟩) is) (hb : b ≠ g) (v : Value) : Row3 (w.setCell ⟨b, 0, none⟩ v) (some ⟨g, 0, none⟩) is := by
  intro i hi
  obtain ⟨b', off, ha, h1, h2, h3⟩ := h i hi
  cases ha
  have e : ∀ o, (w.setCell ⟨b, 0, none⟩ v).cell? ⟨g, o, none⟩ = w.cell? ⟨g, o, none⟩ := fun o => World.cell?_of_block (w := w) (Below.heap_setCell w ⟨b, 0, none⟩ v g (fun e => hb e.symm))
  exact ⟨g, 0, rfl, by rw [e]; exact h1, by rw [e]; exact h2, by rw [e]; exact h3⟩

set_option maxHeartbeats 4000000 in
theorem drawValid_any (w : World) (a : Option Addr) (len cap : Nat) (h : Bytes w a len) (hlc : len ≤ cap) (hl : len ≤ 1048576) :
    Calls Tryz.prog 5 #[.slice a len cap] w fun e w' => DrawnP w e w' := by
  obtain ⟨W, eW⟩ : ∃ W, w.alloc (.cells #[.slice none 0 0] 25) = W := ⟨_, rfl⟩
  have hbW : Below w.heap.size w W := eW ▸ (Below.refl _ _).alloc (Nat.le_refl _) _
  have hWs : W.heap.size = w.heap.size + 1 := by rw [← eW]; simp
  have hW0 : W.heap[w.heap.size]? = some (.cells #[.slice none 0 0] 25 (0, 0)) := eW ▸ heap_newD _ _
  have hby : Bytes W a len := fun i hi => by
    obtain ⟨b, off, v, e, c, r⟩ := h i hi
    exact ⟨b, off, v, e, cell_below hbW c, r⟩
  have HO := l1Open_any W a len cap hby hlc hl
  have HO : Hid (Calls Tryz.prog 16 #[.slice a len cap] W fun e w' => ∃ len' : Nat, e = .returned (.pointer (some ⟨W.heap.size, 0, none⟩)) ∧ Rd (W.heap.size + 1) w' W.heap.size a len' cap 0 ∧ W.heap.size + 1 = w'.heap.size ∧ Below W.heap.size W w') := HO
  obtain ⟨R, eR⟩ : ∃ R, W.heap.size = R := ⟨_, rfl⟩
  rw [eR] at HO hWs
  have HR : Hid (W.heap.size = R ∧ R = w.heap.size + 1) := ⟨eR, hWs⟩
  clear h hby eR hWs
  go_enter Tryz.func5, Tryz.ntmps5
  go_wp2_with fail
  refine HO.out.mono ?_
  rintro e w1 ⟨ln, rfl, hrd, hsz1, hb1⟩
  have hB1 : Below w.heap.size w w1 := hbW.trans (hb1.mono (by have := HR.out; omega))
  have h10 : w1.heap[w.heap.size]? = some (.cells #[.slice none 0 0] 25 (0, 0)) := by rw [hb1.block _ (by have := HR.out; omega)]; exact hW0
  have HZ1 : Hid (R + 1 = w1.heap.size) := hsz1
  clear hb1 hbW hW0 HO hsz1
  go_wp2_with fail
  refine (l2DrawProgram_any (R + 1) R a ln cap 0 _ hrd (by have := HZ1.out; omega) (by omega)).mono ?_
  rintro e w2 ⟨g, n, c, is, rfl, how, hn0, hn4, hk⟩
  have hg1 := hk.1
  have hB2 : Below w.heap.size w w2 := hB1.grown hg1 hB1.size (by intro k hk; cases hk; have := HR.out; omega)
  have h20 : w2.heap[w.heap.size]? = some (.cells #[.slice none 0 0] 25 (0, 0)) := by
    rw [hg1.block _ (by have := HR.out; have := HZ1.out; omega) (fun e => by injection e with e; have := HR.out; omega)]; exact h10
  have hs12 := hg1.size
  obtain ⟨X, eX⟩ : ∃ X, w2.alloc (.cells #[.slice (some ⟨g, 0, none⟩) n c] 25) = X := ⟨_, rfl⟩
  have hbX : Below w2.heap.size w2 X := eX ▸ (Below.refl _ _).alloc (Nat.le_refl _) _
  have hX0 : X.heap[w2.heap.size]? = some (.cells #[.slice (some ⟨g, 0, none⟩) n c] 25 (0, 0)) := eX ▸ heap_newD _ _
  have HkX : Hid (RdK (R + 1) R a ln cap 0 1300 w1 X) := hk.below (by have := HZ1.out; omega) hbX
  have HoX : Hid (Ow w1 X g n c is) := how.below hbX
  have hBX : Below w.heap.size w X := hB2.trans (hbX.mono hB2.size)
  have hXs : w2.heap.size < X.heap.size := heap_ltD hX0
  have hX1 : X.heap[w.heap.size]? = some (.cells #[.slice none 0 0] 25 (0, 0)) := by rw [hbX.block _ (heap_ltD h20)]; exact h20
  have hwl : w.heap.size < w2.heap.size := heap_ltD h20
  clear hk how hrd hbX h10 h20 hB1 hB2 hg1
  go_wp2_with fail
  refine (HkX.out.pick (by omega) _ (by omega) (by omega)).mono ?_
  rintro e w3 ⟨y, rfl, hy, hk3, hg3⟩
  have HO3 : Hid (Ow w1 w3 g n c is) := HoX.out.gb hg3 (by have := HZ1.out; omega)
  have hB3 : Below w.heap.size w w3 := hBX.grown hg3 hBX.size (by intro k hk; cases hk; have := HR.out; omega)
  have h31 : w3.heap[w.heap.size]? = some (.cells #[.slice none 0 0] 25 (0, 0)) := by
    rw [hg3.block _ (by omega) (fun e => by injection e with e; have := HR.out; omega)]; exact hX1
  have h32 : w3.heap[w2.heap.size]? = some (.cells #[.slice (some ⟨g, 0, none⟩) n c] 25 (0, 0)) := by
    rw [hg3.block _ hXs (fun e => by injection e with e; have := HZ1.out; omega)]; exact hX0
  have c32 : w3.cell? ⟨w2.heap.size, 0, none⟩ = some (.slice (some ⟨g, 0, none⟩) n c) := by rw [Lib.cell_of_heap h32]; rfl
  have c31 : w3.cell? ⟨w.heap.size, 0, none⟩ = some (.slice none 0 0) := by rw [Lib.cell_of_heap h31]; rfl
  have f31 : w3.frozen? ⟨w.heap.size, 0, none⟩ = false := Lib.frozen_of_heap h31 0
  have HK3 : Hid (RdK (R + 1) R a ln cap 0 _ w1 w3) := hk3
  clear HkX HoX hBX hX0 hX1 hg3 hk3 eX h32
  by_cases hy0 : y = 0
  · subst hy0
    obtain ⟨_, p', hp', hrd3⟩ := HK3.out
    have hR3 := row3_ow HO3.out
    have hln := HO3.out.ln
    have HSp : Hid (Calls Tryz.prog 19 #[.pointer (some ⟨R, 0, none⟩), .agg #[.slice (some ⟨g, 0, none⟩) n c]] w3 fun e w' => ProgQ (R + 1) R a ln cap p' 300 w3 e w') := by
      have q := l2Spoil_any (R + 1) R a ln cap p' g c is w3 hrd3 (by have := hB3.size; have := HK3.out.1.size; have := HZ1.out; omega) (by omega) hR3 (by omega) (by omega) (fun x hx => HO3.out.tx x hx)
      rw [← hln] at q; exact q
    clear hrd3 hR3 hln hp' c31 f31
    go_wp2_with fail
    refine HSp.out.mono ?_
    rintro e w4 ⟨g4, n4, c4, is4, rfl, how4, hn44, hk4⟩
    have hB4 : Below w.heap.size w w4 := hB3.grown hk4.1 hB3.size (by intro k hk; cases hk; have := HR.out; omega)
    have h41 : w4.heap[w.heap.size]? = some (.cells #[.slice none 0 0] 25 (0, 0)) := by
      rw [hk4.1.block _ (heap_ltD h31) (fun e => by injection e with e; have := HR.out; omega)]; exact h31
    have c41 : w4.cell? ⟨w.heap.size, 0, none⟩ = some (.slice none 0 0) := by rw [Lib.cell_of_heap h41]; rfl
    have f41 : w4.frozen? ⟨w.heap.size, 0, none⟩ = false := Lib.frozen_of_heap h41 0
    have hge := ow_ge how4
    have h3lt := heap_ltD h31
    have HRow : Hid (Row3 w4 (some ⟨g4, 0, none⟩) is4) := row3_ow how4
    have HT : Hid (n4 = is4.length ∧ ∀ x ∈ is4, x.text.size ≤ 50000) := ⟨how4.ln, how4.tx⟩
    clear how4 hk4 HSp HO3 HK3 h41 h31 c32
    go_wp2
    exact bodyPost_ret (v := .agg #[.slice (some ⟨g4, 0, none⟩) n4 c4]) (by simp [results, Tryz.results5, go_sem, c41]) rfl ⟨g4, n4, c4, is4, rfl, HT.out.1, hn44, HT.out.2, row3_set HRow.out (by omega) _, hB4.setCell (p := ⟨w.heap.size, 0, none⟩) (Nat.le_refl _) _⟩
  · have hyn : ((y : Int) == 0) = false := by rw [beq_eq_false_iff_ne]; omega
    have hyn2 : ¬ ((y : Int) = 0) := by omega
    have hge := ow_ge HO3.out
    have HRow : Hid (Row3 w3 (some ⟨g, 0, none⟩) is) := row3_ow HO3.out
    have HT : Hid (n = is.length ∧ ∀ x ∈ is, x.text.size ≤ 50000) := ⟨HO3.out.ln, HO3.out.tx⟩
    have hgw : w.heap.size ≠ g := by have := HZ1.out; have := HR.out; omega
    clear HO3 HK3 h31
    go_wp2
    exact bodyPost_ret (v := .agg #[.slice (some ⟨g, 0, none⟩) n c]) (by simp [results, Tryz.results5, go_sem, c31]) rfl ⟨g, n, c, is, rfl, HT.out.1, hn4, HT.out.2, row3_set HRow.out hgw _, hB3.setCell (p := ⟨w.heap.size, 0, none⟩) (Nat.le_refl _) _⟩
end Go.Proofs.YtmcafdobfmheaaaGreatDoor
