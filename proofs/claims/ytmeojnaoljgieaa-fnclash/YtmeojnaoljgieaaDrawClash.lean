/-
  spec.DrawClash: some list of short texts, some width.
-/
import Derived.Test.YtmeojnaoljgieaaDraw
import Derived.Test.YtmeojnaoljgieaaClashPlain
namespace Go.Proofs.Ytmeojnaoljgieaa
open Go.RowKit

def scells (ss : List ByteArray) : List Value := ss.map Value.string

theorem byte_ab (j : Nat) (h : j ≤ 100) : ∃ u v : UInt8, (u.toNat : Int) = 97 + (j : Int) % 26 ∧ (v.toNat : Int) = 48 + (j : Int) / 26 :=
  ⟨UInt8.ofNat (97 + j % 26), UInt8.ofNat (48 + j / 26), by rw [UInt8.toNat_ofNat']; omega, by rw [UInt8.toNat_ofNat']; omega⟩

theorem conv_ab (w : World) (A C : Int) (u v : UInt8) (hu : (u.toNat : Int) = A) (hv : (v.toNat : Int) = C) :
    (convert 38 9 (.slice (some ⟨w.heap.size, 0, none⟩) 2 2)).run Try.prog (w.alloc (.cells #[.int .u8 A, .int .u8 C] 5)) = .ok (.string ⟨#[u, v]⟩) (w.alloc (.cells #[.int .u8 A, .int .u8 C] 5)) := by
  subst hu; subst hv
  exact run_convert_bytes_back (P := Try.prog) (w.alloc (.cells #[.int .u8 u.toNat, .int .u8 v.toNat] 5)) 38 9 5 ⟨w.heap.size, 0, none⟩ 2 [u, v] Try.underlying38 Try.underlying5 Try.underlying9 (fun t ht => by
    rcases (show t = 0 ∨ t = 1 from by simp at ht; omega) with rfl | rfl <;> simp [Addr.add, go_sem])

theorem drawClash_step {w wx w1 : World} {R len cap p j g cap' : Nat} {a : Option Addr} {ss : List ByteArray} {s : ByteArray} {v' : Value} (hR : R + 1 ≤ wx.heap.size) (hw : w.heap.size ≤ R) (hg : R + 1 ≤ g) (hb : Below w.heap.size w wx) (hrd : Rd (R + 1) wx R a len cap p)
    (hown' : w1.ownsRow (R + 1) 9 1 v' (j + 1) (scells ss ++ [.string s])) (hgrow : (wx.alloc (.cells #[.string s] 9)).grownBy w1 (Value.slice (some ⟨g, 0, none⟩) j cap').ownBlock) :
    ∃ g cap' : Nat, v' = .slice (some ⟨g, 0, none⟩) (j + 1) cap' ∧ w1.ownsRow (R + 1) 9 1 (.slice (some ⟨g, 0, none⟩) (j + 1) cap') (j + 1) (scells (ss ++ [s])) ∧ Rd (R + 1) w1 R a len cap p ∧ Below w.heap.size w w1 ∧ R + 1 ≤ w1.heap.size := by
  have e : scells (ss ++ [s]) = scells ss ++ [.string s] := by simp [scells]
  rw [← e] at hown'
  have r1 : Rd (R + 1) w1 R a len cap p := (hrd.kept hR (World.grownBy_alloc _ _ none) (by simp)).kept (by simp; omega) hgrow (by intro k hk; simp [Value.ownBlock] at hk; omega)
  have r2 : Below w.heap.size w w1 := (hb.alloc (by omega) _).grown hgrow (by simp; omega) (by intro k hk; simp [Value.ownBlock] at hk; omega)
  have r3 : R + 1 ≤ w1.heap.size := by have := hgrow.size; simp at this; omega
  rcases hown'.2 with ⟨_, h⟩ | ⟨g, cap, cur, hv, _⟩
  · omega
  · subst hv; exact ⟨g, cap, rfl, hown', r1, r2, r3⟩

def lenV : Value → Nat | .slice _ n _ => n | _ => 0

theorem scells_strs {w : World} {B g cap : Nat} {ss : List ByteArray} (h : w.ownsRow B 9 1 (.slice (some ⟨g, 0, none⟩) ss.length cap) ss.length (scells ss)) : Strs w (some ⟨g, 0, none⟩) ss := by
  intro i hi
  refine ⟨g, 0, rfl, ?_⟩
  rw [Nat.zero_add, h.cellAt i (by omega)]
  simp [scells, List.getD_eq_getElem?_getD, List.getElem?_eq_getElem hi]

set_option maxHeartbeats 4000000 in
theorem drawClash_any (w : World) (a : Option Addr) (len cap : Nat) (h : Bytes w a len) (hlc : len ≤ cap) (hl : len ≤ 1048576) :
    Calls Try.prog 19 #[.slice a len cap] w fun e w' => Below w.heap.size w w' ∧ ∃ g cap' : Nat, ∃ ss : List ByteArray, ∃ wd : Nat, e = .returned (.tuple #[.slice (some ⟨g, 0, none⟩) ss.length cap', .int .i64 wd]) ∧
      Strs w' (some ⟨g, 0, none⟩) ss ∧ ss.length ≤ 5001 ∧ (∀ s ∈ ss, s.size ≤ 12) ∧ wd ≤ 9 := by
  obtain ⟨i0, hi, hz0, hz1, hz2⟩ := info_parts Try.info9
  go_enter Try.func19, Try.ntmps19
  go_wp2_with fail
  refine (l1Open_any w a len cap h hlc hl).mono ?_
  rintro e w0 ⟨len', rfl, hR, hs0', hb0⟩
  have hs0 : w.heap.size + 1 ≤ w0.heap.size := by omega
  clear hs0'
  go_wp2_with fail
  refine (pick_int w0 (w.heap.size + 1) w.heap.size a len' cap 0 _ hR (by omega) (by omega) (by omega)).mono ?_
  rintro e wq ⟨x, rfl, hx, hR, hg⟩
  have hb1 : Below w.heap.size w wq := hb0.grown hg (by omega) (by intro k hk; cases hk; omega)
  have hsq := hg.size
  clear hg hb0
  go_wp2_with fail
  refine (pick_int wq (w.heap.size + 1) w.heap.size a len' cap 1 _ hR (by omega) (by omega) (by omega)).mono ?_
  rintro e wq2 ⟨x2, rfl, hx2, hR, hg⟩
  have hb2 : Below w.heap.size w wq2 := hb1.grown hg (by omega) (by intro k hk; cases hk; omega)
  have hs2 : w.heap.size + 1 ≤ wq2.heap.size := by have := hg.size; omega
  clear hg hb1
  obtain ⟨wd, hwd, hwd9⟩ : ∃ wd : Nat, (1 + (x : Int) / 2) = (wd : Int) ∧ wd ≤ 9 := ⟨1 + x / 2, by omega, by omega⟩
  rcases (show x2 = 0 ∨ 1 ≤ x2 from by omega) with rfl | hx2'
  · clear hwd9
    go_wp2_with fail
    refine (pick_int wq2 (w.heap.size + 1) w.heap.size a len' cap 2 _ hR (by omega) (by omega) (by omega)).mono ?_
    rintro e wz ⟨wd2, rfl, hwd2, hR, hg⟩
    have hbwz : Below w.heap.size w wz := hb2.grown hg (by omega) (by intro k hk; cases hk; omega)
    have hswz : w.heap.size + 1 ≤ wz.heap.size := by have := hg.size; omega
    clear hg hb2
    have hwd9 : wd2 ≤ 9 := by omega
    go_wp2_with fail
    refine (pick_int wz (w.heap.size + 1) w.heap.size a len' cap 3 _ hR (by omega) (by omega) (by omega)).mono ?_
    rintro e wa ⟨n, rfl, hn, hR, hg⟩
    have hbwa : Below w.heap.size w wa := hbwz.grown hg (by omega) (by intro k hk; cases hk; omega)
    have hswa : w.heap.size + 1 ≤ wa.heap.size := by have := hg.size; omega
    clear hg hbwz
    go_wp2_with fail
    refine (pick_int wa (w.heap.size + 1) w.heap.size a len' cap 4 _ hR (by omega) (by omega) (by omega)).mono ?_
    rintro e wb ⟨x4, rfl, hx4, hR, hg⟩
    have hbwb : Below w.heap.size w wb := hbwa.grown hg (by omega) (by intro k hk; cases hk; omega)
    have hswb : w.heap.size + 1 ≤ wb.heap.size := by have := hg.size; omega
    clear hg hbwa
    rcases (show x4 = 0 ∨ 1 ≤ x4 from by omega) with rfl | hx4'
    · obtain ⟨nn, hnn, hn9⟩ : ∃ nn : Nat, ((n : Int) + 40) = (nn : Int) ∧ nn ≤ 69 := ⟨n + 40, by omega, by omega⟩
      go_wp2_with fail
      go_loopw [7, 8] (fun o i wr => ∃ j g cap' : Nat, ∃ ss : List ByteArray, ∃ pj : Nat, j ≤ nn ∧ ss.length = j ∧ i = .int .i64 j ∧ o = .slice (some ⟨g, 0, none⟩) j cap' ∧ wr.ownsRow (w.heap.size + 1) 9 1 (.slice (some ⟨g, 0, none⟩) j cap') j (scells ss) ∧ (∀ s ∈ ss, s.size ≤ 12) ∧ Rd (w.heap.size + 1) wr w.heap.size a len' cap pj ∧ pj ≤ 10 + 20 * j ∧ Below w.heap.size w wr ∧ w.heap.size + 1 ≤ wr.heap.size) (fun _ i _ => nn - (intOf i).toNat)
      case atStart =>
        exact ⟨0, wb.heap.size, 0, [], 5, by omega, rfl, rfl, rfl, World.ownsRow_lit wb #[] 0 hswb (by unfold maxLen; omega) (by simp), by simp, hR.kept hswb (World.grownBy_alloc _ _ none) (by simp), by omega, hbwb.alloc (by omega) _, by simp; omega⟩
      case round =>
        obtain ⟨j, g, cap', ss, pj, hj, hl, rfl, rfl, hown, hss, hR, hpj, hbr, hsr⟩ := hrel
        have hgB := (hown.lt g rfl).1
        by_cases hlt : j < nn
        · go_wp2_with fail
          refine (l1Text_any wr (w.heap.size + 1) w.heap.size a len' cap pj hR hsr (by omega)).mono ?_
          rintro e ws ⟨s, ps, rfl, hsz, hR, hps, hg⟩
          have hown := hown.kept hg (Or.inr (by simp [Value.ownBlock]; omega))
          have hbs : Below w.heap.size w ws := hbr.grown hg (by omega) (by intro k hk; cases hk; omega)
          have hss2 : w.heap.size + 1 ≤ ws.heap.size := by have := hg.size; omega
          clear hg hbr
          go_wp2_with fail
          refine (pick_int ws (w.heap.size + 1) w.heap.size a len' cap ps _ hR (by omega) (by omega) (by omega)).mono ?_
          rintro e wp ⟨x5, rfl, hx5, hR, hg⟩
          have hown := hown.kept hg (Or.inr (by simp [Value.ownBlock]; omega))
          have hbp : Below w.heap.size w wp := hbs.grown hg (by omega) (by intro k hk; cases hk; omega)
          have hsp : w.heap.size + 1 ≤ wp.heap.size := by have := hg.size; omega
          clear hg hbs
          rcases (show x5 = 0 ∨ 1 ≤ x5 from by omega) with rfl | hx5'
          · go_wp2_with (first | (at_builtin; refine wpList_append_own _ rfl (.tmp 51) (.tmp 53) 24 rfl (w.heap.size + 1) 9 i0 (.string ByteArray.empty) 1 16 Try.underlying24 hi hz0 hz1 hz2 rfl (by decide) _ _ _ rfl (hown.alloc _) ⟨wp.heap.size, 0, none⟩ 1 1 [.string s] rfl rfl (cell_one_new _ _ _) (by intro u hu; simp at hu; subst hu; rfl) (by unfold maxLen; omega) (by omega) (by simp; omega) ?_; intro v' w1 hown' hgrow hnil; obtain ⟨g', cap2, hv', RR⟩ := drawClash_step hsp (Nat.le_refl _) hgB hbp hR hown' hgrow; clear hown' hgrow hnil hown hbp; rw [hv']; clear hv'))
            go_roundw
            case rel => exact ⟨j + 1, g', cap2, ss ++ [s], ps + 1, by omega, by simp [hl], by go_num, rfl, RR.1, by intro t ht; rcases List.mem_append.1 ht with ht | ht; exact hss t ht; rw [List.mem_singleton.1 ht]; omega, RR.2.1, by omega, RR.2.2.1, RR.2.2.2⟩
            case measure => simp [intOf]; omega

          · obtain ⟨u, v, hu, hv⟩ := byte_ab j (by omega)
            have hcv := conv_ab wp _ _ u v hu hv
            have hby : Below w.heap.size w (wp.alloc (.cells #[.int .u8 (97 + (j : Int) % 26), .int .u8 (48 + (j : Int) / 26)] 5)) := hbp.alloc (by omega) _
            have hRy := hR.kept hsp (World.grownBy_alloc wp (.cells #[.int .u8 (97 + (j : Int) % 26), .int .u8 (48 + (j : Int) / 26)] 5) none) (by simp)
            have hsy : w.heap.size + 1 ≤ (wp.alloc (.cells #[.int .u8 (97 + (j : Int) % 26), .int .u8 (48 + (j : Int) / 26)] 5)).heap.size := by simp; omega
            have hsz2 : (s ++ (⟨#[u, v]⟩ : ByteArray)).size ≤ 12 := by rw [ByteArray.size_append]; show s.size + 2 ≤ 12; omega
            have hcn := cell_one_new (wp.alloc (.cells #[.int .u8 (97 + (j : Int) % 26), .int .u8 (48 + (j : Int) / 26)] 5)) (.string (s ++ (⟨#[u, v]⟩ : ByteArray))) 9
            rw [World.size_alloc] at hcn
            clear hu hv
            go_wp2_with (first | (at_builtin; refine wpList_append_own _ rfl (.tmp 51) (.tmp 53) 24 rfl (w.heap.size + 1) 9 i0 (.string ByteArray.empty) 1 16 Try.underlying24 hi hz0 hz1 hz2 rfl (by decide) _ _ _ rfl ((hown.alloc _).alloc _) ⟨wp.heap.size + 1, 0, none⟩ 1 1 [.string (s ++ (⟨#[u, v]⟩ : ByteArray))] rfl rfl hcn (by intro u hu; simp at hu; subst hu; rfl) (by unfold maxLen; omega) (by omega) (by simp; omega) ?_; intro v' w1 hown' hgrow hnil; obtain ⟨g', cap2, hv', RR⟩ := drawClash_step hsy (Nat.le_refl _) hgB hby hRy hown' hgrow; clear hown' hgrow hnil hown hby; rw [hv']; clear hv'))
            go_roundw
            case rel => exact ⟨j + 1, g', cap2, ss ++ [s ++ (⟨#[u, v]⟩ : ByteArray)], ps + 1, by omega, by simp [hl], by go_num, rfl, RR.1, by intro t ht; rcases List.mem_append.1 ht with ht | ht; exact hss t ht; rw [List.mem_singleton.1 ht]; exact hsz2, RR.2.1, by omega, RR.2.2.1, RR.2.2.2⟩
            case measure => simp [intOf]; omega

        · go_wp2_with fail
          refine (pick_int wr (w.heap.size + 1) w.heap.size a len' cap pj _ hR (by omega) (by omega) (by omega)).mono ?_
          rintro e wt ⟨x6, rfl, hx6, hR, hg⟩
          have hown := hown.kept hg (Or.inr (by simp [Value.ownBlock]; omega))
          have hbwt : Below w.heap.size w wt := hbr.grown hg (by omega) (by intro k hk; cases hk; omega)
          have hswt : w.heap.size + 1 ≤ wt.heap.size := by have := hg.size; omega
          clear hg hbr
          rcases (show x6 = 0 ∨ 1 ≤ x6 from by omega) with rfl | hx6'
          · go_wp2_with fail
            go_loopw [7] (fun o wr => ∃ j g cap' : Nat, ∃ ss : List ByteArray, ∃ pj : Nat, j ≤ 5001 ∧ ss.length = j ∧ o = .slice (some ⟨g, 0, none⟩) j cap' ∧ wr.ownsRow (w.heap.size + 1) 9 1 (.slice (some ⟨g, 0, none⟩) j cap') j (scells ss) ∧ (∀ s ∈ ss, s.size ≤ 12) ∧ Rd (w.heap.size + 1) wr w.heap.size a len' cap pj ∧ pj ≤ 2000 + j ∧ Below w.heap.size w wr ∧ w.heap.size + 1 ≤ wr.heap.size) (fun o _ => 5001 - (lenV o))
            case atStart => exact ⟨j, g, cap', ss, pj + 1, by omega, hl, rfl, hown, hss, hR, by omega, hbwt, hswt⟩
            case round =>
              obtain ⟨j, g, cap', ss, pj, hj, hl, rfl, hown, hss, hR, hpj, hbr, hsr⟩ := hrel
              have hgB := (hown.lt g rfl).1
              go_wp2_with fail
              refine (pick_int wr (w.heap.size + 1) w.heap.size a len' cap pj _ hR (by omega) (by omega) (by omega)).mono ?_
              rintro e wp ⟨x7, rfl, hx7, hR, hg⟩
              have hown := hown.kept hg (Or.inr (by simp [Value.ownBlock]; omega))
              have hbp : Below w.heap.size w wp := hbr.grown hg (by omega) (by intro k hk; cases hk; omega)
              have hsp : w.heap.size + 1 ≤ wp.heap.size := by have := hg.size; omega
              clear hg hbr
              by_cases hlt : j < 5000 + x7
              · go_wp2_with (first | (at_builtin; refine wpList_append_own _ rfl (.tmp 64) (.tmp 65) 24 rfl (w.heap.size + 1) 9 i0 (.string ByteArray.empty) 1 16 Try.underlying24 hi hz0 hz1 hz2 rfl (by decide) _ _ _ rfl (hown.alloc _) ⟨wp.heap.size, 0, none⟩ 1 1 [.string (⟨#[]⟩ : ByteArray)] rfl rfl (cell_one_new _ _ _) (by intro u hu; simp at hu; subst hu; rfl) (by unfold maxLen; omega) (by omega) (by simp; omega) ?_; intro v' w1 hown' hgrow hnil; obtain ⟨g', cap2, hv', RR⟩ := drawClash_step hsp (Nat.le_refl _) hgB hbp hR hown' hgrow; clear hown' hgrow hnil hown hbp; rw [hv']; clear hv'))
                go_roundw
                case rel => exact ⟨j + 1, g', cap2, ss ++ [(⟨#[]⟩ : ByteArray)], pj + 1, by omega, by simp [hl], rfl, RR.1, by intro t ht; rcases List.mem_append.1 ht with ht | ht; exact hss t ht; rw [List.mem_singleton.1 ht]; decide, RR.2.1, by omega, RR.2.2.1, RR.2.2.2⟩
                case measure => simp [lenV]; omega

              · go_wp2
                go_ret2
                subst hl
                exact ⟨hbp, g, cap', ss, wd2, rfl, scells_strs hown, hj, hss, hwd9⟩

          · have hx6b : ((x6 : Int) == 0) = false := by simp; omega
            go_wp2
            go_ret2
            subst hl
            exact ⟨hbwt, g, cap', ss, wd2, rfl, scells_strs hown, by omega, hss, hwd9⟩
    · have hn9 : n ≤ 69 := by omega
      have hx4b : ((x4 : Int) == 0) = false := by simp; omega
      go_wp2_with fail
      go_loopw [7, 8] (fun o i wr => ∃ j g cap' : Nat, ∃ ss : List ByteArray, ∃ pj : Nat, j ≤ n ∧ ss.length = j ∧ i = .int .i64 j ∧ o = .slice (some ⟨g, 0, none⟩) j cap' ∧ wr.ownsRow (w.heap.size + 1) 9 1 (.slice (some ⟨g, 0, none⟩) j cap') j (scells ss) ∧ (∀ s ∈ ss, s.size ≤ 12) ∧ Rd (w.heap.size + 1) wr w.heap.size a len' cap pj ∧ pj ≤ 10 + 20 * j ∧ Below w.heap.size w wr ∧ w.heap.size + 1 ≤ wr.heap.size) (fun _ i _ => n - (intOf i).toNat)
      case atStart =>
        exact ⟨0, wb.heap.size, 0, [], 5, by omega, rfl, rfl, rfl, World.ownsRow_lit wb #[] 0 hswb (by unfold maxLen; omega) (by simp), by simp, hR.kept hswb (World.grownBy_alloc _ _ none) (by simp), by omega, hbwb.alloc (by omega) _, by simp; omega⟩
      case round =>
        obtain ⟨j, g, cap', ss, pj, hj, hl, rfl, rfl, hown, hss, hR, hpj, hbr, hsr⟩ := hrel
        have hgB := (hown.lt g rfl).1
        by_cases hlt : j < n
        · go_wp2_with fail
          refine (l1Text_any wr (w.heap.size + 1) w.heap.size a len' cap pj hR hsr (by omega)).mono ?_
          rintro e ws ⟨s, ps, rfl, hsz, hR, hps, hg⟩
          have hown := hown.kept hg (Or.inr (by simp [Value.ownBlock]; omega))
          have hbs : Below w.heap.size w ws := hbr.grown hg (by omega) (by intro k hk; cases hk; omega)
          have hss2 : w.heap.size + 1 ≤ ws.heap.size := by have := hg.size; omega
          clear hg hbr
          go_wp2_with fail
          refine (pick_int ws (w.heap.size + 1) w.heap.size a len' cap ps _ hR (by omega) (by omega) (by omega)).mono ?_
          rintro e wp ⟨x5, rfl, hx5, hR, hg⟩
          have hown := hown.kept hg (Or.inr (by simp [Value.ownBlock]; omega))
          have hbp : Below w.heap.size w wp := hbs.grown hg (by omega) (by intro k hk; cases hk; omega)
          have hsp : w.heap.size + 1 ≤ wp.heap.size := by have := hg.size; omega
          clear hg hbs
          rcases (show x5 = 0 ∨ 1 ≤ x5 from by omega) with rfl | hx5'
          · go_wp2_with (first | (at_builtin; refine wpList_append_own _ rfl (.tmp 51) (.tmp 53) 24 rfl (w.heap.size + 1) 9 i0 (.string ByteArray.empty) 1 16 Try.underlying24 hi hz0 hz1 hz2 rfl (by decide) _ _ _ rfl (hown.alloc _) ⟨wp.heap.size, 0, none⟩ 1 1 [.string s] rfl rfl (cell_one_new _ _ _) (by intro u hu; simp at hu; subst hu; rfl) (by unfold maxLen; omega) (by omega) (by simp; omega) ?_; intro v' w1 hown' hgrow hnil; obtain ⟨g', cap2, hv', RR⟩ := drawClash_step hsp (Nat.le_refl _) hgB hbp hR hown' hgrow; clear hown' hgrow hnil hown hbp; rw [hv']; clear hv'))
            go_roundw
            case rel => exact ⟨j + 1, g', cap2, ss ++ [s], ps + 1, by omega, by simp [hl], by go_num, rfl, RR.1, by intro t ht; rcases List.mem_append.1 ht with ht | ht; exact hss t ht; rw [List.mem_singleton.1 ht]; omega, RR.2.1, by omega, RR.2.2.1, RR.2.2.2⟩
            case measure => simp [intOf]; omega

          · obtain ⟨u, v, hu, hv⟩ := byte_ab j (by omega)
            have hcv := conv_ab wp _ _ u v hu hv
            have hby : Below w.heap.size w (wp.alloc (.cells #[.int .u8 (97 + (j : Int) % 26), .int .u8 (48 + (j : Int) / 26)] 5)) := hbp.alloc (by omega) _
            have hRy := hR.kept hsp (World.grownBy_alloc wp (.cells #[.int .u8 (97 + (j : Int) % 26), .int .u8 (48 + (j : Int) / 26)] 5) none) (by simp)
            have hsy : w.heap.size + 1 ≤ (wp.alloc (.cells #[.int .u8 (97 + (j : Int) % 26), .int .u8 (48 + (j : Int) / 26)] 5)).heap.size := by simp; omega
            have hsz2 : (s ++ (⟨#[u, v]⟩ : ByteArray)).size ≤ 12 := by rw [ByteArray.size_append]; show s.size + 2 ≤ 12; omega
            have hcn := cell_one_new (wp.alloc (.cells #[.int .u8 (97 + (j : Int) % 26), .int .u8 (48 + (j : Int) / 26)] 5)) (.string (s ++ (⟨#[u, v]⟩ : ByteArray))) 9
            rw [World.size_alloc] at hcn
            clear hu hv
            go_wp2_with (first | (at_builtin; refine wpList_append_own _ rfl (.tmp 51) (.tmp 53) 24 rfl (w.heap.size + 1) 9 i0 (.string ByteArray.empty) 1 16 Try.underlying24 hi hz0 hz1 hz2 rfl (by decide) _ _ _ rfl ((hown.alloc _).alloc _) ⟨wp.heap.size + 1, 0, none⟩ 1 1 [.string (s ++ (⟨#[u, v]⟩ : ByteArray))] rfl rfl hcn (by intro u hu; simp at hu; subst hu; rfl) (by unfold maxLen; omega) (by omega) (by simp; omega) ?_; intro v' w1 hown' hgrow hnil; obtain ⟨g', cap2, hv', RR⟩ := drawClash_step hsy (Nat.le_refl _) hgB hby hRy hown' hgrow; clear hown' hgrow hnil hown hby; rw [hv']; clear hv'))
            go_roundw
            case rel => exact ⟨j + 1, g', cap2, ss ++ [s ++ (⟨#[u, v]⟩ : ByteArray)], ps + 1, by omega, by simp [hl], by go_num, rfl, RR.1, by intro t ht; rcases List.mem_append.1 ht with ht | ht; exact hss t ht; rw [List.mem_singleton.1 ht]; exact hsz2, RR.2.1, by omega, RR.2.2.1, RR.2.2.2⟩
            case measure => simp [intOf]; omega

        · go_wp2_with fail
          refine (pick_int wr (w.heap.size + 1) w.heap.size a len' cap pj _ hR (by omega) (by omega) (by omega)).mono ?_
          rintro e wt ⟨x6, rfl, hx6, hR, hg⟩
          have hown := hown.kept hg (Or.inr (by simp [Value.ownBlock]; omega))
          have hbwt : Below w.heap.size w wt := hbr.grown hg (by omega) (by intro k hk; cases hk; omega)
          have hswt : w.heap.size + 1 ≤ wt.heap.size := by have := hg.size; omega
          clear hg hbr
          rcases (show x6 = 0 ∨ 1 ≤ x6 from by omega) with rfl | hx6'
          · go_wp2_with fail
            go_loopw [7] (fun o wr => ∃ j g cap' : Nat, ∃ ss : List ByteArray, ∃ pj : Nat, j ≤ 5001 ∧ ss.length = j ∧ o = .slice (some ⟨g, 0, none⟩) j cap' ∧ wr.ownsRow (w.heap.size + 1) 9 1 (.slice (some ⟨g, 0, none⟩) j cap') j (scells ss) ∧ (∀ s ∈ ss, s.size ≤ 12) ∧ Rd (w.heap.size + 1) wr w.heap.size a len' cap pj ∧ pj ≤ 2000 + j ∧ Below w.heap.size w wr ∧ w.heap.size + 1 ≤ wr.heap.size) (fun o _ => 5001 - (lenV o))
            case atStart => exact ⟨j, g, cap', ss, pj + 1, by omega, hl, rfl, hown, hss, hR, by omega, hbwt, hswt⟩
            case round =>
              obtain ⟨j, g, cap', ss, pj, hj, hl, rfl, hown, hss, hR, hpj, hbr, hsr⟩ := hrel
              have hgB := (hown.lt g rfl).1
              go_wp2_with fail
              refine (pick_int wr (w.heap.size + 1) w.heap.size a len' cap pj _ hR (by omega) (by omega) (by omega)).mono ?_
              rintro e wp ⟨x7, rfl, hx7, hR, hg⟩
              have hown := hown.kept hg (Or.inr (by simp [Value.ownBlock]; omega))
              have hbp : Below w.heap.size w wp := hbr.grown hg (by omega) (by intro k hk; cases hk; omega)
              have hsp : w.heap.size + 1 ≤ wp.heap.size := by have := hg.size; omega
              clear hg hbr
              by_cases hlt : j < 5000 + x7
              · go_wp2_with (first | (at_builtin; refine wpList_append_own _ rfl (.tmp 64) (.tmp 65) 24 rfl (w.heap.size + 1) 9 i0 (.string ByteArray.empty) 1 16 Try.underlying24 hi hz0 hz1 hz2 rfl (by decide) _ _ _ rfl (hown.alloc _) ⟨wp.heap.size, 0, none⟩ 1 1 [.string (⟨#[]⟩ : ByteArray)] rfl rfl (cell_one_new _ _ _) (by intro u hu; simp at hu; subst hu; rfl) (by unfold maxLen; omega) (by omega) (by simp; omega) ?_; intro v' w1 hown' hgrow hnil; obtain ⟨g', cap2, hv', RR⟩ := drawClash_step hsp (Nat.le_refl _) hgB hbp hR hown' hgrow; clear hown' hgrow hnil hown hbp; rw [hv']; clear hv'))
                go_roundw
                case rel => exact ⟨j + 1, g', cap2, ss ++ [(⟨#[]⟩ : ByteArray)], pj + 1, by omega, by simp [hl], rfl, RR.1, by intro t ht; rcases List.mem_append.1 ht with ht | ht; exact hss t ht; rw [List.mem_singleton.1 ht]; decide, RR.2.1, by omega, RR.2.2.1, RR.2.2.2⟩
                case measure => simp [lenV]; omega

              · go_wp2
                go_ret2
                subst hl
                exact ⟨hbp, g, cap', ss, wd2, rfl, scells_strs hown, hj, hss, hwd9⟩

          · have hx6b : ((x6 : Int) == 0) = false := by simp; omega
            go_wp2
            go_ret2
            subst hl
            exact ⟨hbwt, g, cap', ss, wd2, rfl, scells_strs hown, by omega, hss, hwd9⟩
  · have hx2b : ((x2 : Int) == 0) = false := by simp; omega
    go_wp2_with fail
    refine (pick_int wq2 (w.heap.size + 1) w.heap.size a len' cap 2 _ hR (by omega) (by omega) (by omega)).mono ?_
    rintro e wa ⟨n, rfl, hn, hR, hg⟩
    have hbwa : Below w.heap.size w wa := hb2.grown hg (by omega) (by intro k hk; cases hk; omega)
    have hswa : w.heap.size + 1 ≤ wa.heap.size := by have := hg.size; omega
    clear hg hb2
    go_wp2_with fail
    refine (pick_int wa (w.heap.size + 1) w.heap.size a len' cap 3 _ hR (by omega) (by omega) (by omega)).mono ?_
    rintro e wb ⟨x4, rfl, hx4, hR, hg⟩
    have hbwb : Below w.heap.size w wb := hbwa.grown hg (by omega) (by intro k hk; cases hk; omega)
    have hswb : w.heap.size + 1 ≤ wb.heap.size := by have := hg.size; omega
    clear hg hbwa
    rcases (show x4 = 0 ∨ 1 ≤ x4 from by omega) with rfl | hx4'
    · obtain ⟨nn, hnn, hn9⟩ : ∃ nn : Nat, ((n : Int) + 40) = (nn : Int) ∧ nn ≤ 69 := ⟨n + 40, by omega, by omega⟩
      go_wp2_with fail
      go_loopw [7, 8] (fun o i wr => ∃ j g cap' : Nat, ∃ ss : List ByteArray, ∃ pj : Nat, j ≤ nn ∧ ss.length = j ∧ i = .int .i64 j ∧ o = .slice (some ⟨g, 0, none⟩) j cap' ∧ wr.ownsRow (w.heap.size + 1) 9 1 (.slice (some ⟨g, 0, none⟩) j cap') j (scells ss) ∧ (∀ s ∈ ss, s.size ≤ 12) ∧ Rd (w.heap.size + 1) wr w.heap.size a len' cap pj ∧ pj ≤ 10 + 20 * j ∧ Below w.heap.size w wr ∧ w.heap.size + 1 ≤ wr.heap.size) (fun _ i _ => nn - (intOf i).toNat)
      case atStart =>
        exact ⟨0, wb.heap.size, 0, [], 4, by omega, rfl, rfl, rfl, World.ownsRow_lit wb #[] 0 hswb (by unfold maxLen; omega) (by simp), by simp, hR.kept hswb (World.grownBy_alloc _ _ none) (by simp), by omega, hbwb.alloc (by omega) _, by simp; omega⟩
      case round =>
        obtain ⟨j, g, cap', ss, pj, hj, hl, rfl, rfl, hown, hss, hR, hpj, hbr, hsr⟩ := hrel
        have hgB := (hown.lt g rfl).1
        by_cases hlt : j < nn
        · go_wp2_with fail
          refine (l1Text_any wr (w.heap.size + 1) w.heap.size a len' cap pj hR hsr (by omega)).mono ?_
          rintro e ws ⟨s, ps, rfl, hsz, hR, hps, hg⟩
          have hown := hown.kept hg (Or.inr (by simp [Value.ownBlock]; omega))
          have hbs : Below w.heap.size w ws := hbr.grown hg (by omega) (by intro k hk; cases hk; omega)
          have hss2 : w.heap.size + 1 ≤ ws.heap.size := by have := hg.size; omega
          clear hg hbr
          go_wp2_with fail
          refine (pick_int ws (w.heap.size + 1) w.heap.size a len' cap ps _ hR (by omega) (by omega) (by omega)).mono ?_
          rintro e wp ⟨x5, rfl, hx5, hR, hg⟩
          have hown := hown.kept hg (Or.inr (by simp [Value.ownBlock]; omega))
          have hbp : Below w.heap.size w wp := hbs.grown hg (by omega) (by intro k hk; cases hk; omega)
          have hsp : w.heap.size + 1 ≤ wp.heap.size := by have := hg.size; omega
          clear hg hbs
          rcases (show x5 = 0 ∨ 1 ≤ x5 from by omega) with rfl | hx5'
          · go_wp2_with (first | (at_builtin; refine wpList_append_own _ rfl (.tmp 51) (.tmp 53) 24 rfl (w.heap.size + 1) 9 i0 (.string ByteArray.empty) 1 16 Try.underlying24 hi hz0 hz1 hz2 rfl (by decide) _ _ _ rfl (hown.alloc _) ⟨wp.heap.size, 0, none⟩ 1 1 [.string s] rfl rfl (cell_one_new _ _ _) (by intro u hu; simp at hu; subst hu; rfl) (by unfold maxLen; omega) (by omega) (by simp; omega) ?_; intro v' w1 hown' hgrow hnil; obtain ⟨g', cap2, hv', RR⟩ := drawClash_step hsp (Nat.le_refl _) hgB hbp hR hown' hgrow; clear hown' hgrow hnil hown hbp; rw [hv']; clear hv'))
            go_roundw
            case rel => exact ⟨j + 1, g', cap2, ss ++ [s], ps + 1, by omega, by simp [hl], by go_num, rfl, RR.1, by intro t ht; rcases List.mem_append.1 ht with ht | ht; exact hss t ht; rw [List.mem_singleton.1 ht]; omega, RR.2.1, by omega, RR.2.2.1, RR.2.2.2⟩
            case measure => simp [intOf]; omega

          · obtain ⟨u, v, hu, hv⟩ := byte_ab j (by omega)
            have hcv := conv_ab wp _ _ u v hu hv
            have hby : Below w.heap.size w (wp.alloc (.cells #[.int .u8 (97 + (j : Int) % 26), .int .u8 (48 + (j : Int) / 26)] 5)) := hbp.alloc (by omega) _
            have hRy := hR.kept hsp (World.grownBy_alloc wp (.cells #[.int .u8 (97 + (j : Int) % 26), .int .u8 (48 + (j : Int) / 26)] 5) none) (by simp)
            have hsy : w.heap.size + 1 ≤ (wp.alloc (.cells #[.int .u8 (97 + (j : Int) % 26), .int .u8 (48 + (j : Int) / 26)] 5)).heap.size := by simp; omega
            have hsz2 : (s ++ (⟨#[u, v]⟩ : ByteArray)).size ≤ 12 := by rw [ByteArray.size_append]; show s.size + 2 ≤ 12; omega
            have hcn := cell_one_new (wp.alloc (.cells #[.int .u8 (97 + (j : Int) % 26), .int .u8 (48 + (j : Int) / 26)] 5)) (.string (s ++ (⟨#[u, v]⟩ : ByteArray))) 9
            rw [World.size_alloc] at hcn
            clear hu hv
            go_wp2_with (first | (at_builtin; refine wpList_append_own _ rfl (.tmp 51) (.tmp 53) 24 rfl (w.heap.size + 1) 9 i0 (.string ByteArray.empty) 1 16 Try.underlying24 hi hz0 hz1 hz2 rfl (by decide) _ _ _ rfl ((hown.alloc _).alloc _) ⟨wp.heap.size + 1, 0, none⟩ 1 1 [.string (s ++ (⟨#[u, v]⟩ : ByteArray))] rfl rfl hcn (by intro u hu; simp at hu; subst hu; rfl) (by unfold maxLen; omega) (by omega) (by simp; omega) ?_; intro v' w1 hown' hgrow hnil; obtain ⟨g', cap2, hv', RR⟩ := drawClash_step hsy (Nat.le_refl _) hgB hby hRy hown' hgrow; clear hown' hgrow hnil hown hby; rw [hv']; clear hv'))
            go_roundw
            case rel => exact ⟨j + 1, g', cap2, ss ++ [s ++ (⟨#[u, v]⟩ : ByteArray)], ps + 1, by omega, by simp [hl], by go_num, rfl, RR.1, by intro t ht; rcases List.mem_append.1 ht with ht | ht; exact hss t ht; rw [List.mem_singleton.1 ht]; exact hsz2, RR.2.1, by omega, RR.2.2.1, RR.2.2.2⟩
            case measure => simp [intOf]; omega

        · go_wp2_with fail
          refine (pick_int wr (w.heap.size + 1) w.heap.size a len' cap pj _ hR (by omega) (by omega) (by omega)).mono ?_
          rintro e wt ⟨x6, rfl, hx6, hR, hg⟩
          have hown := hown.kept hg (Or.inr (by simp [Value.ownBlock]; omega))
          have hbwt : Below w.heap.size w wt := hbr.grown hg (by omega) (by intro k hk; cases hk; omega)
          have hswt : w.heap.size + 1 ≤ wt.heap.size := by have := hg.size; omega
          clear hg hbr
          rcases (show x6 = 0 ∨ 1 ≤ x6 from by omega) with rfl | hx6'
          · go_wp2_with fail
            go_loopw [7] (fun o wr => ∃ j g cap' : Nat, ∃ ss : List ByteArray, ∃ pj : Nat, j ≤ 5001 ∧ ss.length = j ∧ o = .slice (some ⟨g, 0, none⟩) j cap' ∧ wr.ownsRow (w.heap.size + 1) 9 1 (.slice (some ⟨g, 0, none⟩) j cap') j (scells ss) ∧ (∀ s ∈ ss, s.size ≤ 12) ∧ Rd (w.heap.size + 1) wr w.heap.size a len' cap pj ∧ pj ≤ 2000 + j ∧ Below w.heap.size w wr ∧ w.heap.size + 1 ≤ wr.heap.size) (fun o _ => 5001 - (lenV o))
            case atStart => exact ⟨j, g, cap', ss, pj + 1, by omega, hl, rfl, hown, hss, hR, by omega, hbwt, hswt⟩
            case round =>
              obtain ⟨j, g, cap', ss, pj, hj, hl, rfl, hown, hss, hR, hpj, hbr, hsr⟩ := hrel
              have hgB := (hown.lt g rfl).1
              go_wp2_with fail
              refine (pick_int wr (w.heap.size + 1) w.heap.size a len' cap pj _ hR (by omega) (by omega) (by omega)).mono ?_
              rintro e wp ⟨x7, rfl, hx7, hR, hg⟩
              have hown := hown.kept hg (Or.inr (by simp [Value.ownBlock]; omega))
              have hbp : Below w.heap.size w wp := hbr.grown hg (by omega) (by intro k hk; cases hk; omega)
              have hsp : w.heap.size + 1 ≤ wp.heap.size := by have := hg.size; omega
              clear hg hbr
              by_cases hlt : j < 5000 + x7
              · go_wp2_with (first | (at_builtin; refine wpList_append_own _ rfl (.tmp 64) (.tmp 65) 24 rfl (w.heap.size + 1) 9 i0 (.string ByteArray.empty) 1 16 Try.underlying24 hi hz0 hz1 hz2 rfl (by decide) _ _ _ rfl (hown.alloc _) ⟨wp.heap.size, 0, none⟩ 1 1 [.string (⟨#[]⟩ : ByteArray)] rfl rfl (cell_one_new _ _ _) (by intro u hu; simp at hu; subst hu; rfl) (by unfold maxLen; omega) (by omega) (by simp; omega) ?_; intro v' w1 hown' hgrow hnil; obtain ⟨g', cap2, hv', RR⟩ := drawClash_step hsp (Nat.le_refl _) hgB hbp hR hown' hgrow; clear hown' hgrow hnil hown hbp; rw [hv']; clear hv'))
                go_roundw
                case rel => exact ⟨j + 1, g', cap2, ss ++ [(⟨#[]⟩ : ByteArray)], pj + 1, by omega, by simp [hl], rfl, RR.1, by intro t ht; rcases List.mem_append.1 ht with ht | ht; exact hss t ht; rw [List.mem_singleton.1 ht]; decide, RR.2.1, by omega, RR.2.2.1, RR.2.2.2⟩
                case measure => simp [lenV]; omega

              · go_wp2
                go_ret2
                subst hl
                exact ⟨hbp, g, cap', ss, wd, rfl, scells_strs hown, hj, hss, hwd9⟩

          · have hx6b : ((x6 : Int) == 0) = false := by simp; omega
            go_wp2
            go_ret2
            subst hl
            exact ⟨hbwt, g, cap', ss, wd, rfl, scells_strs hown, by omega, hss, hwd9⟩
    · have hn9 : n ≤ 69 := by omega
      have hx4b : ((x4 : Int) == 0) = false := by simp; omega
      go_wp2_with fail
      go_loopw [7, 8] (fun o i wr => ∃ j g cap' : Nat, ∃ ss : List ByteArray, ∃ pj : Nat, j ≤ n ∧ ss.length = j ∧ i = .int .i64 j ∧ o = .slice (some ⟨g, 0, none⟩) j cap' ∧ wr.ownsRow (w.heap.size + 1) 9 1 (.slice (some ⟨g, 0, none⟩) j cap') j (scells ss) ∧ (∀ s ∈ ss, s.size ≤ 12) ∧ Rd (w.heap.size + 1) wr w.heap.size a len' cap pj ∧ pj ≤ 10 + 20 * j ∧ Below w.heap.size w wr ∧ w.heap.size + 1 ≤ wr.heap.size) (fun _ i _ => n - (intOf i).toNat)
      case atStart =>
        exact ⟨0, wb.heap.size, 0, [], 4, by omega, rfl, rfl, rfl, World.ownsRow_lit wb #[] 0 hswb (by unfold maxLen; omega) (by simp), by simp, hR.kept hswb (World.grownBy_alloc _ _ none) (by simp), by omega, hbwb.alloc (by omega) _, by simp; omega⟩
      case round =>
        obtain ⟨j, g, cap', ss, pj, hj, hl, rfl, rfl, hown, hss, hR, hpj, hbr, hsr⟩ := hrel
        have hgB := (hown.lt g rfl).1
        by_cases hlt : j < n
        · go_wp2_with fail
          refine (l1Text_any wr (w.heap.size + 1) w.heap.size a len' cap pj hR hsr (by omega)).mono ?_
          rintro e ws ⟨s, ps, rfl, hsz, hR, hps, hg⟩
          have hown := hown.kept hg (Or.inr (by simp [Value.ownBlock]; omega))
          have hbs : Below w.heap.size w ws := hbr.grown hg (by omega) (by intro k hk; cases hk; omega)
          have hss2 : w.heap.size + 1 ≤ ws.heap.size := by have := hg.size; omega
          clear hg hbr
          go_wp2_with fail
          refine (pick_int ws (w.heap.size + 1) w.heap.size a len' cap ps _ hR (by omega) (by omega) (by omega)).mono ?_
          rintro e wp ⟨x5, rfl, hx5, hR, hg⟩
          have hown := hown.kept hg (Or.inr (by simp [Value.ownBlock]; omega))
          have hbp : Below w.heap.size w wp := hbs.grown hg (by omega) (by intro k hk; cases hk; omega)
          have hsp : w.heap.size + 1 ≤ wp.heap.size := by have := hg.size; omega
          clear hg hbs
          rcases (show x5 = 0 ∨ 1 ≤ x5 from by omega) with rfl | hx5'
          · go_wp2_with (first | (at_builtin; refine wpList_append_own _ rfl (.tmp 51) (.tmp 53) 24 rfl (w.heap.size + 1) 9 i0 (.string ByteArray.empty) 1 16 Try.underlying24 hi hz0 hz1 hz2 rfl (by decide) _ _ _ rfl (hown.alloc _) ⟨wp.heap.size, 0, none⟩ 1 1 [.string s] rfl rfl (cell_one_new _ _ _) (by intro u hu; simp at hu; subst hu; rfl) (by unfold maxLen; omega) (by omega) (by simp; omega) ?_; intro v' w1 hown' hgrow hnil; obtain ⟨g', cap2, hv', RR⟩ := drawClash_step hsp (Nat.le_refl _) hgB hbp hR hown' hgrow; clear hown' hgrow hnil hown hbp; rw [hv']; clear hv'))
            go_roundw
            case rel => exact ⟨j + 1, g', cap2, ss ++ [s], ps + 1, by omega, by simp [hl], by go_num, rfl, RR.1, by intro t ht; rcases List.mem_append.1 ht with ht | ht; exact hss t ht; rw [List.mem_singleton.1 ht]; omega, RR.2.1, by omega, RR.2.2.1, RR.2.2.2⟩
            case measure => simp [intOf]; omega

          · obtain ⟨u, v, hu, hv⟩ := byte_ab j (by omega)
            have hcv := conv_ab wp _ _ u v hu hv
            have hby : Below w.heap.size w (wp.alloc (.cells #[.int .u8 (97 + (j : Int) % 26), .int .u8 (48 + (j : Int) / 26)] 5)) := hbp.alloc (by omega) _
            have hRy := hR.kept hsp (World.grownBy_alloc wp (.cells #[.int .u8 (97 + (j : Int) % 26), .int .u8 (48 + (j : Int) / 26)] 5) none) (by simp)
            have hsy : w.heap.size + 1 ≤ (wp.alloc (.cells #[.int .u8 (97 + (j : Int) % 26), .int .u8 (48 + (j : Int) / 26)] 5)).heap.size := by simp; omega
            have hsz2 : (s ++ (⟨#[u, v]⟩ : ByteArray)).size ≤ 12 := by rw [ByteArray.size_append]; show s.size + 2 ≤ 12; omega
            have hcn := cell_one_new (wp.alloc (.cells #[.int .u8 (97 + (j : Int) % 26), .int .u8 (48 + (j : Int) / 26)] 5)) (.string (s ++ (⟨#[u, v]⟩ : ByteArray))) 9
            rw [World.size_alloc] at hcn
            clear hu hv
            go_wp2_with (first | (at_builtin; refine wpList_append_own _ rfl (.tmp 51) (.tmp 53) 24 rfl (w.heap.size + 1) 9 i0 (.string ByteArray.empty) 1 16 Try.underlying24 hi hz0 hz1 hz2 rfl (by decide) _ _ _ rfl ((hown.alloc _).alloc _) ⟨wp.heap.size + 1, 0, none⟩ 1 1 [.string (s ++ (⟨#[u, v]⟩ : ByteArray))] rfl rfl hcn (by intro u hu; simp at hu; subst hu; rfl) (by unfold maxLen; omega) (by omega) (by simp; omega) ?_; intro v' w1 hown' hgrow hnil; obtain ⟨g', cap2, hv', RR⟩ := drawClash_step hsy (Nat.le_refl _) hgB hby hRy hown' hgrow; clear hown' hgrow hnil hown hby; rw [hv']; clear hv'))
            go_roundw
            case rel => exact ⟨j + 1, g', cap2, ss ++ [s ++ (⟨#[u, v]⟩ : ByteArray)], ps + 1, by omega, by simp [hl], by go_num, rfl, RR.1, by intro t ht; rcases List.mem_append.1 ht with ht | ht; exact hss t ht; rw [List.mem_singleton.1 ht]; exact hsz2, RR.2.1, by omega, RR.2.2.1, RR.2.2.2⟩
            case measure => simp [intOf]; omega

        · go_wp2_with fail
          refine (pick_int wr (w.heap.size + 1) w.heap.size a len' cap pj _ hR (by omega) (by omega) (by omega)).mono ?_
          rintro e wt ⟨x6, rfl, hx6, hR, hg⟩
          have hown := hown.kept hg (Or.inr (by simp [Value.ownBlock]; omega))
          have hbwt : Below w.heap.size w wt := hbr.grown hg (by omega) (by intro k hk; cases hk; omega)
          have hswt : w.heap.size + 1 ≤ wt.heap.size := by have := hg.size; omega
          clear hg hbr
          rcases (show x6 = 0 ∨ 1 ≤ x6 from by omega) with rfl | hx6'
          · go_wp2_with fail
            go_loopw [7] (fun o wr => ∃ j g cap' : Nat, ∃ ss : List ByteArray, ∃ pj : Nat, j ≤ 5001 ∧ ss.length = j ∧ o = .slice (some ⟨g, 0, none⟩) j cap' ∧ wr.ownsRow (w.heap.size + 1) 9 1 (.slice (some ⟨g, 0, none⟩) j cap') j (scells ss) ∧ (∀ s ∈ ss, s.size ≤ 12) ∧ Rd (w.heap.size + 1) wr w.heap.size a len' cap pj ∧ pj ≤ 2000 + j ∧ Below w.heap.size w wr ∧ w.heap.size + 1 ≤ wr.heap.size) (fun o _ => 5001 - (lenV o))
            case atStart => exact ⟨j, g, cap', ss, pj + 1, by omega, hl, rfl, hown, hss, hR, by omega, hbwt, hswt⟩
            case round =>
              obtain ⟨j, g, cap', ss, pj, hj, hl, rfl, hown, hss, hR, hpj, hbr, hsr⟩ := hrel
              have hgB := (hown.lt g rfl).1
              go_wp2_with fail
              refine (pick_int wr (w.heap.size + 1) w.heap.size a len' cap pj _ hR (by omega) (by omega) (by omega)).mono ?_
              rintro e wp ⟨x7, rfl, hx7, hR, hg⟩
              have hown := hown.kept hg (Or.inr (by simp [Value.ownBlock]; omega))
              have hbp : Below w.heap.size w wp := hbr.grown hg (by omega) (by intro k hk; cases hk; omega)
              have hsp : w.heap.size + 1 ≤ wp.heap.size := by have := hg.size; omega
              clear hg hbr
              by_cases hlt : j < 5000 + x7
              · go_wp2_with (first | (at_builtin; refine wpList_append_own _ rfl (.tmp 64) (.tmp 65) 24 rfl (w.heap.size + 1) 9 i0 (.string ByteArray.empty) 1 16 Try.underlying24 hi hz0 hz1 hz2 rfl (by decide) _ _ _ rfl (hown.alloc _) ⟨wp.heap.size, 0, none⟩ 1 1 [.string (⟨#[]⟩ : ByteArray)] rfl rfl (cell_one_new _ _ _) (by intro u hu; simp at hu; subst hu; rfl) (by unfold maxLen; omega) (by omega) (by simp; omega) ?_; intro v' w1 hown' hgrow hnil; obtain ⟨g', cap2, hv', RR⟩ := drawClash_step hsp (Nat.le_refl _) hgB hbp hR hown' hgrow; clear hown' hgrow hnil hown hbp; rw [hv']; clear hv'))
                go_roundw
                case rel => exact ⟨j + 1, g', cap2, ss ++ [(⟨#[]⟩ : ByteArray)], pj + 1, by omega, by simp [hl], rfl, RR.1, by intro t ht; rcases List.mem_append.1 ht with ht | ht; exact hss t ht; rw [List.mem_singleton.1 ht]; decide, RR.2.1, by omega, RR.2.2.1, RR.2.2.2⟩
                case measure => simp [lenV]; omega

              · go_wp2
                go_ret2
                subst hl
                exact ⟨hbp, g, cap', ss, wd, rfl, scells_strs hown, hj, hss, hwd9⟩

          · have hx6b : ((x6 : Int) == 0) = false := by simp; omega
            go_wp2
            go_ret2
            subst hl
            exact ⟨hbwt, g, cap', ss, wd, rfl, scells_strs hown, by omega, hss, hwd9⟩

end Go.Proofs.Ytmeojnaoljgieaa
