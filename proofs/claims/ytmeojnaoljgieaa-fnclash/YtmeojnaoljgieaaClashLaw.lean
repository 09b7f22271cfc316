/-
  FnClash: the walk of the law.
-/
import Derived.Test.YtmeojnaoljgieaaDrawClash
import Derived.Test.YtmeojnaoljgieaaImplClash
import Derived.Deep.RegionHeld3
namespace Go.Proofs.Ytmeojnaoljgieaa
open Go.RowKit

theorem implSum_H (s : ByteArray) (n : Nat) (w : World) (hs : s.size ≤ 1048576) (h1 : 1 ≤ n) (h2 : n ≤ 8) :
    Calls Try.prog 8 #[.string s, .int .i64 n] w fun e w' => e = .returned (.string (Hs n s)) ∧ Below w.heap.size w w' := implSum_yes s n w hs h1 h2

theorem Hs_size (n : Nat) (s : ByteArray) : (Hs n s).size = n := by
  show (digs (hash s.data.toList) n).toArray.size = n
  simp [digs_length]

/-- Behind the two Clashes: a clash is shown, or none is. -/
theorem total_le {ss : List ByteArray} (h : ∀ s ∈ ss, s.size ≤ 12) : total ss ≤ 12 * ss.length := by
  unfold total
  induction ss with
  | nil => simp
  | cons s r ih =>
    have h1 := h s (by simp)
    have h2 := ih (fun t ht => h t (by simp [ht]))
    simp; omega

theorem sum_keep {w : World} {g i k : Nat} {s t : ByteArray} (x : ByteArray) (n : Nat) (W : World) (hx : x.size ≤ 1048576) (hS : W.cell? ⟨g, i, none⟩ = some (.string s) ∧ W.cell? ⟨g, k, none⟩ = some (.string t) ∧ Below w.heap.size w W) (h1 : 1 ≤ n) (h2 : n ≤ 8) :
    Calls Try.prog 8 #[.string x, .int .i64 n] W fun e w' => e = .returned (.string (Hs n x)) ∧ w'.cell? ⟨g, i, none⟩ = some (.string s) ∧ w'.cell? ⟨g, k, none⟩ = some (.string t) ∧ Below w.heap.size w w' := by
  refine (implSum_H x n W hx h1 h2).mono ?_
  rintro e w' ⟨rfl, hb⟩
  exact ⟨rfl, (hb.cell (p := ⟨g, i, none⟩) (World.block_lt_of_cell? _ _ hS.1)).trans hS.1, (hb.cell (p := ⟨g, k, none⟩) (World.block_lt_of_cell? _ _ hS.2.1)).trans hS.2.1, hS.2.2.trans (hb.mono hS.2.2.size)⟩

theorem Strs.own {w : World} {g : Nat} {ss : List ByteArray} (h : Strs w (some ⟨g, 0, none⟩) ss) (i : Nat) (hi : i < ss.length) : w.cell? ⟨g, i, none⟩ = some (.string (tx ss i)) := by
  obtain ⟨b, off, he, hc⟩ := h i hi
  cases he
  simpa [tx] using hc

theorem tx_size {ss : List ByteArray} (h : ∀ s ∈ ss, s.size ≤ 12) (i : Nat) : (tx ss i).size ≤ 1048576 := by
  unfold tx
  rw [List.getD_eq_getElem?_getD]
  cases hk : ss[i]? with
  | none => simp
  | some s => have := h s (List.mem_of_getElem? hk); simp; omega

set_option maxHeartbeats 1000000 in
theorem fnClash_walk (a : Option Addr) (len cap : Nat) (w : World) (h : Bytes w a len) (hlc : len ≤ cap) (hm : len ≤ maxLen) :
    Calls Try.prog 6 #[.slice a len cap] w fun e w' => e = .returned (.bool true) ∧ Below w.heap.size w w' := by
  unfold maxLen at hm
  by_cases hl : len ≤ 1048576
  · go_enter Try.func6, Try.ntmps6
    go_wp2_with fail
    refine (drawClash_any w a len cap h hlc hl).mono ?_
    rintro e w0 ⟨hb0, g, cap', ss, wd, rfl, hst, hlen, hss, hwd⟩
    have htot := total_le hss
    by_cases hn : 1 ≤ wd ∧ wd ≤ 8 ∧ ss.length ≤ 5000
    · obtain ⟨h1, h2, h5⟩ := hn
      go_wp2_with fail
      refine (implClash_yes _ _ ss wd _ hst (by omega) h5 h1 h2).mono ?_
      rintro e w1 ⟨hb1, A, B, ok, rfl, hout⟩
      have hc1 : Below w.heap.size w w1 := hb0.trans (hb1.mono hb0.size)
      go_wp2_with fail
      refine (specClash_yes _ _ ss wd _ (hst.below hb1) (by omega) h5 h1 h2).mono ?_
      rintro e w2 ⟨hb2, A', B', ok', rfl, hout'⟩
      have hc2 : Below w.heap.size w w2 := hc1.trans (hb2.mono hc1.size)
      obtain ⟨eA, eB, eo⟩ := hout.unique hout'
      subst eA; subst eB; subst eo
      have e1 := str_eq (rfl : A = A)
      have e2 := str_eq (rfl : B = B)
      rcases hout with ⟨rfl, rfl, rfl, hno⟩ | ⟨rfl, i, j, hca, rfl, rfl⟩
      · by_cases h100 : ss.length ≤ 100
        · have h100' : decide ((100 : Int) < ss.length) = false := by simp; omega
          have hw1 : decide ((wd : Int) < 1) = false := by simp; omega
          have hw8 : decide ((8 : Int) < wd) = false := by simp; omega
          have HN : Hid (NoClash wd ss ss.length) := hno
          have hst2 := (hst.below hb1).below hb2
          clear hno hst hb1 hb2 hc1 hb0 h e1 e2
          go_wp2_with fail
          go_loopw [11] (fun i wr => ∃ j : Nat, j ≤ ss.length ∧ i = .int .i64 j ∧ Below w.heap.size w wr ∧ Strs wr (some ⟨g, 0, none⟩) ss) (fun i _ => ss.length - (intOf i).toNat)
          case atStart => exact ⟨0, Nat.zero_le _, rfl, hc2, hst2⟩
          case round =>
            obtain ⟨j, hj, rfl, hbr, hsr⟩ := hrel
            by_cases hlt : j < ss.length
            · go_wp2_with fail
              go_loopw [12] (fun i wr => ∃ k : Nat, k ≤ j ∧ i = .int .i64 k ∧ Below w.heap.size w wr ∧ Strs wr (some ⟨g, 0, none⟩) ss) (fun i _ => j - (intOf i).toNat)
              case atStart => exact ⟨0, Nat.zero_le _, rfl, hbr, hsr⟩
              case round =>
                clear hbr hsr
                obtain ⟨k, hk, rfl, hbr, hsr⟩ := hrel
                by_cases hlk : k < j
                · have cj := hsr.own j hlt
                  have ck := hsr.own k (by omega)
                  have sj := tx_size hss j
                  have sk := tx_size hss k
                  have HD : Hid (Hs wd (tx ss k) = Hs wd (tx ss j) → tx ss k = tx ss j) := HN.out j hlt k hlk
                  generalize tx ss j = s at *
                  generalize tx ss k = t at *
                  have HR : Hid (Strs wr (some ⟨g, 0, none⟩) ss) := hsr
                  clear hsr
                  by_cases hT : s = t
                  · have e3 := str_eq hT
                    clear hT
                    go_wp2_with fail
                    go_region
                    all_goals
                      go_wp2
                      go_roundw
                      case rel => exact ⟨k + 1, by omega, by go_num, by repeat (first | exact hbr | apply Below.drew), HR.out⟩
                      case measure => simp [intOf]; omega
                  · have e3 := str_ne hT
                    have e4 : ((Hs wd s).toList == (Hs wd t).toList) = false := str_ne (fun e => hT (HD.out e.symm).symm)
                    clear hT
                    have hrr : Below wr.heap.size wr wr := Below.refl _ _
                    have hkI : (k : Int) < (ss.length : Int) := by omega
                    have hjI : (j : Int) < (ss.length : Int) := by omega
                    have hk0 : (0 : Int) ≤ (k : Int) := by omega
                    have hj0 : (0 : Int) ≤ (j : Int) := by omega
                    go_wp2_with fail
                    go_region_held3 (fun w' => w'.cell? ⟨g, j, none⟩ = some (.string s) ∧ w'.cell? ⟨g, k, none⟩ = some (.string t) ∧ Below wr.heap.size wr w')
                      (first | assumption | exact ⟨by simp [*], by simp [*], by first | assumption | exact Below.drew (by assumption)⟩)
                      (first | (go_at_call 8; refine (sum_keep (w := wr) (g := g) (i := j) (k := k) (s := s) (t := t) _ wd _ ?_ ?_ h1 h2).mono ?_; (first | exact sj | exact sk); (first | assumption | exact ⟨by simp [*], by simp [*], by first | assumption | exact Below.drew (by assumption)⟩); rintro e w' ⟨rfl, hS⟩))
                    all_goals
                      go_wp2
                      go_roundw
                      case rel => exact ⟨k + 1, by omega, by go_num, hbr.trans (hS.2.2.mono hbr.size), HR.out.below hS.2.2⟩
                      case measure => simp [intOf]; omega
                · go_wp2
                  go_roundw
                  case rel => exact ⟨j + 1, by omega, by go_num, hbr, hsr⟩
                  case measure => simp [intOf]; omega
            · go_wp2_with fail
              refine (implSum_H _ wd _ (by decide) (by omega) (by omega)).mono ?_
              rintro e w3 ⟨rfl, hb3⟩
              have hsz := Hs_size wd ⟨#[97]⟩
              go_wp2
              go_ret
              exact ⟨rfl, hbr.trans (hb3.mono hbr.size)⟩
        · have h100' : decide ((100 : Int) < ss.length) = true := by simp; omega
          go_wp2_with fail
          refine (implSum_H _ 3 _ (by decide) (by omega) (by omega)).mono ?_
          rintro e w3 ⟨rfl, hb3⟩
          have hsz := Hs_size 3 ⟨#[97]⟩
          go_wp2
          go_ret
          exact ⟨rfl, hc2.trans (hb3.mono hc2.size)⟩
      · have e3 := str_ne hca.2.2.2.2.1
        have e4 := str_eq hca.2.2.2.1
        have sa := tx_size hss i
        have sb := tx_size hss j
        clear hca
        go_wp2_with fail
        refine (implSum_H _ wd _ sa h1 h2).mono ?_
        rintro e w3 ⟨rfl, hb3⟩
        have hc3 : Below w.heap.size w w3 := hc2.trans (hb3.mono hc2.size)
        go_wp2_with fail
        refine (implSum_H _ wd _ sb h1 h2).mono ?_
        rintro e w4 ⟨rfl, hb4⟩
        go_wp2
        go_ret
        exact ⟨rfl, hc3.trans (hb4.mono hc3.size)⟩
    · have hn' : ((wd : Int) < 1 ∨ 8 < (wd : Int)) ∨ 5000 < ss.length := by omega
      clear hn
      go_wp2_with fail
      refine (implClash_no _ ss.length _ wd _ (by omega) hn').mono ?_
      rintro e w1 ⟨rfl, rfl⟩
      go_wp2_with fail
      refine (specClash_no _ ss.length _ wd _ (by omega) hn').mono ?_
      rintro e w2 ⟨rfl, rfl⟩
      by_cases h100 : 100 < ss.length
      · have h100' : decide ((100 : Int) < ss.length) = true := by simp; omega
        go_wp2_with fail
        refine (implSum_H _ 3 _ (by decide) (by omega) (by omega)).mono ?_
        rintro e w3 ⟨rfl, hb3⟩
        have hsz := Hs_size 3 ⟨#[97]⟩
        go_wp2
        go_ret
        exact ⟨rfl, hb0.trans (hb3.mono hb0.size)⟩
      · have h100' : decide ((100 : Int) < ss.length) = false := by simp; omega
        rcases (show wd = 0 ∨ wd = 9 from by omega) with rfl | rfl
        all_goals
          go_wp2_with fail
          refine (implSum_H _ 3 _ (by decide) (by omega) (by omega)).mono ?_
          rintro e w3 ⟨rfl, hb3⟩
          have hsz := Hs_size 3 ⟨#[97]⟩
          go_wp2
          go_ret
          exact ⟨rfl, hb0.trans (hb3.mono hb0.size)⟩
  · go_enter Try.func6, Try.ntmps6
    go_wp2
    go_ret
    exact ⟨rfl, Below.refl _ _⟩

end Go.Proofs.Ytmeojnaoljgieaa
