/-
  THE WALK of spec.Clash.
-/
import Derived.Test.YtmeojnaoljgieaaClashPlain
namespace Go.Proofs.Ytmeojnaoljgieaa
open Go.RowKit

theorem Strs.at {w : World} {a : Option Addr} {ss : List ByteArray} (h : Strs w a ss) (i : Nat) (hi : i < ss.length) : ∃ b off, a = some ⟨b, off, none⟩ ∧ w.cell? ⟨b, off + i, none⟩ = some (.string (tx ss i)) := h i hi

theorem specClash_step {B : Nat} {w wr w1 : World} {n j g cap : Nat} {ss : List ByteArray} {s : ByteArray} {v' : Value} (hB : B = w.heap.size) (HS : Hid (s = tx ss j)) (hsz : w.heap.size ≤ wr.heap.size) (hbel : Below w.heap.size w wr) (hg : B ≤ g)
    (hown' : w1.ownsRow B 9 1 v' (j + 1) (hcells n ss j ++ [.string (Hs n s)])) (hgrow : (wr.alloc (.cells #[.string (Hs n s)] 9)).grownBy w1 (Value.slice (some ⟨g, 0, none⟩) j cap).ownBlock) :
    ∃ g cap : Nat, v' = .slice (some ⟨g, 0, none⟩) (j + 1) cap ∧ w1.ownsRow B 9 1 (.slice (some ⟨g, 0, none⟩) (j + 1) cap) (j + 1) (hcells n ss (j + 1)) ∧ Below w.heap.size w w1 := by
  subst hB
  rw [HS.out, ← hcells_succ] at hown'
  have hb : Below w.heap.size w w1 := (hbel.alloc hsz _).grown hgrow (by simp; omega) (by intro k hk; simp [Value.ownBlock] at hk; omega)
  have h2 := hown'.2
  rcases h2 with ⟨_, h⟩ | ⟨g, cap, cur, hv, _⟩
  · omega
  · subst hv; exact ⟨g, cap, rfl, hown', hb⟩

set_option maxHeartbeats 1000000 in
theorem specClash_yes (a : Option Addr) (cap : Nat) (ss : List ByteArray) (n : Nat) (w : World) (hc : Strs w a ss) (hl : ss.length + total ss ≤ 1048576) (h5 : ss.length ≤ 5000) (h1 : 1 ≤ n) (h2 : n ≤ 8) :
    Calls Try.prog 10 #[.slice a ss.length cap, .int .i64 n] w fun e w' => Below w.heap.size w w' ∧ ∃ A B ok, e = .returned (.tuple #[.string A, .string B, .bool ok]) ∧ ClashOut n ss A B ok := by
  obtain ⟨i0, hi, hz0, hz1, hz2⟩ := info_parts Try.info9
  go_enter Try.func10, Try.ntmps10
  go_wp2_with (first | (go_at_call 20; refine (l1Width_yes _ _ (by omega) (by omega)).mono ?_; rintro e w' ⟨rfl, rfl⟩))
  go_loopw [7, 8] (fun o i wr => ∃ j g cap' : Nat, j ≤ ss.length ∧ i = .int .i64 j ∧ o = .slice (some ⟨g, 0, none⟩) j cap' ∧
      wr.ownsRow w.heap.size 9 1 (.slice (some ⟨g, 0, none⟩) j cap') j (hcells n ss j) ∧ NoClash n ss j ∧ Below w.heap.size w wr) (fun _ i _ => ss.length - (intOf i).toNat)
  case atStart =>
    refine ⟨0, w.heap.size, 0, Nat.zero_le _, rfl, rfl, ?_, fun j hj => by omega, (Below.refl _ _).alloc (Nat.le_refl _) _⟩
    exact World.ownsRow_lit w #[] 0 (Nat.le_refl _) (by unfold maxLen; omega) (by simp)
  case round =>
    obtain ⟨j, g, cap', hj, rfl, rfl, hown, hno, hbel⟩ := hrel
    by_cases hlt : j < ss.length
    · obtain ⟨b, off, rfl, hcj⟩ := (hc.below hbel).at j hlt
      have hsz : (tx ss j).size ≤ 1048576 := by have := size_le_total (ss := ss) j; omega
      obtain ⟨s, hs⟩ : ∃ s, s = tx ss j := ⟨_, rfl⟩
      rw [← hs] at hcj hsz
      have HS : Hid (s = tx ss j) := hs
      clear hs
      have Hno : Hid (NoClash n ss j) := hno
      clear hno
      go_wp2_with (first | (go_at_call 7; refine (specSum_H s n _ hsz h1 h2).mono ?_; rintro e w2 ⟨rfl, hb2⟩))
      go_loopw [10] (fun i wq => ∃ k : Nat, k ≤ j ∧ i = .int .i64 k ∧ Below wr.heap.size wr wq ∧ ∀ i', i' < k → Hs n (tx ss i') = Hs n s → tx ss i' = s) (fun i _ => j - (intOf i).toNat)
      case atStart => exact ⟨0, Nat.zero_le _, rfl, hb2, fun i' h => by omega⟩
      case round =>
        obtain ⟨k, hk, rfl, hb3, hold⟩ := hrel
        by_cases hlk : k < j
        · have hk1 : wr.cell? ⟨g, k, none⟩ = some (.string (Hs n (tx ss k))) := by
            rw [(ownsRow_below hown hb3).cellAt k (by omega), hcells_get n ss j k hlk]
          have hk3 := (hb3.cell (p := ⟨b, off + j, none⟩) (World.block_lt_of_cell? _ _ hcj)).trans hcj
          have hk2 : wr.cell? ⟨b, off + k, none⟩ = some (.string (tx ss k)) := by
            obtain ⟨b', off', he, h⟩ := ((hc.below hbel).below hb3).at k (by omega)
            cases he; exact h
          obtain ⟨t, ht⟩ : ∃ t, t = tx ss k := ⟨_, rfl⟩
          rw [← ht] at hk1 hk2
          have HT : Hid (t = tx ss k) := ht
          clear ht
          have HO : Hid (∀ i', i' < k → Hs n (tx ss i') = Hs n s → tx ss i' = s) := hold
          clear hold hc hcj
          by_cases hE : Hs n t = Hs n s
          · have e1 := str_eq hE
            by_cases hT : t = s
            · have e2 := str_eq hT
              have HE : Hid (t = s) := hT
              clear hE hT
              go_wp2
              go_region
              all_goals
                go_wp2
                go_roundw
                case rel =>
                  refine ⟨k + 1, by omega, by go_num, by repeat (first | exact hb3 | apply Below.drew), fun i' hi' he => ?_⟩
                  rcases Nat.lt_or_ge i' k with h | h
                  · exact HO.out i' h he
                  · obtain rfl : i' = k := by omega
                    rw [← HT.out]; exact HE.out
                case measure => simp [intOf]; omega
            · have e2 := str_ne hT
              have HE : Hid (Hs n t = Hs n s ∧ t ≠ s) := ⟨hE, hT⟩
              clear hE hT
              go_wp2
              go_region
              all_goals
                go_wp2
                go_region
              all_goals
                go_wp2
                go_ret3
                refine ⟨by repeat (first | exact hbel.trans (hb3.mono hbel.size) | apply Below.drew), t, s, true, rfl, Or.inr ⟨rfl, k, j, ⟨hlk, hlt, Hno.out, ?_, ?_, ?_⟩, HT.out, HS.out⟩⟩
                · rw [← HT.out, ← HS.out]; exact HE.out.1
                · rw [← HT.out, ← HS.out]; exact HE.out.2
                · intro i' hi' he; rw [← HS.out] at he ⊢; exact HO.out i' hi' he
          · have e1 := str_ne hE
            have HE : Hid (Hs n t ≠ Hs n s) := hE
            clear hE
            go_wp2
            go_region
            all_goals
              go_wp2
              go_roundw
              case rel =>
                refine ⟨k + 1, by omega, by go_num, by repeat (first | exact hb3 | apply Below.drew), fun i' hi' he => ?_⟩
                rcases Nat.lt_or_ge i' k with h | h
                · exact HO.out i' h he
                · obtain rfl : i' = k := by omega
                  rw [← HT.out] at he; exact absurd he HE.out
              case measure => simp [intOf]; omega
        · have hnew := ownsRow_below hown hb3
          have hbw : Below w.heap.size w wr := hbel.trans (hb3.mono hbel.size)
          have hsw := hbw.size
          have hgB := (hnew.lt g rfl).1
          have HO : Hid (∀ i', i' < k → Hs n (tx ss i') = Hs n s → tx ss i' = s) := hold
          clear hold hc hcj hown hbel hb3 hb2
          go_wp2_with (first | (at_builtin; refine wpList_append_own _ rfl (.tmp 62) (.tmp 64) 24 rfl w.heap.size 9 i0 (.string ByteArray.empty) 1 16 Try.underlying24 hi hz0 hz1 hz2 rfl (by decide) _ _ _ rfl (hnew.alloc _) ⟨wr.heap.size, 0, none⟩ 1 1 [.string (Hs n s)] rfl rfl (cell_one_new _ _ _) (by intro u hu; simp at hu; subst hu; rfl) (by unfold maxLen; omega) (by omega) (by simp; omega) ?_; intro v' w1 hown' hgrow hnil; obtain ⟨g', cap2, hv', R⟩ := specClash_step rfl HS hsw hbw hgB hown' hgrow; clear hown' hgrow hnil hnew hbw; rw [hv']; clear hv'))
          go_roundw
          case rel =>
            refine ⟨j + 1, g', cap2, by omega, by go_num, rfl, R.1, noClash_succ Hno.out fun i' hi' he => ?_, R.2⟩
            rw [← HS.out] at he ⊢
            exact HO.out i' (by omega) he
          case measure => simp [intOf]; omega
    · have ej : j = ss.length := by omega
      have HN : Hid (NoClash n ss ss.length) := by rw [← ej]; exact hno
      clear ej hno
      go_wp2
      go_ret3
      exact ⟨hbel, ⟨#[]⟩, ⟨#[]⟩, false, rfl, Or.inl ⟨rfl, rfl, rfl, HN.out⟩⟩

set_option maxHeartbeats 400000 in
theorem specClash_no (a : Option Addr) (len cap : Nat) (n : Int) (w : World) (hl : len ≤ 1048576) (h : (n < 1 ∨ 8 < n) ∨ 5000 < len) :
    Calls Try.prog 10 #[.slice a len cap, .int .i64 n] w fun e w' => w = w' ∧ e = .returned (.tuple #[.string ⟨#[]⟩, .string ⟨#[]⟩, .bool false]) := by
  by_cases hn : n < 1 ∨ 8 < n
  · go_enter Try.func10, Try.ntmps10
    go_wp2_with (first | (go_at_call 20; refine (l1Width_no _ _ hn).mono ?_; rintro e w' ⟨rfl, rfl⟩))
    go_ret3
    exact ⟨rfl, rfl⟩
  · have h1 : 1 ≤ n := by omega
    have h2 : n ≤ 8 := by omega
    have h5 : 5000 < len := by omega
    clear h hn
    go_enter Try.func10, Try.ntmps10
    go_wp2_with (first | (go_at_call 20; refine (l1Width_yes _ _ (by omega) (by omega)).mono ?_; rintro e w' ⟨rfl, rfl⟩))
    go_ret3
    exact ⟨rfl, rfl⟩

end Go.Proofs.Ytmeojnaoljgieaa
