/-
  THE WALKS of impl.clashOfAny and impl.Clash.
-/
import Derived.Test.YtmeojnaoljgieaaKeys
import Derived.Test.YtmeojnaoljgieaaSpecClash
namespace Go.Proofs.Ytmeojnaoljgieaa
open Go.RowKit Go.Maps

theorem below3 {B : Nat} {w wr : World} (h : Below B w wr) (hB : B ≤ wr.heap.size) (o1 o2 o3 : Obj) : Below B w (((wr.alloc o1).alloc o2).alloc o3) :=
  ((h.alloc hB _).alloc (by simp; omega) _).alloc (by simp; omega) _

theorem find_eq {D : DataW Unit} {K : Lit} {f : Nat} {c : Int} (h : Hid (D.atKey K int0 = .lit (.int .i64 f))) (h' : D.atKey K (.lit (.int .i64 0)) = .lit (.int .i64 c)) : c = f := by
  have h := h.out
  unfold int0 at h
  rw [h'] at h
  simpa using h

set_option maxHeartbeats 1000000 in
theorem clashOfAny_yes (a : Option Addr) (cap : Nat) (ss : List ByteArray) (n : Nat) (w : World) (hc : Strs w a ss) (hl : ss.length + total ss ≤ 1048576) (h1 : 1 ≤ n) (h2 : n ≤ 8) :
    Calls Try.prog 23 #[.slice a ss.length cap, .int .i64 n] w fun e w' => Below w.heap.size w w' ∧ ∃ A B ok, e = .returned (.tuple #[.string A, .string B, .bool ok]) ∧ ClashOut n ss A B ok := by
  have hmm := @run_makeMap Try.prog
  go_enter Try.func23, Try.ntmps23
  go_wp2_with (first | (go_at_call 21; refine (validWidth_yes _ _ (by omega) (by omega)).mono ?_; rintro e w' ⟨rfl, rfl⟩))
  go_loopw [19] (fun i wr => ∃ j : Nat, ∃ D : DataW Unit, j ≤ ss.length ∧ i = .int .i64 j ∧ wr.ownsMap Try.prog 44 (plainElem Try.prog 3) w.heap.size j D ∧ Firsts n ss j D ∧ NoClash n ss j ∧ Below w.heap.size w wr) (fun i _ => ss.length - (intOf i).toNat)
  case atStart => exact ⟨0, .map [], Nat.zero_le _, rfl, World.ownsMap_made _ _ _ _, firsts_start n ss, fun j hj => by omega, (Below.refl _ _).alloc (Nat.le_refl _) _⟩
  case round =>
    obtain ⟨j, D, hj, rfl, hown, hfi, hno, hbel⟩ := hrel
    by_cases hlt : j < ss.length
    · obtain ⟨b, off, rfl, hcj⟩ := (hc.below hbel).at j hlt
      have hsz : (tx ss j).size ≤ 1048576 := by have := size_le_total (ss := ss) j; omega
      obtain ⟨s, hs⟩ : ∃ s, s = tx ss j := ⟨_, rfl⟩
      have HF : Hid (Firsts n ss j D) := hfi
      have Hno : Hid (NoClash n ss j) := hno
      obtain ⟨V, hV⟩ : ∃ V, hash s.data.toList = V := ⟨_, rfl⟩
      have HV : Hid (hash s.data.toList = V) := hV
      have hkn : kl V n = kn n ss j := by rw [← hV, hs]; rfl
      have hkey : keyOf Try.prog 44 (.agg (cells8 V n)) = some (kn n ss j) := by rw [← hkn]; exact key8 V n
      rw [← hs] at hcj hsz
      have HS : Hid (s = tx ss j) := hs
      clear hs hV hkn hno
      have hB : w.heap.size ≤ wr.heap.size := hbel.size
      by_cases hh : Maps.has D (kn n ss j) = true
      · obtain ⟨f, f1, f2, f3, f4⟩ := firsts_find hfi hh
        have hcf : wr.cell? ⟨b, off + f, none⟩ = some (.string (tx ss f)) := by
          obtain ⟨b', off', he, h⟩ := (hc.below hbel).at f (by omega)
          cases he; exact h
        have HAT : Hid (D.atKey (kn n ss j) int0 = .lit (.int .i64 f)) := f4
        have HH : Hid (Maps.has D (kn n ss j) = true) := hh
        have HL : Hid (kn n ss f = kn n ss j ∧ ∀ i', i' < f → kn n ss i' ≠ kn n ss j) := ⟨f2, f3⟩
        have hcf3 : ∀ o1 o2 o3 : Obj, (((wr.alloc o1).alloc o2).alloc o3).cell? ⟨b, off + f, none⟩ = some (.string (tx ss f)) := fun o1 o2 o3 =>
          ((below3 (Below.refl wr.heap.size wr) (Nat.le_refl _) o1 o2 o3).cell (p := ⟨b, off + f, none⟩) (World.block_lt_of_cell? _ _ hcf)).trans hcf
        clear f4 f2 f3 hfi hc hcf
        obtain ⟨t, ht⟩ : ∃ t, t = tx ss f := ⟨_, rfl⟩
        rw [← ht] at hcf3
        have HT : Hid (t = tx ss f) := ht
        clear ht
        by_cases hT : t = s
        · have e2 := str_eq hT
          have HE : Hid (t = s) := hT
          clear hT
          go_wp2_with (first | (go_at_call 22; refine (sumBytes_lit s n V _ HV hsz h1 h2).mono ?_; rintro e w' ⟨rfl, rfl⟩) | (at_lookup; refine wpList_lookup_own_ok_int _ rfl (.tmp 28) (.tmp 29) 51 rfl 44 3 .i64 law8 Try.underlying51 Try.underlying3 (zero3 _) w.heap.size j D rfl (((hown.alloc _).alloc _).alloc _) _ (kn n ss j) rfl hkey ?_; intro c hat hwc; obtain rfl : c = (f : Int) := find_eq HAT hat; clear hat hwc))
          go_roundw
          case rel =>
            refine ⟨j + 1, D, by omega, by go_num, (((hown.alloc _).alloc _).alloc _).mono (by omega), firsts_keep HF.out HH.out, noClash_succ Hno.out (fun i hi he => ?_), below3 hbel hB _ _ _⟩
            have hif : Hs n (tx ss i) = Hs n (tx ss f) := he.trans ((kn_iff h2).1 HL.out.1).symm
            have hfj : tx ss f = tx ss j := by rw [← HT.out, ← HS.out]; exact HE.out
            rw [← hfj]
            rcases Nat.lt_trichotomy i f with hl' | hl' | hl'
            · exact Hno.out f f1 i hl' hif
            · rw [hl']
            · exact (Hno.out i hi f hl' hif.symm).symm
          case measure => simp [intOf]; omega
        · have e2 := str_ne hT
          have HE : Hid (t ≠ s) := hT
          clear hT
          go_wp2_with (first | (go_at_call 22; refine (sumBytes_lit s n V _ HV hsz h1 h2).mono ?_; rintro e w' ⟨rfl, rfl⟩) | (at_lookup; refine wpList_lookup_own_ok_int _ rfl (.tmp 28) (.tmp 29) 51 rfl 44 3 .i64 law8 Try.underlying51 Try.underlying3 (zero3 _) w.heap.size j D rfl (((hown.alloc _).alloc _).alloc _) _ (kn n ss j) rfl hkey ?_; intro c hat hwc; obtain rfl : c = (f : Int) := find_eq HAT hat; clear hat hwc))
          go_ret3
          refine ⟨below3 hbel hB _ _ _, t, s, true, rfl, Or.inr ⟨rfl, f, j, ⟨f1, hlt, Hno.out, (kn_iff h2).1 HL.out.1, ?_, ?_⟩, HT.out, HS.out⟩⟩
          · rw [← HT.out, ← HS.out]; exact HE.out
          · intro i' hi' he; exact absurd ((kn_iff h2).2 he) (HL.out.2 i' hi')
      · have hh : Maps.has D (kn n ss j) = false := by simpa using hh
        have HH : Hid (Maps.has D (kn n ss j) = false) := hh
        clear hfi hc
        go_wp2_with (first | (go_at_call 22; refine (sumBytes_lit s n V _ HV hsz h1 h2).mono ?_; rintro e w' ⟨rfl, rfl⟩) | (at_lookup; refine wpList_lookup_own_ok_int _ rfl (.tmp 28) (.tmp 29) 51 rfl 44 3 .i64 law8 Try.underlying51 Try.underlying3 (zero3 _) w.heap.size j D rfl (((hown.alloc _).alloc _).alloc _) _ (kn n ss j) rfl hkey ?_; intro c hat hwc) | (at_mapUpdate; refine wpList_mapUpdate_own _ rfl (.tmp 35) (.tmp 36) (.tmp 37) 51 rfl 44 3 law8 Try.underlying51 (plainElem Try.prog 3) w.heap.size j D rfl (((hown.alloc _).alloc _).alloc _) (by unfold maxLen; omega) _ _ (kn n ss j) rfl rfl hkey (.lit (.int .i64 j)) [] (plainElem_int Try.underlying3 (WalkArith.wf_i64 (by omega))) ?_; intro w1 hown1 hgrow1))
        go_roundw
        case rel => exact ⟨j + 1, _, by omega, by go_num, hown1, firsts_put HF.out hown.isMap HH.out, noClash_succ Hno.out (fun i hi he => by have h := HF.out.there i hi; rw [(kn_iff h2).2 he, HH.out] at h; cases h), (below3 hbel hB _ _ _).grown hgrow1 (by simp; omega) (fun k hk => by cases hk; exact Nat.le_refl _)⟩
        case measure => simp [intOf]; omega
    · have ej : j = ss.length := by omega
      have HN : Hid (NoClash n ss ss.length) := by rw [← ej]; exact hno
      clear ej hno
      go_wp2
      go_ret3
      exact ⟨hbel, ⟨#[]⟩, ⟨#[]⟩, false, rfl, Or.inl ⟨rfl, rfl, rfl, HN.out⟩⟩

set_option maxHeartbeats 400000 in
theorem clashOfAny_no (a : Option Addr) (len cap : Nat) (n : Int) (w : World) (h : n < 1 ∨ 8 < n) :
    Calls Try.prog 23 #[.slice a len cap, .int .i64 n] w fun e w' => w = w' ∧ e = .returned (.tuple #[.string ⟨#[]⟩, .string ⟨#[]⟩, .bool false]) := by
  go_enter Try.func23, Try.ntmps23
  go_wp2_with (first | (go_at_call 21; refine (validWidth_no _ _ h).mono ?_; rintro e w' ⟨rfl, rfl⟩))
  go_ret3
  exact ⟨rfl, rfl⟩

set_option maxHeartbeats 400000 in
theorem implClash_yes (a : Option Addr) (cap : Nat) (ss : List ByteArray) (n : Nat) (w : World) (hc : Strs w a ss) (hl : ss.length + total ss ≤ 1048576) (h5 : ss.length ≤ 5000) (h1 : 1 ≤ n) (h2 : n ≤ 8) :
    Calls Try.prog 12 #[.slice a ss.length cap, .int .i64 n] w fun e w' => Below w.heap.size w w' ∧ ∃ A B ok, e = .returned (.tuple #[.string A, .string B, .bool ok]) ∧ ClashOut n ss A B ok := by
  go_enter Try.func12, Try.ntmps12
  go_wp2_with (first | (go_at_call 23; refine (clashOfAny_yes a cap ss n _ hc hl h1 h2).mono ?_; rintro e w' ⟨hb, A, B, ok, rfl, ho⟩))
  go_ret3
  exact ⟨hb, A, B, ok, rfl, ho⟩

set_option maxHeartbeats 400000 in
theorem implClash_no (a : Option Addr) (len cap : Nat) (n : Int) (w : World) (hl : len ≤ 1048576) (h : (n < 1 ∨ 8 < n) ∨ 5000 < len) :
    Calls Try.prog 12 #[.slice a len cap, .int .i64 n] w fun e w' => w = w' ∧ e = .returned (.tuple #[.string ⟨#[]⟩, .string ⟨#[]⟩, .bool false]) := by
  by_cases h5 : 5000 < len
  · go_enter Try.func12, Try.ntmps12
    go_wp2
    go_ret3
    exact ⟨rfl, rfl⟩
  · have hn : n < 1 ∨ 8 < n := by omega
    clear h
    go_enter Try.func12, Try.ntmps12
    go_wp2_with (first | (go_at_call 23; refine (clashOfAny_no a len cap n _ hn).mono ?_; rintro e w' ⟨rfl, rfl⟩))
    go_ret3
    exact ⟨rfl, rfl⟩

end Go.Proofs.Ytmeojnaoljgieaa
