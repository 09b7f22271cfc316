import Derived.Test.YtmeojnaoljgieaeGreatDoorVSum
namespace Go.Proofs.YtmeojnaoljgieaeGreatDoor
open Go.RowKit
set_option linter.unusedVariables false
set_option maxHeartbeats 8000000
set_option maxRecDepth 100000
def gapB (u : UInt8) : Bool := u.toNat == 32 || u.toNat == 10
/-- Word n of what follows, at byte i, the word that is being read begun at st (none if st is i). -/
def pieceFrom (s : ByteArray) (n st i : Nat) : ByteArray :=
  if h : i < s.size then
    if gapB s[i] then
      if st < i then (if n = 0 then s.extract st i else pieceFrom s (n - 1) (i + 1) (i + 1)) else pieceFrom s n (i + 1) (i + 1)
    else pieceFrom s n st (i + 1)
  else if n = 0 then s.extract st s.size else ⟨#[]⟩
termination_by s.size - i
def pieceP (s : ByteArray) (n : Nat) : ByteArray := pieceFrom s n 0 0
theorem pf_gap0 {s : ByteArray} {st i : Nat} (h : i < s.size) (hg : gapB s[i] = true) (hst : st < i) : pieceFrom s 0 st i = s.extract st i := by rw [pieceFrom, dif_pos h, if_pos hg, if_pos hst, if_pos rfl]
theorem pf_gapS {s : ByteArray} {n st i : Nat} (h : i < s.size) (hg : gapB s[i] = true) (hst : st < i) (hn : n ≠ 0) : pieceFrom s n st i = pieceFrom s (n - 1) (i + 1) (i + 1) := by rw [pieceFrom, dif_pos h, if_pos hg, if_pos hst, if_neg hn]
theorem pf_none {s : ByteArray} {n st i : Nat} (h : i < s.size) (hg : gapB s[i] = true) (hst : ¬ st < i) : pieceFrom s n st i = pieceFrom s n (i + 1) (i + 1) := by rw [pieceFrom, dif_pos h, if_pos hg, if_neg hst]
theorem pf_in {s : ByteArray} {n st i : Nat} (h : i < s.size) (hg : gapB s[i] = false) : pieceFrom s n st i = pieceFrom s n st (i + 1) := by rw [pieceFrom, dif_pos h, if_neg (by simp [hg])]
theorem pf_end {s : ByteArray} {n st i : Nat} (h : ¬ i < s.size) : pieceFrom s n st i = if n = 0 then s.extract st s.size else ⟨#[]⟩ := by rw [pieceFrom, dif_neg h]
theorem gap_cases (u : UInt8) : (gapB u = true /\ ((u.toNat : Int) != 32) = false) \/ (gapB u = true /\ ((u.toNat : Int) != 32) = true /\ ((u.toNat : Int) != 10) = false) \/ (gapB u = false /\ ((u.toNat : Int) != 32) = true /\ ((u.toNat : Int) != 10) = true) := by
  unfold gapB
  generalize u.toNat = m
  by_cases h1 : m = 32 <;> by_cases h2 : m = 10 <;> simp [h1, h2] <;> omega
theorem wordAt_any (s : ByteArray) (n : Nat) (w : World) (hs : s.size <= 2000) (hn : n <= 2000) : Calls Tryz.prog 227 #[.string s, .int .i64 n] w fun e w' => e = .returned (.string (pieceP s n)) /\ w = w' := by
  generalize hq : pieceP s n = q
  have HQ : Hid (pieceFrom s n 0 0 = q) := hq
  clear hq
  go_enter Tryz.func227, Tryz.ntmps227
  go_wp2
  go_loopw [1, 5, 9] (fun nv sv iv wr => ∃ n' st k : Nat, k <= s.size /\ st <= k /\ n' <= 2000 /\ nv = .int .i64 n' /\ sv = .int .i64 st /\ iv = .int .i64 k /\ Hid (pieceFrom s n' st k = q) /\ w = wr) (fun _ _ i _ => s.size - (intOf i).toNat)
  case atStart => exact ⟨n, 0, 0, Nat.zero_le _, Nat.le_refl _, hn, rfl, rfl, rfl, HQ, rfl⟩
  case round =>
    clear HQ hn
    obtain ⟨n', st, k, hk, hst, hn', rfl, rfl, rfl, HI, rfl⟩ := hrel
    by_cases hlt : k < s.size
    · rcases gap_cases s[k] with ⟨hg, d1⟩ | ⟨hg, d1, d2⟩ | ⟨hg, d1, d2⟩
      · by_cases c1 : st < k
        · by_cases c2 : n' = 0
          · subst c2
            have HR : Hid (s.extract st k = q) := by show _ = _; rw [<- pf_gap0 hlt hg c1]; exact HI.out
            clear hg HI
            go_wp2
            go_ret
            exact ⟨by rw [<- HR.out]; rfl, rfl⟩
          · have HR : Hid (pieceFrom s (n' - 1) (k + 1) (k + 1) = q) := by show _ = _; rw [<- pf_gapS hlt hg c1 c2]; exact HI.out
            clear hg HI
            go_wp2
            go_roundw
            case rel => exact ⟨n' - 1, k + 1, k + 1, by omega, Nat.le_refl _, by omega, by go_num, by go_num, by go_num, HR, by first | trivial | rfl⟩
            case measure => simp [intOf]; omega
        · have HR : Hid (pieceFrom s n' (k + 1) (k + 1) = q) := by show _ = _; rw [<- pf_none hlt hg c1]; exact HI.out
          clear hg HI
          go_wp2
          go_roundw
          case rel => exact ⟨n', k + 1, k + 1, by omega, Nat.le_refl _, by omega, by go_num, by go_num, by go_num, HR, by first | trivial | rfl⟩
          case measure => simp [intOf]; omega
      · by_cases c1 : st < k
        · by_cases c2 : n' = 0
          · subst c2
            have HR : Hid (s.extract st k = q) := by show _ = _; rw [<- pf_gap0 hlt hg c1]; exact HI.out
            clear hg HI
            go_wp2
            go_ret
            exact ⟨by rw [<- HR.out]; rfl, rfl⟩
          · have HR : Hid (pieceFrom s (n' - 1) (k + 1) (k + 1) = q) := by show _ = _; rw [<- pf_gapS hlt hg c1 c2]; exact HI.out
            clear hg HI
            go_wp2
            go_roundw
            case rel => exact ⟨n' - 1, k + 1, k + 1, by omega, Nat.le_refl _, by omega, by go_num, by go_num, by go_num, HR, by first | trivial | rfl⟩
            case measure => simp [intOf]; omega
        · have HR : Hid (pieceFrom s n' (k + 1) (k + 1) = q) := by show _ = _; rw [<- pf_none hlt hg c1]; exact HI.out
          clear hg HI
          go_wp2
          go_roundw
          case rel => exact ⟨n', k + 1, k + 1, by omega, Nat.le_refl _, by omega, by go_num, by go_num, by go_num, HR, by first | trivial | rfl⟩
          case measure => simp [intOf]; omega
      · have HR : Hid (pieceFrom s n' st (k + 1) = q) := by show _ = _; rw [<- pf_in hlt hg]; exact HI.out
        clear hg HI
        go_wp2
        go_roundw
        case rel => exact ⟨n', st, k + 1, by omega, by omega, by omega, by go_num, by go_num, by go_num, HR, by first | trivial | rfl⟩
        case measure => simp [intOf]; omega
    · have ek : k = s.size := by omega
      have he := pf_end (n := n') (st := st) hlt
      by_cases c2 : n' = 0
      · subst c2
        rw [if_pos rfl] at he
        have HR : Hid (s.extract st s.size = q) := he.symm.trans HI.out
        subst ek
        clear he HI
        go_wp2
        go_ret
        exact ⟨by rw [<- HR.out]; rfl, rfl⟩
      · rw [if_neg c2] at he
        have HR : Hid ((⟨#[]⟩ : ByteArray) = q) := he.symm.trans HI.out
        subst ek
        clear he HI
        go_wp2
        go_ret
        exact ⟨by rw [<- HR.out]; rfl, rfl⟩
theorem gap_cases2 (u : UInt8) : (gapB u = true /\ ((u.toNat : Int) == 32) = true) \/ (gapB u = true /\ ((u.toNat : Int) == 32) = false /\ ((u.toNat : Int) == 10) = true) \/ (gapB u = false /\ ((u.toNat : Int) == 32) = false /\ ((u.toNat : Int) == 10) = false) := by
  unfold gapB
  generalize u.toNat = m
  by_cases h1 : m = 32 <;> by_cases h2 : m = 10 <;> simp [h1, h2] <;> omega
theorem l2Piece_any (s : ByteArray) (n : Nat) (w : World) (hs : s.size <= 2000) (hn : n <= 2000) : Calls Tryz.prog 226 #[.string s, .int .i64 n] w fun e w' => e = .returned (.string (pieceP s n)) /\ w = w' := by
  generalize hq : pieceP s n = q
  have HQ : Hid (pieceFrom s n 0 0 = q) := hq
  clear hq
  go_enter Tryz.func226, Tryz.ntmps226
  go_wp2
  go_loopw [1, 5, 6] (fun nv sv iv wr => (∃ n' st k : Nat, k <= s.size /\ n' <= 2000 /\ st <= k /\ nv = .int .i64 n' /\ sv = .int .i64 (if st < k then (st : Int) else -1) /\ iv = .int .i64 k /\ Hid (pieceFrom s n' st k = q) /\ w = wr) \/ (nv = nv /\ iv = .int .i64 (s.size + 1 : Nat) /\ Hid ((⟨#[]⟩ : ByteArray) = q) /\ w = wr /\ (∃ z, nv = .int .i64 z) /\ ∃ z, sv = .int .i64 z)) (fun _ _ i _ => s.size + 1 - (intOf i).toNat)
  case atStart => exact Or.inl ⟨n, 0, 0, Nat.zero_le _, hn, Nat.le_refl _, rfl, rfl, rfl, HQ, rfl⟩
  case round =>
    clear HQ hn
    rcases hrel with ⟨n', st, k, hk, hn', hst, rfl, rfl, rfl, HI, rfl⟩ | ⟨_, rfl, HR, rfl, ⟨z1, rfl⟩, ⟨z2, rfl⟩⟩
    · by_cases hlt : k < s.size
      · have hne : ((k : Int) == s.size) = false := by simp; omega
        rcases gap_cases2 s[k] with ⟨hg, d1⟩ | ⟨hg, d1, d2⟩ | ⟨hg, d1, d2⟩
        · by_cases c1 : st < k
          · rw [if_pos c1]
            by_cases c2 : n' = 0
            · subst c2
              have HR : Hid (s.extract st k = q) := by show _ = _; rw [<- pf_gap0 hlt hg c1]; exact HI.out
              clear hg HI
              go_wp2
              go_ret
              exact ⟨by rw [<- HR.out]; rfl, rfl⟩
            · have HR : Hid (pieceFrom s (n' - 1) (k + 1) (k + 1) = q) := by show _ = _; rw [<- pf_gapS hlt hg c1 c2]; exact HI.out
              clear hg HI
              go_wp2
              go_roundw
              case rel => exact Or.inl ⟨n' - 1, k + 1, k + 1, by omega, by omega, Nat.le_refl _, by go_num, by rw [if_neg (Nat.lt_irrefl _)], by go_num, HR, by first | trivial | rfl⟩
              case measure => simp [intOf]; omega
          · rw [if_neg c1]
            have HR : Hid (pieceFrom s n' (k + 1) (k + 1) = q) := by show _ = _; rw [<- pf_none hlt hg c1]; exact HI.out
            clear hg HI
            go_wp2
            go_roundw
            case rel => exact Or.inl ⟨n', k + 1, k + 1, by omega, by omega, Nat.le_refl _, by go_num, by rw [if_neg (Nat.lt_irrefl _)], by go_num, HR, by first | trivial | rfl⟩
            case measure => simp [intOf]; omega
        · by_cases c1 : st < k
          · rw [if_pos c1]
            by_cases c2 : n' = 0
            · subst c2
              have HR : Hid (s.extract st k = q) := by show _ = _; rw [<- pf_gap0 hlt hg c1]; exact HI.out
              clear hg HI
              go_wp2
              go_ret
              exact ⟨by rw [<- HR.out]; rfl, rfl⟩
            · have HR : Hid (pieceFrom s (n' - 1) (k + 1) (k + 1) = q) := by show _ = _; rw [<- pf_gapS hlt hg c1 c2]; exact HI.out
              clear hg HI
              go_wp2
              go_roundw
              case rel => exact Or.inl ⟨n' - 1, k + 1, k + 1, by omega, by omega, Nat.le_refl _, by go_num, by rw [if_neg (Nat.lt_irrefl _)], by go_num, HR, by first | trivial | rfl⟩
              case measure => simp [intOf]; omega
          · rw [if_neg c1]
            have HR : Hid (pieceFrom s n' (k + 1) (k + 1) = q) := by show _ = _; rw [<- pf_none hlt hg c1]; exact HI.out
            clear hg HI
            go_wp2
            go_roundw
            case rel => exact Or.inl ⟨n', k + 1, k + 1, by omega, by omega, Nat.le_refl _, by go_num, by rw [if_neg (Nat.lt_irrefl _)], by go_num, HR, by first | trivial | rfl⟩
            case measure => simp [intOf]; omega
        · have HR : Hid (pieceFrom s n' st (k + 1) = q) := by show _ = _; rw [<- pf_in hlt hg]; exact HI.out
          clear hg HI
          by_cases c1 : st < k
          · rw [if_pos c1]
            go_wp2
            go_roundw
            case rel => exact Or.inl ⟨n', st, k + 1, by omega, by omega, by omega, by go_num, by rw [if_pos (by omega)], by go_num, HR, by first | trivial | rfl⟩
            case measure => simp [intOf]; omega
          · rw [if_neg c1]
            obtain rfl : st = k := by omega
            go_wp2
            go_roundw
            case rel => exact Or.inl ⟨n', st, st + 1, by omega, by omega, by omega, by go_num, by rw [if_pos (by omega)], by go_num, HR, by first | trivial | rfl⟩
            case measure => simp [intOf]; omega
      · have ek : k = s.size := by omega
        have he := pf_end (n := n') (st := st) hlt
        have heq : ((k : Int) == s.size) = true := by simp; omega
        by_cases c1 : st < k
        · rw [if_pos c1]
          by_cases c2 : n' = 0
          · subst c2
            rw [if_pos rfl] at he
            have HR : Hid (s.extract st s.size = q) := he.symm.trans HI.out
            clear he HI
            go_wp2
            go_ret
            exact ⟨by rw [<- HR.out]; rfl, rfl⟩
          · rw [if_neg c2] at he
            have HR : Hid ((⟨#[]⟩ : ByteArray) = q) := he.symm.trans HI.out
            clear he HI
            go_wp2
            go_roundw
            case rel => exact Or.inr ⟨by first | trivial | rfl, by subst ek; go_num, HR, by first | trivial | rfl, by first | exact ⟨_, rfl⟩ | trivial, by first | exact ⟨_, rfl⟩ | trivial⟩
            case measure => simp [intOf]; omega
        · rw [if_neg c1]
          have HR : Hid ((⟨#[]⟩ : ByteArray) = q) := by
            show _ = _
            rw [<- HI.out, he]
            split
            · apply WideShapes.bytes_inj
              rw [show st = s.size by omega]
              simp
            · rfl
          clear he HI
          go_wp2
          go_roundw
          case rel => exact Or.inr ⟨by first | trivial | rfl, by subst ek; go_num, HR, by first | trivial | rfl, by first | exact ⟨_, rfl⟩ | trivial, by first | exact ⟨_, rfl⟩ | trivial⟩
          case measure => simp [intOf]; omega
    · go_wp2
      go_ret
      exact ⟨by rw [<- HR.out]; rfl, rfl⟩
end Go.Proofs.YtmeojnaoljgieaeGreatDoor
