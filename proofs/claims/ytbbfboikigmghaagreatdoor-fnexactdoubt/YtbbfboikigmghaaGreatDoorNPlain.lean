import Derived.Test.YtbbfboikigmghaaGreatDoorNMach
import Derived.Test.YtbbfboikigmghaaGreatDoorValid
namespace Go.Proofs.YtbbfboikigmghaaGreatDoor
open Go.RowKit
set_option linter.unusedVariables false
set_option maxHeartbeats 32000000
set_option maxRecDepth 100000
def gapB (u : UInt8) : Bool := u.toNat == 32 || u.toNat == 10
def pieceFrom (s : ByteArray) (n st i : Nat) : ByteArray :=
  if h : i < s.size then
    if gapB s[i] then
      if st < i then (if n = 0 then s.extract st i else pieceFrom s (n - 1) (i + 1) (i + 1)) else pieceFrom s n (i + 1) (i + 1)
    else pieceFrom s n st (i + 1)
  else if n = 0 then s.extract st s.size else ⟨#[]⟩
termination_by s.size - i
def pieceP (s : ByteArray) (n : Nat) : ByteArray := pieceFrom s n 0 0
theorem pf_gap0 {s : ByteArray} {st i : Nat} (h : i < s.size) (hg : gapB s[i] = true) (hst : st < i) : pieceFrom s 0 st i = s.extract st i := by rw [pieceFrom, dif_pos h, if_pos hg, if_pos hst, if_pos rfl]
theorem pf_gapS {s : ByteArray} {n st i : Nat} (h : i < s.size) (hg : gapB s[i] = true) (hst : st < i) (hn : n ≠ 0) : pieceFrom s n st i = pieceFrom s (n - 1) (i + 1) (i + 1) := by rw [pieceFrom, dif_pos h, if_pos hg, if_pos hst, if_neg hn]
theorem pf_none {s : ByteArray} {n st i : Nat} (h : i < s.size) (hg : gapB s[i] = true) (hst : ¬ st < i) : pieceFrom s n st i = pieceFrom s n (i + 1) (i + 1) := by rw [pieceFrom, dif_pos h, if_pos hg, if_neg hst]
theorem pf_in {s : ByteArray} {n st i : Nat} (h : i < s.size) (hg : gapB s[i] = false) : pieceFrom s n st i = pieceFrom s n st (i + 1) := by rw [pieceFrom, dif_pos h, if_neg (by simp [hg])]
theorem pf_end {s : ByteArray} {n st i : Nat} (h : ¬ i < s.size) : pieceFrom s n st i = if n = 0 then s.extract st s.size else ⟨#[]⟩ := by rw [pieceFrom, dif_neg h]
theorem gap_cases (u : UInt8) : (gapB u = true /\ ((u.toNat : Int) != 32) = false) \/ (gapB u = true /\ ((u.toNat : Int) != 32) = true /\ ((u.toNat : Int) != 10) = false) \/ (gapB u = false /\ ((u.toNat : Int) != 32) = true /\ ((u.toNat : Int) != 10) = true) := by
  unfold gapB
  generalize u.toNat = m
  by_cases h1 : m = 32 <;> by_cases h2 : m = 10 <;> simp [h1, h2] <;> omega
theorem wordAt_any (s : ByteArray) (n : Nat) (w : World) (hs : s.size <= 2000) (hn : n <= 2000) : Calls Tryz.prog 136 #[.string s, .int .i64 n] w fun e w' => e = .returned (.string (pieceP s n)) /\ w = w' := by
  generalize hq : pieceP s n = q
  have HQ : Hid (pieceFrom s n 0 0 = q) := hq
  clear hq
  go_enter Tryz.func136, Tryz.ntmps136
  go_wp2
  go_loopw [1, 5, 9] (fun nv sv iv wr => ∃ n' st k : Nat, k <= s.size /\ st <= k /\ n' <= 2000 /\ nv = .int .i64 n' /\ sv = .int .i64 st /\ iv = .int .i64 k /\ Hid (pieceFrom s n' st k = q) /\ w = wr) (fun _ _ i _ => s.size - (intOf i).toNat)
  case atStart => exact ⟨n, 0, 0, Nat.zero_le _, Nat.le_refl _, hn, rfl, rfl, rfl, HQ, rfl⟩
  case round =>
    clear HQ hn
    obtain ⟨n', st, k, hk, hst, hn', rfl, rfl, rfl, HI, rfl⟩ := hrel
    by_cases hlt : k < s.size
    · rcases gap_cases s[k] with ⟨hg, d1⟩ | ⟨hg, d1, d2⟩ | ⟨hg, d1, d2⟩
      · by_cases c1 : st < k
        · by_cases c2 : n' = 0
          · subst c2
            have HR : Hid (s.extract st k = q) := by show _ = _; rw [<- pf_gap0 hlt hg c1]; exact HI.out
            clear hg HI
            go_wp2
            go_ret
            exact ⟨by rw [<- HR.out]; rfl, rfl⟩
          · have HR : Hid (pieceFrom s (n' - 1) (k + 1) (k + 1) = q) := by show _ = _; rw [<- pf_gapS hlt hg c1 c2]; exact HI.out
            clear hg HI
            go_wp2
            go_roundw
            case rel => exact ⟨n' - 1, k + 1, k + 1, by omega, Nat.le_refl _, by omega, by go_num, by go_num, by go_num, HR, by first | trivial | rfl⟩
            case measure => simp [intOf]; omega
        · have HR : Hid (pieceFrom s n' (k + 1) (k + 1) = q) := by show _ = _; rw [<- pf_none hlt hg c1]; exact HI.out
          clear hg HI
          go_wp2
          go_roundw
          case rel => exact ⟨n', k + 1, k + 1, by omega, Nat.le_refl _, by omega, by go_num, by go_num, by go_num, HR, by first | trivial | rfl⟩
          case measure => simp [intOf]; omega
      · by_cases c1 : st < k
        · by_cases c2 : n' = 0
          · subst c2
            have HR : Hid (s.extract st k = q) := by show _ = _; rw [<- pf_gap0 hlt hg c1]; exact HI.out
            clear hg HI
            go_wp2
            go_ret
            exact ⟨by rw [<- HR.out]; rfl, rfl⟩
          · have HR : Hid (pieceFrom s (n' - 1) (k + 1) (k + 1) = q) := by show _ = _; rw [<- pf_gapS hlt hg c1 c2]; exact HI.out
            clear hg HI
            go_wp2
            go_roundw
            case rel => exact ⟨n' - 1, k + 1, k + 1, by omega, Nat.le_refl _, by omega, by go_num, by go_num, by go_num, HR, by first | trivial | rfl⟩
            case measure => simp [intOf]; omega
        · have HR : Hid (pieceFrom s n' (k + 1) (k + 1) = q) := by show _ = _; rw [<- pf_none hlt hg c1]; exact HI.out
          clear hg HI
          go_wp2
          go_roundw
          case rel => exact ⟨n', k + 1, k + 1, by omega, Nat.le_refl _, by omega, by go_num, by go_num, by go_num, HR, by first | trivial | rfl⟩
          case measure => simp [intOf]; omega
      · have HR : Hid (pieceFrom s n' st (k + 1) = q) := by show _ = _; rw [<- pf_in hlt hg]; exact HI.out
        clear hg HI
        go_wp2
        go_roundw
        case rel => exact ⟨n', st, k + 1, by omega, by omega, by omega, by go_num, by go_num, by go_num, HR, by first | trivial | rfl⟩
        case measure => simp [intOf]; omega
    · have ek : k = s.size := by omega
      have he := pf_end (n := n') (st := st) hlt
      by_cases c2 : n' = 0
      · subst c2
        rw [if_pos rfl] at he
        have HR : Hid (s.extract st s.size = q) := he.symm.trans HI.out
        subst ek
        clear he HI
        go_wp2
        go_ret
        exact ⟨by rw [<- HR.out]; rfl, rfl⟩
      · rw [if_neg c2] at he
        have HR : Hid ((⟨#[]⟩ : ByteArray) = q) := he.symm.trans HI.out
        subst ek
        clear he HI
        go_wp2
        go_ret
        exact ⟨by rw [<- HR.out]; rfl, rfl⟩
theorem gap_cases2 (u : UInt8) : (gapB u = true /\ ((u.toNat : Int) == 32) = true) \/ (gapB u = true /\ ((u.toNat : Int) == 32) = false /\ ((u.toNat : Int) == 10) = true) \/ (gapB u = false /\ ((u.toNat : Int) == 32) = false /\ ((u.toNat : Int) == 10) = false) := by
  unfold gapB
  generalize u.toNat = m
  by_cases h1 : m = 32 <;> by_cases h2 : m = 10 <;> simp [h1, h2] <;> omega
theorem l2Piece_any (s : ByteArray) (n : Nat) (w : World) (hs : s.size <= 2000) (hn : n <= 2000) : Calls Tryz.prog 139 #[.string s, .int .i64 n] w fun e w' => e = .returned (.string (pieceP s n)) /\ w = w' := by
  generalize hq : pieceP s n = q
  have HQ : Hid (pieceFrom s n 0 0 = q) := hq
  clear hq
  go_enter Tryz.func139, Tryz.ntmps139
  go_wp2
  go_loopw [1, 5, 6] (fun nv sv iv wr => (∃ n' st k : Nat, k <= s.size /\ n' <= 2000 /\ st <= k /\ nv = .int .i64 n' /\ sv = .int .i64 (if st < k then (st : Int) else -1) /\ iv = .int .i64 k /\ Hid (pieceFrom s n' st k = q) /\ w = wr) \/ (nv = nv /\ iv = .int .i64 (s.size + 1 : Nat) /\ Hid ((⟨#[]⟩ : ByteArray) = q) /\ w = wr /\ (∃ z, nv = .int .i64 z) /\ ∃ z, sv = .int .i64 z)) (fun _ _ i _ => s.size + 1 - (intOf i).toNat)
  case atStart => exact Or.inl ⟨n, 0, 0, Nat.zero_le _, hn, Nat.le_refl _, rfl, rfl, rfl, HQ, rfl⟩
  case round =>
    clear HQ hn
    rcases hrel with ⟨n', st, k, hk, hn', hst, rfl, rfl, rfl, HI, rfl⟩ | ⟨_, rfl, HR, rfl, ⟨z1, rfl⟩, ⟨z2, rfl⟩⟩
    · by_cases hlt : k < s.size
      · have hne : ((k : Int) == s.size) = false := by simp; omega
        rcases gap_cases2 s[k] with ⟨hg, d1⟩ | ⟨hg, d1, d2⟩ | ⟨hg, d1, d2⟩
        · by_cases c1 : st < k
          · rw [if_pos c1]
            by_cases c2 : n' = 0
            · subst c2
              have HR : Hid (s.extract st k = q) := by show _ = _; rw [<- pf_gap0 hlt hg c1]; exact HI.out
              clear hg HI
              go_wp2
              go_ret
              exact ⟨by rw [<- HR.out]; rfl, rfl⟩
            · have HR : Hid (pieceFrom s (n' - 1) (k + 1) (k + 1) = q) := by show _ = _; rw [<- pf_gapS hlt hg c1 c2]; exact HI.out
              clear hg HI
              go_wp2
              go_roundw
              case rel => exact Or.inl ⟨n' - 1, k + 1, k + 1, by omega, by omega, Nat.le_refl _, by go_num, by rw [if_neg (Nat.lt_irrefl _)], by go_num, HR, by first | trivial | rfl⟩
              case measure => simp [intOf]; omega
          · rw [if_neg c1]
            have HR : Hid (pieceFrom s n' (k + 1) (k + 1) = q) := by show _ = _; rw [<- pf_none hlt hg c1]; exact HI.out
            clear hg HI
            go_wp2
            go_roundw
            case rel => exact Or.inl ⟨n', k + 1, k + 1, by omega, by omega, Nat.le_refl _, by go_num, by rw [if_neg (Nat.lt_irrefl _)], by go_num, HR, by first | trivial | rfl⟩
            case measure => simp [intOf]; omega
        · by_cases c1 : st < k
          · rw [if_pos c1]
            by_cases c2 : n' = 0
            · subst c2
              have HR : Hid (s.extract st k = q) := by show _ = _; rw [<- pf_gap0 hlt hg c1]; exact HI.out
              clear hg HI
              go_wp2
              go_ret
              exact ⟨by rw [<- HR.out]; rfl, rfl⟩
            · have HR : Hid (pieceFrom s (n' - 1) (k + 1) (k + 1) = q) := by show _ = _; rw [<- pf_gapS hlt hg c1 c2]; exact HI.out
              clear hg HI
              go_wp2
              go_roundw
              case rel => exact Or.inl ⟨n' - 1, k + 1, k + 1, by omega, by omega, Nat.le_refl _, by go_num, by rw [if_neg (Nat.lt_irrefl _)], by go_num, HR, by first | trivial | rfl⟩
              case measure => simp [intOf]; omega
          · rw [if_neg c1]
            have HR : Hid (pieceFrom s n' (k + 1) (k + 1) = q) := by show _ = _; rw [<- pf_none hlt hg c1]; exact HI.out
            clear hg HI
            go_wp2
            go_roundw
            case rel => exact Or.inl ⟨n', k + 1, k + 1, by omega, by omega, Nat.le_refl _, by go_num, by rw [if_neg (Nat.lt_irrefl _)], by go_num, HR, by first | trivial | rfl⟩
            case measure => simp [intOf]; omega
        · have HR : Hid (pieceFrom s n' st (k + 1) = q) := by show _ = _; rw [<- pf_in hlt hg]; exact HI.out
          clear hg HI
          by_cases c1 : st < k
          · rw [if_pos c1]
            go_wp2
            go_roundw
            case rel => exact Or.inl ⟨n', st, k + 1, by omega, by omega, by omega, by go_num, by rw [if_pos (by omega)], by go_num, HR, by first | trivial | rfl⟩
            case measure => simp [intOf]; omega
          · rw [if_neg c1]
            obtain rfl : st = k := by omega
            go_wp2
            go_roundw
            case rel => exact Or.inl ⟨n', st, st + 1, by omega, by omega, by omega, by go_num, by rw [if_pos (by omega)], by go_num, HR, by first | trivial | rfl⟩
            case measure => simp [intOf]; omega
      · have ek : k = s.size := by omega
        have he := pf_end (n := n') (st := st) hlt
        have heq : ((k : Int) == s.size) = true := by simp; omega
        by_cases c1 : st < k
        · rw [if_pos c1]
          by_cases c2 : n' = 0
          · subst c2
            rw [if_pos rfl] at he
            have HR : Hid (s.extract st s.size = q) := he.symm.trans HI.out
            clear he HI
            go_wp2
            go_ret
            exact ⟨by rw [<- HR.out]; rfl, rfl⟩
          · rw [if_neg c2] at he
            have HR : Hid ((⟨#[]⟩ : ByteArray) = q) := he.symm.trans HI.out
            clear he HI
            go_wp2
            go_roundw
            case rel => exact Or.inr ⟨by first | trivial | rfl, by subst ek; go_num, HR, by first | trivial | rfl, by first | exact ⟨_, rfl⟩ | trivial, by first | exact ⟨_, rfl⟩ | trivial⟩
            case measure => simp [intOf]; omega
        · rw [if_neg c1]
          have HR : Hid ((⟨#[]⟩ : ByteArray) = q) := by
            show _ = _
            rw [<- HI.out, he]
            split
            · apply WideShapes.bytes_inj
              rw [show st = s.size by omega]
              simp
            · rfl
          clear he HI
          go_wp2
          go_roundw
          case rel => exact Or.inr ⟨by first | trivial | rfl, by subst ek; go_num, HR, by first | trivial | rfl, by first | exact ⟨_, rfl⟩ | trivial, by first | exact ⟨_, rfl⟩ | trivial⟩
          case measure => simp [intOf]; omega
    · go_wp2
      go_ret
      exact ⟨by rw [<- HR.out]; rfl, rfl⟩
structure R3 where
  has : Bool
  code : Int
  text : ByteArray
def rr0 : R3 := ⟨false, 0, ByteArray.empty⟩
def rx (is : List R3) (i : Nat) : R3 := is.getD i rr0
def RowR (w : World) (a : Option Addr) (is : List R3) : Prop :=
  ∀ i, i < is.length -> ∃ b off, a = some ⟨b, off, none⟩ /\ w.cell? ⟨b, off + i * 3, none⟩ = some (.bool (rx is i).has) /\ w.cell? ⟨b, off + i * 3 + 1, none⟩ = some (.int .i64 (rx is i).code) /\ w.cell? ⟨b, off + i * 3 + 2, none⟩ = some (.string (rx is i).text)
theorem RowR.below {w w' : World} {a : Option Addr} {is : List R3} (h : RowR w a is) (hb : Below w.heap.size w w') : RowR w' a is := by
  intro i hi
  obtain ⟨b, off, ha, h1, h2, h3⟩ := h i hi
  exact ⟨b, off, ha, cell_below hb h1, cell_below hb h2, cell_below hb h3⟩
theorem Tryz.info170 : (Tryz.prog.info? 170).map (fun i => (i.zero, i.size, i.bytes)) = some (some (.agg #[.bool false, .int .i64 0, .string ByteArray.empty]), 3, 32) := by kernel_rfl
def repOk (r : R3) : Bool := decide (r.text.size <= 2000) && decide (0 <= r.code) && decide (r.code <= 7)
def repsOk (rs : List R3) : Bool := decide (rs.length <= 200) && decide (∀ i, i < rs.length -> repOk (rx rs i) = true)
structure St where
  pl : Nat
  stack : List ByteArray
  steps : Nat
  looks : Nat
inductive Out where
  | go (s : St)
  | over (c : Int) (t : ByteArray) (n : Nat)
  | look (ask : Bool) (nm : ByteArray) (s : St)
def decB (n : Nat) : ByteArray := ⟨(Lib.decDigits n).toArray⟩
def emptyB (a : ByteArray) : Bool := a.toList.isEmpty || a.toList == [48]
def outP (o : Nat) (t : ByteArray) (n : Nat) (a b : ByteArray) : List ByteArray :=
  match o with
  | 1 => [t]
  | 2 => [b ++ a]
  | 3 => [a.extract 0 (min n a.size)]
  | 4 => [a.extract (min n a.size) a.size]
  | 5 => [pieceP a n]
  | 6 => [flagB (b.toList == a.toList)]
  | 7 => [a, a]
  | 8 => [a, b]
  | _ => []
def nextP (o n pl : Nat) (a : ByteArray) : Nat := if o = 10 then n else if o = 11 /\ emptyB a = true then n else pl + 1
def takesN (o : Nat) : Nat := (takesOf.getD o 0).toNat
def topB (l : List ByteArray) : ByteArray := l.getD (l.length - 1) ByteArray.empty
def subB (l : List ByteArray) : ByteArray := l.getD (l.length - 2) ByteArray.empty
def restL (l : List ByteArray) (k : Nat) : List ByteArray := l.take (l.length - k)
open Classical in
noncomputable def insP (i : I3) (s : St) : Out :=
  let o := i.op.toNat
  let n := i.n.toNat
  let a := topB s.stack
  let b := subB s.stack
  let r := restL s.stack (takesN o)
  if s.stack.length < takesN o then .over 2 (decB s.pl) (s.steps + 1)
  else if o = 15 then .over 0 a (s.steps + 1)
  else if o = 14 then .over 1 a (s.steps + 1)
  else if o = 12 \/ o = 13 then
    (if ¬ NameOk a then .over 2 (decB s.pl) (s.steps + 1)
     else if s.looks = 200 then .over 3 ⟨#[]⟩ (s.steps + 1)
     else .look (o == 12) a ⟨s.pl, r, s.steps + 1, s.looks + 1⟩)
  else if 50 < r.length + (outP o i.text n a b).length \/ ∃ x ∈ outP o i.text n a b, 2000 < x.size then .over 2 (decB s.pl) (s.steps + 1)
  else .go ⟨nextP o n s.pl a, r ++ outP o i.text n a b, s.steps + 1, s.looks⟩
noncomputable def step0 (is : List I3) (s : St) : Out :=
  if is.length <= s.pl then .over 2 (decB s.pl) s.steps
  else if s.steps = 2000 then .over 3 ⟨#[]⟩ s.steps
  else insP (ix is s.pl) s
structure StOk (is : List I3) (s : St) : Prop where
  pl : s.pl <= 200
  len : s.stack.length <= 50
  size : ∀ x ∈ s.stack, x.size <= 2000
  steps : s.steps <= 2000
  looks : s.looks <= 200
inductive Runs (is : List I3) : St -> Out -> Prop
  | over {s c t n} : step0 is s = .over c t n -> Runs is s (.over c t n)
  | look {s ask nm s'} : step0 is s = .look ask nm s' -> Runs is s (.look ask nm s')
  | go {s s' o} : step0 is s = .go s' -> Runs is s' o -> Runs is s o
def ansP (ask : Bool) (nm : ByteArray) (y : R3) (s : St) : Out :=
  if ask = false then .go ⟨s.pl + 1, s.stack ++ [flagB y.has], s.steps, s.looks⟩
  else if y.has = false then .over 4 nm s.steps
  else if y.code ≠ 0 then .over 5 nm s.steps
  else .go ⟨s.pl + 1, s.stack ++ [y.text], s.steps, s.looks⟩
inductive Res where
  | over (c : Int) (t : ByteArray) (n : Nat)
  | wait (ask : Bool) (nm : ByteArray) (n : Nat)
inductive Full (is : List I3) (ys : List R3) : St -> Res -> Prop
  | over {s c t n} : step0 is s = .over c t n -> Full is ys s (.over c t n)
  | go {s s' r} : step0 is s = .go s' -> Full is ys s' r -> Full is ys s r
  | wait {s ask nm s'} : step0 is s = .look ask nm s' -> ys.length <= s.looks -> Full is ys s (.wait ask nm s'.steps)
  | ans {s ask nm s' s'' r} : step0 is s = .look ask nm s' -> s.looks < ys.length -> ansP ask nm (rx ys s.looks) s' = .go s'' -> Full is ys s'' r -> Full is ys s r
  | end {s ask nm s' c t n} : step0 is s = .look ask nm s' -> s.looks < ys.length -> ansP ask nm (rx ys s.looks) s' = .over c t n -> Full is ys s (.over c t n)
theorem Full.unique {is : List I3} {ys : List R3} {s : St} {o o' : Res} (h : Full is ys s o) (h' : Full is ys s o') : o = o' := by
  induction h with
  | over h1 => cases h' with
    | over h2 => rw [h1] at h2; cases h2; rfl
    | go h2 _ => rw [h1] at h2; cases h2
    | wait h2 _ => rw [h1] at h2; cases h2
    | ans h2 _ _ _ => rw [h1] at h2; cases h2
    | «end» h2 _ _ => rw [h1] at h2; cases h2
  | go h1 _ ih => cases h' with
    | over h2 => rw [h1] at h2; cases h2
    | go h2 h3 => rw [h1] at h2; cases h2; exact ih h3
    | wait h2 _ => rw [h1] at h2; cases h2
    | ans h2 _ _ _ => rw [h1] at h2; cases h2
    | «end» h2 _ _ => rw [h1] at h2; cases h2
  | wait h1 k1 => cases h' with
    | over h2 => rw [h1] at h2; cases h2
    | go h2 h3 => rw [h1] at h2; cases h2
    | wait h2 _ => rw [h1] at h2; cases h2; rfl
    | ans h2 k2 _ _ => omega
    | «end» h2 k2 _ => omega
  | ans h1 k1 a1 _ ih => cases h' with
    | over h2 => rw [h1] at h2; cases h2
    | go h2 h3 => rw [h1] at h2; cases h2
    | wait h2 k2 => omega
    | ans h2 k2 a2 h3 => rw [h1] at h2; cases h2; rw [a1] at a2; cases a2; exact ih h3
    | «end» h2 k2 a2 => rw [h1] at h2; cases h2; rw [a1] at a2; cases a2
  | «end» h1 k1 a1 => cases h' with
    | over h2 => rw [h1] at h2; cases h2
    | go h2 h3 => rw [h1] at h2; cases h2
    | wait h2 k2 => omega
    | ans h2 k2 a2 h3 => rw [h1] at h2; cases h2; rw [a1] at a2; cases a2
    | «end» h2 k2 a2 => rw [h1] at h2; cases h2; rw [a1] at a2; cases a2; rfl
theorem step0_look {is : List I3} {s s' : St} {ask : Bool} {nm : ByteArray} (h : step0 is s = .look ask nm s') : s'.looks = s.looks + 1 /\ s'.pl = s.pl /\ s'.steps = s.steps + 1 /\ s.looks ≠ 200 /\ s.pl < is.length /\ 1 <= s.stack.length /\ s'.stack = restL s.stack 1 /\ nm = topB s.stack := by
  unfold step0 at h
  split at h
  · cases h
  · split at h
    · cases h
    · rename_i h1 h2
      simp only [insP] at h
      split at h
      · cases h
      · split at h
        · cases h
        · split at h
          · cases h
          · split at h
            · rename_i h3 h4 h5 h6
              split at h
              · cases h
              · split at h
                · cases h
                · rename_i h7 h8
                  cases h
                  have ht : takesN (ix is s.pl).op.toNat = 1 := by rcases h6 with h6 | h6 <;> rw [h6] <;> rfl
                  rw [ht] at h3 ⊢
                  exact ⟨rfl, rfl, rfl, h8, by omega, by omega, rfl, rfl⟩
            · split at h
              · cases h
              · cases h
end Go.Proofs.YtbbfboikigmghaaGreatDoor
