import Derived.Test.YtikdgmmloiegjaaGreatDoorGRow
import Derived.Lib.AtoiAll
import Derived.Lib.IndexMore
namespace Go.Proofs.YtikdgmmloiegjaaGreatDoor
open Go.RowKit
set_option linter.unusedVariables false

/-- The place of a byte among the digits, -1 where it is none. -/
def hexI (u : UInt8) : Int := Lib.indexByte hexL u
theorem hexI_all : ∀ n, n < 256 → (hexI (UInt8.ofNat n) = -1 ∨ ∃ j, j < 16 ∧ hexI (UInt8.ofNat n) = (j : Nat) ∧ UInt8.ofNat n = hexd j) := by decide +kernel
theorem hexI_cases (u : UInt8) : hexI u = -1 ∨ ∃ j, j < 16 ∧ hexI u = (j : Nat) ∧ u = hexd j := by
  have h := hexI_all u.toNat (UInt8.toNat_lt u)
  rwa [UInt8.ofNat_toNat] at h
theorem hexI_hexd : ∀ j, j < 16 → hexI (hexd j) = (j : Nat) := by decide +kernel

/-- The first byte of what stands between quotes, and how many bytes it takes there. -/
def ubyte : List UInt8 → UInt8 × Nat
  | [] => (0, 0)
  | u :: r => if plainB u then (u, 1) else if u = 92 then
      match r with
      | a :: b :: _ => if hexI a < 0 ∨ hexI b < 0 then (0, 0) else if plainB (UInt8.ofNat ((hexI a).toNat * 16 + (hexI b).toNat)) then (0, 0) else (UInt8.ofNat ((hexI a).toNat * 16 + (hexI b).toNat), 3)
      | _ => (0, 0)
    else (0, 0)
theorem byte_of_halves (u : UInt8) : UInt8.ofNat (u.toNat / 16 * 16 + u.toNat % 16) = u := by
  rw [Nat.div_add_mod']; exact UInt8.ofNat_toNat
theorem ubyte_q (u : UInt8) (r : List UInt8) : ubyte (qbyte u ++ r) = (u, (qbyte u).length) := by
  have hu : u.toNat < 256 := UInt8.toNat_lt u
  unfold qbyte
  split
  · rename_i h
    simp [ubyte, h]
  · rename_i h
    have h' : plainB u = false := by simpa using h
    have h1 := hexI_hexd (u.toNat / 16) (by omega)
    have h2 := hexI_hexd (u.toNat % 16) (by omega)
    have h3 : plainB 92 = false := by decide
    have e : UInt8.ofNat ((hexI (hexd (u.toNat / 16))).toNat * 16 + (hexI (hexd (u.toNat % 16))).toNat) = u := by
      rw [h1, h2]; exact byte_of_halves u
    have hn : ¬ (hexI (hexd (u.toNat / 16)) < 0 ∨ hexI (hexd (u.toNat % 16)) < 0) := by rw [h1, h2]; omega
    show ubyte (92 :: hexd (u.toNat / 16) :: hexd (u.toNat % 16) :: r) = _
    simp only [ubyte, h3, if_true, if_neg hn, e, h']
    simp
theorem halves (x y : Nat) (hx : x < 16) (hy : y < 16) : (UInt8.ofNat (x * 16 + y)).toNat / 16 = x ∧ (UInt8.ofNat (x * 16 + y)).toNat % 16 = y := by
  rw [UInt8.toNat_ofNat']; omega
theorem ubyte_inv {l : List UInt8} (hn : (ubyte l).2 ≠ 0) : l = qbyte (ubyte l).1 ++ l.drop (ubyte l).2 ∧ (ubyte l).2 ≤ l.length := by
  match l with
  | [] => simp [ubyte] at hn
  | u :: r =>
    by_cases hp : plainB u = true
    · simp [ubyte, hp, qbyte]
    · have hp' : plainB u = false := by simpa using hp
      by_cases h92 : u = 92
      · subst h92
        match r with
        | [] => simp [ubyte, hp'] at hn
        | [a] => simp [ubyte, hp'] at hn
        | a :: b :: r' =>
          rcases hexI_cases a with ha | ⟨x, hx, hax, rfl⟩
          · simp [ubyte, hp', ha] at hn
          · rcases hexI_cases b with hb | ⟨y, hy, hby, rfl⟩
            · simp [ubyte, hp', hb] at hn
            · have hnn : ¬ (hexI (hexd x) < 0 ∨ hexI (hexd y) < 0) := by rw [hax, hby]; omega
              have e : UInt8.ofNat ((hexI (hexd x)).toNat * 16 + (hexI (hexd y)).toNat) = UInt8.ofNat (x * 16 + y) := by rw [hax, hby]; rfl
              obtain ⟨g1, g2⟩ := halves x y hx hy
              generalize UInt8.ofNat (x * 16 + y) = v at *
              by_cases hv : plainB v = true
              · exfalso; apply hn
                simp only [ubyte, hp', if_neg hnn, e, hv]; simp
              · have hv' : plainB v = false := by simpa using hv
                have eu : ubyte (92 :: hexd x :: hexd y :: r') = (v, 3) := by
                  simp only [ubyte, hp', if_neg hnn, e, hv']; simp
                rw [eu]
                refine ⟨?_, by simp⟩
                simp [qbyte, hv', g1, g2]
      · simp [ubyte, hp', h92] at hn
theorem flat_start {d t : List UInt8} {r : List UInt8} (h : d.flatMap qbyte ++ r = t.flatMap qbyte) : ∃ t', t = d ++ t' ∧ r = t'.flatMap qbyte := by
  induction d generalizing t with
  | nil => exact ⟨t, rfl, by simpa using h⟩
  | cons x d ih =>
    match t with
    | [] =>
      exfalso
      have : (qbyte x).length = 0 := by
        have := congrArg List.length h
        simp at this
        simp [this.1]
      unfold qbyte at this; split at this <;> simp at this
    | y :: t =>
      rw [List.flatMap_cons, List.flatMap_cons, List.append_assoc] at h
      have e := congrArg ubyte h
      rw [ubyte_q, ubyte_q] at e
      have exy : x = y := (Prod.mk.inj e).1
      subst exy
      have h2 := List.append_cancel_left h
      obtain ⟨t', rfl, ht⟩ := ih h2
      exact ⟨t', rfl, ht⟩
theorem unq_fail {d inner t : List UInt8} (h0 : (ubyte inner).2 = 0) (hne : inner ≠ []) : t.flatMap qbyte ≠ d.flatMap qbyte ++ inner := by
  intro h
  obtain ⟨t', rfl, ht⟩ := flat_start h.symm
  match t' with
  | [] => exact hne (by simpa using ht)
  | y :: t' =>
    rw [List.flatMap_cons] at ht
    rw [ht, ubyte_q] at h0
    unfold qbyte at h0; split at h0 <;> simp at h0
theorem unq_step {d inner whole : List UInt8} (h : d.flatMap qbyte ++ inner = whole) (hn : (ubyte inner).2 ≠ 0) : (d ++ [(ubyte inner).1]).flatMap qbyte ++ inner.drop (ubyte inner).2 = whole := by
  have := (ubyte_inv hn).1
  rw [List.flatMap_append, List.append_assoc]
  simp only [List.flatMap_cons, List.flatMap_nil, List.append_nil]
  rw [← this]; exact h

/-! ### Decimals -/
theorem parse_append : ∀ (l r : List UInt8) (acc u : Nat), Lib.parseUint10 acc l = .ok u → Lib.parseUint10 acc (l ++ r) = Lib.parseUint10 u r
  | [], r, acc, u, h => by
    simp only [Lib.parseUint10] at h
    injection h with h
    subst h; rfl
  | c :: l, r, acc, u, h => by
    simp only [Lib.parseUint10, List.cons_append] at h ⊢
    split at h
    · split at h
      · cases h
      · split at h
        · cases h
        · rename_i h1 h2 h3
          rw [if_pos h1, if_neg h2, if_neg h3]
          exact parse_append l r _ u h
    · cases h
theorem parse_dec (n : Nat) (h : n ≤ 1000000) : Lib.parseUint10 0 (Lib.decDigits n) = .ok n := by
  induction n using Nat.strongRecOn with
  | _ n ih =>
    rw [Lib.decDigits]
    split
    · rename_i h1
      have e : (UInt8.ofNat (48 + n)).toNat = 48 + n := by rw [UInt8.toNat_ofNat']; omega
      simp only [Lib.parseUint10, e]
      rw [if_pos (by omega), if_neg (by omega), if_neg (by omega)]
      congr 1; omega
    · rename_i h1
      have e : (UInt8.ofNat (48 + n % 10)).toNat = 48 + n % 10 := by rw [UInt8.toNat_ofNat']; omega
      rw [parse_append _ _ _ _ (ih (n / 10) (by omega) (by omega))]
      simp only [Lib.parseUint10, e]
      rw [if_pos (by omega), if_neg (by omega), if_neg (by omega)]
      congr 1; omega
theorem dec_digit (n : Nat) : ∀ c ∈ Lib.decDigits n, 48 ≤ c.toNat ∧ c.toNat ≤ 57 := by
  induction n using Nat.strongRecOn with
  | _ n ih =>
    rw [Lib.decDigits]
    split
    · rename_i h1
      intro c hc
      rw [List.mem_singleton] at hc; subst hc
      rw [UInt8.toNat_ofNat']; omega
    · rename_i h1
      intro c hc
      rcases List.mem_append.1 hc with hc | hc
      · exact ih (n / 10) (by omega) c hc
      · rw [List.mem_singleton] at hc; subst hc
        rw [UInt8.toNat_ofNat']; omega
theorem dec_ne (n : Nat) : Lib.decDigits n ≠ [] := by
  rw [Lib.decDigits]; split <;> simp
theorem atoi_dec (n : Nat) (h : n ≤ 1000000) : Lib.atoiAll (Lib.decDigits n) = .ok (n : Int) := by
  have hp := parse_dec n h
  have hd := dec_digit n
  have hne := dec_ne n
  generalize Lib.decDigits n = l at *
  match l with
  | [] => exact absurd rfl hne
  | c :: r =>
    have hc := hd c (by simp)
    simp only [Lib.atoiAll]
    rw [if_neg (by omega)]
    simp only [Lib.parseMag, if_neg hne, hp]
    rw [if_neg (by omega), if_neg (by omega), if_neg (by omega)]
/-- A number read loosely. -/
def numF (n : Int) (c : UInt8) : Int := n * 10 + c.toNat - 48
def numL (l : List UInt8) : Int := (l.take 6).foldl numF 0
theorem num_dec (n : Nat) : (Lib.decDigits n).foldl numF 0 = n := by
  induction n using Nat.strongRecOn with
  | _ n ih =>
    rw [Lib.decDigits]
    split
    · have e : (UInt8.ofNat (48 + n)).toNat = 48 + n := by rw [UInt8.toNat_ofNat']; omega
      simp only [List.foldl_cons, List.foldl_nil, numF, e]; omega
    · rename_i h1
      have e : (UInt8.ofNat (48 + n % 10)).toNat = 48 + n % 10 := by rw [UInt8.toNat_ofNat']; omega
      rw [List.foldl_append, ih (n / 10) (by omega)]
      simp only [List.foldl_cons, List.foldl_nil, numF, e]; omega
theorem dec_len6 : ∀ (k n : Nat), n < 10 ^ (k + 1) → (Lib.decDigits n).length ≤ k + 1
  | 0, n, h => by rw [Lib.decDigits, dif_pos (by simpa using h)]; simp
  | k + 1, n, h => by
    rw [Lib.decDigits]
    split
    · simp
    · have := dec_len6 k (n / 10) (by rw [Nat.pow_succ] at h; omega)
      simp; omega
theorem numL_dec (n : Nat) (h : n ≤ 2000) : numL (Lib.decDigits n) = n := by
  unfold numL
  rw [List.take_of_length_le (by have := dec_len6 3 n (by omega); omega)]
  exact num_dec n

/-! ### Texts read loosely -/
def looseF (m : List UInt8) : List UInt8 :=
  match m with
  | [] => []
  | [_] => []
  | u :: x :: r =>
    if u = 92 then
      match r with
      | y :: c :: r' => if 0 ≤ hexI x ∧ 0 ≤ hexI y then UInt8.ofNat (16 * (hexI x).toNat + (hexI y).toNat) :: looseF (c :: r') else u :: looseF (x :: y :: c :: r')
      | [y] => u :: looseF [x, y]
      | [] => u :: looseF [x]
    else u :: looseF (x :: r)
termination_by m.length
theorem loose_q (t : List UInt8) : looseF (t.flatMap qbyte ++ [34]) = t := by
  induction t with
  | nil => simp [looseF]
  | cons u t ih =>
    have hne : t.flatMap qbyte ++ [34] ≠ [] := by simp
    rw [List.flatMap_cons, List.append_assoc]
    generalize t.flatMap qbyte ++ [34] = m at *
    match m with
    | [] => exact absurd rfl hne
    | c :: r =>
      have hu : u.toNat < 256 := UInt8.toNat_lt u
      unfold qbyte
      split
      · rename_i hp
        have h92 : u ≠ 92 := by rintro rfl; revert hp; decide
        show looseF (u :: c :: r) = _
        rw [looseF.eq_def]
        simp only [if_neg h92, ih]
      · have h1 := hexI_hexd (u.toNat / 16) (by omega)
        have h2 := hexI_hexd (u.toNat % 16) (by omega)
        show looseF (92 :: hexd (u.toNat / 16) :: hexd (u.toNat % 16) :: c :: r) = _
        rw [looseF.eq_def]
        simp only [h1, h2, if_true]
        rw [if_pos (by omega), ih]
        congr 1
        rw [show 16 * ((u.toNat / 16 : Nat) : Int).toNat + ((u.toNat % 16 : Nat) : Int).toNat = u.toNat / 16 * 16 + u.toNat % 16 from by omega]
        exact byte_of_halves u

/-! ### Cutting -/
def cutL (c : UInt8) : List UInt8 → List UInt8 × List UInt8 × Bool
  | [] => ([], [], false)
  | x :: r => if x = c then ([], r, true) else (x :: (cutL c r).1, (cutL c r).2.1, (cutL c r).2.2)
theorem cutL_no {c : UInt8} : ∀ {l : List UInt8}, (cutL c l).2.2 = false → (cutL c l).1 = l ∧ (cutL c l).2.1 = []
  | [], _ => ⟨rfl, rfl⟩
  | x :: r, h => by
    unfold cutL at h ⊢
    split at h
    · cases h
    · rename_i hx
      obtain ⟨h1, h2⟩ := cutL_no (l := r) h
      rw [if_neg hx]
      exact ⟨by rw [h1], h2⟩
theorem cutL_yes {c : UInt8} : ∀ {l : List UInt8}, (cutL c l).2.2 = true → l = (cutL c l).1 ++ c :: (cutL c l).2.1
  | [], h => by cases h
  | x :: r, h => by
    unfold cutL at h ⊢
    split
    · rename_i hx; subst hx; rfl
    · rename_i hx
      rw [if_neg hx] at h
      have := cutL_yes (l := r) h
      show x :: r = x :: ((cutL c r).1 ++ c :: (cutL c r).2.1)
      rw [← this]
theorem cutL_at {c : UInt8} : ∀ {a : List UInt8} (b : List UInt8), ¬ c ∈ a → cutL c (a ++ c :: b) = (a, b, true)
  | [], b, _ => by simp [cutL]
  | x :: a, b, h => by
    have hx : x ≠ c := fun e => h (by simp [e])
    have := cutL_at (a := a) b (fun e => h (List.mem_cons_of_mem _ e))
    simp [cutL, hx, this]
theorem cutL_free {c : UInt8} : ∀ {a : List UInt8}, c ∉ a → cutL c a = (a, [], false)
  | [], _ => rfl
  | x :: a, h => by
    have hx : x ≠ c := fun e => h (by simp [e])
    have := cutL_free (a := a) (fun e => h (List.mem_cons_of_mem _ e))
    simp [cutL, hx, this]
theorem index_cons (c x : UInt8) (r : List UInt8) : Lib.index (x :: r) [c] = if x = c then 0 else if Lib.index r [c] == -1 then -1 else Lib.index r [c] + 1 := by
  rw [Lib.index]
  by_cases h : x = c
  · subst h; simp
  · have : ([c].isPrefixOf (x :: r)) = false := by
      have : c ≠ x := fun e => h e.symm
      simp [List.isPrefixOf, this]
    rw [this]; simp [h]
theorem cut_cutL (c : UInt8) : ∀ l : List UInt8, Lib.cut l [c] = cutL c l
  | [] => by
    have : Lib.index [] [c] = -1 := rfl
    simp [Lib.cut, this, cutL]
  | x :: r => by
    have ih := cut_cutL c r
    unfold Lib.cut at ih ⊢
    rw [index_cons]
    by_cases h : x = c
    · subst h; simp [cutL]
    · simp only [if_neg h]
      simp only [cutL, if_neg h]
      rw [← ih]
      have hge : -1 ≤ Lib.index r [c] := by
        rcases Lib.index_spec r [c] with ⟨h1, _⟩ | ⟨i, h1, _⟩ <;> omega
      by_cases hi : 0 ≤ Lib.index r [c]
      · have hm : (Lib.index r [c] == -1) = false := by rw [beq_eq_false_iff_ne]; omega
        simp only [hm]
        obtain ⟨k, hk⟩ := Int.eq_ofNat_of_zero_le hi
        rw [hk]
        have hf : ¬ (false = true) := by decide
        simp only [if_neg hf, if_pos (Int.natCast_nonneg k)]
        rw [if_pos (by omega)]
        have e : ((k : Int) + 1).toNat = k + 1 := by omega
        simp [e]
      · have hm : (Lib.index r [c] == -1) = true := by rw [beq_iff_eq]; omega
        simp only [hm, if_true, if_neg hi]
        rw [if_neg (by omega)]

def splitL : List UInt8 → List (List UInt8)
  | [] => [[]]
  | c :: r => if c = 10 then [] :: splitL r else ((c :: (splitL r).headD []) :: (splitL r).tail)
theorem split_at : ∀ {a : List UInt8} (b : List UInt8), (10 : UInt8) ∉ a → splitL (a ++ 10 :: b) = a :: splitL b
  | [], b, _ => by simp [splitL]
  | x :: a, b, h => by
    have hx : x ≠ 10 := fun e => h (by simp [e])
    have := split_at (a := a) b (fun e => h (List.mem_cons_of_mem _ e))
    simp [splitL, hx, this]
theorem split_free : ∀ {a : List UInt8}, (10 : UInt8) ∉ a → splitL a = [a]
  | [], _ => rfl
  | x :: a, h => by
    have hx : x ≠ 10 := fun e => h (by simp [e])
    have := split_free (a := a) (fun e => h (List.mem_cons_of_mem _ e))
    simp [splitL, hx, this]
theorem cutL_mem {c : UInt8} : ∀ {l : List UInt8}, c ∉ (cutL c l).1
  | [] => by simp [cutL]
  | x :: r => by
    unfold cutL
    split
    · simp
    · rename_i hx
      have := cutL_mem (c := c) (l := r)
      simp only [List.mem_cons, not_or]
      exact ⟨fun e => hx e.symm, this⟩
theorem split_yes {l : List UInt8} (h : (cutL 10 l).2.2 = true) : splitL l = (cutL 10 l).1 :: splitL (cutL 10 l).2.1 := by
  have e := cutL_yes h
  have hm := cutL_mem (c := 10) (l := l)
  generalize (cutL 10 l).1 = a at *
  generalize (cutL 10 l).2.1 = b at *
  subst e
  exact split_at b hm
theorem split_no {l : List UInt8} (h : (cutL 10 l).2.2 = false) : splitL l = [l] := by
  have e := (cutL_no h).1
  have hm := cutL_mem (c := 10) (l := l)
  rw [e] at hm
  exact split_free hm
theorem split_ne (l : List UInt8) : splitL l ≠ [] := by
  cases l with
  | nil => simp [splitL]
  | cons x l => unfold splitL; split <;> simp

/-! ### Lines -/
def opnd (i : I3) : List UInt8 := if kindOf i.op = 1 then quoteL i.text.data.toList else if kindOf i.op = 0 then [] else Lib.decDigits i.n.toNat
theorem word_free : ∀ o, o < 16 → (32 : UInt8) ∉ (wordB o).data.toList := by decide +kernel
theorem word_inj : ∀ o, o < 16 → ∀ p, p < 16 → (wordB o).data.toList = (wordB p).data.toList → o = p := by decide +kernel
theorem ok_op {i : I3} (h : insOk i = true) : ∃ o : Nat, i.op = o ∧ 1 ≤ o ∧ o ≤ 15 := by
  simp only [insOk, Bool.and_eq_true, decide_eq_true_eq] at h
  exact ⟨i.op.toNat, by omega, by omega, by omega⟩
theorem cut_line {i : I3} (h : insOk i = true) : cutL 32 (lineL i) = ((wordB i.op.toNat).data.toList, opnd i, decide (kindOf i.op ≠ 0)) := by
  obtain ⟨o, ho, h1, h2⟩ := ok_op h
  have hf := word_free i.op.toNat (by omega)
  unfold lineL opnd
  split
  · rename_i hk
    rw [cutL_at _ hf]; simp [hk]
  · split
    · rename_i hk
      rw [List.append_nil, cutL_free hf]; simp [hk]
    · rename_i hk
      rw [cutL_at _ hf]; simp [hk]
theorem bytes_of_list {a b : ByteArray} (h : a.data.toList = b.data.toList) : a = b := by
  cases a; cases b; simp at h; subst h; rfl
theorem bytes_zero {a : ByteArray} (h : (a.size : Int) ≤ 0) : a = ⟨#[]⟩ := by
  apply bytes_of_list
  have e : a.data.toList.length = a.size := Array.length_toList
  exact List.eq_nil_of_length_eq_zero (by omega)
theorem loose_opnd {i : I3} (h : insOk i = true) :
    (kindOf i.op = 0 → i = ⟨i.op, ⟨#[]⟩, 0⟩) ∧ (kindOf i.op = 1 → i = ⟨i.op, ⟨(looseF ((opnd i).drop 1)).toArray⟩, 0⟩) ∧ (kindOf i.op = 2 ∨ kindOf i.op = 3 → i = ⟨i.op, ⟨#[]⟩, numL (opnd i)⟩) := by
  simp only [insOk, Bool.and_eq_true, decide_eq_true_eq] at h
  obtain ⟨⟨⟨⟨h1, h2⟩, ht⟩, h0⟩, hn⟩ := h
  obtain ⟨op, t, n⟩ := i
  simp only [opnd] at *
  refine ⟨fun hk => ?_, fun hk => ?_, fun hk => ?_⟩
  · rw [hk] at ht hn
    simp only [mostT, mostN] at ht hn
    have e1 : t = ⟨#[]⟩ := bytes_zero (by simpa using ht)
    have e2 : n = 0 := by simp at hn; omega
    rw [e1, e2]
  · rw [hk] at hn
    simp only [mostN] at hn
    have e2 : n = 0 := by simp at hn; omega
    simp only [hk, if_true, e2]
    congr 1
    apply bytes_of_list
    show _ = looseF ((34 :: (t.data.toList.flatMap qbyte) ++ [34]).drop 1)
    simp only [List.cons_append, List.drop_succ_cons, List.drop_zero]
    rw [loose_q]
  · have e1 : t = ⟨#[]⟩ := by
      apply bytes_zero
      rcases hk with hk | hk <;> rw [hk] at ht <;> simpa [mostT] using ht
    have hn' : n ≤ 2000 := by
      rcases hk with hk | hk <;> rw [hk] at hn <;> simp [mostN] at hn <;> omega
    have k1 : kindOf op ≠ 1 := by rcases hk with hk | hk <;> rw [hk] <;> decide
    have k0 : kindOf op ≠ 0 := by rcases hk with hk | hk <;> rw [hk] <;> decide
    simp only [if_neg k1, if_neg k0, e1]
    rw [numL_dec n.toNat (by omega)]
    congr 1; omega
theorem line_inj {i j : I3} (hi : insOk i = true) (hj : insOk j = true) (h : lineL i = lineL j) : i = j := by
  have e := congrArg (cutL 32) h
  rw [cut_line hi, cut_line hj] at e
  obtain ⟨o, ho, o1, o2⟩ := ok_op hi
  obtain ⟨p, hp, p1, p2⟩ := ok_op hj
  have ew := (Prod.mk.inj e).1
  have eo := (Prod.mk.inj (Prod.mk.inj e).2).1
  have eop := word_inj _ (by omega) _ (by omega) ew
  have eop' : i.op = j.op := by omega
  obtain ⟨a0, a1, a2⟩ := loose_opnd hi
  obtain ⟨b0, b1, b2⟩ := loose_opnd hj
  rcases kind_cases i.op with hk | hk | hk | hk
  · rw [a0 hk, b0 (eop' ▸ hk), eop']
  · rw [a1 hk, b1 (eop' ▸ hk), eop', eo]
  · rw [a2 (Or.inl hk), b2 (Or.inl (eop' ▸ hk)), eop', eo]
  · rw [a2 (Or.inr hk), b2 (Or.inr (eop' ▸ hk)), eop', eo]

open Classical in
/-- What a line is read as. -/
noncomputable def rd (l : List UInt8) : Option I3 := if h : ∃ i, insOk i = true ∧ lineL i = l then some h.choose else none
theorem rd_some {i : I3} {l : List UInt8} (h1 : insOk i = true) (h2 : lineL i = l) : rd l = some i := by
  have hx : ∃ i, insOk i = true ∧ lineL i = l := ⟨i, h1, h2⟩
  unfold rd
  rw [dif_pos hx]
  have := hx.choose_spec
  rw [line_inj this.1 h1 (this.2.trans h2.symm)]
theorem rd_none {l : List UInt8} (h : ∀ i, insOk i = true → lineL i ≠ l) : rd l = none := by
  unfold rd
  rw [dif_neg]
  rintro ⟨i, h1, h2⟩
  exact h i h1 h2
theorem rd_ok {l : List UInt8} {i : I3} (h : rd l = some i) : insOk i = true ∧ lineL i = l := by
  unfold rd at h
  split at h
  · rename_i hx
    have := hx.choose_spec
    rw [Option.some.inj h] at this
    exact this
  · cases h

/-! ### A whole text -/
inductive PO where
  | good (is : List I3)
  | bad (code line : Nat)
def prep (is : List I3) : PO → PO
  | .good js => .good (is ++ js)
  | .bad c l => .bad c l
theorem prep_nil (p : PO) : prep [] p = p := by cases p <;> rfl
theorem prep_prep (is js : List I3) (p : PO) : prep is (prep js p) = prep (is ++ js) p := by cases p <;> simp [prep]
noncomputable def parseK : List (List UInt8) → Nat → PO
  | [], _ => .good []
  | [l], k => if l = [] then .good [] else .bad 2 k
  | l :: m :: ls, k => match rd l with
    | none => .bad 2 k
    | some i => prep [i] (parseK (m :: ls) (k + 1))
theorem parseK_cons {l : List UInt8} {ls : List (List UInt8)} (k : Nat) (h : ls ≠ []) : parseK (l :: ls) k = match rd l with | none => .bad 2 k | some i => prep [i] (parseK ls (k + 1)) := by
  match ls with
  | [] => exact absurd rfl h
  | m :: ls => rfl
def capP : PO → PO
  | .good is => if is.length ≤ 200 then .good is else .bad 3 0
  | p => p
noncomputable def parseP (s : List UInt8) : PO := if s = [] then .bad 1 0 else capP (parseK (splitL s) 0)

end Go.Proofs.YtikdgmmloiegjaaGreatDoor
