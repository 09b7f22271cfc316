import Derived.Test.YtikdgmmloiegjaaGreatDoorPaA
import Derived.Test.YtikdgmmloiegjaaGreatDoorIPrint
import Derived.Deep.RegionHeld3
import Derived.Lib.AtoiErrMem
namespace Go.Proofs.YtikdgmmloiegjaaGreatDoor
open Go.RowKit
set_option linter.unusedVariables false

/-- What the package's variables hold. -/
structure Env (p : Nat → Addr) (w : World) : Prop where
  tab : Tab w
  p10 : P10 w
  mx : ∃ m, w.cell? ⟨2, 0, none⟩ = some (.int .i64 m)
  er : ∀ g, g = 0 ∨ g = 1 ∨ g = 7 → w.cell? ⟨g, 0, none⟩ = some (.iface 150 (.pointer (some (p g))))
  syn : ∃ a, w.cell? ⟨3, 0, none⟩ = some (.iface 150 (.pointer (some a)))
  rng : ∃ a, w.cell? ⟨4, 0, none⟩ = some (.iface 150 (.pointer (some a)))
theorem Env.below {p : Nat → Addr} {w w' : World} (h : Env p w) (hb : Below w.heap.size w w') : Env p w' :=
  ⟨h.tab.below hb, h.p10.below hb, h.mx.imp fun _ k => cell_below hb k, fun g hg => cell_below hb (h.er g hg), h.syn.imp fun _ k => cell_below hb k, h.rng.imp fun _ k => cell_below hb k⟩
theorem u8_back (a : UInt8) : ((a.toNat : Int)).toNat.toUInt8 = a := by simp

theorem hexIdx_any (a : UInt8) (w : World) : Calls Tryz.prog 106 #[.string ⟨#[48, 49, 50, 51, 52, 53, 54, 55, 56, 57, 97, 98, 99, 100, 101, 102]⟩, .int .u8 a.toNat] w fun e w' => e = .returned (.int .i64 (hexI a)) ∧ w = w' := by
  refine (Tryz.strings_IndexByte ⟨#[48, 49, 50, 51, 52, 53, 54, 55, 56, 57, 97, 98, 99, 100, 101, 102]⟩ (a.toNat : Int) w).mono ?_
  rintro e w' ⟨rfl, rfl⟩
  rw [u8_back]
  exact ⟨rfl, rfl⟩

theorem or_halves : ∀ x : Nat, x < 16 → ∀ y : Nat, y < 16 → bits BinOp.or IntKind.i64 ((x : Int) * 16) (y : Int) % 256 = ((x * 16 + y : Nat) : Int) := by decide +kernel

set_option maxHeartbeats 400000 in
theorem readHex_no (a b : UInt8) (w : World) (h : hexI a < 0 ∨ hexI b < 0) :
    Calls Tryz.prog 88 #[.int .u8 a.toNat, .int .u8 b.toNat] w fun e w' => e = .returned (.tuple #[.int .u8 0, .bool false]) ∧ w = w' := by
  have HA : Hid (∀ w, Calls Tryz.prog 106 #[.string ⟨#[48, 49, 50, 51, 52, 53, 54, 55, 56, 57, 97, 98, 99, 100, 101, 102]⟩, .int .u8 a.toNat] w fun e w' => e = .returned (.int .i64 (hexI a)) ∧ w = w') := fun w => hexIdx_any a w
  have HB : Hid (∀ w, Calls Tryz.prog 106 #[.string ⟨#[48, 49, 50, 51, 52, 53, 54, 55, 56, 57, 97, 98, 99, 100, 101, 102]⟩, .int .u8 b.toNat] w fun e w' => e = .returned (.int .i64 (hexI b)) ∧ w = w') := fun w => hexIdx_any b w
  generalize hexI a = x at *
  generalize hexI b = y at *
  go_enter Tryz.func88, Tryz.ntmps88
  go_wp2_with fail
  refine (HA.out _).mono ?_
  rintro e w' ⟨rfl, rfl⟩
  go_wp2_with fail
  refine (HB.out _).mono ?_
  rintro e w' ⟨rfl, rfl⟩
  by_cases h1 : x < 0
  · go_wp2
    go_ret2
    exact ⟨rfl, rfl⟩
  · have h2 : y < 0 := by omega
    clear h
    go_wp2
    go_ret2
    exact ⟨rfl, rfl⟩

set_option maxHeartbeats 400000 in
theorem readHex_yes (a b : UInt8) (x y : Nat) (w : World) (ha : hexI a = x) (hb : hexI b = y) (hx : x < 16) (hy : y < 16) :
    Calls Tryz.prog 88 #[.int .u8 a.toNat, .int .u8 b.toNat] w fun e w' => e = .returned (.tuple #[.int .u8 ((x * 16 + y : Nat) : Int), .bool true]) ∧ w = w' := by
  have HA : Hid (∀ w, Calls Tryz.prog 106 #[.string ⟨#[48, 49, 50, 51, 52, 53, 54, 55, 56, 57, 97, 98, 99, 100, 101, 102]⟩, .int .u8 a.toNat] w fun e w' => e = .returned (.int .i64 (x : Int)) ∧ w = w') := fun w => ha ▸ hexIdx_any a w
  have HB : Hid (∀ w, Calls Tryz.prog 106 #[.string ⟨#[48, 49, 50, 51, 52, 53, 54, 55, 56, 57, 97, 98, 99, 100, 101, 102]⟩, .int .u8 b.toNat] w fun e w' => e = .returned (.int .i64 (y : Int)) ∧ w = w') := fun w => hb ▸ hexIdx_any b w
  clear ha hb
  go_enter Tryz.func88, Tryz.ntmps88
  go_wp2_with fail
  refine (HA.out _).mono ?_
  rintro e w' ⟨rfl, rfl⟩
  go_wp2_with fail
  refine (HB.out _).mono ?_
  rintro e w' ⟨rfl, rfl⟩
  have HO : Hid (bits BinOp.or IntKind.i64 ((x : Int) * 16) (y : Int) % 256 = ((x * 16 + y : Nat) : Int)) := or_halves x hx y hy
  clear HA HB
  go_wp2
  go_ret2
  exact ⟨by rw [HO.out]; rfl, rfl⟩

theorem ubyte_s (s : ByteArray) (h : 0 < s.size) : ubyte s.data.toList = if plainB s[0] then (s[0], 1) else if s[0] = 92 then
    (if h3 : 3 ≤ s.size then (if hexI s[1] < 0 ∨ hexI s[2] < 0 then (0, 0) else if plainB (UInt8.ofNat ((hexI s[1]).toNat * 16 + (hexI s[2]).toNat)) then (0, 0) else (UInt8.ofNat ((hexI s[1]).toNat * 16 + (hexI s[2]).toNat), 3)) else (0, 0)) else (0, 0) := by
  obtain ⟨⟨l⟩⟩ := s
  match l with
  | [] => cases h
  | [u] =>
    have : ¬ 3 ≤ (⟨⟨[u]⟩⟩ : ByteArray).size := by show ¬ 3 ≤ 1; omega
    rw [dif_neg this]; rfl
  | [u, a] =>
    have : ¬ 3 ≤ (⟨⟨[u, a]⟩⟩ : ByteArray).size := by show ¬ 3 ≤ 2; omega
    rw [dif_neg this]; rfl
  | u :: a :: b :: r =>
    have : 3 ≤ (⟨⟨u :: a :: b :: r⟩⟩ : ByteArray).size := by show 3 ≤ r.length + 1 + 1 + 1; omega
    rw [dif_pos this]; rfl

theorem u8_eq92 {u : UInt8} : u = 92 ↔ u.toNat = 92 := by
  constructor
  · rintro rfl; rfl
  · intro h; exact UInt8.toNat_inj.1 h

set_option maxHeartbeats 1000000 in
theorem unquoteByte_any (s : ByteArray) (w : World) (h : 0 < s.size) (hs : s.size ≤ 10000000) :
    Calls Tryz.prog 70 #[.string s] w fun e w' => e = .returned (.tuple #[.int .u8 (ubyte s.data.toList).1.toNat, .int .i64 ((ubyte s.data.toList).2 : Nat)]) ∧ Below w.heap.size w w' := by
  have HU : Hid (ubyte s.data.toList = _) := ubyte_s s h
  generalize ubyte s.data.toList = q at *
  by_cases hp : plainB s[0] = true
  · have HQ : Hid (q = (s[0], 1)) := by show q = _; rw [HU.out, if_pos hp]
    clear HU
    have HP : Hid (∀ w, Calls Tryz.prog 91 #[.int .u8 s[0].toNat] w fun e w' => e = .returned (.bool true) ∧ w = w') := fun w => hp ▸ plainByte_any s[0] w
    clear hp
    go_enter Tryz.func70, Tryz.ntmps70
    go_wp2_with fail
    refine (HP.out _).mono ?_
    rintro e w' ⟨rfl, rfl⟩
    go_wp2
    go_ret2
    exact ⟨by rw [HQ.out]; rfl, Below.refl _ _⟩
  · have hp' : plainB s[0] = false := by simpa using hp
    have HP : Hid (∀ w, Calls Tryz.prog 91 #[.int .u8 s[0].toNat] w fun e w' => e = .returned (.bool false) ∧ w = w') := fun w => hp' ▸ plainByte_any s[0] w
    by_cases h92 : s[0] = 92
    · have d1 : ((s[0].toNat : Int) != 92) = false := by have := u8_eq92.1 h92; simp; omega
      by_cases h3 : 3 ≤ s.size
      · have h1l : 1 < s.size := by omega
        have h2l : 2 < s.size := by omega
        have d2 : decide ((s.size : Int) < 3) = false := by simp; omega
        by_cases hx : hexI s[1] < 0 ∨ hexI s[2] < 0
        · have HQ : Hid (q = (0, 0)) := by show q = _; rw [HU.out, if_neg hp, if_pos h92, dif_pos h3, if_pos hx]
          clear HU hp hp'
          have HR : Hid (∀ w, Calls Tryz.prog 88 #[.int .u8 s[1].toNat, .int .u8 s[2].toNat] w fun e w' => e = .returned (.tuple #[.int .u8 0, .bool false]) ∧ w = w') := fun w => readHex_no _ _ w hx
          clear hx h92 h3
          go_enter Tryz.func70, Tryz.ntmps70
          go_wp2_with fail
          refine (HP.out _).mono ?_
          rintro e w' ⟨rfl, rfl⟩
          go_wp2_with fail
          go_region_held3 (fun _ => True) (first | trivial | assumption) (first | (go_at_call 88; refine (HR.out _).mono ?_; rintro e w2 ⟨rfl, rfl⟩))
          all_goals
            go_wp2
            go_ret2
            exact ⟨by rw [HQ.out]; rfl, (Below.refl _ _).drew⟩
        · have hxa : ∃ x y : Nat, x < 16 ∧ y < 16 ∧ hexI s[1] = x ∧ hexI s[2] = y := by
            rcases hexI_cases s[1] with ha | ⟨x, hx1, hax, _⟩
            · omega
            · rcases hexI_cases s[2] with hb | ⟨y, hy1, hby, _⟩
              · omega
              · exact ⟨x, y, hx1, hy1, hax, hby⟩
          obtain ⟨x, y, hx1, hy1, hax, hby⟩ := hxa
          have HR : Hid (∀ w, Calls Tryz.prog 88 #[.int .u8 s[1].toNat, .int .u8 s[2].toNat] w fun e w' => e = .returned (.tuple #[.int .u8 ((UInt8.ofNat (x * 16 + y)).toNat : Int), .bool true]) ∧ w = w') := fun w => by
            have := readHex_yes s[1] s[2] x y w hax hby hx1 hy1
            rwa [show x * 16 + y = (UInt8.ofNat (x * 16 + y)).toNat from by rw [UInt8.toNat_ofNat']; omega] at this
          have HQ : Hid (q = if plainB (UInt8.ofNat (x * 16 + y)) then (0, 0) else (UInt8.ofNat (x * 16 + y), 3)) := by
            show q = _
            rw [HU.out, if_neg hp, if_pos h92, dif_pos h3, if_neg hx, hax, hby]; rfl
          clear HU hp hp' hx h92 h3 hax hby hx1 hy1
          generalize UInt8.ofNat (x * 16 + y) = v at *
          have HV := plainByte_any v
          by_cases hv : plainB v = true
          · rw [hv] at HV
            have HQ : Hid (q = (0, 0)) := by show q = _; rw [HQ.out, if_pos hv]
            have HV : Hid (∀ w, Calls Tryz.prog 91 #[.int .u8 v.toNat] w fun e w' => e = .returned (.bool true) ∧ w = w') := HV
            clear hv
            go_enter Tryz.func70, Tryz.ntmps70
            go_wp2_with fail
            refine (HP.out _).mono ?_
            rintro e w' ⟨rfl, rfl⟩
            go_wp2_with fail
            go_region_held3 (fun _ => True) (first | trivial | assumption) (first | (go_at_call 88; refine (HR.out _).mono ?_; rintro e w2 ⟨rfl, rfl⟩))
            all_goals
              go_wp2_with fail
              refine (HV.out _).mono ?_
              rintro e w' ⟨rfl, rfl⟩
              go_wp2
              go_ret2
              exact ⟨by rw [HQ.out]; rfl, (Below.refl _ _).drew⟩
          · have hv' : plainB v = false := by simpa using hv
            rw [hv'] at HV
            have HQ : Hid (q = (v, 3)) := by show q = _; rw [HQ.out, if_neg hv]
            have HV : Hid (∀ w, Calls Tryz.prog 91 #[.int .u8 v.toNat] w fun e w' => e = .returned (.bool false) ∧ w = w') := HV
            clear hv hv'
            go_enter Tryz.func70, Tryz.ntmps70
            go_wp2_with fail
            refine (HP.out _).mono ?_
            rintro e w' ⟨rfl, rfl⟩
            go_wp2_with fail
            go_region_held3 (fun _ => True) (first | trivial | assumption) (first | (go_at_call 88; refine (HR.out _).mono ?_; rintro e w2 ⟨rfl, rfl⟩))
            all_goals
              go_wp2_with fail
              refine (HV.out _).mono ?_
              rintro e w' ⟨rfl, rfl⟩
              go_wp2
              go_ret2
              exact ⟨by rw [HQ.out]; rfl, (Below.refl _ _).drew⟩
      · have HQ : Hid (q = (0, 0)) := by show q = _; rw [HU.out, if_neg hp, if_pos h92, dif_neg h3]
        have d2 : decide ((s.size : Int) < 3) = true := by simp; omega
        clear HU hp hp' h92 h3
        go_enter Tryz.func70, Tryz.ntmps70
        go_wp2_with fail
        refine (HP.out _).mono ?_
        rintro e w' ⟨rfl, rfl⟩
        go_wp2
        go_ret2
        exact ⟨by rw [HQ.out]; rfl, Below.refl _ _⟩
    · have HQ : Hid (q = (0, 0)) := by show q = _; rw [HU.out, if_neg hp, if_neg h92]
      have d1 : ((s[0].toNat : Int) != 92) = true := by
        rw [bne_iff_ne]; intro e; exact h92 (u8_eq92.2 (by omega))
      clear HU hp hp' h92
      go_enter Tryz.func70, Tryz.ntmps70
      go_wp2_with fail
      refine (HP.out _).mono ?_
      rintro e w' ⟨rfl, rfl⟩
      go_wp2
      go_ret2
      exact ⟨by rw [HQ.out]; rfl, Below.refl _ _⟩

theorem bytes_size (l : List UInt8) : (⟨l.toArray⟩ : ByteArray).size = l.length := by show l.toArray.size = _; simp
theorem word_eq {o : Nat} {wd : ByteArray} : (wordB o).toList == wd.toList ↔ wordB o = wd := by
  constructor
  · intro h
    rw [beq_iff_eq, ByteArray.toList_eq, ByteArray.toList_eq] at h
    exact bytes_of_list h
  · rintro rfl; simp

set_option maxHeartbeats 1000000 in
theorem opOf_any (p : Nat → Addr) (wd : ByteArray) (w : World) (hE : Env p w) :
    Calls Tryz.prog 107 #[.string wd] w fun e w' => Below w.heap.size w w' ∧ ((∃ o : Nat, 1 ≤ o ∧ o ≤ 15 ∧ wordB o = wd ∧ e = .returned (.tuple #[.int .i64 o, .nilIface])) ∨ ((∀ o : Nat, 1 ≤ o → o ≤ 15 → wordB o ≠ wd) ∧ e = .returned (.tuple #[.int .i64 0, .iface 150 (.pointer (some (p 7)))]))) := by
  have c6 := hE.er 7 (by omega)
  have HT : Hid (Tab w) := hE.tab
  go_enter Tryz.func107, Tryz.ntmps107
  go_wp2
  go_loopw [4] (fun i wr => wr = w ∧ ∃ k : Nat, 1 ≤ k ∧ k ≤ 16 ∧ i = .int .i64 k ∧ Hid (∀ o : Nat, 1 ≤ o → o < k → wordB o ≠ wd)) (fun i _ => 16 - (intOf i).toNat)
  case atStart => exact ⟨rfl, 1, by omega, by omega, rfl, fun o h1 h2 => by omega⟩
  case round =>
    obtain ⟨rfl, k, hk1, hk2, rfl, HN⟩ := hrel
    by_cases hlt : k ≤ 15
    · have d0 : decide ((k : Int) ≤ 15) = true := by simp; omega
      obtain ⟨t1, t2, t3⟩ := HT.out k (by omega)
      have hk3 : (k : Int) < 16 := by omega
      by_cases hw : wordB k = wd
      · have HW : Hid (wordB k = wd) := hw
        have e1 : ((wordB k).toList == wd.toList) = true := word_eq.2 hw
        clear hw t2 t3
        go_wp2
        go_ret2
        exact ⟨Below.refl _ _, Or.inl ⟨k, hk1, hlt, HW.out, rfl⟩⟩
      · have e1 : ((wordB k).toList == wd.toList) = false := by
          rw [← Bool.not_eq_true]; intro h; exact hw (word_eq.1 h)
        have HW : Hid (wordB k ≠ wd) := hw
        clear hw t2 t3
        go_wp2
        go_roundw
        case rel => exact ⟨trivial, k + 1, by omega, by omega, by go_num, fun o h1 h2 => by
          rcases Nat.lt_or_ge o k with h | h
          · exact HN.out o h1 h
          · obtain rfl : o = k := by omega
            exact HW.out⟩
        case measure => simp [intOf]; omega
    · have ek : k = 16 := by omega
      subst ek
      go_wp2_with fail
      go_region_held3 (fun w' => w'.cell? ⟨7, 0, none⟩ = some (.iface 150 (.pointer (some (p 7))))) (first | assumption | (simp [*]; done)) (fail)
      all_goals
        go_wp2
        go_ret2
        exact ⟨(Below.refl _ _).drew, Or.inr ⟨fun o h1 h2 => HN.out o h1 (by omega), rfl⟩⟩

/-- What the first number reads as. -/
theorem Lib.itoa_nat (n : Nat) : Lib.itoa (n : Int) = Lib.decDigits n := by
  unfold Lib.itoa; rw [if_neg (by omega)]; rfl

set_option maxHeartbeats 1000000 in
theorem readNumber_any (p : Nat → Addr) (t : ByteArray) (most : Nat) (w : World) (hE : Env p w) (ht : t.size ≤ 10000000) (hm : most ≤ 2000) :
    Calls Tryz.prog 29 #[.string t, .int .i64 most] w fun e w' => Below w.heap.size w w' ∧ ((∃ n : Nat, n ≤ most ∧ Lib.decDigits n = t.data.toList ∧ e = .returned (.tuple #[.int .i64 n, .nilIface])) ∨ ((∀ n : Nat, n ≤ most → Lib.decDigits n ≠ t.data.toList) ∧ e = .returned (.tuple #[.int .i64 0, .iface 150 (.pointer (some (p 0)))]))) := by
  have c4 := hE.er 0 (by omega)
  have HE : Hid (Env p w) := hE
  match hat : Lib.atoiAll t.data.toList with
  | .ok v =>
    have HA : Hid (∀ n : Nat, n ≤ most → Lib.decDigits n = t.data.toList → (n : Int) = v) := fun n hn h => by
      rw [← h, atoi_dec n (by omega)] at hat
      injection hat
    have HC : Hid (Calls Tryz.prog 49 #[.string t] w fun e w' => e = .returned (.tuple #[.int .i64 v, .nilIface]) ∧ Below w.heap.size w w') := by
      refine (Tryz.strconv_Atoi_ok t (by omega) v hat w).mono ?_
      rintro e w' ⟨rfl, hw | ⟨q, hw⟩⟩
      · subst hw; exact ⟨rfl, Below.refl _ _⟩
      · subst hw
        exact ⟨rfl, Lib.bytesWorld_below _ _ _⟩
    clear hE hat
    go_enter Tryz.func29, Tryz.ntmps29
    go_wp2_with fail
    refine HC.out.mono ?_
    rintro e w1 ⟨rfl, hb1⟩
    replace c4 := cell_below hb1 c4
    by_cases h1 : v < 0
    · go_wp2_with fail
      go_region_held3 (fun w' => w'.cell? ⟨0, 0, none⟩ = some (.iface 150 (.pointer (some (p 0))))) (first | assumption | (simp [*]; done)) (fail)
      all_goals
        go_wp2
        go_ret2
        exact ⟨hb1.drew, Or.inr ⟨fun n hn h => by have := HA.out n hn h; omega, rfl⟩⟩
    · obtain ⟨m, rfl⟩ := Int.eq_ofNat_of_zero_le (show 0 ≤ v by omega)
      by_cases h2 : most < m
      · have d1 : decide ((m : Int) < 0) = false := by simp
        have d2 : decide ((most : Int) < (m : Int)) = true := by simp; omega
        clear h1
        go_wp2_with fail
        go_region_held3 (fun w' => w'.cell? ⟨0, 0, none⟩ = some (.iface 150 (.pointer (some (p 0))))) (first | assumption | (simp [*]; done)) (fail)
        all_goals
          go_wp2
          go_ret2
          exact ⟨hb1.drew, Or.inr ⟨fun n hn h => by have := HA.out n hn h; omega, rfl⟩⟩
      · have d1 : decide ((m : Int) < 0) = false := by simp
        have d2 : decide ((most : Int) < (m : Int)) = false := by simp; omega
        obtain ⟨q, HQ⟩ : ∃ q : ByteArray, Hid (q = ⟨(Lib.decDigits m).toArray⟩) := ⟨_, rfl⟩
        have HI : Hid (Calls Tryz.prog 50 #[.int .i64 m] w1 fun e w' => e = .returned (.string q) ∧ Below w1.heap.size w1 w') := by
          refine (Tryz.strconv_Itoa m (by omega) (by omega) w1 (HE.out.below hb1).p10).mono ?_
          rintro e w' ⟨rfl, k, os, rfl⟩
          exact ⟨by rw [Lib.itoa_nat, HQ.out], Lib.below_grow _ _ (Nat.le_refl _) k os⟩
        clear h1
        go_wp2_with fail
        refine HI.out.mono ?_
        rintro e w2 ⟨rfl, hb2⟩
        have hB2 := hb1.trans (hb2.mono hb1.size)
        replace c4 := cell_below hb2 c4
        by_cases h3 : q = t
        · have HD : Hid (Lib.decDigits m = t.data.toList) := by show _ = _; rw [← h3, HQ.out]
          have e1 : (q.toList == t.toList) = true := str_eq h3
          clear h3 HQ
          go_wp2
          go_ret2
          exact ⟨hB2, Or.inl ⟨m, by omega, HD.out, rfl⟩⟩
        · have HD : Hid (Lib.decDigits m ≠ t.data.toList) := fun h => h3 (by rw [HQ.out]; exact bytes_of_list (by simpa using h))
          have e1 : (q.toList == t.toList) = false := str_ne h3
          clear h3 HQ
          go_wp2_with fail
          go_region_held3 (fun w' => w'.cell? ⟨0, 0, none⟩ = some (.iface 150 (.pointer (some (p 0))))) (first | assumption | (simp [*]; done)) (fail)
          all_goals
            go_wp2
            go_ret2
            exact ⟨hB2.drew, Or.inr ⟨fun n hn h => by
              have := HA.out n hn h
              obtain rfl : n = m := by omega
              exact HD.out h, rfl⟩⟩
  | .«syntax» =>
    have HA : Hid (∀ n : Nat, n ≤ most → Lib.decDigits n ≠ t.data.toList) := fun n hn h => by
      rw [← h, atoi_dec n (by omega)] at hat
      cases hat
    obtain ⟨ea, hs⟩ := hE.syn
    have HC : Hid (Calls Tryz.prog 49 #[.string t] w fun e w' => ∃ N, e = .returned (.tuple #[.int .i64 0, .iface 118 (.pointer (some ⟨N, 0, none⟩))]) ∧ Below w.heap.size w w') := by
      refine (Tryz.strconv_Atoi_syntax t (by omega) hat _ w hs (Or.inr ⟨_, _, rfl⟩)).mono ?_
      rintro e w' ⟨N, rfl, _, _, hb⟩
      exact ⟨N, rfl, hb⟩
    clear hE hat hs
    go_enter Tryz.func29, Tryz.ntmps29
    go_wp2_with fail
    refine HC.out.mono ?_
    rintro e w1 ⟨N, rfl, hb1⟩
    replace c4 := cell_below hb1 c4
    go_wp2_with fail
    go_region_held3 (fun w' => w'.cell? ⟨0, 0, none⟩ = some (.iface 150 (.pointer (some (p 0))))) (first | assumption | (simp [*]; done)) (fail)
    all_goals
      go_wp2
      go_ret2
      exact ⟨hb1.drew, Or.inr ⟨HA.out, rfl⟩⟩
  | .range =>
    have HA : Hid (∀ n : Nat, n ≤ most → Lib.decDigits n ≠ t.data.toList) := fun n hn h => by
      rw [← h, atoi_dec n (by omega)] at hat
      cases hat
    obtain ⟨ea, hs⟩ := hE.rng
    have HC : Hid (Calls Tryz.prog 49 #[.string t] w fun e w' => ∃ N v, e = .returned (.tuple #[.int .i64 v, .iface 118 (.pointer (some ⟨N, 0, none⟩))]) ∧ Below w.heap.size w w') := by
      refine (Tryz.strconv_Atoi_range t (by omega) hat _ w hs (Or.inr ⟨_, _, rfl⟩)).mono ?_
      rintro e w' ⟨N, rfl, _, _, hb⟩
      exact ⟨N, _, rfl, hb⟩
    clear hE hat hs
    go_enter Tryz.func29, Tryz.ntmps29
    go_wp2_with fail
    refine HC.out.mono ?_
    rintro e w1 ⟨N, v, rfl, hb1⟩
    replace c4 := cell_below hb1 c4
    go_wp2_with fail
    go_region_held3 (fun w' => w'.cell? ⟨0, 0, none⟩ = some (.iface 150 (.pointer (some (p 0))))) (first | assumption | (simp [*]; done)) (fail)
    all_goals
      go_wp2
      go_ret2
      exact ⟨hb1.drew, Or.inr ⟨HA.out, rfl⟩⟩

theorem ubyte_le (l : List UInt8) : (ubyte l).2 ≤ l.length := by
  by_cases h : (ubyte l).2 = 0
  · omega
  · exact (ubyte_inv h).2
theorem flat_ge (l : List UInt8) : l.length ≤ (l.flatMap qbyte).length := by
  induction l with
  | nil => simp
  | cons u l ih =>
    have : 1 ≤ (qbyte u).length := by unfold qbyte; split <;> simp
    rw [List.flatMap_cons, List.length_append, List.length_cons]; omega

theorem ext_list (t : ByteArray) (a b : Nat) : (t.extract a b).data.toList = (t.data.toList.take b).drop a := by
  rw [ByteArray.data_extract, Array.toList_extract]
  simp [List.extract_eq_take_drop, List.drop_take]
theorem ext_size (t : ByteArray) (a b : Nat) : (t.extract a b).size = min b t.size - a := by
  rw [ByteArray.size_extract]
def strLen : Value → Nat
  | .string s => s.size
  | _ => 0
theorem toList_len (t : ByteArray) : t.data.toList.length = t.size := Array.length_toList
theorem quote_shape (t : ByteArray) (h : 2 ≤ t.size) : t.data.toList = [t[0]'(by omega)] ++ (t.extract 1 (t.size - 1)).data.toList ++ [t[t.size - 1]'(by omega)] := by
  rw [ext_list]
  obtain ⟨⟨l⟩⟩ := t
  change 2 ≤ l.length at h
  show l = [l[0]] ++ (l.take (l.length - 1)).drop 1 ++ [l[l.length - 1]]
  match l, h with
  | u :: r, h =>
    have hr : r ≠ [] := by rintro rfl; simp at h
    have e : r = r.dropLast ++ [r.getLast hr] := (List.dropLast_concat_getLast hr).symm
    have e1 : (u :: r)[(u :: r).length - 1] = r.getLast hr := by
      rw [List.getLast_eq_getElem]
      have : (u :: r).length - 1 = r.length - 1 + 1 := by simp at h ⊢; omega
      simp only [this, List.getElem_cons_succ]
    have e2 : ((u :: r).take ((u :: r).length - 1)).drop 1 = r.dropLast := by
      rw [show (u :: r).length - 1 = r.length - 1 + 1 from by simp at h ⊢; omega, List.take_succ_cons, List.drop_succ_cons, List.drop_zero, List.dropLast_eq_take]
    rw [e1, e2]
    show u :: r = u :: (r.dropLast ++ [r.getLast hr])
    rw [← e]
theorem quote_iff {t : ByteArray} (h : 2 ≤ t.size) {x : List UInt8} (hx : quoteL x = t.data.toList) : t[0]'(by omega) = 34 ∧ t[t.size - 1]'(by omega) = 34 ∧ x.flatMap qbyte = (t.extract 1 (t.size - 1)).data.toList := by
  rw [quote_shape t h] at hx
  unfold quoteL at hx
  have h1 := List.append_inj' hx (by simp)
  have h2 := List.append_inj h1.1 (by simp)
  exact ⟨(List.singleton_inj.1 h2.1).symm, (List.singleton_inj.1 h1.2).symm, h2.2⟩

set_option maxHeartbeats 1000000 in
theorem unquote_any (p : Nat → Addr) (t : ByteArray) (w : World) (hE : Env p w) (ht : t.size ≤ 1500000) :
    Calls Tryz.prog 52 #[.string t] w fun e w' => Below w.heap.size w w' ∧ ((∃ x : List UInt8, quoteL x = t.data.toList ∧ e = .returned (.tuple #[.string ⟨x.toArray⟩, .nilIface])) ∨ ((∀ x : List UInt8, quoteL x ≠ t.data.toList) ∧ e = .returned (.tuple #[.string ⟨#[]⟩, .iface 150 (.pointer (some (p 1)))]))) := by
  have c7 := hE.er 1 (by omega)
  have HE : Hid (Env p w) := hE
  clear hE
  by_cases h2 : t.size < 2
  · have HN : Hid (∀ x : List UInt8, quoteL x ≠ t.data.toList) := fun x h => by
      have := congrArg List.length h
      have e : t.data.toList.length = t.size := Array.length_toList
      simp [quoteL] at this; simp at e; omega
    have d1 : decide ((t.size : Int) < 2) = true := by simp; omega
    go_enter Tryz.func52, Tryz.ntmps52
    go_wp2_with fail
    go_region_held3 (fun w' => w'.cell? ⟨1, 0, none⟩ = some (.iface 150 (.pointer (some (p 1))))) (first | assumption | (simp [*]; done)) (fail)
    all_goals
      go_wp2
      go_ret2
      exact ⟨(Below.refl _ _).drew, Or.inr ⟨HN.out, rfl⟩⟩
  · have hl0 : 0 < t.size := by omega
    have hl1 : t.size - 1 < t.size := by omega
    have d1 : decide ((t.size : Int) < 2) = false := by simp; omega
    have hs1 : (t.size : Int) - 1 = ((t.size - 1 : Nat) : Int) := by omega
    by_cases ha : t[0] = 34
    · have d2 : ((t[0].toNat : Int) != 34) = false := by rw [ha]; rfl
      by_cases hb : t[t.size - 1] = 34
      · have d3 : ((t[t.size - 1].toNat : Int) != 34) = false := by rw [hb]; rfl
        have HY : Hid (∀ x : List UInt8, x.flatMap qbyte = (t.extract 1 (t.size - 1)).data.toList → quoteL x = t.data.toList) := fun x hx => by
          rw [quote_shape t (by omega), ha, hb]; unfold quoteL; rw [hx]
        have HX : Hid (∀ x : List UInt8, quoteL x = t.data.toList → x.flatMap qbyte = (t.extract 1 (t.size - 1)).data.toList) := fun x hx => (quote_iff (by omega) hx).2.2
        have hI0 := Lib.fresh_isBuilder 105 5 w
        have hb0 : Below w.heap.size w (w.alloc (.cells #[.pointer none, .slice none 0 0] 105)) := (Below.refl _ _).alloc (Nat.le_refl _) _
        have hil : (t.extract 1 (t.size - 1)).size ≤ 1500000 := by rw [ext_size]; omega
        go_enter Tryz.func52, Tryz.ntmps52
        go_wp2_with fail
        clear ha hb d1 d2 d3 hs1
        generalize hI : t.extract 1 (t.size - 1) = I at *
        clear hI
        go_loopw [5] (fun v wr => ∃ (s : ByteArray) (d : List UInt8), v = .string s ∧ Hid (d.flatMap qbyte ++ s.data.toList = I.data.toList) ∧ Hid (Lib.IsBuilder 105 5 w.heap.size w.heap.size (Lib.byteCells d) wr) ∧ Below w.heap.size w wr) (fun v _ => strLen v)
        case atStart => exact ⟨I, [], rfl, by show _ = _; simp, (show Lib.IsBuilder _ _ _ _ _ _ from by simpa [Lib.byteCells] using hI0), hb0⟩
        case round =>
          clear hI0 hb0
          obtain ⟨s, d, rfl, HS, HI, hB⟩ := hrel
          have hsz := hB.size
          have hlen : d.length + s.size ≤ 1500000 := by
            have e1 := congrArg List.length HS.out
            rw [List.length_append, toList_len, toList_len] at e1
            have := flat_ge d
            omega
          by_cases h0 : s.size = 0
          · have e0 : s.toList.isEmpty = true := by rw [empty_iff]; simp [h0]
            have HD : Hid (d.flatMap qbyte = I.data.toList) := by
              show _ = _
              have e2 : s.data.toList = [] := List.eq_nil_of_length_eq_zero (by rw [toList_len]; exact h0)
              rw [← HS.out, e2, List.append_nil]
            go_wp2_with fail
            refine (Tryz.Builder_String_any w.heap.size w.heap.size _ _ HI.out hsz).mono ?_
            rintro e w3 ⟨rfl, hb3⟩
            go_wp2
            go_ret2
            exact ⟨hB.trans hb3, Or.inl ⟨d, HY.out d HD.out, rfl⟩⟩
          · have e0 : s.toList.isEmpty = false := by rw [empty_iff]; simp [h0]
            have hs0 : 0 < s.size := by omega
            have HC : Hid (∀ w, Calls Tryz.prog 70 #[.string s] w fun e w' => e = .returned (.tuple #[.int .u8 (ubyte s.data.toList).1.toNat, .int .i64 ((ubyte s.data.toList).2 : Nat)]) ∧ Below w.heap.size w w') := fun w => unquoteByte_any s w hs0 (by omega)
            by_cases hz : (ubyte s.data.toList).2 = 0
            · have HN : Hid (∀ x : List UInt8, quoteL x ≠ t.data.toList) := fun x hx => by
                have h1 := HX.out x hx
                rw [← HS.out] at h1
                exact unq_fail hz (fun e => h0 (by rw [← toList_len, e]; rfl)) h1
              rw [hz] at HC
              generalize (ubyte s.data.toList).1 = u at *
              clear hz
              go_wp2_with fail
              refine (HC.out _).mono ?_
              rintro e w2 ⟨rfl, hb2⟩
              have hB2 := hB.trans (hb2.mono hsz)
              have c7' := cell_below hB2 c7
              clear c7
              go_wp2_with fail
              go_region_held3 (fun w' => w'.cell? ⟨1, 0, none⟩ = some (.iface 150 (.pointer (some (p 1))))) (first | assumption | (simp [*]; done)) (fail)
              all_goals
                go_wp2
                go_ret2
                exact ⟨hB2.drew, Or.inr ⟨HN.out, rfl⟩⟩
            · have HS2 : Hid ((d ++ [(ubyte s.data.toList).1]).flatMap qbyte ++ (s.extract (ubyte s.data.toList).2 s.size).data.toList = I.data.toList) := by
                show _ = _
                rw [ext_list, show s.data.toList.take s.size = s.data.toList from List.take_of_length_le (by rw [toList_len]; omega)]
                exact unq_step HS.out hz
              have hle := ubyte_le s.data.toList
              rw [toList_len] at hle
              have hex := ext_size s (ubyte s.data.toList).2 s.size
              generalize (ubyte s.data.toList).2 = n at *
              generalize (ubyte s.data.toList).1 = u at *
              have dz : decide ((n : Int) = 0) = false := by simp; omega
              have hn0 : (n : Int) ≠ 0 := by omega
              clear hz
              go_wp2_with fail
              refine (HC.out _).mono ?_
              rintro e w2 ⟨rfl, hb2⟩
              have hB2 := hB.trans (hb2.mono hsz)
              have hs2 := hB2.size
              have HI2 := builder_below HI.out hb2
              have hbl : (Lib.byteCells d).length = d.length := by simp [Lib.byteCells]
              go_wp2_with fail
              refine (writeByte_any w.heap.size w.heap.size _ _ _ HI2 (by omega) hs2).mono ?_
              rintro e w3 ⟨rfl, hI3, hb3⟩
              have hB3 := hB2.trans hb3
              have HI3 : Hid (Lib.IsBuilder 105 5 w.heap.size w.heap.size (Lib.byteCells (d ++ [u])) w3) := by
                show Lib.IsBuilder _ _ _ _ _ _
                rw [byte_snoc] at hI3; exact hI3
              clear hI3 HI2 hb3 hb2 hB2 hB
              go_wp2
              go_roundw
              case rel => exact ⟨_, d ++ [u], rfl, HS2.out, HI3.out, hB3⟩
              case measure => simp [strLen]; omega
      · have HN : Hid (∀ x : List UInt8, quoteL x ≠ t.data.toList) := fun x hx => hb (quote_iff (by omega) hx).2.1
        have d3 : ((t[t.size - 1].toNat : Int) != 34) = true := by
          rw [bne_iff_ne]; intro e; exact hb (UInt8.toNat_inj.1 (by show _ = 34; omega))
        clear ha hb
        go_enter Tryz.func52, Tryz.ntmps52
        go_wp2_with fail
        go_region_held3 (fun w' => w'.cell? ⟨1, 0, none⟩ = some (.iface 150 (.pointer (some (p 1))))) (first | assumption | (simp [*]; done)) (fail)
        all_goals
          go_wp2
          go_ret2
          exact ⟨(Below.refl _ _).drew, Or.inr ⟨HN.out, rfl⟩⟩
    · have HN : Hid (∀ x : List UInt8, quoteL x ≠ t.data.toList) := fun x hx => ha (quote_iff (by omega) hx).1
      have d2 : ((t[0].toNat : Int) != 34) = true := by
        rw [bne_iff_ne]; intro e; exact ha (UInt8.toNat_inj.1 (by show _ = 34; omega))
      clear ha
      go_enter Tryz.func52, Tryz.ntmps52
      go_wp2_with fail
      go_region_held3 (fun w' => w'.cell? ⟨1, 0, none⟩ = some (.iface 150 (.pointer (some (p 1))))) (first | assumption | (simp [*]; done)) (fail)
      all_goals
        go_wp2
        go_ret2
        exact ⟨(Below.refl _ _).drew, Or.inr ⟨HN.out, rfl⟩⟩

theorem rd_is {l : List UInt8} {o : Nat} (h1 : 1 ≤ o) (h2 : o ≤ 15) (hw : (wordB o).data.toList = (cutL 32 l).1) {j : I3} (hj : insOk j = true) (hl : lineL j = l) :
    j.op = o ∧ opnd j = (cutL 32 l).2.1 ∧ decide (kindOf o ≠ 0) = (cutL 32 l).2.2 := by
  subst hl
  have hc := cut_line hj
  obtain ⟨q, hq, q1, q2⟩ := ok_op hj
  rw [hc] at hw ⊢
  have e := word_inj o (by omega) _ (by omega) hw
  have : j.op = o := by omega
  exact ⟨this, rfl, by rw [this]⟩
theorem line_of {l : List UInt8} {o : Nat} {t : ByteArray} {n : Int} (hw : (wordB o).data.toList = (cutL 32 l).1) (hf : (cutL 32 l).2.2 = decide (kindOf o ≠ 0)) (ho : opnd ⟨o, t, n⟩ = (cutL 32 l).2.1) : lineL ⟨o, t, n⟩ = l := by
  unfold lineL
  unfold opnd at ho
  simp only [Int.toNat_natCast] at ho ⊢
  by_cases h0 : kindOf o = 0
  · have hf' : (cutL 32 l).2.2 = false := by rw [hf]; simp [h0]
    have h1 : ¬ kindOf o = 1 := by rw [h0]; decide
    rw [if_neg h1, if_pos h0, List.append_nil, hw]
    exact (cutL_no hf').1
  · have hf' : (cutL 32 l).2.2 = true := by rw [hf]; simp [h0]
    rw [cutL_yes hf', hw]
    have e : (cutL 32 ((cutL 32 l).1 ++ 32 :: (cutL 32 l).2.1)).2.1 = (cutL 32 l).2.1 := by rw [← cutL_yes hf']
    congr 1
    by_cases h1 : kindOf o = 1
    · rw [if_pos h1] at ho ⊢
      rw [ho]
    · rw [if_neg h1, if_neg h0] at ho ⊢
      rw [ho]
theorem quote_inj {x y : List UInt8} (h : quoteL x = quoteL y) : x = y := by
  unfold quoteL at h
  have h1 := List.append_inj' h (by simp)
  have h2 := List.append_cancel_left h1.1
  have := loose_q x
  rw [h2, loose_q] at this
  exact this.symm
theorem rd_no_word {l : List UInt8} (h : ∀ o : Nat, 1 ≤ o → o ≤ 15 → (wordB o).data.toList ≠ (cutL 32 l).1) : rd l = none := rd_none fun j hj hl => by
  subst hl
  obtain ⟨q, hq, q1, q2⟩ := ok_op hj
  refine h q q1 q2 ?_
  rw [cut_line hj, hq]; rfl
theorem rd_no_space {l : List UInt8} {o : Nat} (h1 : 1 ≤ o) (h2 : o ≤ 15) (hw : (wordB o).data.toList = (cutL 32 l).1) (hf : (cutL 32 l).2.2 ≠ decide (kindOf o ≠ 0)) : rd l = none := rd_none fun j hj hl => by
  exact hf (rd_is h1 h2 hw hj hl).2.2.symm
theorem ok_bare {o : Nat} (h1 : 1 ≤ o) (h2 : o ≤ 15) (hk : kindOf o = 0) : insOk ⟨o, ⟨#[]⟩, 0⟩ = true := by
  rw [insOk_in o _ _ h1 h2, hk]; decide
theorem ok_text {o : Nat} (h1 : 1 ≤ o) (h2 : o ≤ 15) (hk : kindOf o = 1) {t : ByteArray} (ht : t.size ≤ 2000) : insOk ⟨o, t, 0⟩ = true := by
  rw [insOk_in o _ _ h1 h2, hk]
  simp [mostT, mostN]; omega
theorem ok_num {o : Nat} (h1 : 1 ≤ o) (h2 : o ≤ 15) {n : Nat} (hn : (n : Int) ≤ mostN (kindOf o)) : insOk ⟨o, ⟨#[]⟩, n⟩ = true := by
  rw [insOk_in o _ _ h1 h2]
  have : (0 : Int) ≤ mostT (kindOf o) := by unfold mostT; split <;> omega
  simp only [Bool.and_eq_true, decide_eq_true_eq]
  exact ⟨⟨this, by omega⟩, hn⟩
theorem rd_bare {l : List UInt8} {o : Nat} (h1 : 1 ≤ o) (h2 : o ≤ 15) (hw : (wordB o).data.toList = (cutL 32 l).1) (hk : kindOf o = 0) (hf : (cutL 32 l).2.2 = false) : rd l = some ⟨o, ⟨#[]⟩, 0⟩ :=
  rd_some (ok_bare h1 h2 hk) (line_of hw (by rw [hf]; simp [hk]) (by rw [(cutL_no hf).2]; simp [opnd, hk]))
theorem rd_text {l : List UInt8} {o : Nat} (h1 : 1 ≤ o) (h2 : o ≤ 15) (hw : (wordB o).data.toList = (cutL 32 l).1) (hk : kindOf o = 1) (hf : (cutL 32 l).2.2 = true) {x : List UInt8} (hx : quoteL x = (cutL 32 l).2.1) :
    (x.length ≤ 2000 → rd l = some ⟨o, ⟨x.toArray⟩, 0⟩) ∧ (2000 < x.length → rd l = none) := by
  refine ⟨fun hl => rd_some (ok_text h1 h2 hk (by rw [bytes_size]; exact hl)) (line_of hw (by rw [hf]; simp [hk]) (by simp [opnd, hk, hx])), fun hl => rd_none fun j hj hjl => ?_⟩
  obtain ⟨a, b, _⟩ := rd_is h1 h2 hw hj hjl
  rw [← hx] at b
  simp only [opnd, a, hk, if_true] at b
  have e := quote_inj b
  simp only [insOk, Bool.and_eq_true, decide_eq_true_eq, a, hk, mostT, if_true] at hj
  have := hj.1.1.2
  rw [← toList_len, e] at this
  omega
theorem rd_no_text {l : List UInt8} {o : Nat} (h1 : 1 ≤ o) (h2 : o ≤ 15) (hw : (wordB o).data.toList = (cutL 32 l).1) (hk : kindOf o = 1) (hx : ∀ x, quoteL x ≠ (cutL 32 l).2.1) : rd l = none := rd_none fun j hj hjl => by
  obtain ⟨a, b, _⟩ := rd_is h1 h2 hw hj hjl
  simp only [opnd, a, hk, if_true] at b
  exact hx _ b
theorem rd_num {l : List UInt8} {o : Nat} (h1 : 1 ≤ o) (h2 : o ≤ 15) (hw : (wordB o).data.toList = (cutL 32 l).1) (hk : kindOf o = 2 ∨ kindOf o = 3) (hf : (cutL 32 l).2.2 = true) {n : Nat} (hn : (n : Int) ≤ mostN (kindOf o)) (hx : Lib.decDigits n = (cutL 32 l).2.1) : rd l = some ⟨o, ⟨#[]⟩, n⟩ := by
  have k0 : kindOf o ≠ 0 := by rcases hk with h | h <;> rw [h] <;> decide
  have k1 : kindOf o ≠ 1 := by rcases hk with h | h <;> rw [h] <;> decide
  refine rd_some (ok_num h1 h2 hn) (line_of hw (by rw [hf]; simp [k0]) ?_)
  simp [opnd, k0, k1, hx]
theorem rd_no_num {l : List UInt8} {o : Nat} (h1 : 1 ≤ o) (h2 : o ≤ 15) (hw : (wordB o).data.toList = (cutL 32 l).1) (hk : kindOf o = 2 ∨ kindOf o = 3) (hx : ∀ n : Nat, (n : Int) ≤ mostN (kindOf o) → Lib.decDigits n ≠ (cutL 32 l).2.1) : rd l = none := rd_none fun j hj hjl => by
  have k0 : kindOf o ≠ 0 := by rcases hk with h | h <;> rw [h] <;> decide
  have k1 : kindOf o ≠ 1 := by rcases hk with h | h <;> rw [h] <;> decide
  obtain ⟨a, b, _⟩ := rd_is h1 h2 hw hj hjl
  simp only [opnd, a, k0, k1, if_false] at b
  simp only [insOk, Bool.and_eq_true, decide_eq_true_eq, a] at hj
  exact hx j.n.toNat (by omega) b

end Go.Proofs.YtikdgmmloiegjaaGreatDoor
