import Derived.Test.YtmanoabocelpeaaGreatDoorTChkT
namespace Go.Proofs.YtmanoabocelpeaaGreatDoor
open Go.RowKit
set_option linter.unusedVariables false
set_option maxHeartbeats 8000000
set_option maxRecDepth 100000
def Kp (w : World) (v1 v2 : Value) (wr : World) : Prop := Below w.heap.size w wr /\ wr.cell? ⟨w.heap.size, 0, none⟩ = some v1 /\ wr.cell? ⟨w.heap.size, 1, none⟩ = some v2
theorem Kp.below {w wr w' : World} {v1 v2 : Value} (h : Kp w v1 v2 wr) (hb : Below wr.heap.size wr w') : Kp w v1 v2 w' := ⟨bt h.1 hb, cell_below hb h.2.1, cell_below hb h.2.2⟩
theorem allN_bad_s {ss : List S2} {k : Nat} (hk : k < ss.length) (h : nameB (sx ss k).name = false) : ¬ AllN (snames ss) := fun hh => by
 have := hh k (by rw [snames_length]; exact hk)
 rw [nx_snames, h] at this; cases this
theorem allN_bad_t {ss : List T2} {k : Nat} (hk : k < ss.length) (h : nameB (tx ss k).name = false) : ¬ AllN (tnames ss) := fun hh => by
 have := hh k (by rw [tnames_length]; exact hk)
 rw [nx_tnames, h] at this; cases this
theorem acts_step {ts : List T2} {k : Nat} {v : Int} (h : (v = 0 /\ ∀ j, j < k -> progOk (tx ts j).code = true) \/ (v = 7 /\ ∃ j, j < k /\ progOk (tx ts j).code = false)) (hk : progOk (tx ts k).code = true) : (v = 0 /\ ∀ j, j < k + 1 -> progOk (tx ts j).code = true) \/ (v = 7 /\ ∃ j, j < k + 1 /\ progOk (tx ts j).code = false) := by
 rcases h with ⟨rfl, h⟩ | ⟨rfl, j, hj, h⟩
 ·exact Or.inl ⟨rfl, ext_succ h hk⟩
 ·exact Or.inr ⟨rfl, j, by omega, h⟩
theorem acts_end {ss : List S2} {ts : List T2} {k : Nat} {v : Int} (h1 : ¬ 200 < ss.length + ts.length) (h2 : AllN (snames ss) /\ AllN (tnames ts)) (h3 : Asc (snames ss)) (h4 : Asc (tnames ts)) (h5 : ¬ Share (snames ss) (tnames ts)) (h6 : TextsOk ss) (hk : k = ts.length) (h : (v = 0 /\ ∀ j, j < k -> progOk (tx ts j).code = true) \/ (v = 7 /\ ∃ j, j < k /\ progOk (tx ts j).code = false)) : chk ss ts = v := by
 subst hk
 rcases h with ⟨rfl, h⟩ | ⟨rfl, j, hj, h⟩
 ·exact chk0 h1 h2 h3 h4 h5 h6 h
 ·exact chk7 h1 h2 h3 h4 h5 h6 (fun hh => by rw [hh j hj] at h; cases h)
theorem specCheck_any (sa ta : Option Addr) (c1 c2 : Nat) (ss : List S2) (ts : List T2) (w : World) (h : SpOk w sa ss ta ts) (hsm : SpSmall ss ts) :
  Calls Tryz.prog 12 #[.agg #[.slice sa ss.length c1, .slice ta ts.length c2]] w fun e w' => Below w.heap.size w w' /\ e = .returned (.int .i64 (chk ss ts)) := by
 have hb0 : Below w.heap.size w (w.alloc (.cells #[.slice sa ss.length c1, .slice ta ts.length c2] 26)) := (Below.refl _ _).alloc (Nat.le_refl _) _
 obtain ⟨rs, rt, ls, lt, ns, xs, nt, lc, xt⟩ := h
 obtain ⟨l1, l2, l3⟩ := hsm
 have hkp : Kp w (.slice sa ss.length c1) (.slice ta ts.length c2) (w.alloc (.cells #[.slice sa ss.length c1, .slice ta ts.length c2] 26)) := ⟨hb0, by simp [go_sem], by simp [go_sem]⟩
 by_cases hbig : 200 < ss.length + ts.length
 ·have HC : Hid (chk ss ts = 1) := chk1 hbig
  clear rs rt ns xs nt lc xt l3
  go_enter Tryz.func12, Tryz.ntmps12
  go_wp2
  go_ret
  exact ⟨hb0, by rw [HC.out]; rfl⟩
 ·have HBIG : Hid (¬ 200 < ss.length + ts.length) := hbig
  have RS : Hid (RowS w sa ss) := rs
  have RT : Hid (RowT w ta ts) := rt
  have NS : Hid (∀ i, (sx ss i).name.size <= 9223372036854775807) := ns
  have NT : Hid (∀ i, (tx ts i).name.size <= 9223372036854775807) := nt
  have XS : Hid (∀ i, (sx ss i).text.size <= 9223372036854775807) := xs
  have XT : Hid (∀ i j, (ix (tx ts i).code j).text.size <= 9223372036854775807) := xt
  have L3 : Hid (∀ i, i < ts.length -> (tx ts i).code.length <= 1048576) := l3
  clear rs rt ns xs nt lc xt l3 hb0
  go_enter Tryz.func12, Tryz.ntmps12
  go_wp2
  go_loopw [5] (fun i wr => ∃ k : Nat, k <= ss.length /\ i = .int .i64 k /\ Hid (∀ j, j < k -> nameB (sx ss j).name = true) /\ Hid (Kp w (.slice sa ss.length c1) (.slice ta ts.length c2) wr)) (fun i _ => ss.length - (intOf i).toNat)
  case atStart => exact ⟨0, Nat.zero_le _, rfl, (fun j hj => by omega : ∀ j, j < 0 -> nameB (sx ss j).name = true), hkp⟩
  case round =>
   obtain ⟨k, hk, rfl, HA, HK⟩ := hrel
   obtain ⟨hbel, k0, k1⟩ := HK.out
   by_cases hlt : k < ss.length
   ·obtain ⟨b, off, rfl, d1, d2⟩ := (RS.out.below hbel) k hlt
    have hsk := NS.out k
    have hkI : (k : Int) < (ss.length : Int) := by omega
    obtain ⟨v, hv⟩ : ∃ v, nameB (sx ss k).name = v := ⟨_, rfl⟩
    have HV : Hid (nameB (sx ss k).name = v) := hv
    have HN : Hid (∀ W : World, Calls Tryz.prog 13 #[.string (sx ss k).name] W fun e w' => e = .returned (.bool v) /\ W = w') := fun W => by rw [<- hv]; exact l2NameOk_any _ W hsk
    clear hv d2 hsk
    generalize (sx ss k).name = s at d1 HN
    cases v
    ·have HC : Hid (chk ss ts = 2) := chk2 HBIG.out (fun h => allN_bad_s hlt HV.out h.1)
     go_wp2_with (go_at_call 13; refine (HN.out _).mono ?_; rintro e w' ⟨rfl, rfl⟩)
     go_ret
     exact ⟨hbel, by rw [HC.out]; rfl⟩
    ·go_wp2_with (go_at_call 13; refine (HN.out _).mono ?_; rintro e w' ⟨rfl, rfl⟩)
     go_roundw
     case rel => exact ⟨k + 1, by omega, by go_num, ext_succ HA.out HV.out, HK.out⟩
     case measure => simp [intOf]; omega
   ·have HA1 : Hid (AllN (snames ss)) := fun j hj => by rw [nx_snames]; rw [snames_length] at hj; exact HA.out j (by omega)
    clear HA
    go_wp2
    go_loopw [6] (fun i wr => ∃ k : Nat, k <= ts.length /\ i = .int .i64 k /\ Hid (∀ j, j < k -> nameB (tx ts j).name = true) /\ Hid (Kp w (.slice sa ss.length c1) (.slice ta ts.length c2) wr)) (fun i _ => ts.length - (intOf i).toNat)
    case atStart => exact ⟨0, Nat.zero_le _, rfl, (fun j hj => by omega : ∀ j, j < 0 -> nameB (tx ts j).name = true), HK.out⟩
    case round =>
     clear HK hbel k0 k1
     obtain ⟨k', hk', rfl, HA, HK⟩ := hrel
     obtain ⟨hbel, k0, k1⟩ := HK.out
     by_cases hlt : k' < ts.length
     ·obtain ⟨b, off, rfl, d1, x, p, d2, d3⟩ := (RT.out.below hbel) k' hlt
      have hsk := NT.out k'
      have hkI : (k' : Int) < (ts.length : Int) := by omega
      obtain ⟨v, hv⟩ : ∃ v, nameB (tx ts k').name = v := ⟨_, rfl⟩
      have HV : Hid (nameB (tx ts k').name = v) := hv
      have HN : Hid (∀ W : World, Calls Tryz.prog 13 #[.string (tx ts k').name] W fun e w' => e = .returned (.bool v) /\ W = w') := fun W => by rw [<- hv]; exact l2NameOk_any _ W hsk
      clear hv d2 d3 hsk
      generalize (tx ts k').name = s at d1 HN
      cases v
      ·have HC : Hid (chk ss ts = 2) := chk2 HBIG.out (fun h => allN_bad_t hlt HV.out h.2)
       go_wp2_with (go_at_call 13; refine (HN.out _).mono ?_; rintro e w' ⟨rfl, rfl⟩)
       go_ret
       exact ⟨hbel, by rw [HC.out]; rfl⟩
      ·go_wp2_with (go_at_call 13; refine (HN.out _).mono ?_; rintro e w' ⟨rfl, rfl⟩)
       go_roundw
       case rel => exact ⟨k' + 1, by omega, by go_num, ext_succ HA.out HV.out, HK.out⟩
       case measure => simp [intOf]; omega
     ·have H2 : Hid (AllN (snames ss) /\ AllN (tnames ts)) := ⟨HA1.out, fun j hj => by rw [nx_tnames]; rw [tnames_length] at hj; exact HA.out j (by omega)⟩
      clear HA HA1
      go_wp2
      go_loopw [7] (fun i wr => ∃ m : Nat, (m = 0 \/ m + 1 <= ss.length) /\ i = .int .i64 (m + 1) /\ Hid (∀ j, 1 <= j -> j < m + 1 -> lessB (nx (snames ss) (j - 1)) (nx (snames ss) j) = true) /\ Hid (Kp w (.slice sa ss.length c1) (.slice ta ts.length c2) wr)) (fun i _ => ss.length + 1 - (intOf i).toNat)
      case atStart => exact ⟨0, Or.inl rfl, rfl, (fun j h1 h2 => by omega : ∀ j, 1 <= j -> j < 0 + 1 -> lessB (nx (snames ss) (j - 1)) (nx (snames ss) j) = true), HK.out⟩
      case round =>
       clear HK hbel k0 k1
       obtain ⟨m, hm, rfl, HA, HK⟩ := hrel
       obtain ⟨hbel, k0, k1⟩ := HK.out
       by_cases hlt : m + 1 < ss.length
       ·obtain ⟨b, off, rfl, d1, q1⟩ := (RS.out.below hbel) m (by omega)
        obtain ⟨b', off', e', d2, q2⟩ := (RS.out.below hbel) (m + 1) hlt
        simp only [Option.some.injEq, Addr.mk.injEq, and_true] at e'
        obtain ⟨rfl, rfl⟩ := e'
        rw [<- nx_snames] at d1 d2
        clear q1 q2
        obtain ⟨v, hv⟩ : ∃ v, lessB (nx (snames ss) m) (nx (snames ss) (m + 1)) = v := ⟨_, rfl⟩
        have HV : Hid (lessB (nx (snames ss) m) (nx (snames ss) (m + 1)) = v) := hv
        unfold lessB at hv
        generalize nx (snames ss) m = s at d1 hv
        generalize nx (snames ss) (m + 1) = s' at d2 hv
        have hltI : (m : Int) + 1 < (ss.length : Int) := by omega
        cases v
        ·have HC : Hid (chk ss ts = 3) := chk3 HBIG.out H2.out (fun h => by have := h (m + 1) (by omega) (by rw [snames_length]; exact hlt); rw [Nat.add_sub_cancel, HV.out] at this; cases this)
         go_wp2
         go_region
         all_goals
          go_wp2
          go_ret
          exact ⟨by repeat (first | exact hbel | apply Below.drew), by rw [HC.out]; rfl⟩
        ·have HD : Hid (Kp w _ _ wr.drew) := HK.out.below (Below.refl _ _).drew
         go_wp2
         go_region
         all_goals
          go_wp2
          go_roundw
          case rel => exact ⟨m + 1, by omega, by go_num, ascending_step HA.out HV.out, HD.out⟩
          case measure => simp [intOf]; omega
       ·have H3 : Hid (Asc (snames ss)) := fun j h1 h2 => by rw [snames_length] at h2; exact HA.out j h1 (by omega)
        clear HA
        go_wp2
        go_loopw [8] (fun i wr => ∃ m : Nat, (m = 0 \/ m + 1 <= ts.length) /\ i = .int .i64 (m + 1) /\ Hid (∀ j, 1 <= j -> j < m + 1 -> lessB (nx (tnames ts) (j - 1)) (nx (tnames ts) j) = true) /\ Hid (Kp w (.slice sa ss.length c1) (.slice ta ts.length c2) wr)) (fun i _ => ts.length + 1 - (intOf i).toNat)
        case atStart => exact ⟨0, Or.inl rfl, rfl, (fun j h1 h2 => by omega : ∀ j, 1 <= j -> j < 0 + 1 -> lessB (nx (tnames ts) (j - 1)) (nx (tnames ts) j) = true), HK.out⟩
        case round =>
         clear HK hbel k0 k1
         obtain ⟨m, hm, rfl, HA, HK⟩ := hrel
         obtain ⟨hbel, k0, k1⟩ := HK.out
         by_cases hlt : m + 1 < ts.length
         ·obtain ⟨b, off, rfl, d1, x1, p1, q1, r1⟩ := (RT.out.below hbel) m (by omega)
          obtain ⟨b', off', e', d2, x2, p2, q2, r2⟩ := (RT.out.below hbel) (m + 1) hlt
          simp only [Option.some.injEq, Addr.mk.injEq, and_true] at e'
          obtain ⟨rfl, rfl⟩ := e'
          rw [<- nx_tnames] at d1 d2
          clear q1 r1 q2 r2
          obtain ⟨v, hv⟩ : ∃ v, lessB (nx (tnames ts) m) (nx (tnames ts) (m + 1)) = v := ⟨_, rfl⟩
          have HV : Hid (lessB (nx (tnames ts) m) (nx (tnames ts) (m + 1)) = v) := hv
          unfold lessB at hv
          generalize nx (tnames ts) m = s at d1 hv
          generalize nx (tnames ts) (m + 1) = s' at d2 hv
          have hltI : (m : Int) + 1 < (ts.length : Int) := by omega
          cases v
          ·have HC : Hid (chk ss ts = 4) := chk4 HBIG.out H2.out H3.out (fun h => by have := h (m + 1) (by omega) (by rw [tnames_length]; exact hlt); rw [Nat.add_sub_cancel, HV.out] at this; cases this)
           go_wp2
           go_region
           all_goals
            go_wp2
            go_ret
            exact ⟨by repeat (first | exact hbel | apply Below.drew), by rw [HC.out]; rfl⟩
          ·have HD : Hid (Kp w _ _ wr.drew) := HK.out.below (Below.refl _ _).drew
           go_wp2
           go_region
           all_goals
            go_wp2
            go_roundw
            case rel => exact ⟨m + 1, by omega, by go_num, ascending_step HA.out HV.out, HD.out⟩
            case measure => simp [intOf]; omega
         ·have H4 : Hid (Asc (tnames ts)) := fun j h1 h2 => by rw [tnames_length] at h2; exact HA.out j h1 (by omega)
          clear HA
          go_wp2
          go_loopw [9] (fun i wr => ∃ k : Nat, k <= ss.length /\ i = .int .i64 k /\ Hid (∀ j, j < k -> ¬ Has (tnames ts) (sx ss j).name) /\ Hid (Kp w (.slice sa ss.length c1) (.slice ta ts.length c2) wr)) (fun i _ => ss.length - (intOf i).toNat)
          case atStart => exact ⟨0, Nat.zero_le _, rfl, (fun j hj => by omega : ∀ j, j < 0 -> ¬ Has (tnames ts) (sx ss j).name), HK.out⟩
          case round =>
           clear HK hbel k0 k1
           obtain ⟨k5, hk5, rfl, HA, HK⟩ := hrel
           obtain ⟨hbel, k0, k1⟩ := HK.out
           by_cases hlt : k5 < ss.length
           ·obtain ⟨b, off, rfl, d1, d2⟩ := (RS.out.below hbel) k5 hlt
            have hkI : (k5 : Int) < (ss.length : Int) := by omega
            obtain ⟨s, es⟩ : ∃ s, (sx ss k5).name = s := ⟨_, rfl⟩
            have ES : Hid ((sx ss k5).name = s) := es
            rw [es] at d1
            clear es d2
            have hbd : Below wr.heap.size wr wr.drew := (Below.refl _ _).drew
            have RTd : Hid (RowT wr.drew ta ts) := (RT.out.below hbel).below hbd
            clear hbd
            go_wp2_with fail
            go_region_held3 (fun w' => w'.cell? ⟨w.heap.size, 0, none⟩ = some (.slice (some ⟨b, off, none⟩) ss.length c1) /\ w'.cell? ⟨w.heap.size, 1, none⟩ = some (.slice ta ts.length c2) /\ w'.cell? ⟨b, off + k5 * 2, none⟩ = some (.string s))
             (first | assumption | (simp [*]; done) | exact ⟨cell_below hb1 (by simp [*]), cell_below hb1 (by simp [*]), cell_below hb1 (by simp [*])⟩)
             (first | (go_at_call 28; refine (l3Target_any (some ⟨b, off, none⟩) ta ss.length c1 c2 ts s _ RTd.out l2).mono ?_; rintro e w1 ⟨hb1, r, rfl, hr⟩))
            all_goals
             have HD : Hid (Kp w (.slice (some ⟨b, off, none⟩) ss.length c1) (.slice ta ts.length c2) w1) := (HK.out.below (Below.refl _ _).drew).below hb1
             rcases hr with ⟨hr, hh⟩ | ⟨hr, hh⟩
             ·have HC : Hid (chk ss ts = 5) := chk5 HBIG.out H2.out H3.out H4.out ⟨k5, by rw [snames_length]; exact hlt, by rw [nx_snames, ES.out]; exact hh⟩
              clear hh
              go_wp2
              go_ret
              exact ⟨HD.out.1, by rw [HC.out]; rfl⟩
             ·have HNo : Hid (¬ Has (tnames ts) s) := hh
              clear hh
              go_wp2
              go_roundw
              case rel => exact ⟨k5 + 1, by omega, by go_num, ext_succ HA.out (by rw [ES.out]; exact HNo.out), HD.out⟩
              case measure => simp [intOf]; omega
           ·have H5 : Hid (¬ Share (snames ss) (tnames ts)) := fun ⟨j, hj, hh⟩ => by rw [snames_length] at hj; rw [nx_snames] at hh; exact HA.out j (by omega) hh
            clear HA
            go_wp2
            go_loopw [10] (fun i wr => ∃ k : Nat, k <= ss.length /\ i = .int .i64 k /\ Hid (∀ j, j < k -> (sx ss j).text.size <= 2000) /\ Hid (Kp w (.slice sa ss.length c1) (.slice ta ts.length c2) wr)) (fun i _ => ss.length - (intOf i).toNat)
            case atStart => exact ⟨0, Nat.zero_le _, rfl, (fun j hj => by omega : ∀ j, j < 0 -> (sx ss j).text.size <= 2000), HK.out⟩
            case round =>
             clear HK hbel k0 k1
             obtain ⟨k6, hk6, rfl, HA, HK⟩ := hrel
             obtain ⟨hbel, k0, k1⟩ := HK.out
             by_cases hlt : k6 < ss.length
             ·obtain ⟨b, off, rfl, d1, d2⟩ := (RS.out.below hbel) k6 hlt
              have hkI : (k6 : Int) < (ss.length : Int) := by omega
              have hsk := XS.out k6
              obtain ⟨s, es⟩ : ∃ s, (sx ss k6).text = s := ⟨_, rfl⟩
              have ES : Hid ((sx ss k6).text = s) := es
              rw [es] at d2 hsk
              clear es d1
              by_cases hts : s.size <= 2000
              ·go_wp2
               go_roundw
               case rel => exact ⟨k6 + 1, by omega, by go_num, ext_succ HA.out (by rw [ES.out]; exact hts), HK.out⟩
               case measure => simp [intOf]; omega
              ·have HC : Hid (chk ss ts = 6) := chk6 HBIG.out H2.out H3.out H4.out H5.out (fun h => by have := h k6 hlt; rw [ES.out] at this; omega)
               go_wp2
               go_ret
               exact ⟨hbel, by rw [HC.out]; rfl⟩
             ·have H6 : Hid (TextsOk ss) := fun j hj => HA.out j (by omega)
              clear HA
              go_wp2
              go_loopw [4, 11] (fun x i wr => ∃ k : Nat, ∃ v : Int, k <= ts.length /\ x = .int .i64 v /\ i = .int .i64 k /\ Hid ((v = 0 /\ ∀ j, j < k -> progOk (tx ts j).code = true) \/ (v = 7 /\ ∃ j, j < k /\ progOk (tx ts j).code = false)) /\ Hid (Kp w (.slice sa ss.length c1) (.slice ta ts.length c2) wr)) (fun _ i _ => ts.length - (intOf i).toNat)
              case atStart => exact ⟨0, 0, Nat.zero_le _, rfl, rfl, (Or.inl ⟨rfl, fun j hj => by omega⟩ : ((0 : Int) = 0 /\ ∀ j, j < 0 -> progOk (tx ts j).code = true) \/ ((0 : Int) = 7 /\ ∃ j, j < 0 /\ progOk (tx ts j).code = false)), HK.out⟩
              case round =>
               clear HK hbel k0 k1
               obtain ⟨k7, v7, hk7, rfl, rfl, HA, HK⟩ := hrel
               obtain ⟨hbel, k0, k1⟩ := HK.out
               by_cases hlt : k7 < ts.length
               ·obtain ⟨b, off, rfl, d1, x, p, d2, d3⟩ := (RT.out.below hbel) k7 hlt
                have hkI : (k7 : Int) < (ts.length : Int) := by omega
                have hck := L3.out k7 hlt
                have hxk := XT.out k7
                obtain ⟨i, ei⟩ : ∃ i, (tx ts k7).code = i := ⟨_, rfl⟩
                have EI : Hid ((tx ts k7).code = i) := ei
                rw [ei] at d2 d3 hck hxk
                clear ei d1
                obtain ⟨v, hv⟩ : ∃ v, progOk i = v := ⟨_, rfl⟩
                have HV : Hid (progOk i = v) := hv
                have HN : Hid (Calls Tryz.prog 23 #[.agg #[.slice x i.length p]] wr fun e w' => Below wr.heap.size wr w' /\ e = .returned (.bool v)) := by rw [<- hv]; exact specValid_any x p i wr d3 hck hxk
                clear hv d3 hxk
                cases v
                ·go_wp2_with (go_at_call 23; refine HN.out.mono ?_; rintro e w1 ⟨hb1, rfl⟩)
                 go_roundw
                 case rel => exact ⟨k7 + 1, 7, by omega, rfl, by go_num, Or.inr ⟨rfl, k7, by omega, by rw [EI.out]; exact HV.out⟩, HK.out.below hb1⟩
                 case measure => simp [intOf]; omega
                ·go_wp2_with (go_at_call 23; refine HN.out.mono ?_; rintro e w1 ⟨hb1, rfl⟩)
                 go_roundw
                 case rel => exact ⟨k7 + 1, v7, by omega, rfl, by go_num, acts_step HA.out (by rw [EI.out]; exact HV.out), HK.out.below hb1⟩
                 case measure => simp [intOf]; omega
               ·have HC : Hid (chk ss ts = v7) := acts_end HBIG.out H2.out H3.out H4.out H5.out H6.out (by omega) HA.out
                clear HA
                go_wp2
                go_ret
                exact ⟨hbel, by rw [HC.out]; rfl⟩
end Go.Proofs.YtmanoabocelpeaaGreatDoor
