import Derived.Test.YtllhbgmadiclcaaGreatDoorMkQ
import Derived.Deep.RegionHeld3
namespace Go.Proofs.YtllhbgmadiclcaaGreatDoor
open Go.RowKit
set_option linter.unusedVariables false

set_option maxRecDepth 100000 in
set_option maxHeartbeats 4000000 in
theorem markRecordS_any (lo hi g n cap K : Nat) (cl gl : Nat → Nat) (xs : List Value) (cv lv : Nat → Value) (w : World) (hr : RowsQ w lo hi (.slice (some ⟨g, 0, none⟩) n cap) n cl gl xs cv lv) (hB : lo ≤ w.heap.size) (hn : n ≤ 1048576) (hcl : ∀ i, i < n → cl i ≤ 1048576 ∧ gl i ≤ 1048576) (h1 : 1 ≤ K) (h2 : kR cl gl K n ≤ 800000000000000) :
    Calls Tryz.prog 33 #[(.slice (some ⟨g, 0, none⟩) n cap), .int .i64 K] w fun e w' => e = .returned (.int .i64 ((kR cl gl K n : Nat) : Int)) ∧ Below lo w w' ∧ KeepQs (.slice (some ⟨g, 0, none⟩) n cap) cv lv n w w' ∧ ∃ ys, RowsQ w' lo hi (.slice (some ⟨g, 0, none⟩) n cap) n cl gl ys cv lv ∧ MkQm w' lo hi K cl gl cv lv n ys := by
  have hBg : lo ≤ g := (hr.row.own.lt g rfl).1
  have HCL : Hid (∀ i, i < n → cl i ≤ 1048576 ∧ gl i ≤ 1048576) := hcl
  have HKT : Hid (∀ i, i ≤ n → K ≤ kR cl gl K i ∧ kR cl gl K i ≤ 800000000000000) := fun i hi => ⟨kR_le cl gl K 0 i (Nat.zero_le _), Nat.le_trans (kR_le cl gl K i n hi) h2⟩
  clear hcl h2
  go_enter Tryz.func33, Tryz.ntmps33
  go_wp2
  go_loopw [1, 5] (fun k i wr => ∃ (m : Nat) (ys : List Value), m ≤ n ∧ i = .int .i64 m ∧ k = .int .i64 ((kR cl gl K m : Nat) : Int) ∧ Hid (RowsQ wr lo hi (.slice (some ⟨g, 0, none⟩) n cap) n cl gl ys cv lv) ∧ Hid (MkQm wr lo hi K cl gl cv lv m ys) ∧ Hid (KeepQs (.slice (some ⟨g, 0, none⟩) n cap) cv lv n w wr) ∧ w.heap.size ≤ wr.heap.size ∧ Below lo w wr) (fun _ i _ => n - (intOf i).toNat)
  case atStart => exact ⟨0, xs, Nat.zero_le _, rfl, rfl, hr, (fun i hi => by omega : MkQm w lo hi K cl gl cv lv 0 xs), (fun b _ _ _ _ => rfl : KeepQs (.slice (some ⟨g, 0, none⟩) n cap) cv lv n w w), Nat.le_refl _, Below.refl _ _⟩
  case round =>
    obtain ⟨m, ys, hm, rfl, rfl, HR, HM, HK, hsz, hbr⟩ := hrel
    clear hr
    by_cases hlt : m < n
    · obtain ⟨hk1, hk2⟩ := HKT.out m hm
      obtain ⟨hcm, hgm⟩ := HCL.out m hlt
      have HS : Hid (kR cl gl K (m + 1) = kR cl gl K m + 3 * cl m + 3 * gl m + 1) := rfl
      have hlx : m * 3 + 2 < ys.length := by rw [HR.out.row.own.1]; omega
      obtain ⟨c, ec⟩ : ∃ c, kR cl gl K m = c := ⟨_, rfl⟩
      have HI : Hid (∀ (W : World) (zs : List Value), W.ownsRow lo 98 3 (cv m) (cl m) zs → lo ≤ W.heap.size → Calls Tryz.prog 53 #[cv m, .int .i64 (c : Int)] W fun e w' => e = .returned (.int .i64 ((c + 3 * cl m : Nat) : Int)) ∧ Below lo W w' ∧ KeepO (cv m).ownBlock W w' ∧ ∃ ys, w'.ownsRow lo 98 3 (cv m) (cl m) ys ∧ MkI c (cl m) ys) := fun W zs h3 h4 => markInsS_own lo (cl m) c (cv m) zs W h3 h4 hcm (by omega) (by omega)
      have HG : Hid (∀ (W : World) (zs : List Value), W.ownsRow lo 90 3 (lv m) (gl m) zs → lo ≤ W.heap.size → Calls Tryz.prog 54 #[lv m, .int .i64 ((c + 3 * cl m : Nat) : Int)] W fun e w' => e = .returned (.int .i64 ((c + 3 * cl m + 3 * gl m : Nat) : Int)) ∧ Below lo W w' ∧ KeepO (lv m).ownBlock W w' ∧ ∃ ys, w'.ownsRow lo 90 3 (lv m) (gl m) ys ∧ MkG (c + 3 * cl m) (gl m) ys) := fun W zs h3 h4 => markGlanceS_own lo (gl m) (c + 3 * cl m) (lv m) zs W h3 h4 hgm (by omega) (by omega)
      have HT : Hid (∀ W : World, Calls Tryz.prog 52 #[.int .i64 ((c + 3 * cl m + 3 * gl m : Nat) : Int)] W fun e w' => Below W.heap.size W w' ∧ e = .returned (.string (mt (c + 3 * cl m + 3 * gl m)))) := fun W => markText_any (c + 3 * cl m + 3 * gl m) W (by omega) (by omega)
      rw [ec] at hk1 hk2 HS ⊢
      have HE : Hid (kR cl gl K m = c) := ec
      clear ec
      have hmI : (m : Int) < (n : Int) := by omega
      have hqb : c + 3 * cl m + 3 * gl m + 1 < 1000000000000000 := by omega
      obtain ⟨p, ep⟩ : ∃ p, c + 3 * cl m = p := ⟨_, rfl⟩
      obtain ⟨q, eq⟩ : ∃ q, p + 3 * gl m = q := ⟨_, rfl⟩
      rw [ep] at HI HG HT HS hqb
      rw [eq] at HG HT HS hqb
      have HEP : Hid (c + 3 * cl m = p) := ep
      have HEQ : Hid (p + 3 * gl m = q) := eq
      clear ep eq
      obtain ⟨z0, hz0⟩ := HR.out.code m hlt
      obtain ⟨va, vc, ev⟩ := row_slice hz0
      have EV : Hid (cv m = .slice va (cl m) vc) := ev
      obtain ⟨z1, hz1⟩ := HR.out.look m hlt
      obtain ⟨ua, uc, eu⟩ := row_slice hz1
      have EU : Hid (lv m = .slice ua (gl m) uc) := eu
      have d0 : wr.cell? ⟨g, m * 3, none⟩ = some (.slice va (cl m) vc) := by rw [HR.out.row.own.cellAt _ (by omega), HR.out.fst m hlt, EV.out]
      have HC : Hid (Calls Tryz.prog 53 #[.slice va (cl m) vc, .int .i64 (c : Int)] wr fun e w' => e = .returned (.int .i64 (p : Int)) ∧ Below lo wr w' ∧ KeepO (cv m).ownBlock wr w' ∧ ∃ ys, w'.ownsRow lo 98 3 (cv m) (cl m) ys ∧ MkI c (cl m) ys) := by
        have h := HI.out wr z0 hz0.own (by omega)
        rw [EV.out] at h ⊢
        exact h
      have HTOP : Hid (∀ b, (cv m).ownBlock = some b → b < hi) := hz0.top
      have HTOP1 : Hid (∀ b, (lv m).ownBlock = some b → b < hi) := hz1.top
      clear hz0 ev hz1 eu HI
      go_wp2_with fail
      refine HC.out.mono ?_
      rintro e w2 ⟨rfl, hb2, hk2', zs, ho2, hm2⟩
      have ht2 : RowO w2 lo hi 98 3 (cv m) (cl m) zs := ⟨ho2, HTOP.out⟩
      have HR2 : Hid (RowsQ w2 lo hi (.slice (some ⟨g, 0, none⟩) n cap) n cl gl ys cv lv) := HR.out.markC hlt hk2' ht2
      have HM2 : Hid (MkQm w2 lo hi K cl gl cv lv m ys) := HM.out.markC HR.out hlt hk2'
      have HK2 : Hid (KeepQs (.slice (some ⟨g, 0, none⟩) n cap) cv lv n w w2) := HK.out.markC hsz hlt hk2'
      have HZ2 : Hid (RowO w2 lo hi 98 3 (cv m) (cl m) zs) := ht2
      have HZM : Hid (MkI c (cl m) zs) := hm2
      have hbw : Below lo w w2 := hbr.trans hb2
      have hs2 : w.heap.size ≤ w2.heap.size := by have := hb2.size; omega
      have d1 : w2.cell? ⟨g, m * 3 + 1, none⟩ = some (.slice ua (gl m) uc) := by rw [HR2.out.row.own.cellAt _ (by omega), HR2.out.snd m hlt, EU.out]
      have HC2 : Hid (Calls Tryz.prog 54 #[.slice ua (gl m) uc, .int .i64 (p : Int)] w2 fun e w' => e = .returned (.int .i64 (q : Int)) ∧ Below lo w2 w' ∧ KeepO (lv m).ownBlock w2 w' ∧ ∃ ys, w'.ownsRow lo 90 3 (lv m) (gl m) ys ∧ MkG p (gl m) ys) := by
        obtain ⟨us, hus⟩ := HR2.out.look m hlt
        have h := HG.out w2 us hus.own (by omega)
        rw [EU.out] at h ⊢
        exact h
      clear hb2 hk2' ho2 hm2 ht2 hbr HR HM HK HC HG d0
      go_wp2_with fail
      refine HC2.out.mono ?_
      rintro e w3 ⟨rfl, hb3, hk3, us, ho3, hm3⟩
      have ht3 : RowO w3 lo hi 90 3 (lv m) (gl m) us := ⟨ho3, HTOP1.out⟩
      have HR3 : Hid (RowsQ w3 lo hi (.slice (some ⟨g, 0, none⟩) n cap) n cl gl ys cv lv) := HR2.out.markL hlt hk3 ht3
      have HM3 : Hid (MkQm w3 lo hi K cl gl cv lv m ys) := HM2.out.markL HR2.out hlt hk3
      have HK3 : Hid (KeepQs (.slice (some ⟨g, 0, none⟩) n cap) cv lv n w w3) := HK2.out.markL hs2 hlt hk3
      have HZ3 : Hid (RowO w3 lo hi 98 3 (cv m) (cl m) zs) := by
        obtain ⟨y0, k0⟩ := HR2.out.look m hlt
        exact HZ2.out.same fun b eb => hk3 b (HZ2.out.own.lt b eb).2 (fun e' => neT HZ2.out.own k0.own (by decide) b eb e'.symm)
      have HU3 : Hid (RowO w3 lo hi 90 3 (lv m) (gl m) us) := ht3
      have HUM : Hid (MkG p (gl m) us) := hm3
      have hbw3 : Below lo w w3 := hbw.trans hb3
      have hs3 : w.heap.size ≤ w3.heap.size := by have := hb3.size; omega
      clear hb3 hk3 ho3 hm3 ht3 HR2 HM2 HK2 HZ2 HC2 hbw d1
      go_wp2_with fail
      refine (HT.out _).mono ?_
      rintro e w4 ⟨hb4, rfl⟩
      have HR4 : Hid (RowsQ w4 lo hi (.slice (some ⟨g, 0, none⟩) n cap) n cl gl ys cv lv) := HR3.out.below hb4
      have HR5 : Hid (RowsQ (w4.setCell ⟨g, m * 3 + 2, none⟩ (.string (mt q))) lo hi (.slice (some ⟨g, 0, none⟩) n cap) n cl gl (ys.set (m * 3 + 2) (.string (mt q))) cv lv) := HR4.out.store m _
      have HM5 : Hid (MkQm (w4.setCell ⟨g, m * 3 + 2, none⟩ (.string (mt q))) lo hi K cl gl cv lv (m + 1) (ys.set (m * 3 + 2) (.string (mt q)))) := by
        have h := (HM3.out.below hb4).store HR4.out hlt (HZ3.out.below hb4) (by rw [HE.out]; exact HZM.out) (HU3.out.below hb4) (by rw [HE.out, HEP.out]; exact HUM.out)
        rw [HE.out, HEP.out, HEQ.out] at h
        exact h
      have HK5 : Hid (KeepQs (.slice (some ⟨g, 0, none⟩) n cap) cv lv n w (w4.setCell ⟨g, m * 3 + 2, none⟩ (.string (mt q)))) := (HK3.out.below hs3 hb4).set _
      have hbw5 : Below lo w (w4.setCell ⟨g, m * 3 + 2, none⟩ (.string (mt q))) := (hbw3.trans (hb4.mono (by omega))).setCell (p := ⟨g, m * 3 + 2, none⟩) hBg _
      have hs5 : w.heap.size ≤ (w4.setCell ⟨g, m * 3 + 2, none⟩ (.string (mt q))).heap.size := by have := hb4.size; simp; omega
      have hfr4 := HR4.out.row.own.frozenAt
      obtain ⟨o1, d2⟩ := cell_of_length3 HR4.out.row.own (j := m * 3 + 2) (by omega)
      clear hb4 HR3 HM3 HK3 HZ3 HU3 HT hbw3 HR4 hs3 hs2
      generalize mt q = t at *
      go_wp2
      go_roundw
      case rel => exact ⟨m + 1, _, by omega, by go_num, congrArg (Value.int .i64) (by rw [HS.out]; omega), HR5.out, HM5.out, HK5.out, hs5, hbw5⟩
      case measure => simp [intOf]; omega
    · have em : m = n := by omega
      subst em
      go_wp2
      go_ret
      exact ⟨rfl, hbr, HK.out, ys, HR.out, HM.out⟩

set_option maxHeartbeats 400000 in
theorem markRecordS_nil (K : Nat) (w : World) (h2 : K ≤ 900000000000000) :
    Calls Tryz.prog 33 #[.slice none 0 0, .int .i64 K] w fun e w' => e = .returned (.int .i64 (K : Int)) ∧ w = w' := by
  go_enter Tryz.func33, Tryz.ntmps33
  go_wp2
  go_loopw [1, 5] (fun k i wr => i = .int .i64 0 ∧ k = .int .i64 (K : Int) ∧ w = wr) (fun _ i _ => 0)
  case atStart => exact ⟨rfl, rfl, rfl⟩
  case round =>
    obtain ⟨rfl, rfl, rfl⟩ := hrel
    go_wp2
    go_ret
    exact ⟨rfl, rfl⟩
theorem markRecordS_row (lo hi n K : Nat) (v : Value) (cl gl : Nat → Nat) (xs : List Value) (cv lv : Nat → Value) (w : World) (hr : RowsQ w lo hi v n cl gl xs cv lv) (hB : lo ≤ w.heap.size) (hn : n ≤ 1048576) (hcl : ∀ i, i < n → cl i ≤ 1048576 ∧ gl i ≤ 1048576) (h1 : 1 ≤ K) (h2 : kR cl gl K n ≤ 800000000000000) :
    Calls Tryz.prog 33 #[v, .int .i64 K] w fun e w' => e = .returned (.int .i64 ((kR cl gl K n : Nat) : Int)) ∧ Below lo w w' ∧ KeepQs v cv lv n w w' ∧ ∃ ys, RowsQ w' lo hi v n cl gl ys cv lv ∧ MkQm w' lo hi K cl gl cv lv n ys := by
  rcases own_casesM hr.row.own with ⟨rfl, rfl⟩ | ⟨g, cap, rfl⟩
  · refine (markRecordS_nil K w (by simp only [kR] at h2; omega)).mono ?_
    rintro e w' ⟨rfl, rfl⟩
    exact ⟨rfl, Below.refl _ _, fun _ _ _ _ _ => rfl, xs, hr, fun i hi => by omega⟩
  · exact markRecordS_any lo hi g n cap K cl gl xs cv lv w hr hB hn hcl h1 h2

end Go.Proofs.YtllhbgmadiclcaaGreatDoor
namespace Go.Proofs.YtllhbgmadiclcaaGreatDoor
open Go.RowKit
set_option linter.unusedVariables false

set_option maxRecDepth 100000 in
set_option maxHeartbeats 4000000 in
theorem heldRecordS_any (lo hi g n cap K : Nat) (cl gl : Nat → Nat) (ys : List Value) (cv lv : Nat → Value) (w : World) (hr : RowsQ w lo hi (.slice (some ⟨g, 0, none⟩) n cap) n cl gl ys cv lv) (hm : MkQm w lo hi K cl gl cv lv n ys) (hn : n ≤ 1048576) (hcl : ∀ i, i < n → cl i ≤ 1048576 ∧ gl i ≤ 1048576) (h1 : 1 ≤ K) (h2 : kR cl gl K n ≤ 800000000000000) :
    Calls Tryz.prog 56 #[(.slice (some ⟨g, 0, none⟩) n cap), .int .i64 K] w fun e w' => e = .returned (.int .i64 ((kR cl gl K n : Nat) : Int)) ∧ Below w.heap.size w w' := by
  have HR : Hid (RowsQ w lo hi (.slice (some ⟨g, 0, none⟩) n cap) n cl gl ys cv lv) := hr
  have HM : Hid (MkQm w lo hi K cl gl cv lv n ys) := hm
  have HCL : Hid (∀ i, i < n → cl i ≤ 1048576 ∧ gl i ≤ 1048576) := hcl
  have HKT : Hid (∀ i, i ≤ n → K ≤ kR cl gl K i ∧ kR cl gl K i ≤ 800000000000000) := fun i hi => ⟨kR_le cl gl K 0 i (Nat.zero_le _), Nat.le_trans (kR_le cl gl K i n hi) h2⟩
  clear hr hm hcl h2
  go_enter Tryz.func56, Tryz.ntmps56
  go_wp2
  go_loopw [1, 5] (fun k i wr => ∃ (m : Nat), m ≤ n ∧ i = .int .i64 m ∧ k = .int .i64 ((kR cl gl K m : Nat) : Int) ∧ Below w.heap.size w wr) (fun _ i _ => n - (intOf i).toNat)
  case atStart => exact ⟨0, Nat.zero_le _, rfl, rfl, Below.refl _ _⟩
  case round =>
    obtain ⟨m, hm, rfl, rfl, hbr⟩ := hrel
    by_cases hlt : m < n
    · obtain ⟨hk1, hk2⟩ := HKT.out m hm
      obtain ⟨hcm, hgm⟩ := HCL.out m hlt
      have HS : Hid (kR cl gl K (m + 1) = kR cl gl K m + 3 * cl m + 3 * gl m + 1) := rfl
      obtain ⟨x1, ⟨zs, x2, x3⟩, us, x4, x5⟩ := (HM.out.below hbr) m hlt
      have hrr := HR.out.below hbr
      obtain ⟨c, ec⟩ : ∃ c, kR cl gl K m = c := ⟨_, rfl⟩
      rw [ec] at hk1 hk2 HS x1 x3 x5 ⊢
      obtain ⟨va, vc, ev⟩ := row_slice x2
      obtain ⟨ua, uc, eu⟩ := row_slice x4
      have c0 : wr.cell? ⟨g, m * 3, none⟩ = some (.slice va (cl m) vc) := by rw [hrr.row.own.cellAt _ (by omega), hrr.fst m hlt, ev]
      have c1 : wr.cell? ⟨g, m * 3 + 1, none⟩ = some (.slice ua (gl m) uc) := by rw [hrr.row.own.cellAt _ (by omega), hrr.snd m hlt, eu]
      have c2 : wr.cell? ⟨g, m * 3 + 2, none⟩ = some (.string (mt (c + 3 * cl m + 3 * gl m))) := by rw [hrr.row.own.cellAt _ (by omega)]; exact x1
      have HI : Hid (∀ (W : World), Below wr.heap.size wr W → Calls Tryz.prog 79 #[.slice va (cl m) vc, .int .i64 (c : Int)] W fun e w' => e = .returned (.int .i64 ((c + 3 * cl m : Nat) : Int)) ∧ Below W.heap.size W w') := fun W h3 => by
        have h := heldInsS_own lo (cl m) c (cv m) zs W (x2.below h3).own x3 hcm (by omega) (by omega)
        rw [ev] at h
        exact h
      have HG : Hid (∀ (W : World), Below wr.heap.size wr W → Calls Tryz.prog 80 #[.slice ua (gl m) uc, .int .i64 ((c + 3 * cl m : Nat) : Int)] W fun e w' => e = .returned (.int .i64 ((c + 3 * cl m + 3 * gl m : Nat) : Int)) ∧ Below W.heap.size W w') := fun W h3 => by
        have h := heldGlanceS_own lo (gl m) (c + 3 * cl m) (lv m) us W (x4.below h3).own x5 hgm (by omega) (by omega)
        rw [eu] at h
        exact h
      have HT : Hid (∀ W : World, Calls Tryz.prog 52 #[.int .i64 ((c + 3 * cl m + 3 * gl m : Nat) : Int)] W fun e w' => Below W.heap.size W w' ∧ e = .returned (.string (mt (c + 3 * cl m + 3 * gl m)))) := fun W => markText_any (c + 3 * cl m + 3 * gl m) W (by omega) (by omega)
      clear x1 x2 x3 x4 x5 hrr ev eu ec
      have hqb : c + 3 * cl m + 3 * gl m + 1 < 1000000000000000 := by omega
      obtain ⟨p, ep⟩ : ∃ p, c + 3 * cl m = p := ⟨_, rfl⟩
      obtain ⟨q, eq⟩ : ∃ q, p + 3 * gl m = q := ⟨_, rfl⟩
      rw [ep] at HI HG HT HS hqb c2
      rw [eq] at HG HT HS hqb c2
      clear ep eq
      generalize mt q = t at *
      have et := str_eq (rfl : t = t)
      have hmI : (m : Int) < (n : Int) := by omega
      have hm0 : (0 : Int) ≤ (m : Int) := by omega
      have hlp : decide (((p : Nat) : Int) < 0) = false := by simp
      have hlq : decide (((q : Nat) : Int) < 0) = false := by simp
      go_wp2_with fail
      refine (HI.out wr (Below.refl _ _)).mono ?_
      rintro e w2 ⟨rfl, hb2⟩
      have e1 := cell_below hb2 c1
      have e2 := cell_below hb2 c2
      clear c0 c1 c2
      go_wp2_with fail
      refine (HG.out w2 hb2).mono ?_
      rintro e w3 ⟨rfl, hb3⟩
      have g2 := cell_below hb3 e2
      have hB3 := bt hbr (bt hb2 hb3)
      clear e1 e2 hb2 hb3
      have hbA : Below w3.heap.size w3 w3.drew := (Below.refl _ _).drew
      go_wp2_with fail
      go_region_held3 (fun w' => w'.cell? ⟨g, m * 3 + 2, none⟩ = some (.string t))
        (first | assumption | (simp [*]; done) | exact cell_below hb4 (by simp [*]))
        (first | (go_at_call 52; refine (HT.out _).mono ?_; rintro e w4 ⟨hb4, rfl⟩))
      all_goals
        have hB4 := bt hB3 (bt hbA hb4)
        clear g2 hb4 hbA
        go_wp2
        go_roundw
        case rel => exact ⟨m + 1, by omega, by go_num, congrArg (Value.int .i64) (by rw [HS.out]; omega), hB4⟩
        case measure => simp [intOf]; omega
    · have em : m = n := by omega
      subst em
      go_wp2
      go_ret
      exact ⟨rfl, hbr⟩

set_option maxHeartbeats 400000 in
theorem heldRecordS_nil (K : Nat) (w : World) (h2 : K ≤ 900000000000000) :
    Calls Tryz.prog 56 #[.slice none 0 0, .int .i64 K] w fun e w' => e = .returned (.int .i64 (K : Int)) ∧ w = w' := by
  go_enter Tryz.func56, Tryz.ntmps56
  go_wp2
  go_loopw [1, 5] (fun k i wr => i = .int .i64 0 ∧ k = .int .i64 (K : Int) ∧ w = wr) (fun _ i _ => 0)
  case atStart => exact ⟨rfl, rfl, rfl⟩
  case round =>
    obtain ⟨rfl, rfl, rfl⟩ := hrel
    go_wp2
    go_ret
    exact ⟨rfl, rfl⟩
theorem heldRecordS_row (lo hi n K : Nat) (v : Value) (cl gl : Nat → Nat) (ys : List Value) (cv lv : Nat → Value) (w : World) (hr : RowsQ w lo hi v n cl gl ys cv lv) (hm : MkQm w lo hi K cl gl cv lv n ys) (hn : n ≤ 1048576) (hcl : ∀ i, i < n → cl i ≤ 1048576 ∧ gl i ≤ 1048576) (h1 : 1 ≤ K) (h2 : kR cl gl K n ≤ 800000000000000) :
    Calls Tryz.prog 56 #[v, .int .i64 K] w fun e w' => e = .returned (.int .i64 ((kR cl gl K n : Nat) : Int)) ∧ Below w.heap.size w w' := by
  rcases own_casesM hr.row.own with ⟨rfl, rfl⟩ | ⟨g, cap, rfl⟩
  · refine (heldRecordS_nil K w (by simp only [kR] at h2; omega)).mono ?_
    rintro e w' ⟨rfl, rfl⟩
    exact ⟨rfl, Below.refl _ _⟩
  · exact heldRecordS_any lo hi g n cap K cl gl ys cv lv w hr hm hn hcl h1 h2

end Go.Proofs.YtllhbgmadiclcaaGreatDoor
