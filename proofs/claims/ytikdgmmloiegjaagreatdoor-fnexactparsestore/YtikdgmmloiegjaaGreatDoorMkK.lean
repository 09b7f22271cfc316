import Derived.Test.YtikdgmmloiegjaaGreatDoorMkQ
import Derived.Deep.RegionHeld3
import Derived.Test.YtikdgmmloiegjaaGreatDoorMkX
import Derived.Test.YtikdgmmloiegjaaGreatDoorMkV
namespace Go.Proofs.YtikdgmmloiegjaaGreatDoor
open Go.RowKit
set_option linter.unusedVariables false

set_option maxRecDepth 100000 in
set_option maxHeartbeats 4000000 in
theorem heldRecordS_any (lo hi g n cap K : Nat) (cl gl : Nat → Nat) (ys : List Value) (cv lv : Nat → Value) (w : World) (hr : RowsQ w lo hi (.slice (some ⟨g, 0, none⟩) n cap) n cl gl ys cv lv) (hm : MkQm w lo hi K cl gl cv lv n ys) (hn : n ≤ 1048576) (hcl : ∀ i, i < n → cl i ≤ 1048576 ∧ gl i ≤ 1048576) (h1 : 1 ≤ K) (h2 : kR cl gl K n ≤ 800000000000000) :
    Calls Tryz.prog 19 #[(.slice (some ⟨g, 0, none⟩) n cap), .int .i64 K] w fun e w' => e = .returned (.int .i64 ((kR cl gl K n : Nat) : Int)) ∧ Below w.heap.size w w' := by
  have HR : Hid (RowsQ w lo hi (.slice (some ⟨g, 0, none⟩) n cap) n cl gl ys cv lv) := hr
  have HM : Hid (MkQm w lo hi K cl gl cv lv n ys) := hm
  have HCL : Hid (∀ i, i < n → cl i ≤ 1048576 ∧ gl i ≤ 1048576) := hcl
  have HKT : Hid (∀ i, i ≤ n → K ≤ kR cl gl K i ∧ kR cl gl K i ≤ 800000000000000) := fun i hi => ⟨kR_le cl gl K 0 i (Nat.zero_le _), Nat.le_trans (kR_le cl gl K i n hi) h2⟩
  clear hr hm hcl h2
  go_enter Tryz.func19, Tryz.ntmps19
  go_wp2
  go_loopw [1, 5] (fun k i wr => ∃ (m : Nat), m ≤ n ∧ i = .int .i64 m ∧ k = .int .i64 ((kR cl gl K m : Nat) : Int) ∧ Below w.heap.size w wr) (fun _ i _ => n - (intOf i).toNat)
  case atStart => exact ⟨0, Nat.zero_le _, rfl, rfl, Below.refl _ _⟩
  case round =>
    obtain ⟨m, hm, rfl, rfl, hbr⟩ := hrel
    by_cases hlt : m < n
    · obtain ⟨hk1, hk2⟩ := HKT.out m hm
      obtain ⟨hcm, hgm⟩ := HCL.out m hlt
      have HS : Hid (kR cl gl K (m + 1) = kR cl gl K m + 3 * cl m + 3 * gl m + 1) := rfl
      obtain ⟨x1, ⟨zs, x2, x3⟩, us, x4, x5⟩ := (HM.out.below hbr) m hlt
      have hrr := HR.out.below hbr
      obtain ⟨c, ec⟩ : ∃ c, kR cl gl K m = c := ⟨_, rfl⟩
      rw [ec] at hk1 hk2 HS x1 x3 x5 ⊢
      obtain ⟨va, vc, ev⟩ := row_slice x2
      obtain ⟨ua, uc, eu⟩ := row_slice x4
      have c0 : wr.cell? ⟨g, m * 3, none⟩ = some (.slice va (cl m) vc) := by rw [hrr.row.own.cellAt _ (by omega), hrr.fst m hlt, ev]
      have c1 : wr.cell? ⟨g, m * 3 + 1, none⟩ = some (.slice ua (gl m) uc) := by rw [hrr.row.own.cellAt _ (by omega), hrr.snd m hlt, eu]
      have c2 : wr.cell? ⟨g, m * 3 + 2, none⟩ = some (.string (mt (c + 3 * cl m + 3 * gl m))) := by rw [hrr.row.own.cellAt _ (by omega)]; exact x1
      have HI : Hid (∀ (W : World), Below wr.heap.size wr W → Calls Tryz.prog 37 #[.slice va (cl m) vc, .int .i64 (c : Int)] W fun e w' => e = .returned (.int .i64 ((c + 3 * cl m : Nat) : Int)) ∧ Below W.heap.size W w') := fun W h3 => by
        have h := heldInsS_own lo (cl m) c (cv m) zs W (x2.below h3).own x3 hcm (by omega) (by omega)
        rw [ev] at h
        exact h
      have HG : Hid (∀ (W : World), Below wr.heap.size wr W → Calls Tryz.prog 38 #[.slice ua (gl m) uc, .int .i64 ((c + 3 * cl m : Nat) : Int)] W fun e w' => e = .returned (.int .i64 ((c + 3 * cl m + 3 * gl m : Nat) : Int)) ∧ Below W.heap.size W w') := fun W h3 => by
        have h := heldGlanceS_own lo (gl m) (c + 3 * cl m) (lv m) us W (x4.below h3).own x5 hgm (by omega) (by omega)
        rw [eu] at h
        exact h
      have HT : Hid (∀ W : World, Calls Tryz.prog 34 #[.int .i64 ((c + 3 * cl m + 3 * gl m : Nat) : Int)] W fun e w' => Below W.heap.size W w' ∧ e = .returned (.string (mt (c + 3 * cl m + 3 * gl m)))) := fun W => markText_any (c + 3 * cl m + 3 * gl m) W (by omega) (by omega)
      clear x1 x2 x3 x4 x5 hrr ev eu ec
      have hqb : c + 3 * cl m + 3 * gl m + 1 < 1000000000000000 := by omega
      obtain ⟨p, ep⟩ : ∃ p, c + 3 * cl m = p := ⟨_, rfl⟩
      obtain ⟨q, eq⟩ : ∃ q, p + 3 * gl m = q := ⟨_, rfl⟩
      rw [ep] at HI HG HT HS hqb c2
      rw [eq] at HG HT HS hqb c2
      clear ep eq
      generalize mt q = t at *
      have et := str_eq (rfl : t = t)
      have hmI : (m : Int) < (n : Int) := by omega
      have hm0 : (0 : Int) ≤ (m : Int) := by omega
      have hlp : decide (((p : Nat) : Int) < 0) = false := by simp
      have hlq : decide (((q : Nat) : Int) < 0) = false := by simp
      go_wp2_with fail
      refine (HI.out wr (Below.refl _ _)).mono ?_
      rintro e w2 ⟨rfl, hb2⟩
      have e1 := cell_below hb2 c1
      have e2 := cell_below hb2 c2
      clear c0 c1 c2
      go_wp2_with fail
      refine (HG.out w2 hb2).mono ?_
      rintro e w3 ⟨rfl, hb3⟩
      have g2 := cell_below hb3 e2
      have hB3 := bt hbr (bt hb2 hb3)
      clear e1 e2 hb2 hb3
      have hbA : Below w3.heap.size w3 w3.drew := (Below.refl _ _).drew
      go_wp2_with fail
      go_region_held3 (fun w' => w'.cell? ⟨g, m * 3 + 2, none⟩ = some (.string t))
        (first | assumption | (simp [*]; done) | exact cell_below hb4 (by simp [*]))
        (first | (go_at_call 34; refine (HT.out _).mono ?_; rintro e w4 ⟨hb4, rfl⟩))
      all_goals
        have hB4 := bt hB3 (bt hbA hb4)
        clear g2 hb4 hbA
        go_wp2
        go_roundw
        case rel => exact ⟨m + 1, by omega, by go_num, congrArg (Value.int .i64) (by rw [HS.out]; omega), hB4⟩
        case measure => simp [intOf]; omega
    · have em : m = n := by omega
      subst em
      go_wp2
      go_ret
      exact ⟨rfl, hbr⟩

set_option maxHeartbeats 400000 in
theorem heldRecordS_nil (K : Nat) (w : World) (h2 : K ≤ 900000000000000) :
    Calls Tryz.prog 19 #[.slice none 0 0, .int .i64 K] w fun e w' => e = .returned (.int .i64 (K : Int)) ∧ w = w' := by
  go_enter Tryz.func19, Tryz.ntmps19
  go_wp2
  go_loopw [1, 5] (fun k i wr => i = .int .i64 0 ∧ k = .int .i64 (K : Int) ∧ w = wr) (fun _ i _ => 0)
  case atStart => exact ⟨rfl, rfl, rfl⟩
  case round =>
    obtain ⟨rfl, rfl, rfl⟩ := hrel
    go_wp2
    go_ret
    exact ⟨rfl, rfl⟩
theorem heldRecordS_row (lo hi n K : Nat) (v : Value) (cl gl : Nat → Nat) (ys : List Value) (cv lv : Nat → Value) (w : World) (hr : RowsQ w lo hi v n cl gl ys cv lv) (hm : MkQm w lo hi K cl gl cv lv n ys) (hn : n ≤ 1048576) (hcl : ∀ i, i < n → cl i ≤ 1048576 ∧ gl i ≤ 1048576) (h1 : 1 ≤ K) (h2 : kR cl gl K n ≤ 800000000000000) :
    Calls Tryz.prog 19 #[v, .int .i64 K] w fun e w' => e = .returned (.int .i64 ((kR cl gl K n : Nat) : Int)) ∧ Below w.heap.size w w' := by
  rcases own_casesM hr.row.own with ⟨rfl, rfl⟩ | ⟨g, cap, rfl⟩
  · refine (heldRecordS_nil K w (by simp only [kR] at h2; omega)).mono ?_
    rintro e w' ⟨rfl, rfl⟩
    exact ⟨rfl, Below.refl _ _⟩
  · exact heldRecordS_any lo hi g n cap K cl gl ys cv lv w hr hm hn hcl h1 h2

end Go.Proofs.YtikdgmmloiegjaaGreatDoor
namespace Go.Proofs.YtikdgmmloiegjaaGreatDoor
open Go.RowKit
set_option linter.unusedVariables false

/-- A store's rows bear the marks. -/
def MkSo (w : World) (lo hi K : Nat) (v1 v2 : Value) (n1 n2 : Nat) (cl gl : Nat → Nat) : Prop := (∃ ys, RowO w lo hi 9 1 v1 n1 ys ∧ MkX K n1 ys) ∧ ∃ ys cv lv, RowsQ w lo hi v2 n2 cl gl ys cv lv ∧ MkQm w lo hi (K + n1) cl gl cv lv n2 ys
theorem MkSo.below {w w' : World} {lo hi K n1 n2 : Nat} {v1 v2 : Value} {cl gl : Nat → Nat} (h : MkSo w lo hi K v1 v2 n1 n2 cl gl) (hb : Below w.heap.size w w') : MkSo w' lo hi K v1 v2 n1 n2 cl gl := by
  obtain ⟨⟨ys, h1, h2⟩, zs, cv, lv, h3, h4⟩ := h
  exact ⟨⟨ys, h1.below hb, h2⟩, zs, cv, lv, h3.below hb, h4.below hb⟩

set_option maxHeartbeats 1000000 in
theorem markStore_row (wd : Int) (lo hi n1 n2 K : Nat) (v1 v2 : Value) (cl gl : Nat → Nat) (xs zs : List Value) (cv lv : Nat → Value) (w : World) (h1 : RowO w lo hi 9 1 v1 n1 xs) (h2 : RowsQ w lo hi v2 n2 cl gl zs cv lv) (hB : lo ≤ w.heap.size) (hn1 : n1 ≤ 1048576) (hn2 : n2 ≤ 1048576) (hcl : ∀ i, i < n2 → cl i ≤ 1048576 ∧ gl i ≤ 1048576) (hK : 1 ≤ K) (hK2 : kR cl gl (K + n1) n2 ≤ 800000000000000) :
    Calls Tryz.prog 7 #[.agg #[.int .i64 wd, v1, v2], .int .i64 K] w fun e w' => e = .returned (.int .i64 ((kR cl gl (K + n1) n2 : Nat) : Int)) ∧ Below lo w w' ∧ KeepR lo hi w w' ∧ MkSo w' lo hi K v1 v2 n1 n2 cl gl := by
  have hK3 : K + n1 ≤ 800000000000000 := Nat.le_trans (kR_le cl gl (K + n1) 0 n2 (Nat.zero_le _)) hK2
  obtain ⟨va, vc, rfl⟩ := row_slice h1
  obtain ⟨vb, vd, rfl⟩ := row_slice h2.row
  have hb0 : Below w.heap.size w (w.alloc (.cells #[.int .i64 wd, .slice va n1 vc, .slice vb n2 vd] 25)) := (Below.refl _ _).alloc (Nat.le_refl _) _
  have k1 : (w.alloc (.cells #[.int .i64 wd, .slice va n1 vc, .slice vb n2 vd] 25)).cell? ⟨w.heap.size, 2, none⟩ = some (.slice vb n2 vd) := by simp [go_sem]
  have hw0 : (w.alloc (.cells #[.int .i64 wd, .slice va n1 vc, .slice vb n2 vd] 25)).heap.size = w.heap.size + 1 := by simp
  have HR0 : Hid (RowsQ (w.alloc (.cells #[.int .i64 wd, .slice va n1 vc, .slice vb n2 vd] 25)) lo hi (.slice vb n2 vd) n2 cl gl zs cv lv) := h2.below hb0
  have h10 := h1.below hb0
  have hne : (Value.slice va n1 vc).ownBlock ≠ some w.heap.size := fun e => by have := (h1.own.lt _ e).2; omega
  have HC : Hid (∀ W : World, RowsQ W lo hi (.slice vb n2 vd) n2 cl gl zs cv lv → lo ≤ W.heap.size → Calls Tryz.prog 17 #[.slice vb n2 vd, .int .i64 ((K + n1 : Nat) : Int)] W fun e w' => e = .returned (.int .i64 ((kR cl gl (K + n1) n2 : Nat) : Int)) ∧ Below lo W w' ∧ KeepQs (.slice vb n2 vd) cv lv n2 W w' ∧ ∃ ys, RowsQ w' lo hi (.slice vb n2 vd) n2 cl gl ys cv lv ∧ MkQm w' lo hi (K + n1) cl gl cv lv n2 ys) := fun W h3 h4 => markRecordS_row lo hi n2 (K + n1) _ cl gl zs cv lv W h3 h4 hn2 hcl (by omega) hK2
  clear hK2 h2 h1 hcl
  go_enter Tryz.func7, Tryz.ntmps7
  go_wp2_with fail
  refine (markStringS_row lo hi n1 K _ xs _ h10 (by omega) hn1 hK (by omega)).mono ?_
  rintro e w1 ⟨rfl, hb1, hk1, ys, hr1, hm1⟩
  have hB1 : Below lo w w1 := (hb0.mono hB).trans hb1
  have hs1 : w.heap.size + 1 ≤ w1.heap.size := by have := hb1.size; omega
  have c1 : w1.cell? ⟨w.heap.size, 2, none⟩ = some (.slice vb n2 vd) := by
    rw [World.cell?_of_block (hk1 w.heap.size (by omega) (fun e => hne e.symm))]; exact k1
  have HR1 : Hid (RowsQ w1 lo hi (.slice vb n2 vd) n2 cl gl zs cv lv) := HR0.out.keepO h10.own hk1 (by decide) (by decide) (by decide)
  have HK1 : Hid (KeepR lo hi w w1) := (KeepR.of_below hb0).trans hb0.size (hk1.keepR fun b e => ⟨(h10.own.lt b e).1, h10.top b e⟩)
  have HS1 : Hid (RowO w1 lo hi 9 1 (.slice va n1 vc) n1 ys) := hr1
  have HM1 : Hid (MkX K n1 ys) := hm1
  clear hb0 hb1 hk1 hr1 hm1 k1 HR0 h10 hne hw0
  go_wp2_with fail
  refine (HC.out w1 HR1.out (by omega)).mono ?_
  rintro e w2 ⟨rfl, hb2, hk2, ys2, hr2, hm2⟩
  have hB2 : Below lo w w2 := hB1.trans hb2
  have HK2 : Hid (KeepR lo hi w w2) := HK1.out.trans (by omega) (hk2.keepR HR1.out)
  have HP : Hid (MkSo w2 lo hi K (.slice va n1 vc) (.slice vb n2 vd) n1 n2 cl gl) := ⟨⟨ys, HS1.out.same fun b e => hk2 b (HS1.out.own.lt b e).2 (fun e' => neT HR1.out.row.own HS1.out.own (by decide) b e' e) (fun i hi e' => by obtain ⟨zz, hz⟩ := HR1.out.code i hi; exact neT hz.own HS1.out.own (by decide) b e' e) (fun i hi e' => by obtain ⟨zz, hz⟩ := HR1.out.look i hi; exact neT hz.own HS1.out.own (by decide) b e' e), HM1.out⟩, ys2, cv, lv, hr2, hm2⟩
  clear hb2 hk2 hr2 hm2 HR1 HK1 HS1 HM1 HC c1
  go_wp2
  go_ret
  exact ⟨rfl, hB2, HK2.out, HP.out⟩

set_option maxHeartbeats 1000000 in
theorem heldStore_row (wd : Int) (lo hi n1 n2 K : Nat) (v1 v2 : Value) (cl gl : Nat → Nat) (w : World) (hm : MkSo w lo hi K v1 v2 n1 n2 cl gl) (hn1 : n1 ≤ 1048576) (hn2 : n2 ≤ 1048576) (hcl : ∀ i, i < n2 → cl i ≤ 1048576 ∧ gl i ≤ 1048576) (hK : 1 ≤ K) (hK2 : kR cl gl (K + n1) n2 ≤ 800000000000000) :
    Calls Tryz.prog 8 #[.agg #[.int .i64 wd, v1, v2], .int .i64 K] w fun e w' => e = .returned (.int .i64 ((kR cl gl (K + n1) n2 : Nat) : Int)) ∧ Below w.heap.size w w' := by
  have hK3 : K + n1 ≤ 800000000000000 := Nat.le_trans (kR_le cl gl (K + n1) 0 n2 (Nat.zero_le _)) hK2
  obtain ⟨⟨ys, h1, h2⟩, zs, cv, lv, h3, h4⟩ := hm
  obtain ⟨va, vc, rfl⟩ := row_slice h1
  obtain ⟨vb, vd, rfl⟩ := row_slice h3.row
  have hb0 : Below w.heap.size w (w.alloc (.cells #[.int .i64 wd, .slice va n1 vc, .slice vb n2 vd] 25)) := (Below.refl _ _).alloc (Nat.le_refl _) _
  have k1 : (w.alloc (.cells #[.int .i64 wd, .slice va n1 vc, .slice vb n2 vd] 25)).cell? ⟨w.heap.size, 2, none⟩ = some (.slice vb n2 vd) := by simp [go_sem]
  have HC : Hid (∀ W : World, Below w.heap.size w W → Calls Tryz.prog 19 #[.slice vb n2 vd, .int .i64 ((K + n1 : Nat) : Int)] W fun e w' => e = .returned (.int .i64 ((kR cl gl (K + n1) n2 : Nat) : Int)) ∧ Below W.heap.size W w') := fun W hW => heldRecordS_row lo hi n2 (K + n1) _ cl gl zs cv lv W (h3.below hW) (h4.below hW) hn2 hcl (by omega) hK2
  have hl1 : decide (((K + n1 : Nat) : Int) < 0) = false := by simp; omega
  have hl2 : decide (((kR cl gl (K + n1) n2 : Nat) : Int) < 0) = false := by simp
  have HL2 : Hid (decide (((kR cl gl (K + n1) n2 : Nat) : Int) < 0) = false) := hl2
  generalize kR cl gl (K + n1) n2 = q at *
  clear h3 h4 hcl hl2
  go_enter Tryz.func8, Tryz.ntmps8
  go_wp2_with fail
  refine (heldStringS_row lo hi n1 K _ ys _ (h1.below hb0) h2 hn1 hK (by omega)).mono ?_
  rintro e w1 ⟨rfl, hb1⟩
  have hB1 := bt hb0 hb1
  have c1 := cell_below hb1 k1
  clear hb0 hb1 k1 h1 h2
  go_wp2_with fail
  refine (HC.out w1 hB1).mono ?_
  rintro e w2 ⟨rfl, hb2⟩
  have hB2 := bt hB1 hb2
  have hl2 := HL2.out
  clear hb2 hB1 c1 HC hl1
  go_wp2
  go_ret
  exact ⟨rfl, hB2⟩

/-! ### of owned stores -/
/-- A store that is not too great for the marks. -/
def SoSm (ts : List ByteArray) (rs : List T3) : Prop := ts.length ≤ 1048576 ∧ QsSmall rs
def kS (ts : List ByteArray) (rs : List T3) : Nat := kR (fun i => (qx rs i).code.length) (fun i => (qx rs i).looks.length) (1 + ts.length) rs.length
theorem kS_le {ts : List ByteArray} {rs : List T3} (h : SoSm ts rs) : kR (fun i => (qx rs i).code.length) (fun i => (qx rs i).looks.length) (1 + ts.length) rs.length ≤ 800000000000000 := by
  have h1 := kR_bound (fun i => (qx rs i).code.length) (fun i => (qx rs i).looks.length) (1 + ts.length) rs.length h.2.2
  have h2 := h.1
  have h3 := h.2.1
  have h4 : rs.length * 6291457 ≤ 1048576 * 6291457 := Nat.mul_le_mul_right _ h3
  omega
def MkL (w : World) (lo hi : Nat) (v1 v2 : Value) (ts : List ByteArray) (rs : List T3) : Prop := MkSo w lo hi 1 v1 v2 ts.length rs.length (fun i => (qx rs i).code.length) (fun i => (qx rs i).looks.length)
theorem MkL.below {w w' : World} {lo hi : Nat} {v1 v2 : Value} {ts : List ByteArray} {rs : List T3} (h : MkL w lo hi v1 v2 ts rs) (hb : Below w.heap.size w w') : MkL w' lo hi v1 v2 ts rs := MkSo.below h hb
theorem markStore_own (wd : Int) {w : World} {lo hi : Nat} {v1 v2 : Value} {ts : List ByteArray} {rs : List T3} (h1 : OwnX w lo hi v1 ts) (h2 : OwnQ w lo hi v2 rs) (hB : lo ≤ w.heap.size) (hs : SoSm ts rs) :
    Calls Tryz.prog 7 #[.agg #[.int .i64 wd, v1, v2], .int .i64 1] w fun e w' => e = .returned (.int .i64 ((kS ts rs : Nat) : Int)) ∧ Below lo w w' ∧ KeepR lo hi w w' ∧ MkL w' lo hi v1 v2 ts rs := by
  obtain ⟨zs, cv, lv, k2⟩ := h2
  exact markStore_row wd lo hi ts.length rs.length 1 v1 v2 _ _ _ zs cv lv w h1 k2.rows hB hs.1 hs.2.1 hs.2.2 (Nat.le_refl _) (kS_le hs)
theorem heldStore_own (wd : Int) {w : World} {lo hi : Nat} {v1 v2 : Value} {ts : List ByteArray} {rs : List T3} (h : MkL w lo hi v1 v2 ts rs) (hs : SoSm ts rs) :
    Calls Tryz.prog 8 #[.agg #[.int .i64 wd, v1, v2], .int .i64 1] w fun e w' => e = .returned (.int .i64 ((kS ts rs : Nat) : Int)) ∧ Below w.heap.size w w' :=
  heldStore_row wd lo hi ts.length rs.length 1 v1 v2 _ _ w h hs.1 hs.2.1 hs.2.2 (Nat.le_refl _) (kS_le hs)
theorem MkL.sl {w : World} {lo hi : Nat} {v1 v2 : Value} {ts : List ByteArray} {rs : List T3} (h : MkL w lo hi v1 v2 ts rs) : (∃ va vc, v1 = .slice va ts.length vc) ∧ ∃ vb vd, v2 = .slice vb rs.length vd := by
  obtain ⟨⟨ys, h1, _⟩, zs, cv, lv, h3, _⟩ := h
  exact ⟨row_slice h1, row_slice h3.row⟩

theorem eqStore_own (wd : Int) {w : World} {lo hi lo' hi' : Nat} {v1 v2 u1 u2 : Value} {ts : List ByteArray} {rs : List T3} (h1 : OwnX w lo hi v1 ts) (h2 : OwnQ w lo hi v2 rs) (k1 : OwnX w lo' hi' u1 ts) (k2 : OwnQ w lo' hi' u2 rs) (hs : SoSm ts rs) :
    Calls Tryz.prog 6 #[.agg #[.int .i64 wd, v1, v2], .agg #[.int .i64 wd, u1, u2]] w fun e w' => Below w.heap.size w w' ∧ e = .returned (.bool true) := by
  obtain ⟨a1, p1, rfl, r1⟩ := h1.sl
  obtain ⟨a2, p2, rfl, r2⟩ := h2.sl
  obtain ⟨a3, p3, rfl, r3⟩ := k1.sl
  obtain ⟨a4, p4, rfl, r4⟩ := k2.sl
  exact eqStore_same wd a1 a2 a3 a4 p1 p2 p3 p4 ts rs w r1 r3 r2 r4 hs.1 hs.2

end Go.Proofs.YtikdgmmloiegjaaGreatDoor
