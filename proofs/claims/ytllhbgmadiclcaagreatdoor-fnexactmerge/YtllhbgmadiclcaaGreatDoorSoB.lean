import Derived.Test.YtllhbgmadiclcaaGreatDoorSoA
namespace Go.Proofs.YtllhbgmadiclcaaGreatDoor
open Go.RowKit
set_option linter.unusedVariables false

set_option maxHeartbeats 400000 in
theorem toGlanceS_own (a : Option Addr) (cap : Nat) (is : List G3) (w : World) (hc : RowG w a is) (hl : is.length ≤ 1048576) :
    Calls Tryz.prog 62 #[.slice a is.length cap] w fun e w' => Below w.heap.size w w' ∧ ∃ g : Nat, e = .returned (.slice (some ⟨g, 0, none⟩) is.length is.length) ∧ ∃ xs, w'.ownsRow w.heap.size 90 3 (.slice (some ⟨g, 0, none⟩) is.length is.length) is.length xs ∧ FilledG is is.length xs := by
  obtain ⟨z0, hi, hz0, hz1, hz2⟩ := info_parts Tryz.info90
  go_enter Tryz.func62, Tryz.ntmps62
  go_wp2_with (first | (at_make; refine wpList_make_full _ rfl (.tmp 6) (.tmp 6) 48 rfl w.heap.size 90 z0 (.agg #[.string ByteArray.empty, .bool false, .string ByteArray.empty]) 3 Tryz.underlying48 hi hz0 hz1 .i64 .i64 _ _ is.length rfl rfl rfl rfl (by rw [hz2]; omega) (by unfold maxLen; omega) (Nat.le_refl _) ?_; intro w1 hown hgrow))
  have hbel1 : Below w.heap.size w w1 := (Below.refl _ _).grown hgrow (Nat.le_refl _) (by simp)
  clear hgrow
  go_loopw [4] (fun i wr => ∃ k : Nat, ∃ xs : List Value, k ≤ is.length ∧ i = .int .i64 k ∧ wr.ownsRow w.heap.size 90 3 (.slice (some ⟨w.heap.size, 0, none⟩) is.length is.length) is.length xs ∧ FilledG is k xs ∧ Below w.heap.size w wr) (fun i _ => is.length - (intOf i).toNat)
  case atStart => exact ⟨0, _, Nat.zero_le _, rfl, hown, fun i hi => by omega, hbel1⟩
  case round =>
    obtain ⟨k, xs, hk, rfl, hown, hfi, hbel⟩ := hrel
    by_cases hlt : k < is.length
    · obtain ⟨b, off, rfl, c1, c2, c3⟩ := (hc.below hbel) k hlt
      have hf2 := filledG_set hfi (show k * 3 + 2 < xs.length by rw [hown.1]; omega)
      generalize gx is k = i at *
      clear hbel1 hc hfi
      go_wp2_with fail
      refine (toGlance_any i _).mono ?_
      rintro e w2 ⟨hb2, rfl⟩
      have hown2 := ownsRow_below hown hb2
      have hbw : Below w.heap.size w w2 := hbel.trans (hb2.mono hbel.size)
      have hfr := hown2.frozenAt
      obtain ⟨o1, d1⟩ := cell_of_length3 hown2 (j := k * 3) (by omega)
      obtain ⟨o2, d2⟩ := cell_of_length3 hown2 (j := k * 3 + 1) (by omega)
      obtain ⟨o3, d3⟩ := cell_of_length3 hown2 (j := k * 3 + 2) (by omega)
      have HO : Hid (w2.ownsRow w.heap.size 90 3 (.slice (some ⟨w.heap.size, 0, none⟩) is.length is.length) is.length xs) := hown2
      clear hown hown2 hb2 hbel
      go_wp2
      go_roundw
      case rel => exact ⟨k + 1, _, by omega, by go_num, (((HO.out.stored _ _).1.stored _ _).1.stored _ _).1, hf2, ((hbw.setCell (Nat.le_refl _) _).setCell (Nat.le_refl _) _).setCell (Nat.le_refl _) _⟩
      case measure => simp [intOf]; omega
    · have ek : k = is.length := by omega
      subst ek
      go_wp2
      go_ret
      exact ⟨hbel, _, rfl, _, hown, hfi⟩

set_option maxHeartbeats 1000000 in
theorem toRecord_own (a la : Option Addr) (cap lc : Nat) (is : List I3) (gs : List G3) (out : ByteArray) (w : World) (rc : Row3 w a is) (rg : RowG w la gs) (h1 : is.length ≤ 1048576) (h2 : gs.length ≤ 1048576) :
    Calls Tryz.prog 40 #[.agg #[.slice a is.length cap, .slice la gs.length lc, .string out]] w fun e w' => Below w.heap.size w w' ∧ ∃ g1 g2 : Nat, e = .returned (.agg #[.slice (some ⟨g1, 0, none⟩) is.length is.length, .slice (some ⟨g2, 0, none⟩) gs.length gs.length, .string out]) ∧ (∃ ys, w'.ownsRow w.heap.size 98 3 (.slice (some ⟨g1, 0, none⟩) is.length is.length) is.length ys ∧ Filled3 is is.length ys) ∧ ∃ zs, w'.ownsRow w.heap.size 90 3 (.slice (some ⟨g2, 0, none⟩) gs.length gs.length) gs.length zs ∧ FilledG gs gs.length zs := by
  go_enter Tryz.func40, Tryz.ntmps40
  go_wp2_with fail
  have hb0 : Below w.heap.size w (((w.alloc (.cells #[.slice a is.length cap, .slice la gs.length lc, .string out] 83)).alloc (.cells #[.slice none 0 0, .slice none 0 0, .string ⟨#[]⟩] 50)).alloc (.cells #[.slice none 0 0, .slice none 0 0, .string ⟨#[]⟩] 50)) := (((Below.refl _ _).alloc (Nat.le_refl _) _).alloc (by simp) _).alloc (by simp; omega) _
  refine (toProgram_own a cap is _ (rc.below hb0) h1).mono ?_
  rintro e w1 ⟨hb1, g, rfl, ys, hr, hfy⟩
  have hg := (hr.lt g rfl).1
  simp at hg
  have hb : Below w.heap.size w w1 := hb0.trans (hb1.mono hb0.size)
  have hz := hb1.size
  simp at hz
  have c01 : w1.cell? ⟨w.heap.size, 1, none⟩ = some (.slice la gs.length lc) := cell_below hb1 (by simp [go_sem])
  have c02 : w1.cell? ⟨w.heap.size, 2, none⟩ = some (.string out) := cell_below hb1 (by simp [go_sem])
  have c10 : w1.cell? ⟨w.heap.size + 1, 0, none⟩ = some (.slice none 0 0) := cell_below hb1 (by simp [go_sem])
  have c11 : w1.cell? ⟨w.heap.size + 1, 1, none⟩ = some (.slice none 0 0) := cell_below hb1 (by simp [go_sem])
  have c12 : w1.cell? ⟨w.heap.size + 1, 2, none⟩ = some (.string ⟨#[]⟩) := cell_below hb1 (by simp [go_sem])
  have c20 : w1.cell? ⟨w.heap.size + 1 + 1, 0, none⟩ = some (.slice none 0 0) := cell_below hb1 (by simp [go_sem])
  have c21 : w1.cell? ⟨w.heap.size + 1 + 1, 1, none⟩ = some (.slice none 0 0) := cell_below hb1 (by simp [go_sem])
  have c22 : w1.cell? ⟨w.heap.size + 1 + 1, 2, none⟩ = some (.string ⟨#[]⟩) := cell_below hb1 (by simp [go_sem])
  have f1 : ∀ j, w1.frozen? ⟨w.heap.size + 1, j, none⟩ = false := fun j => by rw [hb1.frozen (p := ⟨w.heap.size + 1, j, none⟩) (by simp)]; simp [go_sem]
  have f2 : ∀ j, w1.frozen? ⟨w.heap.size + 1 + 1, j, none⟩ = false := fun j => by rw [hb1.frozen (p := ⟨w.heap.size + 1 + 1, j, none⟩) (by simp)]; simp [go_sem]
  clear hb0 hb1
  go_wp2_with fail
  have hbs : Below w.heap.size w (w1.setCell ⟨w.heap.size + 1 + 1, 0, none⟩ (.slice (some ⟨g, 0, none⟩) is.length is.length)) := hb.setCell (p := ⟨w.heap.size + 1 + 1, 0, none⟩) (by simp; omega) _
  refine (toGlanceS_own la lc gs _ (rg.below hbs) h2).mono ?_
  rintro e w2 ⟨hb2, g2, rfl, zs, hr2, hfz⟩
  have hg2 := (hr2.lt g2 rfl).1
  have hb3 : Below w.heap.size w w2 := hbs.trans (hb2.mono hbs.size)
  have hrs := ownsRow_below (own_set (own_base hr (B' := w.heap.size) (by simp; omega)) (b := w.heap.size + 1 + 1) (j := 0) (by omega) (.slice (some ⟨g, 0, none⟩) is.length is.length)) hb2
  have hz2 := hb2.size
  simp at hz2
  simp at hg2
  have d02 : w2.cell? ⟨w.heap.size, 2, none⟩ = some (.string out) := cell_below hb2 (by simp [go_sem, c02])
  have d10 : w2.cell? ⟨w.heap.size + 1, 0, none⟩ = some (.slice none 0 0) := cell_below hb2 (by simp [go_sem, c10])
  have d11 : w2.cell? ⟨w.heap.size + 1, 1, none⟩ = some (.slice none 0 0) := cell_below hb2 (by simp [go_sem, c11])
  have d12 : w2.cell? ⟨w.heap.size + 1, 2, none⟩ = some (.string ⟨#[]⟩) := cell_below hb2 (by simp [go_sem, c12])
  have d20 : w2.cell? ⟨w.heap.size + 1 + 1, 0, none⟩ = some (.slice (some ⟨g, 0, none⟩) is.length is.length) := cell_below hb2 (by simp [go_sem, c20])
  have d21 : w2.cell? ⟨w.heap.size + 1 + 1, 1, none⟩ = some (.slice none 0 0) := cell_below hb2 (by simp [go_sem, c21])
  have d22 : w2.cell? ⟨w.heap.size + 1 + 1, 2, none⟩ = some (.string ⟨#[]⟩) := cell_below hb2 (by simp [go_sem, c22])
  have e1 : ∀ j, w2.frozen? ⟨w.heap.size + 1, j, none⟩ = false := fun j => by rw [hb2.frozen (p := ⟨w.heap.size + 1, j, none⟩) (by simp; omega)]; simp [go_sem, f1]
  have e2 : ∀ j, w2.frozen? ⟨w.heap.size + 1 + 1, j, none⟩ = false := fun j => by rw [hb2.frozen (p := ⟨w.heap.size + 1 + 1, j, none⟩) (by simp; omega)]; simp [go_sem, f2]
  clear hb2 hbs hb c01 c02 c10 c11 c12 c20 c21 c22 f1 f2 hr
  go_wp2
  refine bodyPost_ret (v := .agg #[.slice (some ⟨g, 0, none⟩) is.length is.length, .slice (some ⟨g2, 0, none⟩) gs.length gs.length, .string out]) (by simp [results, Tryz.results40, go_sem, d10, d11, d12]) rfl ⟨?_, g, g2, rfl, ⟨ys, ?_, hfy⟩, zs, ?_, hfz⟩
  · exact ((((hb3.setCell (p := ⟨w.heap.size + 1 + 1, 1, none⟩) (by simp; omega) _).setCell (p := ⟨w.heap.size + 1 + 1, 2, none⟩) (by simp; omega) _).setCell (p := ⟨w.heap.size + 1, 0, none⟩) (by simp) _).setCell (p := ⟨w.heap.size + 1, 1, none⟩) (by simp) _).setCell (p := ⟨w.heap.size + 1, 2, none⟩) (by simp) _
  · exact own_set (own_set (own_set (own_set (own_set hrs (by omega) _) (by omega) _) (by omega) _) (by omega) _) (by omega) _
  · exact own_set (own_set (own_set (own_set (own_set (own_base hr2 (by simp; omega)) (by omega) _) (by omega) _) (by omega) _) (by omega) _) (by omega) _

set_option maxHeartbeats 2000000 in
theorem toRecordS_own (a : Option Addr) (cap : Nat) (is : List T3) (w : World) (hc : RowQ w a is) (hk : QsSmall is) :
    Calls Tryz.prog 21 #[.slice a is.length cap] w fun e w' => Below w.heap.size w w' ∧ ∃ g : Nat, e = .returned (.slice (some ⟨g, 0, none⟩) is.length is.length) ∧ OwnQ w' w.heap.size w'.heap.size (.slice (some ⟨g, 0, none⟩) is.length is.length) is := by
  obtain ⟨z0, hi, hz0, hz1, hz2⟩ := info_parts Tryz.info50
  have hl := hk.1
  have HK : Hid (∀ i, i < is.length → (qx is i).code.length ≤ 1048576 ∧ (qx is i).looks.length ≤ 1048576) := hk.2
  clear hk
  go_enter Tryz.func21, Tryz.ntmps21
  go_wp2_with (first | (at_make; refine wpList_make_full _ rfl (.tmp 6) (.tmp 6) 27 rfl w.heap.size 50 z0 (.agg #[.slice none 0 0, .slice none 0 0, .string ByteArray.empty]) 3 Tryz.underlying27 hi hz0 hz1 .i64 .i64 _ _ is.length rfl rfl rfl rfl (by rw [hz2]; omega) (by unfold maxLen; omega) (Nat.le_refl _) ?_; intro w1 hown hgrow))
  have hbel1 : Below w.heap.size w w1 := (Below.refl _ _).grown hgrow (Nat.le_refl _) (by simp)
  clear hgrow
  go_loopw [4] (fun i wr => ∃ (k : Nat) (xs : List Value) (cv lv : Nat → Value), k ≤ is.length ∧ i = .int .i64 k ∧ wr.ownsRow w.heap.size 50 3 (.slice (some ⟨w.heap.size, 0, none⟩) is.length is.length) is.length xs ∧ Hid (PartQ wr (w.heap.size + 1) is k xs cv lv) ∧ Below w.heap.size w wr) (fun i _ => is.length - (intOf i).toNat)
  case atStart => exact ⟨0, _, _, _, Nat.zero_le _, rfl, hown, PartQ.zero _ _ _ _, hbel1⟩
  case round =>
    obtain ⟨k, xs, cv, lv, hk, rfl, hown, HP, hbel⟩ := hrel
    by_cases hlt : k < is.length
    · obtain ⟨b, off, rfl, ca, cc, la, lc, c1, c2, c3, c4, c5⟩ := (hc.below hbel) k hlt
      have hck := HK.out k hlt
      have hlx : k * 3 + 2 < xs.length := by rw [hown.1]; omega
      have hgl : w.heap.size < wr.heap.size := (hown.lt _ rfl).2
      have HF : Hid (∀ (W : World) (c d : Value) (ys zs : List Value), Below wr.heap.size wr W → W.ownsRow wr.heap.size 98 3 c (qx is k).code.length ys → Filled3 (qx is k).code (qx is k).code.length ys → W.ownsRow wr.heap.size 90 3 d (qx is k).looks.length zs → FilledG (qx is k).looks (qx is k).looks.length zs → (∃ g cap, d = .slice (some ⟨g, 0, none⟩) (qx is k).looks.length cap) → PartQ W (w.heap.size + 1) is (k + 1) (((xs.set (k * 3) c).set (k * 3 + 1) d).set (k * 3 + 2) (.string (qx is k).out)) (fun i => if i = k then c else cv i) (fun i => if i = k then d else lv i)) := fun W c d ys zs h1 h2 h3 h4 h5 h6 => HP.out.add (fun b _ hl => Or.inl (h1.block b hl)) hgl h2 h3 h4 h5 h6 (fun j hj => set3_old _ _ _ hj) (set3_0 _ _ _ hlx) (set3_1 _ _ _ hlx) (set3_2 _ _ _ hlx)
      generalize qx is k = i at *
      have C4 : Hid (Row3 wr ca i.code) := c4
      have C5 : Hid (RowG wr la i.looks) := c5
      clear hbel1 hc c4 c5
      go_wp2_with fail
      refine (toRecord_own ca la cc lc i.code i.looks i.out _ C4.out C5.out hck.1 hck.2).mono ?_
      rintro e w2 ⟨hb2, g1, g2, rfl, ⟨ys, hr1, hfy⟩, zs, hr2, hfz⟩
      have hown2 := ownsRow_below hown hb2
      have hbw : Below w.heap.size w w2 := hbel.trans (hb2.mono hbel.size)
      have hfr := hown2.frozenAt
      have hf2 := (((HF.out w2 _ _ ys zs hb2 hr1 hfy hr2 hfz ⟨_, _, rfl⟩).set (b := w.heap.size) (j := k * 3) (Nat.lt_succ_self _) (.slice (some ⟨g1, 0, none⟩) i.code.length i.code.length)).set (b := w.heap.size) (j := k * 3 + 1) (Nat.lt_succ_self _) (.slice (some ⟨g2, 0, none⟩) i.looks.length i.looks.length)).set (b := w.heap.size) (j := k * 3 + 2) (Nat.lt_succ_self _) (.string i.out)
      obtain ⟨o1, d1⟩ := cell_of_length3 hown2 (j := k * 3) (by omega)
      obtain ⟨o2, d2⟩ := cell_of_length3 hown2 (j := k * 3 + 1) (by omega)
      obtain ⟨o3, d3⟩ := cell_of_length3 hown2 (j := k * 3 + 2) (by omega)
      have HO : Hid (w2.ownsRow w.heap.size 50 3 (.slice (some ⟨w.heap.size, 0, none⟩) is.length is.length) is.length xs) := hown2
      have HF2 : Hid _ := hf2
      clear hown hown2 hb2 hbel hf2 HP HF hr1 hr2 hfy hfz
      go_wp2
      go_roundw
      case rel => exact ⟨k + 1, _, _, _, by omega, by go_num, (((HO.out.stored _ _).1.stored _ _).1.stored _ _).1, HF2.out, ((hbw.setCell (Nat.le_refl _) _).setCell (Nat.le_refl _) _).setCell (Nat.le_refl _) _⟩
      case measure => simp [intOf]; omega
    · have ek : k = is.length := by omega
      subst ek
      go_wp2
      go_ret
      exact ⟨hbel, _, rfl, HP.out.own hown (Nat.le_succ _) (Nat.le_refl _)⟩

set_option maxHeartbeats 2000000 in
theorem toStore_own (n : Int) (ta ra : Option Addr) (tc rc : Nat) (ts : List ByteArray) (rs : List T3) (w : World) (st : Strs w ta ts) (rq : RowQ w ra rs) (hl : ts.length ≤ 1048576) (hq : QsSmall rs) :
    Calls Tryz.prog 6 #[.agg #[.int .i64 n, .slice ta ts.length tc, .slice ra rs.length rc]] w fun e w' => Below w.heap.size w w' ∧ ∃ (g1 : Nat) (v2 : Value), e = .returned (.agg #[.int .i64 n, .slice (some ⟨g1, 0, none⟩) ts.length ts.length, v2]) ∧ OwnX w' w.heap.size w'.heap.size (.slice (some ⟨g1, 0, none⟩) ts.length ts.length) ts ∧ OwnQ w' w.heap.size w'.heap.size v2 rs := by
  have HST : Hid (Strs w ta ts) := st
  have HRQ : Hid (RowQ w ra rs) := rq
  have HQS : Hid (QsSmall rs) := hq
  clear st rq hq
  go_enter Tryz.func6, Tryz.ntmps6
  go_wp2_with fail
  have hb0 : Below w.heap.size w (((w.alloc (.cells #[.int .i64 n, .slice ta ts.length tc, .slice ra rs.length rc] 25)).alloc (.cells #[.int .i64 0, .slice none 0 0, .slice none 0 0] 29)).alloc (.cells #[.int .i64 n, .slice none 0 0, .slice none 0 0] 29)) := (((Below.refl _ _).alloc (Nat.le_refl _) _).alloc (by simp) _).alloc (by simp; omega) _
  refine (toStringS_own ta tc ts _ (HST.out.below hb0) hl).mono ?_
  rintro e w1 ⟨hb1, g, rfl, hr⟩
  have hg := (hr.lt g rfl).1
  simp at hg
  rw [filled_all] at hr
  have HS1 : Hid (OwnX w1 (w.heap.size + 1 + 1 + 1) w1.heap.size (.slice (some ⟨g, 0, none⟩) ts.length ts.length) ts) := RowO.new (own_base hr (by simp))
  have hb : Below w.heap.size w w1 := hb0.trans (hb1.mono hb0.size)
  have hz := hb1.size
  simp at hz
  have c02 : w1.cell? ⟨w.heap.size, 2, none⟩ = some (.slice ra rs.length rc) := cell_below hb1 (by simp [go_sem])
  have c10 : w1.cell? ⟨w.heap.size + 1, 0, none⟩ = some (.int .i64 0) := cell_below hb1 (by simp [go_sem])
  have c11 : w1.cell? ⟨w.heap.size + 1, 1, none⟩ = some (.slice none 0 0) := cell_below hb1 (by simp [go_sem])
  have c12 : w1.cell? ⟨w.heap.size + 1, 2, none⟩ = some (.slice none 0 0) := cell_below hb1 (by simp [go_sem])
  have c20 : w1.cell? ⟨w.heap.size + 1 + 1, 0, none⟩ = some (.int .i64 n) := cell_below hb1 (by simp [go_sem])
  have c21 : w1.cell? ⟨w.heap.size + 1 + 1, 1, none⟩ = some (.slice none 0 0) := cell_below hb1 (by simp [go_sem])
  have c22 : w1.cell? ⟨w.heap.size + 1 + 1, 2, none⟩ = some (.slice none 0 0) := cell_below hb1 (by simp [go_sem])
  have f1 : ∀ j, w1.frozen? ⟨w.heap.size + 1, j, none⟩ = false := fun j => by rw [hb1.frozen (p := ⟨w.heap.size + 1, j, none⟩) (by simp)]; simp [go_sem]
  have f2 : ∀ j, w1.frozen? ⟨w.heap.size + 1 + 1, j, none⟩ = false := fun j => by rw [hb1.frozen (p := ⟨w.heap.size + 1 + 1, j, none⟩) (by simp)]; simp [go_sem]
  clear hb0 hb1
  go_wp2_with fail
  have hbs : Below w.heap.size w (w1.setCell ⟨w.heap.size + 1 + 1, 1, none⟩ (.slice (some ⟨g, 0, none⟩) ts.length ts.length)) := hb.setCell (p := ⟨w.heap.size + 1 + 1, 1, none⟩) (by simp; omega) _
  refine (toRecordS_own ra rc rs _ (HRQ.out.below hbs) HQS.out).mono ?_
  rintro e w2 ⟨hb2, g2, rfl, hr2⟩
  have hb3 : Below w.heap.size w w2 := hbs.trans (hb2.mono hbs.size)
  have HS2 : Hid (OwnX w2 (w.heap.size + 1 + 1 + 1) w1.heap.size (.slice (some ⟨g, 0, none⟩) ts.length ts.length) ts) := (HS1.out.set (j := 1) (show w.heap.size + 1 + 1 < w.heap.size + 1 + 1 + 1 by omega) _).below hb2
  have hz2 := hb2.size
  simp at hz2
  have HT2 : Hid (OwnQ w2 (w.heap.size + 1 + 1 + 1) w2.heap.size (.slice (some ⟨g2, 0, none⟩) rs.length rs.length) rs) := hr2.wide (by simp; omega) (Nat.le_refl _)
  have hs12 : w1.heap.size ≤ w2.heap.size := by simpa using hb2.size
  have d10 : w2.cell? ⟨w.heap.size + 1, 0, none⟩ = some (.int .i64 0) := cell_below hb2 (by simp [go_sem, c10])
  have d11 : w2.cell? ⟨w.heap.size + 1, 1, none⟩ = some (.slice none 0 0) := cell_below hb2 (by simp [go_sem, c11])
  have d12 : w2.cell? ⟨w.heap.size + 1, 2, none⟩ = some (.slice none 0 0) := cell_below hb2 (by simp [go_sem, c12])
  have d20 : w2.cell? ⟨w.heap.size + 1 + 1, 0, none⟩ = some (.int .i64 n) := cell_below hb2 (by simp [go_sem, c20])
  have d21 : w2.cell? ⟨w.heap.size + 1 + 1, 1, none⟩ = some (.slice (some ⟨g, 0, none⟩) ts.length ts.length) := cell_below hb2 (by simp [go_sem, c21])
  have d22 : w2.cell? ⟨w.heap.size + 1 + 1, 2, none⟩ = some (.slice none 0 0) := cell_below hb2 (by simp [go_sem, c22])
  have e1 : ∀ j, w2.frozen? ⟨w.heap.size + 1, j, none⟩ = false := fun j => by rw [hb2.frozen (p := ⟨w.heap.size + 1, j, none⟩) (by simp; omega)]; simp [go_sem, f1]
  have e2 : ∀ j, w2.frozen? ⟨w.heap.size + 1 + 1, j, none⟩ = false := fun j => by rw [hb2.frozen (p := ⟨w.heap.size + 1 + 1, j, none⟩) (by simp; omega)]; simp [go_sem, f2]
  clear hb2 hbs hb c02 c10 c11 c12 c20 c21 c22 f1 f2 hr hr2 HS1
  go_wp2
  refine bodyPost_ret (v := .agg #[.int .i64 n, .slice (some ⟨g, 0, none⟩) ts.length ts.length, .slice (some ⟨g2, 0, none⟩) rs.length rs.length]) (by simp [results, Tryz.results6, go_sem, d10, d11, d12]) rfl ⟨?_, _, _, rfl, ?_, ?_⟩
  · exact (((hb3.setCell (p := ⟨w.heap.size + 1 + 1, 2, none⟩) (by simp; omega) _).setCell (p := ⟨w.heap.size + 1, 0, none⟩) (by simp) _).setCell (p := ⟨w.heap.size + 1, 1, none⟩) (by simp) _).setCell (p := ⟨w.heap.size + 1, 2, none⟩) (by simp) _
  · exact ((((HS2.out.set (by omega) _).set (by omega) _).set (by omega) _).set (by omega) _).wide (by omega) (by simp; omega)
  · exact ((((HT2.out.set (by omega) _).set (by omega) _).set (by omega) _).set (by omega) _).wide (by omega) (by simp)

end Go.Proofs.YtllhbgmadiclcaaGreatDoor
