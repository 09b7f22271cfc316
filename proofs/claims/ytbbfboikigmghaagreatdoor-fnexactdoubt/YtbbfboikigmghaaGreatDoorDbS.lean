import Derived.Test.YtbbfboikigmghaaGreatDoorDbB
import Derived.Test.YtbbfboikigmghaaGreatDoorStD
import Derived.Deep.RegionLaw
import Derived.Deep.DeepCutAuto
import Derived.BigQuiet
namespace Go.Proofs.YtbbfboikigmghaaGreatDoor
open Go.RowKit
set_option linter.unusedVariables false
set_option maxHeartbeats 32000000
set_option maxRecDepth 100000
section
open Go.Deep
theorem specDoubt_yes (n : Nat) (ta ra sa ua : Option Addr) (tc rc c1 c2 : Nat) (ts : List ByteArray) (rs : List T3) (ss : List S2) (tp : List T2) (nm : ByteArray) (w : World) (h1 : 1 <= n) (h8 : n <= 8) (hw : WdOk n ts rs) (hch : chk ss tp = 0) (hnm : NameOk nm) (hst : StIn w ta ts ra rs) (hsp : SpOk w sa ss ua tp) (hsm : SpSmall ss tp)
    (hL : ∀ V, Below w.heap.size w V -> Calls Tryz.prog 19 #[.agg #[.int .i64 n, .slice ta ts.length tc, .slice ra rs.length rc], .agg #[.slice sa ss.length c1, .slice ua tp.length c2], .string nm] V fun e w' => Below V.heap.size V w' /\ L5P V.heap.size ts ss tp nm e w') :
    Calls Tryz.prog 6 #[.agg #[.int .i64 n, .slice ta ts.length tc, .slice ra rs.length rc], .agg #[.slice sa ss.length c1, .slice ua tp.length c2], .string nm] w fun e w' => Below w.heap.size w w' /\ ∃ A B ok, e = .returned (.tuple #[.string A, .string B, .bool ok]) /\ DoubtP n ts rs ss tp nm A B ok := by
  obtain ⟨W, eW⟩ : ∃ W, (w.alloc (.cells #[.int .i64 n, .slice ta ts.length tc, .slice ra rs.length rc] 36)).alloc (.cells #[.slice sa ss.length c1, .slice ua tp.length c2] 41) = W := ⟨_, rfl⟩
  have hbW : Below w.heap.size w W := by rw [<- eW]; exact ((Below.refl _ _).alloc (Nat.le_refl _) _).alloc (by simp) _
  have hWa : W.heap[w.heap.size]? = some (.cells #[.int .i64 n, .slice ta ts.length tc, .slice ra rs.length rc] 36 (0, 0)) := by
    rw [<- eW, Lib.alloc_old _ _ _ (by simp)]; exact heap_new _ _
  have hWb : W.heap[w.heap.size + 1]? = some (.cells #[.slice sa ss.length c1, .slice ua tp.length c2] 41 (0, 0)) := by
    rw [<- eW]
    have h := heap_new (w.alloc (.cells #[.int .i64 n, .slice ta ts.length tc, .slice ra rs.length rc] 36)) (.cells #[.slice sa ss.length c1, .slice ua tp.length c2] 41)
    rw [show (w.alloc (.cells #[.int .i64 n, .slice ta ts.length tc, .slice ra rs.length rc] 36)).heap.size = w.heap.size + 1 from by simp] at h
    exact h
  have HWA : Hid (W.heap[w.heap.size]? = some (.cells #[.int .i64 n, .slice ta ts.length tc, .slice ra rs.length rc] 36 (0, 0))) := hWa
  have HWB : Hid (W.heap[w.heap.size + 1]? = some (.cells #[.slice sa ss.length c1, .slice ua tp.length c2] 41 (0, 0))) := hWb
  have k0 : W.cell? ⟨w.heap.size, 0, none⟩ = some (.int .i64 n) := by rw [Lib.cell_of_heap hWa]; rfl
  have k1 : W.cell? ⟨w.heap.size, 1, none⟩ = some (.slice ta ts.length tc) := by rw [Lib.cell_of_heap hWa]; rfl
  have k2 : W.cell? ⟨w.heap.size, 2, none⟩ = some (.slice ra rs.length rc) := by rw [Lib.cell_of_heap hWa]; rfl
  have j0 : W.cell? ⟨w.heap.size + 1, 0, none⟩ = some (.slice sa ss.length c1) := by rw [Lib.cell_of_heap hWb]; rfl
  have j1 : W.cell? ⟨w.heap.size + 1, 1, none⟩ = some (.slice ua tp.length c2) := by rw [Lib.cell_of_heap hWb]; rfl
  have HB : Hid (Below w.heap.size w W) := hbW
  have HST : Hid (StIn w ta ts ra rs) := hst
  have HSP : Hid (SpOk w sa ss ua tp) := hsp
  have HSM : Hid (SpSmall ss tp) := hsm
  have HW : Hid (WdOk n ts rs) := hw
  have HCH : Hid (chk ss tp = 0) := hch
  have HNM : Hid (NameOk nm) := hnm
  have e1 := nameB_true hnm
  have hns : nm.size <= 9223372036854775807 := by have := hnm.2.1; omega
  have HL := (show Hid _ from hL)
  have hlt : ts.length <= 5000 := hw.2.2.1.1
  clear hst hsp hsm hw hch hnm hL hWa hWb hbW
  go_enter Tryz.func6, Tryz.ntmps6
  go_wp2_with fail
  refine (specValidStore_any n ta ra tc rc ts rs _ (HST.out.below HB.out)).mono ?_
  rintro e w1 ⟨hb1, b, rfl, hbb⟩
  obtain rfl : b = true := hbb.2 HW.out
  have q0 := cell_below hb1 k0
  have q1 := cell_below hb1 k1
  have q2 := cell_below hb1 k2
  have p0 := cell_below hb1 j0
  have p1 := cell_below hb1 j1
  have HB1 : Hid (Below w.heap.size w w1) := bt HB.out hb1
  clear k0 k1 k2 j0 j1 hbb hb1
  go_wp2_with fail
  refine (specCheck_any sa ua c1 c2 ss tp _ (HSP.out.below HB1.out) HSM.out).mono ?_
  rintro e w2 ⟨hb2, rfl⟩
  rw [HCH.out]
  have r0 := cell_below hb2 q0
  have r1 := cell_below hb2 q1
  have r2 := cell_below hb2 q2
  have s0 := cell_below hb2 p0
  have s1 := cell_below hb2 p1
  have HB2 : Hid (Below w.heap.size w w2) := bt HB1.out hb2
  clear q0 q1 q2 p0 p1 hb2
  go_wp2_with (first | (go_at_call 18; refine (l2NameOk_any nm _ hns).mono ?_; rintro e w9 ⟨rfl, rfl⟩; rw [e1]))
  refine (HL.out _ HB2.out).mono ?_
  rintro e w3 ⟨hb3, g, cap, ms, an, rfl, hdo, hlen, hsz, hg, hown⟩
  obtain ⟨all, eall⟩ : ∃ all, dbT ts ms = all := ⟨_, rfl⟩
  have HNC : Hid (NoClash n all ts.length) := by
    show NoClash _ _ _
    rw [<- eall]
    have := noClash_store HW.out.2.2.1 ([one1, zero1] ++ forms ms)
    rw [<- List.append_assoc] at this
    exact this
  have hle : ts.length <= all.length := by rw [<- eall]; simp [dbT]
  rw [eall] at hlen hsz hown ⊢
  have HDO : Hid (Does ss tp [] [] (.make nm) ms an /\ dbT ts ms = all) := ⟨hdo, eall⟩
  have HSZ : Hid (∀ j, (nx all j).size <= 2002) := hsz
  have HOW : Hid (w3.ownsRow w2.heap.size 9 1 (.slice (some ⟨g, 0, none⟩) all.length cap) all.length (strV all)) := hown
  have HB3 : Hid (Below w.heap.size w w3) := bt HB2.out hb3
  have u0 := cell_below hb3 r0
  have u1 := cell_below hb3 r1
  have u2 := cell_below hb3 r2
  clear r0 r1 r2 s0 s1 hb3 hdo eall hsz hown
  go_wp2_with fail
  go_loopw [10, 11] (fun s i wr => ∃ k g' cp : Nat, k <= all.length /\ s = .slice (some ⟨g', 0, none⟩) k cp /\ i = .int .i64 k /\ Hid (wr.ownsRow w3.heap.size 9 1 (.slice (some ⟨g', 0, none⟩) k cp) k (hcells n all k)) /\ Hid (Below w3.heap.size w3 wr)) (fun _ i _ => all.length - (intOf i).toNat)
  case atStart =>
    refine ⟨0, w3.heap.size, 0, Nat.zero_le _, rfl, rfl, ?_, ((Below.refl _ _).alloc (Nat.le_refl _) _ : Below w3.heap.size w3 (w3.alloc (.cells #[] 9)))⟩
    exact World.ownsRow_lit (base := w3.heap.size) (e := 9) (size := 1) w3 #[] 0 (by simp) (by unfold maxLen; omega) rfl
  case round =>
    obtain ⟨k, g', cp, hk, rfl, rfl, HR, HBR⟩ := hrel
    by_cases hlt2 : k < all.length
    · have hkI : (k : Int) < (all.length : Int) := by omega
      have hx := (ownsRow_below HOW.out HBR.out).cellAt k (by omega)
      rw [strV_nx all k hlt2] at hx
      have v0 := cell_below HBR.out u0
      have HXZ : Hid ((nx all k).size <= 2002) := HSZ.out k
      obtain ⟨x, ex⟩ : ∃ x, nx all k = x := ⟨_, rfl⟩
      obtain ⟨q, eq⟩ : ∃ q, Hs n x = q := ⟨_, rfl⟩
      rw [ex] at hx
      have HSUM : Hid (∀ V : World, Calls Tryz.prog 20 #[.string x, .int .i64 n] V fun e w' => ∃ v, e = .returned v /\ (v = .string q /\ Below V.heap.size V w')) := fun V => by
        refine (specSum_H x n V (by rw [<- ex]; have := HXZ.out; omega) h1 h8).mono ?_
        rintro e w' ⟨rfl, hb⟩
        exact ⟨_, rfl, by rw [eq], hb⟩
      have HQ : Hid (Hs n (nx all k) = q) := by show _ = _; rw [ex, eq]
      have HLN : Hid (∀ (V : World) (o : Obj), Below wr.heap.size wr V -> (V.alloc o).ownsRow w3.heap.size 9 1 (.slice (some ⟨g', 0, none⟩) k cp) k (hcells n all k)) := fun V o hV => (ownsRow_below HR.out hV).alloc o
      clear ex eq
      go_upto_region 8 with fail
      obtain ⟨U, eU⟩ : ∃ U, wr.drew = U := ⟨_, rfl⟩
      have hbU : Below wr.heap.size wr U := by rw [<- eU]; exact (Below.refl _ _).drew
      have hxU := cell_below hbU hx
      have v0U := cell_below hbU v0
      have HBU : Hid (Below wr.heap.size wr U) := hbU
      clear hbU hx v0
      go_region_law (first | (refine step_call2 (f := 20) rfl rfl (.string x) (.int .i64 n) ?_ ?_ (HSUM.out _) (fun W => by simp [go_sem]) ?_; (focus (first | rfl | (simp [Act.eval]; done))); (focus (first | rfl | (simp [Act.eval]; done))); rintro v w6 ⟨rfl, hb6x⟩; have HB6 : Hid (Below U.heap.size U w6) := ⟨hb6x.os, hb6x.tape, hb6x.output, hb6x.size, hb6x.block⟩; have HRA : Hid (∀ o : Obj, (w6.alloc o).ownsRow w3.heap.size 9 1 (.slice (some ⟨g', 0, none⟩) k cp) k (hcells n all k)) := (fun o => HLN.out _ o (bt HBU.out HB6.out)); have hs6 : w3.heap.size <= w6.heap.size := (Nat.le_trans HBR.out.size (bt HBU.out HB6.out).size); clear hb6x) | (refine step_app1 rfl rfl w3.heap.size (some ⟨g', 0, none⟩) k cp (hcells n all k) ?_ ?_ w6.heap.size q ?_ ?_ ?_ ?_ ?_; (focus (first | rfl | (simp [Act.eval]; done))); (focus (exact HRA.out _)); (focus (first | rfl | (simp [Act.eval]; done))); (focus (exact heap_new _ _)); (focus (simp; omega)); (focus omega); intro g2 cp2 w7 hown7 hgrow7; have HO7 : Hid (w7.ownsRow w3.heap.size 9 1 (.slice (some ⟨g2, 0, none⟩) (k + 1) cp2) (k + 1) (hcells n all k ++ [.string q])) := hown7; have HG7 : Hid ((w6.alloc (.cells #[.string q] 9)).grownBy w7 (Value.slice (some ⟨g', 0, none⟩) k cp).ownBlock) := ⟨hgrow7.os, hgrow7.tape, hgrow7.output, hgrow7.size, hgrow7.block⟩; clear hown7 hgrow7))
      all_goals
        simp [Act.put]
        go_wp2_with fail
        have hbw : Below w3.heap.size w3 w6 := HBR.out.trans ((bt HBU.out HB6.out).mono HBR.out.size)
        refine ⟨⟨k + 1, g2, cp2, by omega, rfl, by go_num, ?_, ?_⟩, by simp [intOf]; omega⟩
        · show World.ownsRow _ _ _ _ _ _ _
          rw [hcells_succ, HQ.out]
          exact HO7.out
        · exact below_grown (hbw.alloc hs6 _) (HRA.out _) HG7.out (by simp; omega)
    · obtain rfl : k = all.length := by omega
      have hkI : ¬ (all.length : Int) < (all.length : Int) := by omega
      have v1 := cell_below HBR.out u1
      have HT : Hid (∀ V, Below wr.heap.size wr V -> ∀ i, i < all.length -> V.cell? ⟨g, i, none⟩ = some (.string (nx all i)) /\ V.cell? ⟨g', i, none⟩ = some (.string (Hs n (nx all i)))) := fun V hV i hi => by
        constructor
        · have := (ownsRow_below (ownsRow_below HOW.out HBR.out) hV).cellAt i (by omega)
          rw [strV_nx all i hi] at this
          exact this
        · have := (ownsRow_below HR.out hV).cellAt i (by omega)
          rw [hcells_get n all all.length i hi] at this
          exact this
      have HBA : Hid (Below w.heap.size w wr) := bt HB3.out HBR.out
      obtain ⟨wA, ewA⟩ : ∃ wA, wA = wr := ⟨_, rfl⟩
      subst ewA
      clear HR HOW HBR u0 u1 u2 HSZ
      go_wp2_with fail
      go_loopw [12] (fun jv w5 => ∃ j : Nat, ts.length <= j /\ j <= all.length /\ jv = .int .i64 j /\ Hid (NoClash n all j) /\ Hid (Below wA.heap.size wA w5)) (fun jv _ => all.length - (intOf jv).toNat)
      case atStart => exact ⟨ts.length, Nat.le_refl _, hle, rfl, HNC, (Below.refl _ _ : Below wA.heap.size wA wA)⟩
      case round =>
        obtain ⟨j, hj0, hj1, rfl, HN, HB5⟩ := hrel
        by_cases hj : j < all.length
        · have hjI : (j : Int) < (all.length : Int) := by omega
          obtain ⟨wB, ewB⟩ : ∃ wB, wB = wr := ⟨_, rfl⟩
          subst ewB
          go_wp2_with fail
          go_loopw [13] (fun iv w5 => ∃ i : Nat, i <= j /\ iv = .int .i64 i /\ Hid (∀ i', i' < i -> Hs n (nx all i') = Hs n (nx all j) -> nx all i' = nx all j) /\ Hid (Below wA.heap.size wA w5)) (fun iv _ => j - (intOf iv).toNat)
          case atStart => exact ⟨0, Nat.zero_le _, rfl, (fun i' hi' => by omega : ∀ i', i' < 0 -> Hs n (nx all i') = Hs n (nx all j) -> nx all i' = nx all j), HB5⟩
          case round =>
            obtain ⟨i, hi0, rfl, HI, HB6⟩ := hrel
            by_cases hi : i < j
            · have hiI : (i : Int) < (j : Int) := by omega
              have hiA : (i : Int) < (all.length : Int) := by omega
              obtain ⟨t1, t2⟩ := HT.out _ HB6.out i (by omega)
              obtain ⟨t3, t4⟩ := HT.out _ HB6.out j hj
              obtain ⟨x1, ex1⟩ : ∃ x, nx all i = x := ⟨_, rfl⟩
              obtain ⟨x3, ex3⟩ : ∃ x, nx all j = x := ⟨_, rfl⟩
              obtain ⟨q2, eq2⟩ : ∃ q, Hs n x1 = q := ⟨_, rfl⟩
              obtain ⟨q4, eq4⟩ : ∃ q, Hs n x3 = q := ⟨_, rfl⟩
              rw [ex1] at t1 t2
              rw [ex3] at t3 t4
              rw [eq2] at t2
              rw [eq4] at t4
              have HE : Hid (nx all i = x1 /\ nx all j = x3 /\ Hs n x1 = q2 /\ Hs n x3 = q4) := ⟨ex1, ex3, eq2, eq4⟩
              clear ex1 ex3 eq2 eq4
              go_upto_region 15 with fail
              by_cases hq : q2 = q4
              · have dq := str_eq hq
                have HQ : Hid (q2 = q4) := hq
                obtain ⟨U, eU⟩ : ∃ U, wr.drew = U := ⟨_, rfl⟩
                have hbU : Below wr.heap.size wr U := by rw [<- eU]; exact (Below.refl _ _).drew
                replace t1 := cell_below hbU t1
                replace t2 := cell_below hbU t2
                replace t3 := cell_below hbU t3
                replace t4 := cell_below hbU t4
                have HBU : Hid (Below wA.heap.size wA U) := bt HB6.out hbU
                clear hq hbU
                by_cases hx : x1 = x3
                · have dx := str_eq hx
                  have HX : Hid (x1 = x3) := hx
                  clear hx
                  go_region
                  go_wp2_with fail
                  go_roundw
                  case rel =>
                    refine ⟨i + 1, by omega, by go_num, ?_, HBU⟩
                    show ∀ i', i' < i + 1 -> Hs n (nx all i') = Hs n (nx all j) -> nx all i' = nx all j
                    intro i' hi' he
                    rcases Nat.lt_or_ge i' i with hl | hl
                    · exact HI.out i' hl he
                    · obtain rfl : i' = i := by omega
                      rw [HE.out.1, HE.out.2.1]; exact HX.out
                  case measure => simp [intOf]; omega
                · have dx := str_ne hx
                  have HX : Hid (¬ x1 = x3) := hx
                  clear hx
                  go_region
                  go_upto_region 16 with fail
                  obtain ⟨U2, eU2⟩ : ∃ U2, U.drew = U2 := ⟨_, rfl⟩
                  have hb2 : Below U.heap.size U U2 := by rw [<- eU2]; exact (Below.refl _ _).drew
                  replace t1 := cell_below hb2 t1
                  replace t3 := cell_below hb2 t3
                  have HB2 : Hid (Below wA.heap.size wA U2) := bt HBU.out hb2
                  clear hb2 t2 t4
                  go_region
                  all_goals
                    go_wp2_with fail
                    go_ret3
                    refine ⟨bt HBA.out HB2.out, x1, x3, true, rfl, Or.inl ⟨HW.out, HCH.out, HNM.out, ms, an, HDO.out.1, ?_⟩⟩
                    rw [HDO.out.2, Int.toNat_natCast]
                    refine Or.inr ⟨rfl, i, j, ⟨hi, hj, HN.out, ?_, ?_, HI.out⟩, HE.out.1.symm, HE.out.2.1.symm⟩
                    · rw [HE.out.1, HE.out.2.1, HE.out.2.2.1, HE.out.2.2.2]; exact HQ.out
                    · rw [HE.out.1, HE.out.2.1]; exact HX.out
              · have dq := str_ne hq
                have HQ : Hid (¬ q2 = q4) := hq
                clear hq
                go_quiet (fail)
                go_wp2_with fail
                go_roundw
                case rel =>
                  refine ⟨i + 1, by omega, by go_num, ?_, (bt HB6.out (below_drewN (Below.refl _ _) _) : Below wA.heap.size wA _)⟩
                  show ∀ i', i' < i + 1 -> Hs n (nx all i') = Hs n (nx all j) -> nx all i' = nx all j
                  intro i' hi' he
                  rcases Nat.lt_or_ge i' i with hl | hl
                  · exact HI.out i' hl he
                  · obtain rfl : i' = i := by omega
                    rw [HE.out.1, HE.out.2.1, HE.out.2.2.1, HE.out.2.2.2] at he
                    exact absurd he HQ.out
                case measure => simp [intOf]; omega
            · obtain rfl : i = j := by omega
              have hiI : ¬ (i : Int) < (i : Int) := by omega
              go_wp2_with fail
              go_roundw
              case rel => exact ⟨i + 1, by omega, by omega, by go_num, noClash_succ HN.out HI.out, HB6⟩
              case measure => simp [intOf]; omega
        · obtain rfl : j = all.length := by omega
          have hjI : ¬ (all.length : Int) < (all.length : Int) := by omega
          go_wp2_with fail
          refine bodyPost_ret (v := .tuple #[.string ⟨#[]⟩, .string ⟨#[]⟩, .bool false]) (by simp [results, Tryz.results6, go_sem]) rfl ⟨bt HBA.out HB5.out, ⟨#[]⟩, ⟨#[]⟩, Or.inl ⟨rfl, Or.inl ⟨HW.out, HCH.out, HNM.out, ms, an, HDO.out.1, ?_⟩⟩⟩
          rw [HDO.out.2, Int.toNat_natCast]
          exact Or.inl ⟨rfl, rfl, rfl, HN.out⟩
theorem specDoubt_no (n : Int) (ta ra sa ua : Option Addr) (tc rc c1 c2 : Nat) (ts : List ByteArray) (rs : List T3) (ss : List S2) (tp : List T2) (nm : ByteArray) (w : World) (hno : ¬ (WdOk n ts rs /\ chk ss tp = 0 /\ NameOk nm)) (hns : nm.size <= 9223372036854775807) (hst : StIn w ta ts ra rs) (hsp : SpOk w sa ss ua tp) (hsm : SpSmall ss tp) :
    Calls Tryz.prog 6 #[.agg #[.int .i64 n, .slice ta ts.length tc, .slice ra rs.length rc], .agg #[.slice sa ss.length c1, .slice ua tp.length c2], .string nm] w fun e w' => Below w.heap.size w w' /\ ∃ A B ok, e = .returned (.tuple #[.string A, .string B, .bool ok]) /\ DoubtP n ts rs ss tp nm A B ok := by
  obtain ⟨W, eW⟩ : ∃ W, (w.alloc (.cells #[.int .i64 n, .slice ta ts.length tc, .slice ra rs.length rc] 36)).alloc (.cells #[.slice sa ss.length c1, .slice ua tp.length c2] 41) = W := ⟨_, rfl⟩
  have hbW : Below w.heap.size w W := by rw [<- eW]; exact ((Below.refl _ _).alloc (Nat.le_refl _) _).alloc (by simp) _
  have hWa : W.heap[w.heap.size]? = some (.cells #[.int .i64 n, .slice ta ts.length tc, .slice ra rs.length rc] 36 (0, 0)) := by
    rw [<- eW, Lib.alloc_old _ _ _ (by simp)]; exact heap_new _ _
  have hWb : W.heap[w.heap.size + 1]? = some (.cells #[.slice sa ss.length c1, .slice ua tp.length c2] 41 (0, 0)) := by
    rw [<- eW]
    have h := heap_new (w.alloc (.cells #[.int .i64 n, .slice ta ts.length tc, .slice ra rs.length rc] 36)) (.cells #[.slice sa ss.length c1, .slice ua tp.length c2] 41)
    rw [show (w.alloc (.cells #[.int .i64 n, .slice ta ts.length tc, .slice ra rs.length rc] 36)).heap.size = w.heap.size + 1 from by simp] at h
    exact h
  have k0 : W.cell? ⟨w.heap.size, 0, none⟩ = some (.int .i64 n) := by rw [Lib.cell_of_heap hWa]; rfl
  have k1 : W.cell? ⟨w.heap.size, 1, none⟩ = some (.slice ta ts.length tc) := by rw [Lib.cell_of_heap hWa]; rfl
  have k2 : W.cell? ⟨w.heap.size, 2, none⟩ = some (.slice ra rs.length rc) := by rw [Lib.cell_of_heap hWa]; rfl
  have j0 : W.cell? ⟨w.heap.size + 1, 0, none⟩ = some (.slice sa ss.length c1) := by rw [Lib.cell_of_heap hWb]; rfl
  have j1 : W.cell? ⟨w.heap.size + 1, 1, none⟩ = some (.slice ua tp.length c2) := by rw [Lib.cell_of_heap hWb]; rfl
  have HB : Hid (Below w.heap.size w W) := hbW
  have HST : Hid (StIn w ta ts ra rs) := hst
  have HSP : Hid (SpOk w sa ss ua tp) := hsp
  have HSM : Hid (SpSmall ss tp) := hsm
  have HNO : Hid (¬ (WdOk n ts rs /\ chk ss tp = 0 /\ NameOk nm)) := hno
  clear hst hsp hsm hno hWa hWb hbW
  go_enter Tryz.func6, Tryz.ntmps6
  go_wp2_with fail
  refine (specValidStore_any n ta ra tc rc ts rs _ (HST.out.below HB.out)).mono ?_
  rintro e w1 ⟨hb1, b, rfl, hbb⟩
  have HB1 : Hid (Below w.heap.size w w1) := bt HB.out hb1
  have HBB : Hid (b = true ↔ WdOk n ts rs) := hbb
  have p0 := cell_below hb1 j0
  have p1 := cell_below hb1 j1
  clear k0 k1 k2 j0 j1 hbb hb1
  cases b with
  | false =>
    go_wp2_with fail
    exact bodyPost_ret (v := .tuple #[.string ⟨#[]⟩, .string ⟨#[]⟩, .bool false]) (by simp [results, Tryz.results6, go_sem]) rfl ⟨HB1.out, ⟨#[]⟩, ⟨#[]⟩, false, rfl, Or.inr ⟨HNO.out, rfl, rfl, rfl⟩⟩
  | true =>
    go_wp2_with fail
    refine (specCheck_any sa ua c1 c2 ss tp _ (HSP.out.below HB1.out) HSM.out).mono ?_
    rintro e w2 ⟨hb2, rfl⟩
    have HB2 : Hid (Below w.heap.size w w2) := bt HB1.out hb2
    obtain ⟨c, ec⟩ : ∃ c, chk ss tp = c := ⟨_, rfl⟩
    have HC : Hid (chk ss tp = c) := ec
    rw [ec]
    clear p0 p1 hb2 ec
    by_cases hc : c = 0
    · subst hc
      have e1 : nameB nm = false := nameB_false (fun h => HNO.out ⟨HBB.out.1 (by first | rfl | trivial), HC.out, h⟩)
      go_wp2_with (first | (go_at_call 18; refine (l2NameOk_any nm _ hns).mono ?_; rintro e w9 ⟨rfl, rfl⟩; rw [e1]))
      exact bodyPost_ret (v := .tuple #[.string ⟨#[]⟩, .string ⟨#[]⟩, .bool false]) (by simp [results, Tryz.results6, go_sem]) rfl ⟨HB2.out, ⟨#[]⟩, ⟨#[]⟩, false, rfl, Or.inr ⟨HNO.out, rfl, rfl, rfl⟩⟩
    · have hcI : ((c : Int) != 0) = true := by simp; exact hc
      go_wp2_with fail
      exact bodyPost_ret (v := .tuple #[.string ⟨#[]⟩, .string ⟨#[]⟩, .bool false]) (by simp [results, Tryz.results6, go_sem]) rfl ⟨HB2.out, ⟨#[]⟩, ⟨#[]⟩, false, rfl, Or.inr ⟨HNO.out, rfl, rfl, rfl⟩⟩
end
end Go.Proofs.YtbbfboikigmghaaGreatDoor
