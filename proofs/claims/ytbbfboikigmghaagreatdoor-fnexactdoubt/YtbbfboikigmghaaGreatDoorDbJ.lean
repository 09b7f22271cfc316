import Derived.Test.YtbbfboikigmghaaGreatDoorDbI
import Derived.Test.YtbbfboikigmghaaGreatDoorStD
namespace Go.Proofs.YtbbfboikigmghaaGreatDoor
open Go.RowKit
set_option linter.unusedVariables false
set_option maxHeartbeats 32000000
set_option maxRecDepth 100000
section
open Go.Deep
theorem step_appV {s x : Operand} {W : World} {ops : Array Oper} {o : Oper} {a : Act} {K : Act -> World -> Prop} {Q : Exit -> Act -> World -> Prop} {E : Prop} (hgd : o.guard = none)
    (ho : o.op = .call { callee := .builtin .append, args := #[s, x], argTypes := #[22, 22] }) (B : Nat) (sa : Option Addr) (nn cap0 : Nat) (ys : List Value) (hs : a.eval s = .slice sa nn cap0) (hown : W.ownsRow B 9 1 (.slice sa nn cap0) nn ys) (B' n : Nat) (v : Value) (xs : List ByteArray) (hn2 : n <= 100000) (hn3 : nn <= 100000) (hx : a.eval x = v) (hc : W.ownsRow B' 9 1 v n (strV xs)) (hv : n = 0 -> v = .slice none 0 0) (hB : B <= W.heap.size)
    (h : ∀ a' cap' w', w'.ownsRow B 9 1 (.slice a' (nn + n) cap') (nn + n) (ys ++ strV xs) -> Below B W w' -> K (a.put o.dst (.slice a' (nn + n) cap')) w') :
    if Region.wanted o (yielded ops a.tmps) = true then Oper.wp Tryz.prog o a W K Q else E := by
  by_cases h0 : n = 0
  · subst h0
    have e := hv rfl
    subst e
    have hl : xs = [] := by
      have := hc.1
      simp [strV] at this
      exact this
    subst hl
    refine step_appN hgd ho B _ nn ys hs hown hx ?_
    have := h sa cap0 W (by simpa [strV] using hown) (Below.refl _ _)
    simpa using this
  · obtain ⟨d, cap, rfl⟩ : ∃ d cap, v = .slice (some ⟨d, 0, none⟩) n cap := by
      rcases hc.2 with ⟨e, q⟩ | ⟨g, cap, cur, e, _⟩
      · omega
      · exact ⟨g, cap, e⟩
    refine step_appT hgd ho B B' sa nn cap0 ys hs hown d n cap xs (by omega) hn2 hn3 hx hc hB ?_
    intro g' cap' w' k1 k2
    exact h _ cap' w' k1 (below_grown (Below.refl _ _) hown k2 hB)
theorem dbT_own {w : World} {B cp : Nat} {a : Option Addr} {ts : List ByteArray} {ms : Ms} (h : w.ownsRow B 9 1 (.slice a (ts.length + 2 + (forms ms).length) cp) (ts.length + 2 + (forms ms).length) ((strV ts ++ [.string (flagB true), .string (flagB false)]) ++ strV (forms ms))) : Strs w a (dbT ts ms) /\ (dbT ts ms).length = ts.length + 2 + (forms ms).length := by
  have hl : (dbT ts ms).length = ts.length + 2 + (forms ms).length := by simp [dbT]; omega
  have e : (strV ts ++ [.string (flagB true), .string (flagB false)]) ++ strV (forms ms) = (dbT ts ms).map Value.string := by simp [dbT, strV, one1, zero1, flagB]
  rw [e] at h
  exact ⟨strs_of_own hl.symm h, hl⟩
theorem clash_db {n : Nat} {w : World} {B cp : Nat} {a : Option Addr} {ts : List ByteArray} {ms : Ms} {ss : List S2} {tp : List T2} {st : List ByteArray} (h1 : 1 <= n) (h8 : n <= 8) (htx : TxOk n ts) (hi : Inv ss tp ms st) (hml : ms.length <= 40001) (h : w.ownsRow B 9 1 (.slice a (ts.length + 2 + (forms ms).length) cp) (ts.length + 2 + (forms ms).length) ((strV ts ++ [.string (flagB true), .string (flagB false)]) ++ strV (forms ms))) :
    Calls Tryz.prog 30 #[.slice a (ts.length + 2 + (forms ms).length) cp, .int .i64 n] w fun e w' => ∃ v, e = .returned v /\ (Below w.heap.size w w' /\ ∃ A B ok, v = .tuple #[.string A, .string B, .bool ok] /\ ClashOut n (dbT ts ms) A B ok) := by
  obtain ⟨hs, hl⟩ := dbT_own h
  have hfl := forms_length ms
  have h5 := htx.1
  rw [<- hl]
  refine (clashOfAny_yes a cp (dbT ts ms) n w hs (by omega) (fun j => by have := dbT_small htx hi j; omega) h1 h8).mono ?_
  rintro e w' ⟨hb, A, B, ok, rfl, ho⟩
  exact ⟨_, rfl, hb, A, B, ok, rfl, ho⟩
theorem implDoubt_yes (n tb : Nat) (ra sa ua : Option Addr) (tc rc c1 c2 : Nat) (ts : List ByteArray) (rs : List T3) (ss : List S2) (tp : List T2) (nm : ByteArray) (w : World) (h1 : 1 <= n) (h8 : n <= 8) (hw : WdOk n ts rs) (hch : chk ss tp = 0) (hE : EnvS w sa ua ss tp) (hT : Tab w) (hP : P10 w) (hnm : NameOk nm) (hst : StIn w (some ⟨tb, 0, none⟩) ts ra rs) (hsp : SpOk w sa ss ua tp) (hsm : SpSmall ss tp) :
    Calls Tryz.prog 9 #[.agg #[.int .i64 n, .slice (some ⟨tb, 0, none⟩) ts.length tc, .slice ra rs.length rc], .agg #[.slice sa ss.length c1, .slice ua tp.length c2], .string nm] w fun e w' => Below w.heap.size w w' /\ ∃ A B ok, e = .returned (.tuple #[.string A, .string B, .bool ok]) /\ DoubtP n ts rs ss tp nm A B ok := by
  obtain ⟨W, eW⟩ : ∃ W, (w.alloc (.cells #[.int .i64 n, .slice (some ⟨tb, 0, none⟩) ts.length tc, .slice ra rs.length rc] 36)).alloc (.cells #[.slice sa ss.length c1, .slice ua tp.length c2] 41) = W := ⟨_, rfl⟩
  have hbW : Below w.heap.size w W := by rw [<- eW]; exact ((Below.refl _ _).alloc (Nat.le_refl _) _).alloc (by simp) _
  have hWa : W.heap[w.heap.size]? = some (.cells #[.int .i64 n, .slice (some ⟨tb, 0, none⟩) ts.length tc, .slice ra rs.length rc] 36 (0, 0)) := by
    rw [<- eW, Lib.alloc_old _ _ _ (by simp)]; exact heap_new _ _
  have hWb : W.heap[w.heap.size + 1]? = some (.cells #[.slice sa ss.length c1, .slice ua tp.length c2] 41 (0, 0)) := by
    rw [<- eW]
    have h := heap_new (w.alloc (.cells #[.int .i64 n, .slice (some ⟨tb, 0, none⟩) ts.length tc, .slice ra rs.length rc] 36)) (.cells #[.slice sa ss.length c1, .slice ua tp.length c2] 41)
    rw [show (w.alloc (.cells #[.int .i64 n, .slice (some ⟨tb, 0, none⟩) ts.length tc, .slice ra rs.length rc] 36)).heap.size = w.heap.size + 1 from by simp] at h
    exact h
  have k0 : W.cell? ⟨w.heap.size, 0, none⟩ = some (.int .i64 n) := by rw [Lib.cell_of_heap hWa]; rfl
  have k1 : W.cell? ⟨w.heap.size, 1, none⟩ = some (.slice (some ⟨tb, 0, none⟩) ts.length tc) := by rw [Lib.cell_of_heap hWa]; rfl
  have k2 : W.cell? ⟨w.heap.size, 2, none⟩ = some (.slice ra rs.length rc) := by rw [Lib.cell_of_heap hWa]; rfl
  have j0 : W.cell? ⟨w.heap.size + 1, 0, none⟩ = some (.slice sa ss.length c1) := by rw [Lib.cell_of_heap hWb]; rfl
  have j1 : W.cell? ⟨w.heap.size + 1, 1, none⟩ = some (.slice ua tp.length c2) := by rw [Lib.cell_of_heap hWb]; rfl
  have HB : Hid (Below w.heap.size w W) := hbW
  have HST : Hid (StIn w (some ⟨tb, 0, none⟩) ts ra rs) := hst
  have HSP : Hid (SpOk w sa ss ua tp) := hsp
  have HSM : Hid (SpSmall ss tp) := hsm
  have HW : Hid (WdOk n ts rs) := hw
  have HCH : Hid (chk ss tp = 0) := hch
  have HE : Hid (EnvS w sa ua ss tp /\ Tab w /\ P10 w /\ NameOk nm) := ⟨hE, hT, hP, hnm⟩
  have e1 := nameB_true hnm
  have hns : nm.size <= 9223372036854775807 := by have := hnm.2.1; omega
  have hlt : ts.length <= 5000 := hw.2.2.1.1
  obtain ⟨i9, hi9, hz9, hs9, hb9⟩ := info_parts Tryz.info9b
  clear hst hsp hsm hw hch hnm hE hT hP hWa hWb hbW
  go_enter Tryz.func9, Tryz.ntmps9
  go_wp2_with fail
  refine (implValidStore_any n _ ra tc rc ts rs _ (HE.out.2.1.below HB.out) (HST.out.below HB.out)).mono ?_
  rintro e w1 ⟨hb1, b, rfl, hbb⟩
  obtain rfl : b = true := hbb.2 HW.out
  have q0 := cell_below hb1 k0
  have q1 := cell_below hb1 k1
  have p0 := cell_below hb1 j0
  have p1 := cell_below hb1 j1
  have HB1 : Hid (Below w.heap.size w w1) := bt HB.out hb1
  clear k0 k1 k2 j0 j1 hbb hb1
  go_wp2_with fail
  refine (implCheck_any sa ua c1 c2 ss tp _ (HE.out.2.1.below HB1.out) (HSP.out.below HB1.out) HSM.out).mono ?_
  rintro e w2 ⟨hb2, rfl⟩
  rw [HCH.out]
  have r0 := cell_below hb2 q0
  have r1 := cell_below hb2 q1
  have s0 := cell_below hb2 p0
  have s1 := cell_below hb2 p1
  have HB2 : Hid (Below w.heap.size w w2) := bt HB1.out hb2
  clear q0 q1 p0 p1 hb2
  go_wp2_with (first | (go_at_call 27; refine (validName_any nm _ hns).mono ?_; rintro e w9 ⟨rfl, rfl⟩; rw [e1]))
  refine (Tryz.slices_Clone_string tb 0 ts.length tc ts _ (Nat.le_refl _) (by omega) (fun j hj => by
    obtain ⟨b, off, e, hc⟩ := (HST.out.st.below HB2.out) j hj
    cases e
    exact hc)).mono ?_
  rintro e w4 ⟨v', rfl, hown, hnn, hb4⟩
  obtain ⟨g4, cp4, rfl⟩ : ∃ g cp, v' = .slice (some ⟨g, 0, none⟩) ts.length cp := by
    rcases hown.2 with ⟨e, _⟩ | ⟨g, cp, cur, e, _⟩
    · exact absurd e hnn
    · exact ⟨g, cp, e⟩
  rw [List.take_length] at hown
  have HO4 : Hid (w4.ownsRow w2.heap.size 9 1 (.slice (some ⟨g4, 0, none⟩) ts.length cp4) ts.length (strV ts)) := hown
  have HB4 : Hid (Below w2.heap.size w2 w4) := hb4
  have t0 := cell_below hb4 r0
  have t3 := cell_below hb4 s0
  have t4 := cell_below hb4 s1
  have hs4 : w2.heap.size <= w4.heap.size := hb4.size
  have HRS : Hid (w2.cell? ⟨w.heap.size, 0, none⟩ = some (.int .i64 n) /\ w2.cell? ⟨w.heap.size + 1, 0, none⟩ = some (.slice sa ss.length c1) /\ w2.cell? ⟨w.heap.size + 1, 1, none⟩ = some (.slice ua tp.length c2)) := ⟨r0, s0, s1⟩
  clear hown hnn hb4 r0 r1 s0 s1
  go_wp2_with (first | (go_at_call 29; refine (oneIf_any _ _).mono ?_; rintro e w9 ⟨rfl, rfl⟩) | (at_builtin; refine wpList_append_own _ rfl (.tmp 25) (.tmp 28) 22 rfl w2.heap.size 9 i9 (.string ⟨#[]⟩) 1 16 Tryz.underlying22 hi9 hz9 hs9 hb9 rfl (by decide) (.slice (some ⟨g4, 0, none⟩) ts.length cp4) ts.length (strV ts) ?_ (HO4.out.alloc _) ⟨w4.heap.size, 0, none⟩ 2 2 [.string (flagB true), .string (flagB false)] ?_ rfl (World.news_of_block (cs := #[.string (flagB true), .string (flagB false)]) (t := 9) (fr := (0, 0)) (heap_new _ _)) (by intro u hu; simp at hu; rcases hu with rfl | rfl <;> rfl) (by unfold maxLen; omega) (by omega) (by simp; omega) ?_; (focus (simp [Act.eval]; done)); (focus (simp [Act.eval]; done)); intro v5 w5 hown5 hgrow5 hnil5; obtain ⟨g5, cp5, rfl⟩ : ∃ g cp, v5 = .slice (some ⟨g, 0, none⟩) (ts.length + 2) cp := (by rcases hown5.2 with ⟨e, h0⟩ | ⟨g, cap, cur, e, _⟩; (omega); (exact ⟨g, cap, e⟩)); have HO5 : Hid (w5.ownsRow w2.heap.size 9 1 (.slice (some ⟨g5, 0, none⟩) (ts.length + 2) cp5) (ts.length + 2) (strV ts ++ [.string (flagB true), .string (flagB false)])) := hown5; have HB5 : Hid (Below w2.heap.size w2 w5) := below_grown (HB4.out.alloc (by omega) _) (HO4.out.alloc _) hgrow5 (by simp; omega); clear hown5 hgrow5 hnil5))
  clear t0 t3 t4
  obtain ⟨U, eU⟩ : ∃ U, w5.drew = U := ⟨_, rfl⟩
  have hbU : Below w5.heap.size w5 U := by rw [<- eU]; exact (Below.refl _ _).drew
  have hs5 : w2.heap.size <= w5.heap.size := HB5.out.size
  have HB2U : Hid (Below w2.heap.size w2 U) := HB5.out.trans (hbU.mono hs5)
  have HBU : Hid (Below w.heap.size w U) := bt HB2.out HB2U.out
  have u0 := cell_below HB2U.out HRS.out.1
  have u3 := cell_below HB2U.out HRS.out.2.1
  have u4 := cell_below HB2U.out HRS.out.2.2
  have hsU : w2.heap.size <= U.heap.size := HB2U.out.size
  have HOU : Hid (U.ownsRow w2.heap.size 9 1 (.slice (some ⟨g5, 0, none⟩) (ts.length + 2) cp5) (ts.length + 2) (strV ts ++ [.string (flagB true), .string (flagB false)])) := ownsRow_below HO5.out hbU
  have HFC : Hid (Calls Tryz.prog 31 #[.agg #[.slice sa ss.length c1, .slice ua tp.length c2], .string nm] U fun e w' => ∃ v, e = .returned v /\ (Below U.heap.size U w' /\ ∃ ms a st, Does ss tp [] [] (.make nm) ms a /\ Inv ss tp ms st /\ ms.length <= 40001 /\ w'.ownsRow U.heap.size 9 1 v (forms ms).length (strV (forms ms)) /\ ((forms ms).length = 0 -> v = .slice none 0 0))) := by
    have hE := HE.out.1
    refine (formsOfClean_any sa ua c1 c2 ss tp nm U ⟨hE.rs.below HBU.out, hE.rt.below HBU.out, hE.v, hE.l1, hE.l2, hE.xc⟩ (HE.out.2.1.below HBU.out) (HE.out.2.2.1.below HBU.out) HE.out.2.2.2).mono ?_
    rintro e w' ⟨hb, v, ms, a, st, rfl, r⟩
    exact ⟨v, rfl, hb, ms, a, st, r⟩
  clear hbU HO5 HO4 HB4 HB5
  go_region_law (first | (refine step_call2 (f := 31) rfl rfl (.agg #[.slice sa ss.length c1, .slice ua tp.length c2]) (.string nm) ?_ ?_ HFC.out (fun W => by simp [go_sem]) ?_; (focus (first | rfl | (simp [Act.eval]; done))); (focus (first | rfl | (simp [Act.eval]; done))); rintro v w6 ⟨hb6x, ms, an, st, hdo, hinv, hml, hrow, hnil⟩; have HB6 : Hid (Below U.heap.size U w6) := ⟨hb6x.os, hb6x.tape, hb6x.output, hb6x.size, hb6x.block⟩; have HDO : Hid (Does ss tp [] [] (.make nm) ms an /\ Inv ss tp ms st /\ ms.length <= 40001) := ⟨hdo, hinv, hml⟩; have HRW : Hid (w6.ownsRow U.heap.size 9 1 v (forms ms).length (strV (forms ms)) /\ ((forms ms).length = 0 -> v = .slice none 0 0)) := ⟨hrow, hnil⟩; have HO6 : Hid (w6.ownsRow w2.heap.size 9 1 (.slice (some ⟨g5, 0, none⟩) (ts.length + 2) cp5) (ts.length + 2) (strV ts ++ [.string (flagB true), .string (flagB false)])) := ownsRow_below HOU.out HB6.out; have x0 := cell_below HB6.out u0; have hs6 : w2.heap.size <= w6.heap.size := (Nat.le_trans hsU HB6.out.size); have hfl : (forms ms).length <= 40001 := (Nat.le_trans (forms_length ms) HDO.out.2.2); clear hb6x hdo hinv hml hrow hnil) | (refine step_appV rfl rfl w2.heap.size (some ⟨g5, 0, none⟩) (ts.length + 2) cp5 (strV ts ++ [.string (flagB true), .string (flagB false)]) ?_ HO6.out U.heap.size (forms ms).length v (forms ms) (by omega) (by omega) ?_ HRW.out.1 HRW.out.2 (by omega) ?_; (focus (first | rfl | (simp [Act.eval]; done))); (focus (first | rfl | (simp [Act.eval]; done))); intro a7 cp7 w7 hown7 hb7x; have HB7 : Hid (Below w2.heap.size w6 w7) := ⟨hb7x.os, hb7x.tape, hb7x.output, hb7x.size, hb7x.block⟩; have HO7 : Hid (w7.ownsRow w2.heap.size 9 1 (.slice a7 (ts.length + 2 + (forms ms).length) cp7) (ts.length + 2 + (forms ms).length) ((strV ts ++ [.string (flagB true), .string (flagB false)]) ++ strV (forms ms))) := hown7; have z0 := cell_below (HB2U.out.trans ((HB6.out.mono hsU).trans HB7.out)) HRS.out.1; clear hown7 hb7x) | (refine step_call2 (f := 30) rfl rfl (.slice a7 (ts.length + 2 + (forms ms).length) cp7) (.int .i64 n) ?_ ?_ (clash_db h1 h8 HW.out.2.2.1 HDO.out.2.1 HDO.out.2.2 HO7.out) (fun W => by simp [go_sem]) ?_; (focus (first | rfl | (simp [Act.eval]; done))); (focus (first | rfl | (simp [Act.eval]; done))); rintro v8 w8 ⟨hb8x, A, B, ok, rfl, hcl⟩; have HB8 : Hid (Below w7.heap.size w7 w8) := ⟨hb8x.os, hb8x.tape, hb8x.output, hb8x.size, hb8x.block⟩; have HCO : Hid (ClashOut n (dbT ts ms) A B ok) := hcl; clear hb8x hcl))
  all_goals
    go_wp2_with fail
    have hb7 : Below w2.heap.size w2 w7 := HB2U.out.trans ((HB6.out.mono hsU).trans HB7.out)
    exact bodyPost_ret (v := .tuple #[.string A, .string B, .bool ok]) (by simp [results, Tryz.results9, go_sem]) rfl ⟨bt (bt HB2.out hb7) HB8.out, A, B, ok, rfl, Or.inl ⟨HW.out, HCH.out, HE.out.2.2.2, ms, an, HDO.out.1, by rw [Int.toNat_natCast]; exact HCO.out⟩⟩
theorem implDoubt_no (n : Int) (ta ra sa ua : Option Addr) (tc rc c1 c2 : Nat) (ts : List ByteArray) (rs : List T3) (ss : List S2) (tp : List T2) (nm : ByteArray) (w : World) (hno : ¬ (WdOk n ts rs /\ chk ss tp = 0 /\ NameOk nm)) (hT : Tab w) (hns : nm.size <= 9223372036854775807) (hst : StIn w ta ts ra rs) (hsp : SpOk w sa ss ua tp) (hsm : SpSmall ss tp) :
    Calls Tryz.prog 9 #[.agg #[.int .i64 n, .slice ta ts.length tc, .slice ra rs.length rc], .agg #[.slice sa ss.length c1, .slice ua tp.length c2], .string nm] w fun e w' => Below w.heap.size w w' /\ ∃ A B ok, e = .returned (.tuple #[.string A, .string B, .bool ok]) /\ DoubtP n ts rs ss tp nm A B ok := by
  obtain ⟨W, eW⟩ : ∃ W, (w.alloc (.cells #[.int .i64 n, .slice ta ts.length tc, .slice ra rs.length rc] 36)).alloc (.cells #[.slice sa ss.length c1, .slice ua tp.length c2] 41) = W := ⟨_, rfl⟩
  have hbW : Below w.heap.size w W := by rw [<- eW]; exact ((Below.refl _ _).alloc (Nat.le_refl _) _).alloc (by simp) _
  have hWa : W.heap[w.heap.size]? = some (.cells #[.int .i64 n, .slice ta ts.length tc, .slice ra rs.length rc] 36 (0, 0)) := by
    rw [<- eW, Lib.alloc_old _ _ _ (by simp)]; exact heap_new _ _
  have hWb : W.heap[w.heap.size + 1]? = some (.cells #[.slice sa ss.length c1, .slice ua tp.length c2] 41 (0, 0)) := by
    rw [<- eW]
    have h := heap_new (w.alloc (.cells #[.int .i64 n, .slice ta ts.length tc, .slice ra rs.length rc] 36)) (.cells #[.slice sa ss.length c1, .slice ua tp.length c2] 41)
    rw [show (w.alloc (.cells #[.int .i64 n, .slice ta ts.length tc, .slice ra rs.length rc] 36)).heap.size = w.heap.size + 1 from by simp] at h
    exact h
  have k0 : W.cell? ⟨w.heap.size, 0, none⟩ = some (.int .i64 n) := by rw [Lib.cell_of_heap hWa]; rfl
  have k1 : W.cell? ⟨w.heap.size, 1, none⟩ = some (.slice ta ts.length tc) := by rw [Lib.cell_of_heap hWa]; rfl
  have k2 : W.cell? ⟨w.heap.size, 2, none⟩ = some (.slice ra rs.length rc) := by rw [Lib.cell_of_heap hWa]; rfl
  have j0 : W.cell? ⟨w.heap.size + 1, 0, none⟩ = some (.slice sa ss.length c1) := by rw [Lib.cell_of_heap hWb]; rfl
  have j1 : W.cell? ⟨w.heap.size + 1, 1, none⟩ = some (.slice ua tp.length c2) := by rw [Lib.cell_of_heap hWb]; rfl
  have HB : Hid (Below w.heap.size w W) := hbW
  have HST : Hid (StIn w ta ts ra rs) := hst
  have HSP : Hid (SpOk w sa ss ua tp) := hsp
  have HSM : Hid (SpSmall ss tp) := hsm
  have HT : Hid (Tab w) := hT
  have HNO : Hid (¬ (WdOk n ts rs /\ chk ss tp = 0 /\ NameOk nm)) := hno
  clear hT hst hsp hsm hno hWa hWb hbW
  go_enter Tryz.func9, Tryz.ntmps9
  go_wp2_with fail
  refine (implValidStore_any n ta ra tc rc ts rs _ (HT.out.below HB.out) (HST.out.below HB.out)).mono ?_
  rintro e w1 ⟨hb1, b, rfl, hbb⟩
  have HB1 : Hid (Below w.heap.size w w1) := bt HB.out hb1
  have HBB : Hid (b = true ↔ WdOk n ts rs) := hbb
  have p0 := cell_below hb1 j0
  have p1 := cell_below hb1 j1
  clear k0 k1 k2 j0 j1 hbb hb1
  cases b with
  | false =>
    go_wp2_with fail
    exact bodyPost_ret (v := .tuple #[.string ⟨#[]⟩, .string ⟨#[]⟩, .bool false]) (by simp [results, Tryz.results9, go_sem]) rfl ⟨HB1.out, ⟨#[]⟩, ⟨#[]⟩, false, rfl, Or.inr ⟨HNO.out, rfl, rfl, rfl⟩⟩
  | true =>
    go_wp2_with fail
    refine (implCheck_any sa ua c1 c2 ss tp _ (HT.out.below HB1.out) (HSP.out.below HB1.out) HSM.out).mono ?_
    rintro e w2 ⟨hb2, rfl⟩
    have HB2 : Hid (Below w.heap.size w w2) := bt HB1.out hb2
    obtain ⟨c, ec⟩ : ∃ c, chk ss tp = c := ⟨_, rfl⟩
    have HC : Hid (chk ss tp = c) := ec
    rw [ec]
    clear p0 p1 hb2 ec
    by_cases hc : c = 0
    · subst hc
      have e1 : nameB nm = false := nameB_false (fun h => HNO.out ⟨HBB.out.1 (by first | rfl | trivial), HC.out, h⟩)
      go_wp2_with (first | (go_at_call 27; refine (validName_any nm _ hns).mono ?_; rintro e w9 ⟨rfl, rfl⟩; rw [e1]))
      exact bodyPost_ret (v := .tuple #[.string ⟨#[]⟩, .string ⟨#[]⟩, .bool false]) (by simp [results, Tryz.results9, go_sem]) rfl ⟨HB2.out, ⟨#[]⟩, ⟨#[]⟩, false, rfl, Or.inr ⟨HNO.out, rfl, rfl, rfl⟩⟩
    · have hcI : ((c : Int) != 0) = true := by simp; exact hc
      go_wp2_with fail
      exact bodyPost_ret (v := .tuple #[.string ⟨#[]⟩, .string ⟨#[]⟩, .bool false]) (by simp [results, Tryz.results9, go_sem]) rfl ⟨HB2.out, ⟨#[]⟩, ⟨#[]⟩, false, rfl, Or.inr ⟨HNO.out, rfl, rfl, rfl⟩⟩
end
end Go.Proofs.YtbbfboikigmghaaGreatDoor
