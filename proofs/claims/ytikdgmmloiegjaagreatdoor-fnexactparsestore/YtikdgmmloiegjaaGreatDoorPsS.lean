import Derived.Test.YtikdgmmloiegjaaGreatDoorPsR
namespace Go.Proofs.YtikdgmmloiegjaaGreatDoor
open Go.RowKit
set_option linter.unusedVariables false

theorem ls_other {s : LS} {x : List UInt8} (h : clsL x = .other) : lsStep s x = s := by unfold lsStep; rw [h]
theorem ls_store {s : LS} {x : List UInt8} (h : clsL x = .store) : lsStep s x = ⟨numL (x.drop 6), s.ts, s.rs⟩ := by unfold lsStep; rw [h]
theorem ls_text {s : LS} {x : List UInt8} (h : clsL x = .text) : lsStep s x = ⟨s.w, s.ts ++ [⟨(looseF ((x.drop 5).drop 1)).toArray⟩], s.rs⟩ := by unfold lsStep; rw [h]
theorem ls_recd {s : LS} {x : List UInt8} (h : clsL x = .recd) : lsStep s x = ⟨s.w, s.ts, s.rs ++ [⟨[], [], ⟨(looseH (x.drop 7)).toArray⟩⟩]⟩ := by unfold lsStep; rw [h]
theorem ls_ins {s : LS} {x : List UInt8} (h : clsL x = .ins) : lsStep s x = ⟨s.w, s.ts, onLast (fun r => ⟨r.code ++ [(rd (x.drop 3)).getD zI], r.looks, r.out⟩) s.rs⟩ := by unfold lsStep; rw [h]
theorem ls_ask {s : LS} {x : List UInt8} (h : clsL x = .ask) : lsStep s x = ⟨s.w, s.ts, onLast (fun r => ⟨r.code, r.looks ++ [glanceL x], r.out⟩) s.rs⟩ := by unfold lsStep; rw [h]
theorem ls_has {s : LS} {x : List UInt8} (h : clsL x = .has) : lsStep s x = ⟨s.w, s.ts, onLast (fun r => ⟨r.code, r.looks ++ [glanceL x], r.out⟩) s.rs⟩ := by unfold lsStep; rw [h]
theorem ls_nil {s : LS} {f : T3 → T3} (h : s.rs = []) : (⟨s.w, s.ts, onLast f s.rs⟩ : LS) = s := by
  obtain ⟨a, b, c⟩ := s
  dsimp only at h
  subst h; rfl
theorem rd_of {l : List UInt8} {e : Ending} (h : ReadP l e) : ∃ b, e = .returned (.tuple #[.agg #[.int .i64 ((rd l).getD zI).op, .string ((rd l).getD zI).text, .int .i64 ((rd l).getD zI).n], .bool b]) := by
  rcases h with ⟨i, h1, h2⟩ | ⟨h1, h2⟩
  · exact ⟨true, by rw [h1]; exact h2⟩
  · exact ⟨false, by rw [h1]; exact h2⟩
theorem gl_of {f : Nat} {av : Array Value} {w : World} {v : Value} {B : Nat} (h : Calls Tryz.prog f av w fun e w' => Below B w w' ∧ e = .returned v) : Calls Tryz.prog f av w fun e w' => ∃ u, e = .returned u ∧ u = v ∧ Below B w w' := h.mono (by
  rintro e w' ⟨h, rfl⟩
  exact ⟨v, rfl, rfl, h⟩)
theorem slN {F B : Nat} {s : LS} {tv qv : Value} {w : World} (h : RS F B s tv qv [] w) : ∃ qa qc, qv = .slice qa 0 qc := by
  rcases sl_of h.row with ⟨h0, rfl⟩ | ⟨g, cap, rfl, _⟩
  · exact ⟨_, _, rfl⟩
  · exact ⟨_, _, rfl⟩
theorem slS {F B : Nat} {s : LS} {tv qv : Value} {es : List Ent} {w : World} (h : RS F B s tv qv es w) (hne : es ≠ []) : ∃ es' c l r rs q qc, es = es' ++ [(c, l, r)] ∧ s.rs = rs ++ [r] ∧ qv = .slice (some ⟨q, 0, none⟩) (es'.length + 1) qc := by
  obtain ⟨es', x, rfl⟩ := List.eq_nil_or_concat es |>.resolve_left hne
  obtain ⟨c, l, r⟩ := x
  have her := h.er
  rw [List.concat_eq_append, List.map_append] at her
  rw [List.concat_eq_append] at h
  rcases sl_of h.row with ⟨h0, _⟩ | ⟨g, cap, e, _⟩
  · simp at h0
  · exact ⟨es', c, l, r, es'.map (·.2.2), g, cap, List.concat_eq_append, her.symm, by rw [e]; simp⟩
theorem LSm.mono {k m : Nat} {s : LS} (h : LSm k s) (hk : k ≤ m) : LSm m s := ⟨Nat.le_trans h.ts hk, Nat.le_trans h.rs hk, h.xs, fun r hr => ⟨Nat.le_trans (h.rr r hr).1 hk, Nat.le_trans (h.rr r hr).2.1 hk, (h.rr r hr).2.2⟩⟩
theorem slQ {F B k : Nat} {s : LS} {tv qv : Value} {es : List Ent} {w : World} (h : RS F B s tv qv es w) (hm : LSm k s) : ∃ qa qn qc, qv = .slice qa qn qc ∧ qn ≤ k := by
  have hl : es.length ≤ k := by have := hm.rs; rw [← h.er, List.length_map] at this; exact this
  rcases sl_of h.row with ⟨h0, rfl⟩ | ⟨g, cap, rfl, _⟩
  · exact ⟨_, _, _, rfl, by omega⟩
  · exact ⟨_, _, _, rfl, hl⟩
theorem qlen {F B qn qc : Nat} {s : LS} {tv : Value} {qa : Option Addr} {es : List Ent} {w : World} (h : RS F B s tv (.slice qa qn qc) es w) : es.length = qn := by
  rcases sl_of h.row with ⟨h0, e⟩ | ⟨g, cap, e, _⟩
  · cases e; exact h0
  · cases e; rfl
theorem ret_of {f : Nat} {av : Array Value} {w : World} {v : Value} {B : Nat} (h : Calls Tryz.prog f av w fun e w' => e = .returned v ∧ Below B w w') : Calls Tryz.prog f av w fun e w' => ∃ u, e = .returned u ∧ u = v ∧ Below B w w' := h.mono (by
  rintro e w' ⟨rfl, h⟩
  exact ⟨v, rfl, rfl, h⟩)

set_option maxRecDepth 100000 in
set_option maxHeartbeats 16000000 in
theorem l7Read_any (S : ByteArray) (w : World) (hS : S.size ≤ 200000) :
    Calls Tryz.prog 9 #[.string S] w fun e w' => Below w.heap.size w w' ∧ ∃ ta tc ra rc F B es, e = .returned (.agg #[.int .i64 (lsOf S.data.toList).w, .slice ta (lsOf S.data.toList).ts.length tc, .slice ra (lsOf S.data.toList).rs.length rc]) ∧ w.heap.size < F ∧ RS F B (lsOf S.data.toList) (.slice ta (lsOf S.data.toList).ts.length tc) (.slice ra (lsOf S.data.toList).rs.length rc) es w' ∧ LSm 200002 (lsOf S.data.toList) := by
  have HC := hid (fun w => l2Cut_any S w (by omega))
  have hTl : ∀ l ∈ splitL S.data.toList, l.length ≤ 200000 := split_len 200000 _ (by rw [toList_len]; exact hS)
  have hTn := split_count S.data.toList
  rw [toList_len] at hTn
  have HLS : Hid (lsRead (splitL S.data.toList) ⟨0, [], []⟩ = lsOf S.data.toList) := rfl
  generalize lsOf S.data.toList = LL at *
  generalize splitL S.data.toList = T at *
  obtain ⟨V, eV⟩ : ∃ V, w.alloc (.cells #[.int .i64 0, .slice none 0 0, .slice none 0 0] 25) = V := ⟨_, rfl⟩
  have hbV : Below w.heap.size w V := eV ▸ (Below.refl _ _).alloc (Nat.le_refl _) _
  have hRV : RB w.heap.size V := by unfold RB; rw [← eV]; exact alloc_here _ _
  have hVs : V.heap.size = w.heap.size + 1 := by rw [← eV]; simp
  have HVS : Hid (V.heap.size = w.heap.size + 1) := hVs
  clear hVs
  obtain ⟨X, eX⟩ : ∃ X, V.alloc (.cells #[.int .i64 0, .slice none 0 0, .slice none 0 0] 25) = X := ⟨_, rfl⟩
  have hbX : Below V.heap.size V X := eX ▸ (Below.refl _ _).alloc (Nat.le_refl _) _
  have hFX : X.heap[V.heap.size]? = some (.cells #[.int .i64 0, .slice none 0 0, .slice none 0 0] 25 (0, 0)) := by rw [← eX]; exact alloc_here _ _
  have hRX := hRV.below hbX (hlt hRV)
  have hBX := hbV.trans (hbX.mono hbV.size)
  have HEX := hid eX
  have HEV := hid eV
  clear eX eV hbV hRV hbX
  go_enter Tryz.func9, Tryz.ntmps9
  go_upto_region 1 with fail
  rw [HEV.out]
  go_upto_region 2 with fail
  rw [HEX.out]
  clear HEX HEV
  obtain ⟨F, eF⟩ : ∃ F, V.heap.size = F := ⟨_, rfl⟩
  rw [eF]
  rw [eF] at HVS hFX
  have hFw : w.heap.size < F := by have := HVS.out; omega
  have HFX := hid hFX
  have HRX := hid hRX
  clear hFX hRX eF
  go_wp2_with fail
  refine (HC.out _).mono ?_
  rintro e w1 ⟨hb1, g, cap, hg, rfl, hown, hTb⟩
  obtain ⟨B, eB⟩ : ∃ B, B = w1.heap.size := ⟨_, rfl⟩
  have hFX2 := HFX.out
  have hXl := hlt hFX2
  have HR0 : Hid (Rt w F B g T ⟨0, [], []⟩ (.slice none 0 0) (.slice none 0 0) [] w1) := ⟨RS.start (by have := hb1.size; omega) (by rw [hb1.block F hXl]; exact hFX2), LN.of_own rfl hown, HRX.out.below hb1 (hlt HRX.out), hBX.trans (hb1.mono hBX.size), by omega, by have := (hown.lt g rfl).2; omega, by omega, hFw⟩
  clear hFX2 hXl HFX HRX hBX hown hb1 HC hg eB
  go_wp2_with fail
  go_loopw [5] (fun vi wr => ∃ (k : Nat) (s : LS) (tv qv : Value) (es : List Ent), k ≤ T.length ∧ vi = .int .i64 k ∧ Hid (lsRead (T.take k) ⟨0, [], []⟩ = s) ∧ Hid (LSm k s) ∧ Hid (Rt w F B g T s tv qv es wr)) (fun vi _ => T.length - (intOf vi).toNat)
  case atStart => exact ⟨0, _, _, _, _, Nat.zero_le _, rfl, rfl, LSm.start, HR0.out⟩
  case round =>
    clear HR0
    obtain ⟨k, s, tv, qv, es, hk, rfl, HS, HM, HR⟩ := hrel
    by_cases hlt2 : k < T.length
    · have d0 : decide ((k : Int) < (T.length : Int)) = true := by simp; omega
      have hxl := hTl T[k] (List.getElem_mem hlt2)
      have cx := HR.out.ln k hlt2
      obtain ⟨xb, exb⟩ : ∃ xb : ByteArray, xb = ⟨T[k].toArray⟩ := ⟨_, rfl⟩
      have exl : xb.data.toList = T[k] := by rw [exb]
      have hxs : xb.size ≤ 200000 := by rw [exb, bsz]; exact hxl
      have HST : Hid (lsRead (T.take (k + 1)) ⟨0, [], []⟩ = lsStep s xb.data.toList) := by
        show _ = _
        rw [List.take_succ_eq_append_getElem hlt2, lsR_app, HS.out, exl]; rfl
      have HM2 : Hid (LSm (k + 1) (lsStep s xb.data.toList)) := HM.out.step (by rw [exl]; exact hxl)
      rw [← exb] at cx
      have hkI : (k : Int) < (T.length : Int) := by omega
      have hcs := cls_cases xb.data.toList
      rw [toList_len] at hcs
      clear exb exl hxl HS HLS hTl
      rcases hcs with ⟨hc, hx6, b1, b2, b3, b4, b5, b6⟩ | ⟨hc, hx6, b1, b2, b3, b4, b5, b6⟩ | ⟨hc, hx6, b1, b2, b3, b4, b5, b6⟩ | ⟨hc, hx6, b1, b2, b3, b4, b5, b6⟩ | ⟨hc, hx6, b1, b2, b3, b4, b5, b6⟩ | ⟨hc, hx6, b1, b2, b3, b4, b5, b6⟩ | ⟨hc, b1, b2, b3, b4, b5, b6⟩
      · obtain ⟨qa, qn, qc, rfl, hqn⟩ := slQ HR.out.rs HM.out
        have HB1 := hid (beg_at xb ⟨#[115, 116, 111, 114, 101, 32]⟩ _ b1 (by omega) (by decide))
        have HB2 := hid (beg_at xb ⟨#[116, 101, 120, 116, 32]⟩ _ b2 (by omega) (by decide))
        have HB3 := hid (beg_at xb ⟨#[114, 101, 99, 111, 114, 100, 32]⟩ _ b3 (by omega) (by decide))
        have HB4 := hid (beg_at xb ⟨#[100, 111, 32]⟩ _ b4 (by omega) (by decide))
        have HB5 := hid (beg_at xb ⟨#[97, 115, 107, 32]⟩ _ b5 (by omega) (by decide))
        have HB6 := hid (beg_at xb ⟨#[104, 97, 115, 32]⟩ _ b6 (by omega) (by decide))
        rw [ls_store hc] at HST HM2
        have hy : (xb.extract 6 xb.size).data.toList = xb.data.toList.drop 6 := by rw [ext_list, List.take_of_length_le (by rw [toList_len]; omega)]
        rw [← hy] at HST HM2
        have hys : (xb.extract 6 xb.size).size ≤ 1048576 := by rw [ByteArray.size_extract]; omega
        obtain ⟨y, ey⟩ : ∃ y, xb.extract 6 xb.size = y := ⟨_, rfl⟩
        rw [ey] at HST HM2 hys
        have HN := hid (fun w => l2Number_any y w hys)
        have hx6 : (6 : Int) ≤ (xb.size : Int) := by omega
        clear hc b1 b2 b3 b4 b5 b6 HM hy hys
        generalize numL y.data.toList = n at *
        obtain ⟨c0, c1, c2, f0, f1, f2⟩ := HR.out.rs.cells
        go_wp2_with fail
        refine (HB1.out _).mono ?_
        rintro e w' ⟨rfl, rfl⟩
        go_wp2_with fail
        refine (HN.out _).mono ?_
        rintro e w2 ⟨rfl, hb2⟩
        have HR2 := hid (HR.out.below hb2)
        obtain ⟨k0, k1, k2, g0, g1, g2⟩ := HR2.out.rs.cells
        clear c0 c1 c2 f0 f1 f2 hb2 HR cx ey hx6
        go_wp2_with fail
        refine (HB2.out _).mono ?_
        rintro e w' ⟨rfl, rfl⟩
        go_wp2_with fail
        refine (HB3.out _).mono ?_
        rintro e w' ⟨rfl, rfl⟩
        go_wp2_with fail
        refine (HB4.out _).mono ?_
        rintro e w' ⟨rfl, rfl⟩
        go_wp2_with fail
        refine (HB5.out _).mono ?_
        rintro e w' ⟨rfl, rfl⟩
        go_wp2_with fail
        refine (HB6.out _).mono ?_
        rintro e w' ⟨rfl, rfl⟩
        go_wp2
        go_roundw
        case rel => exact ⟨k + 1, _, _, _, _, by omega, by go_num, HST.out, HM2.out, HR2.out.setW n⟩
        case measure => simp [intOf]; omega
      · obtain ⟨qa, qn, qc, rfl, hqn⟩ := slQ HR.out.rs HM.out
        have HB1 := hid (beg_at xb ⟨#[115, 116, 111, 114, 101, 32]⟩ _ b1 (by omega) (by decide))
        have HB2 := hid (beg_at xb ⟨#[116, 101, 120, 116, 32]⟩ _ b2 (by omega) (by decide))
        have HB3 := hid (beg_at xb ⟨#[114, 101, 99, 111, 114, 100, 32]⟩ _ b3 (by omega) (by decide))
        have HB4 := hid (beg_at xb ⟨#[100, 111, 32]⟩ _ b4 (by omega) (by decide))
        have HB5 := hid (beg_at xb ⟨#[97, 115, 107, 32]⟩ _ b5 (by omega) (by decide))
        have HB6 := hid (beg_at xb ⟨#[104, 97, 115, 32]⟩ _ b6 (by omega) (by decide))
        rw [ls_text hc] at HST HM2
        have hy : (xb.extract 5 xb.size).data.toList = xb.data.toList.drop 5 := by rw [ext_list, List.take_of_length_le (by rw [toList_len]; omega)]
        rw [← hy] at HST HM2
        have hys : (xb.extract 5 xb.size).size ≤ 1048576 := by rw [ByteArray.size_extract]; omega
        obtain ⟨y, ey⟩ : ∃ y, xb.extract 5 xb.size = y := ⟨_, rfl⟩
        rw [ey] at HST HM2 hys
        have HN := hid (fun w => ret_of (l2Unquote_any y w hys))
        have hx6 : (5 : Int) ≤ (xb.size : Int) := by omega
        have hts : s.ts.length ≤ 200002 := by have := HM.out.ts; omega
        have hB3 := HR.out.sz
        clear hc b1 b2 b3 b4 b5 b6 HM hy hys
        generalize (⟨(looseF (y.data.toList.drop 1)).toArray⟩ : ByteArray) = t at *
        obtain ⟨i0, hi, hz0, hz1, hz2⟩ := info_parts Tryz.info9b
        obtain ⟨c0, c1, c2, f0, f1, f2⟩ := HR.out.rs.cells
        have HRU := hid (HR.out.below ((Below.refl _ _).drew))
        obtain ⟨u0, u1, u2, _, _, _⟩ := HRU.out.rs.cells
        go_wp2_with fail
        refine (HB1.out _).mono ?_
        rintro e w' ⟨rfl, rfl⟩
        go_wp2_with fail
        refine (HB2.out _).mono ?_
        rintro e w' ⟨rfl, rfl⟩
        go_wp2_with fail
        clear c0 c1 c2 f0 f1 f2 cx HR u0 u2
        refine Lt.begin 8 (fun w' => w'.cell? ⟨F, 1, none⟩ = some tv) (by kernel_rfl) ?_
        have hS0 : wr.drew.cell? ⟨F, 1, none⟩ = some tv := u1
        refine Lt.take (i := 0) (oi := { dst := some 35, op := Op.fieldAddr 25 (Operand.tmp 3) 1, type := 0, pos := "l7_form.go:100", after := #[], guard := none }) (v := ?_) rfl (by kernel_rfl) (by kernel_rfl) (by kernel_rfl) (by kernel_rfl) (fun _ _ _ h => h) hS0 (Or.inl ⟨by rfl, ?_⟩) ?_
        rotate_left 1
        · intro w hSw
          try dsimp only at hSw
          go_simp
          first | done | with_reducible rfl
        simp only [Act.put, List.setIfInBounds_toArray, List.set_cons_zero, List.set_cons_succ]
        refine Lt.take (i := 1) (oi := { dst := some 36, op := Op.load 22 (Operand.tmp 35), type := 22, pos := "l7_form.go:100", after := #[{ on := 0, ground := Ground.data }], guard := none }) (v := ?_) rfl (by kernel_rfl) (by kernel_rfl) (by kernel_rfl) (by kernel_rfl) (fun _ _ _ h => h) hS0 (Or.inl ⟨by rfl, ?_⟩) ?_
        rotate_left 1
        · intro w hSw
          try dsimp only at hSw
          go_simp
          first | done | with_reducible rfl
        simp only [Act.put, List.setIfInBounds_toArray, List.set_cons_zero, List.set_cons_succ]
        refine Lt.take (i := 2) (oi := { dst := some 37, op := Op.move (Operand.tmp 6), type := 9, pos := "l7_form.go:100", after := #[], guard := none }) (v := ?_) rfl (by kernel_rfl) (by kernel_rfl) (by kernel_rfl) (by kernel_rfl) (fun _ _ _ h => h) hS0 (Or.inl ⟨by rfl, ?_⟩) ?_
        rotate_left 1
        · intro w hSw
          try dsimp only at hSw
          go_simp
          first | done | with_reducible rfl
        simp only [Act.put, List.setIfInBounds_toArray, List.set_cons_zero, List.set_cons_succ]
        refine Lt.take (i := 3) (oi := { dst := some 38, op := Op.slice 9 (Operand.tmp 37) (some (Operand.const (Value.int IntKind.i64 5))) none none, type := 9, pos := "l7_form.go:100", after := #[{ on := 2, ground := Ground.data }], guard := none }) (v := ?_) rfl (by kernel_rfl) (by kernel_rfl) (by kernel_rfl) (by kernel_rfl) (fun _ _ _ h => h) hS0 (Or.inl ⟨by rfl, ?_⟩) ?_
        rotate_left 1
        · intro w hSw
          try dsimp only at hSw
          go_simp
          first | done | with_reducible rfl
        simp only [Act.put, List.setIfInBounds_toArray, List.set_cons_zero, List.set_cons_succ]
        refine Lt.step (i := 4) (o := { dst := some 39, op := Op.call { callee := Callee.value (Operand.func 23), args := #[Operand.tmp 38], argTypes := #[9] }, type := 9, pos := "l7_form.go:100", after := #[{ on := 3, ground := Ground.data }], guard := none }) (by kernel_rfl) rfl (fun K hK => ?_)
        refine step_call1 (f := 23) rfl rfl (.string y) rfl (HN.out _) (fun W => by simp [go_sem]) ?_
        rintro v w2 ⟨rfl, hb2⟩
        have HR2 := hid (HRU.out.below hb2)
        obtain ⟨_, k1, _, _, _, _⟩ := HR2.out.rs.cells
        refine hK.out _ _ (fun _ => k1) (fun _ => ?_)
        clear hK K
        try simp only [Act.put, List.setIfInBounds_toArray, List.set_cons_zero, List.set_cons_succ]
        refine Lt.step (i := 5) (o := { dst := some 40, op := Op.buildSlice 22 1 #[(0, Operand.tmp 39)], type := 22, pos := "l7_form.go:100", after := #[{ on := 4, ground := Ground.data }], guard := none }) (by kernel_rfl) rfl (fun K hK => ?_)
        go_simp
        have HR3 := hid (HR2.out.below ((Below.refl _ _).alloc (Nat.le_refl _) (.cells #[.string t] 9)))
        obtain ⟨_, m1, _, _, _, _⟩ := HR3.out.rs.cells
        refine hK.out _ _ (fun _ => m1) (fun _ => ?_)
        clear hK K
        try simp only [Act.put, List.setIfInBounds_toArray, List.set_cons_zero, List.set_cons_succ]
        refine Lt.step (i := 6) (o := { dst := some 41, op := Op.call { callee := Callee.builtin Builtin.append, args := #[Operand.tmp 36, Operand.tmp 40], argTypes := #[22, 22] }, type := 22, pos := "l7_form.go:100", after := #[{ on := 1, ground := Ground.data }, { on := 5, ground := Ground.data }, { on := 4, ground := Ground.chain }], guard := none }) (by kernel_rfl) rfl (fun K hK => ?_)
        refine step_append_lies _ (by rfl) _ _ 22 (by rfl) B 9 i0 (.string ⟨#[]⟩) 1 16 Tryz.underlying22 hi hz0 hz1 hz2 (by rfl) (by decide) tv s.ts.length (s.ts.map Value.string) (by rfl) HR3.out.rs.txt ⟨w2.heap.size, 0, none⟩ 1 1 [.string t] (by rfl) (by rfl) (World.news_of_block (cs := #[.string t]) (t := 9) (fr := (0, 0)) (alloc_here _ _)) (by intro u hu; simp at hu; subst hu; rfl) (by decide) (by unfold maxLen; omega) (by omega) (HR3.out.sz) _ rfl ?_
        intro g' cap2 w4 hown' hgrow hlie hlt3
        have hF4 := HR3.out.keepF HR3.out.rs.txt hgrow
        have n1 : w4.cell? ⟨F, 1, none⟩ = some tv := by rw [Lib.cell_of_heap hF4]; rfl
        have nf1 : w4.frozen? ⟨F, 1, none⟩ = false := Lib.frozen_of_heap hF4 1
        have HR4 := hid (HR3.out.addT hgrow t hown')
        refine hK.out _ _ (fun _ => n1) (fun _ => ?_)
        clear hK K hown' hgrow hlie hlt3 hF4 HR2 HR3 HRU hb2 k1 m1
        try simp only [Act.put, List.setIfInBounds_toArray, List.set_cons_zero, List.set_cons_succ]
        refine Lt.take (i := 7) (oi := { dst := some 42, op := Op.fieldAddr 25 (Operand.tmp 3) 1, type := 0, pos := "l7_form.go:100", after := #[{ on := 0, ground := Ground.phase }, { on := 1, ground := Ground.phase }, { on := 2, ground := Ground.phase }, { on := 3, ground := Ground.phase }, { on := 4, ground := Ground.phase }, { on := 5, ground := Ground.phase }, { on := 6, ground := Ground.phase }], guard := none }) (v := ?_) rfl (by kernel_rfl) (by kernel_rfl) (by kernel_rfl) (by kernel_rfl) (fun _ _ _ h => h) n1 (Or.inl ⟨by rfl, ?_⟩) ?_
        rotate_left 1
        · intro w hSw
          try dsimp only at hSw
          go_simp
          first | done | with_reducible rfl
        simp only [Act.put, List.setIfInBounds_toArray, List.set_cons_zero, List.set_cons_succ]
        refine Lt.step (i := 8) (o := { dst := none, op := Op.store 22 (Operand.tmp 42) (Operand.tmp 41), type := 0, pos := "l7_form.go:100", after := #[{ on := 7, ground := Ground.data }, { on := 6, ground := Ground.data }, { on := 6, ground := Ground.chain }, { on := 0, ground := Ground.phase }, { on := 1, ground := Ground.phase }, { on := 2, ground := Ground.phase }, { on := 3, ground := Ground.phase }, { on := 4, ground := Ground.phase }, { on := 5, ground := Ground.phase }, { on := 6, ground := Ground.phase }], guard := none }) (by kernel_rfl) rfl (fun K hK => ?_)
        go_simp
        refine hK.out _ _ (fun h => absurd rfl h) (fun _ => ?_)
        clear hK K
        refine Lt.done (by kernel_rfl) ?_ _
        go_wp2_with fail
        refine (HB3.out _).mono ?_
        rintro e w' ⟨rfl, rfl⟩
        go_wp2_with fail
        refine (HB4.out _).mono ?_
        rintro e w' ⟨rfl, rfl⟩
        go_wp2_with fail
        refine (HB5.out _).mono ?_
        rintro e w' ⟨rfl, rfl⟩
        go_wp2_with fail
        refine (HB6.out _).mono ?_
        rintro e w' ⟨rfl, rfl⟩
        go_wp2
        go_roundw
        case rel => exact ⟨k + 1, _, _, _, _, by omega, by go_num, HST.out, HM2.out, HR4.out⟩
        case measure => simp [intOf]; omega
      · obtain ⟨qa, qn, qc, rfl, hqn⟩ := slQ HR.out.rs HM.out
        have HB1 := hid (beg_at xb ⟨#[115, 116, 111, 114, 101, 32]⟩ _ b1 (by omega) (by decide))
        have HB2 := hid (beg_at xb ⟨#[116, 101, 120, 116, 32]⟩ _ b2 (by omega) (by decide))
        have HB3 := hid (beg_at xb ⟨#[114, 101, 99, 111, 114, 100, 32]⟩ _ b3 (by omega) (by decide))
        have HB4 := hid (beg_at xb ⟨#[100, 111, 32]⟩ _ b4 (by omega) (by decide))
        have HB5 := hid (beg_at xb ⟨#[97, 115, 107, 32]⟩ _ b5 (by omega) (by decide))
        have HB6 := hid (beg_at xb ⟨#[104, 97, 115, 32]⟩ _ b6 (by omega) (by decide))
        rw [ls_recd hc] at HST HM2
        have hy : (xb.extract 7 xb.size).data.toList = xb.data.toList.drop 7 := by rw [ext_list, List.take_of_length_le (by rw [toList_len]; omega)]
        rw [← hy] at HST HM2
        have hys : (xb.extract 7 xb.size).size ≤ 1048576 := by rw [ByteArray.size_extract]; omega
        obtain ⟨y, ey⟩ : ∃ y, xb.extract 7 xb.size = y := ⟨_, rfl⟩
        rw [ey] at HST HM2 hys
        have HN := hid (fun w => ret_of (l7Unhex_any y w hys))
        have hx6 : (7 : Int) ≤ (xb.size : Int) := by omega
        have hB3 := HR.out.sz
        have HQN := hid (qlen HR.out.rs)
        clear hc b1 b2 b3 b4 b5 b6 HM hy hys
        generalize (⟨(looseH y.data.toList).toArray⟩ : ByteArray) = t at *
        obtain ⟨i0, hi, hz0, hz1, hz2⟩ := info_parts Tryz.info54
        obtain ⟨c0, c1, c2, f0, f1, f2⟩ := HR.out.rs.cells
        have HRU := hid (HR.out.below ((Below.refl _ _).drew))
        obtain ⟨u0, u1, u2, _, _, _⟩ := HRU.out.rs.cells
        go_wp2_with fail
        refine (HB1.out _).mono ?_
        rintro e w' ⟨rfl, rfl⟩
        go_wp2_with fail
        refine (HB2.out _).mono ?_
        rintro e w' ⟨rfl, rfl⟩
        go_wp2_with fail
        refine (HB3.out _).mono ?_
        rintro e w' ⟨rfl, rfl⟩
        go_wp2_with fail
        clear c0 c1 c2 f0 f1 f2 cx HR u0 u1
        refine Lt.begin 9 (fun w' => w'.cell? ⟨F, 2, none⟩ = some (.slice qa qn qc)) (by kernel_rfl) ?_
        have hS0 : wr.drew.cell? ⟨F, 2, none⟩ = some (.slice qa qn qc) := u2
        refine Lt.take (i := 0) (oi := { dst := some 45, op := Op.fieldAddr 25 (Operand.tmp 3) 2, type := 0, pos := "l7_form.go:103", after := #[], guard := none }) (v := ?_) rfl (by kernel_rfl) (by kernel_rfl) (by kernel_rfl) (by kernel_rfl) (fun _ _ _ h => h) hS0 (Or.inl ⟨by rfl, ?_⟩) ?_
        rotate_left 1
        · intro w hSw
          try dsimp only at hSw
          go_simp
          first | done | with_reducible rfl
        simp only [Act.put, List.setIfInBounds_toArray, List.set_cons_zero, List.set_cons_succ]
        refine Lt.take (i := 1) (oi := { dst := some 46, op := Op.load 23 (Operand.tmp 45), type := 23, pos := "l7_form.go:103", after := #[{ on := 0, ground := Ground.data }], guard := none }) (v := ?_) rfl (by kernel_rfl) (by kernel_rfl) (by kernel_rfl) (by kernel_rfl) (fun _ _ _ h => h) hS0 (Or.inl ⟨by rfl, ?_⟩) ?_
        rotate_left 1
        · intro w hSw
          try dsimp only at hSw
          go_simp
          first | done | with_reducible rfl
        simp only [Act.put, List.setIfInBounds_toArray, List.set_cons_zero, List.set_cons_succ]
        refine Lt.take (i := 2) (oi := { dst := some 47, op := Op.move (Operand.tmp 6), type := 9, pos := "l7_form.go:103", after := #[], guard := none }) (v := ?_) rfl (by kernel_rfl) (by kernel_rfl) (by kernel_rfl) (by kernel_rfl) (fun _ _ _ h => h) hS0 (Or.inl ⟨by rfl, ?_⟩) ?_
        rotate_left 1
        · intro w hSw
          try dsimp only at hSw
          go_simp
          first | done | with_reducible rfl
        simp only [Act.put, List.setIfInBounds_toArray, List.set_cons_zero, List.set_cons_succ]
        refine Lt.take (i := 3) (oi := { dst := some 48, op := Op.slice 9 (Operand.tmp 47) (some (Operand.const (Value.int IntKind.i64 7))) none none, type := 9, pos := "l7_form.go:103", after := #[{ on := 2, ground := Ground.data }], guard := none }) (v := ?_) rfl (by kernel_rfl) (by kernel_rfl) (by kernel_rfl) (by kernel_rfl) (fun _ _ _ h => h) hS0 (Or.inl ⟨by rfl, ?_⟩) ?_
        rotate_left 1
        · intro w hSw
          try dsimp only at hSw
          go_simp
          first | done | with_reducible rfl
        simp only [Act.put, List.setIfInBounds_toArray, List.set_cons_zero, List.set_cons_succ]
        refine Lt.step (i := 4) (o := { dst := some 49, op := Op.call { callee := Callee.value (Operand.func 24), args := #[Operand.tmp 48], argTypes := #[9] }, type := 9, pos := "l7_form.go:103", after := #[{ on := 3, ground := Ground.data }], guard := none }) (by kernel_rfl) rfl (fun K hK => ?_)
        refine step_call1 (f := 24) rfl rfl (.string y) rfl (HN.out _) (fun W => by simp [go_sem]) ?_
        rintro v w2 ⟨rfl, hb2⟩
        have HR2 := hid (HRU.out.below hb2)
        obtain ⟨_, _, k2, _, _, _⟩ := HR2.out.rs.cells
        refine hK.out _ _ (fun _ => k2) (fun _ => ?_)
        clear hK K
        try simp only [Act.put, List.setIfInBounds_toArray, List.set_cons_zero, List.set_cons_succ]
        refine Lt.take (i := 5) (oi := { dst := some 50, op := Op.build 54 #[(2, Operand.tmp 49)], type := 54, pos := "l7_form.go:103", after := #[{ on := 4, ground := Ground.data }], guard := none }) (v := ?_) rfl (by kernel_rfl) (by kernel_rfl) (by kernel_rfl) (by kernel_rfl) (fun _ _ _ h => h) k2 (Or.inl ⟨by rfl, ?_⟩) ?_
        rotate_left 1
        · intro w hSw
          try dsimp only at hSw
          go_simp
          first | done | with_reducible rfl
        simp only [Act.put, List.setIfInBounds_toArray, List.set_cons_zero, List.set_cons_succ]
        refine Lt.step (i := 6) (o := { dst := some 51, op := Op.buildSlice 23 1 #[(0, Operand.tmp 50)], type := 23, pos := "l7_form.go:103", after := #[{ on := 5, ground := Ground.data }], guard := none }) (by kernel_rfl) rfl (fun K hK => ?_)
        go_simp
        have HR3 := hid (HR2.out.below ((Below.refl _ _).alloc (Nat.le_refl _) (.cells #[.slice none 0 0, .slice none 0 0, .string t] 54)))
        obtain ⟨_, _, m2, _, _, _⟩ := HR3.out.rs.cells
        refine hK.out _ _ (fun _ => m2) (fun _ => ?_)
        clear hK K
        try simp only [Act.put, List.setIfInBounds_toArray, List.set_cons_zero, List.set_cons_succ]
        refine Lt.step (i := 7) (o := { dst := some 52, op := Op.call { callee := Callee.builtin Builtin.append, args := #[Operand.tmp 46, Operand.tmp 51], argTypes := #[23, 23] }, type := 23, pos := "l7_form.go:103", after := #[{ on := 1, ground := Ground.data }, { on := 6, ground := Ground.data }, { on := 4, ground := Ground.chain }], guard := none }) (by kernel_rfl) rfl (fun K hK => ?_)
        refine step_append_lies _ (by rfl) _ _ 23 (by rfl) B 54 i0 (.agg #[.slice none 0 0, .slice none 0 0, .string ByteArray.empty]) 3 64 Tryz.underlying23 hi hz0 hz1 hz2 (by rfl) (by decide) (.slice qa qn qc) qn (es.flatMap entC) (by rfl) (HQN.out ▸ HR3.out.rs.row) ⟨w2.heap.size, 0, none⟩ 1 1 [.slice none 0 0, .slice none 0 0, .string t] (by rfl) (by rfl) (World.news_of_block (cs := #[.slice none 0 0, .slice none 0 0, .string t]) (t := 54) (fr := (0, 0)) (alloc_here _ _)) (by intro u hu; simp at hu; rcases hu with rfl | rfl <;> rfl) (by decide) (by unfold maxLen; omega) (by omega) (HR3.out.sz) _ rfl ?_
        intro g' cap2 w4 hown' hgrow hlie hlt3
        have hF4 := HR3.out.keepF HR3.out.rs.row hgrow
        have n2 : w4.cell? ⟨F, 2, none⟩ = some (.slice qa qn qc) := by rw [Lib.cell_of_heap hF4]; rfl
        have nf2 : w4.frozen? ⟨F, 2, none⟩ = false := Lib.frozen_of_heap hF4 2
        have HR4 := hid (HR3.out.addR hgrow t (HQN.out.symm ▸ hown'))
        rw [HQN.out] at HR4
        refine hK.out _ _ (fun _ => n2) (fun _ => ?_)
        clear hK K hown' hgrow hlie hlt3 hF4 HR2 HR3 HRU hb2 k2 m2
        try simp only [Act.put, List.setIfInBounds_toArray, List.set_cons_zero, List.set_cons_succ]
        refine Lt.take (i := 8) (oi := { dst := some 53, op := Op.fieldAddr 25 (Operand.tmp 3) 2, type := 0, pos := "l7_form.go:103", after := #[{ on := 0, ground := Ground.phase }, { on := 1, ground := Ground.phase }, { on := 2, ground := Ground.phase }, { on := 3, ground := Ground.phase }, { on := 4, ground := Ground.phase }, { on := 5, ground := Ground.phase }, { on := 6, ground := Ground.phase }, { on := 7, ground := Ground.phase }], guard := none }) (v := ?_) rfl (by kernel_rfl) (by kernel_rfl) (by kernel_rfl) (by kernel_rfl) (fun _ _ _ h => h) n2 (Or.inl ⟨by rfl, ?_⟩) ?_
        rotate_left 1
        · intro w hSw
          try dsimp only at hSw
          go_simp
          first | done | with_reducible rfl
        simp only [Act.put, List.setIfInBounds_toArray, List.set_cons_zero, List.set_cons_succ]
        refine Lt.step (i := 9) (o := { dst := none, op := Op.store 23 (Operand.tmp 53) (Operand.tmp 52), type := 0, pos := "l7_form.go:103", after := #[{ on := 8, ground := Ground.data }, { on := 7, ground := Ground.data }, { on := 7, ground := Ground.chain }, { on := 0, ground := Ground.phase }, { on := 1, ground := Ground.phase }, { on := 2, ground := Ground.phase }, { on := 3, ground := Ground.phase }, { on := 4, ground := Ground.phase }, { on := 5, ground := Ground.phase }, { on := 6, ground := Ground.phase }, { on := 7, ground := Ground.phase }], guard := none }) (by kernel_rfl) rfl (fun K hK => ?_)
        go_simp
        refine hK.out _ _ (fun h => absurd rfl h) (fun _ => ?_)
        clear hK K
        refine Lt.done (by kernel_rfl) ?_ _
        go_wp2_with fail
        refine (HB4.out _).mono ?_
        rintro e w' ⟨rfl, rfl⟩
        go_wp2_with fail
        refine (HB5.out _).mono ?_
        rintro e w' ⟨rfl, rfl⟩
        go_wp2_with fail
        refine (HB6.out _).mono ?_
        rintro e w' ⟨rfl, rfl⟩
        go_wp2
        go_roundw
        case rel => exact ⟨k + 1, _, _, _, _, by omega, by go_num, HST.out, HM2.out, HR4.out⟩
        case measure => simp [intOf]; omega
      · by_cases hes : es = []
        · subst hes
          have hrs : s.rs = [] := by rw [← HR.out.rs.er]; rfl
          obtain ⟨qa, qc, rfl⟩ := slN HR.out.rs
          have HB1 := hid (beg_at xb ⟨#[115, 116, 111, 114, 101, 32]⟩ _ b1 (by omega) (by decide))
          have HB2 := hid (beg_at xb ⟨#[116, 101, 120, 116, 32]⟩ _ b2 (by omega) (by decide))
          have HB3 := hid (beg_at xb ⟨#[114, 101, 99, 111, 114, 100, 32]⟩ _ b3 (by omega) (by decide))
          have HB4 := hid (beg_at xb ⟨#[100, 111, 32]⟩ _ b4 (by omega) (by decide))
          have HB5 := hid (beg_at xb ⟨#[97, 115, 107, 32]⟩ _ b5 (by omega) (by decide))
          have HB6 := hid (beg_at xb ⟨#[104, 97, 115, 32]⟩ _ b6 (by omega) (by decide))
          rw [ls_ins hc, ls_nil hrs] at HST HM2
          clear hc b1 b2 b3 b4 b5 b6 HM
          obtain ⟨c0, c1, c2, f0, f1, f2⟩ := HR.out.rs.cells
          go_wp2_with fail
          refine (HB1.out _).mono ?_
          rintro e w' ⟨rfl, rfl⟩
          go_wp2_with fail
          refine (HB2.out _).mono ?_
          rintro e w' ⟨rfl, rfl⟩
          go_wp2_with fail
          refine (HB3.out _).mono ?_
          rintro e w' ⟨rfl, rfl⟩
          go_wp2_with fail
          refine (HB4.out _).mono ?_
          rintro e w' ⟨rfl, rfl⟩
          go_wp2_with fail
          refine (HB5.out _).mono ?_
          rintro e w' ⟨rfl, rfl⟩
          go_wp2_with fail
          refine (HB6.out _).mono ?_
          rintro e w' ⟨rfl, rfl⟩
          go_wp2
          go_roundw
          case rel => exact ⟨k + 1, _, _, _, _, by omega, by go_num, HST.out, HM2.out, HR.out⟩
          case measure => simp [intOf]; omega
        · obtain ⟨es, c, l, r, rs, q, qc, rfl, hs3, rfl⟩ := slS HR.out.rs hes
          obtain ⟨sw, sts, srs⟩ := s
          obtain rfl : srs = rs ++ [r] := hs3
          have hms : es.length ≤ 200002 := by
            have h1 := HM.out.rs
            have h2 := congrArg List.length HR.out.rs.er
            simp at h1 h2; omega
          have hrr := HM.out.rr r (by simp)
          have HB1 := hid (beg_at xb ⟨#[115, 116, 111, 114, 101, 32]⟩ _ b1 (by omega) (by decide))
          have HB2 := hid (beg_at xb ⟨#[116, 101, 120, 116, 32]⟩ _ b2 (by omega) (by decide))
          have HB3 := hid (beg_at xb ⟨#[114, 101, 99, 111, 114, 100, 32]⟩ _ b3 (by omega) (by decide))
          have HB4 := hid (beg_at xb ⟨#[100, 111, 32]⟩ _ b4 (by omega) (by decide))
          have HB5 := hid (beg_at xb ⟨#[97, 115, 107, 32]⟩ _ b5 (by omega) (by decide))
          have HB6 := hid (beg_at xb ⟨#[104, 97, 115, 32]⟩ _ b6 (by omega) (by decide))
          rw [ls_ins hc] at HST HM2
          dsimp only at HST HM2
          rw [onLast_snoc] at HST HM2
          have hy : (xb.extract 3 xb.size).data.toList = xb.data.toList.drop 3 := by rw [ext_list, List.take_of_length_le (by rw [toList_len]; omega)]
          rw [← hy] at HST HM2
          have hys : (xb.extract 3 xb.size).size ≤ 1048576 := by rw [ByteArray.size_extract]; omega
          obtain ⟨y, ey⟩ : ∃ y, xb.extract 3 xb.size = y := ⟨_, rfl⟩
          rw [ey] at HST HM2 hys
          have HN := hid (fun w => l2Read_any y w hys)
          have HRD := hid (fun e => rd_of (l := y.data.toList) (e := e))
          have hx6 : (3 : Int) ≤ (xb.size : Int) := by omega
          have hrc := hrr.1
          have hkl : k ≤ 200001 := by omega
          have hB3 := HR.out.sz
          have hqb := HR.out.rs.row.lt q rfl
          clear hc b1 b2 b3 b4 b5 b6 HM hy hys hrr
          obtain ⟨ii, eii⟩ : ∃ ii, ii = (rd y.data.toList).getD zI := ⟨_, rfl⟩
          rw [← eii] at HST HM2
          have HRE : Hid (∀ e, ReadP y.data.toList e → ∃ b, e = .returned (.tuple #[.agg #[.int .i64 ii.op, .string ii.text, .int .i64 ii.n], .bool b])) := fun e he => by rw [eii]; exact HRD.out e he
          clear eii HRD
          obtain ⟨op, tx, nn⟩ := ii
          dsimp only at HRE
          obtain ⟨m, em⟩ : ∃ m, es.length = m := ⟨_, rfl⟩
          have HMM := hid em
          obtain ⟨c0, c1, c2, f0, f1, f2⟩ := HR.out.rs.cells
          rw [em] at c2 hms
          clear em
          have dm : decide ((0 : Int) ≤ (m : Int)) = true := by simp
          have hm1 : (m : Int) < (m : Int) + 1 := by omega
          obtain ⟨i0, hi, hz0, hz1, hz2⟩ := info_parts Tryz.info56
          go_wp2_with fail
          refine (HB1.out _).mono ?_
          rintro e w' ⟨rfl, rfl⟩
          go_wp2_with fail
          refine (HB2.out _).mono ?_
          rintro e w' ⟨rfl, rfl⟩
          go_wp2_with fail
          refine (HB3.out _).mono ?_
          rintro e w' ⟨rfl, rfl⟩
          go_wp2_with fail
          refine (HB4.out _).mono ?_
          rintro e w' ⟨rfl, rfl⟩
          go_wp2_with fail
          refine (HN.out _).mono ?_
          rintro e w3 ⟨hb3, he⟩
          obtain ⟨b, rfl⟩ := HRE.out e he
          have HR3 := hid (HR.out.below hb3)
          obtain ⟨X, eX⟩ : ∃ X, w3.alloc (.cells #[.int .i64 op, .string tx, .int .i64 nn] 56) = X := ⟨_, rfl⟩
          have hbX : Below w3.heap.size w3 X := eX ▸ (Below.refl _ _).alloc (Nat.le_refl _) _
          have hI : X.heap[w3.heap.size]? = some (.cells #[.int .i64 op, .string tx, .int .i64 nn] 56 (0, 0)) := by rw [← eX]; exact alloc_here _ _
          have HRX := hid (HR3.out.below hbX)
          have HRU := hid (HRX.out.below ((Below.refl _ _).drew))
          have hIU : X.drew.heap[w3.heap.size]? = some (.cells #[.int .i64 op, .string tx, .int .i64 nn] 56 (0, 0)) := hI
          have HNI : Hid (c.ownBlock ≠ some w3.heap.size) := fun e => by have := ((HR3.out.rs.cod (c, l, r) (by simp)).lt _ e).2; omega
          have i0' : X.drew.cell? ⟨w3.heap.size, 0, none⟩ = some (.int .i64 op) := by rw [Lib.cell_of_heap hIU]; rfl
          have i1' : X.drew.cell? ⟨w3.heap.size, 1, none⟩ = some (.string tx) := by rw [Lib.cell_of_heap hIU]; rfl
          have i2' : X.drew.cell? ⟨w3.heap.size, 2, none⟩ = some (.int .i64 nn) := by rw [Lib.cell_of_heap hIU]; rfl
          obtain ⟨_, _, u2, _, _, _⟩ := HRU.out.rs.cells
          obtain ⟨uc, _, _, _⟩ := HRU.out.rs.last
          rw [HMM.out] at u2 uc
          have hXB := HRX.out.sz
          clear c0 c1 c2 f0 f1 f2 cx HR hb3 he hbX HR3
          go_wp2_with fail
          clear eX
          refine Lt.begin 16 (fun w' => w'.cell? ⟨F, 2, none⟩ = some (.slice (some ⟨q, 0, none⟩) (m + 1) qc) ∧ w'.cell? ⟨q, m * 3, none⟩ = some c ∧ w'.cell? ⟨w3.heap.size, 0, none⟩ = some (.int .i64 op) ∧ w'.cell? ⟨w3.heap.size, 1, none⟩ = some (.string tx) ∧ w'.cell? ⟨w3.heap.size, 2, none⟩ = some (.int .i64 nn)) (by kernel_rfl) ?_
          have hS0 : X.drew.cell? ⟨F, 2, none⟩ = some (.slice (some ⟨q, 0, none⟩) (m + 1) qc) ∧ X.drew.cell? ⟨q, m * 3, none⟩ = some c ∧ X.drew.cell? ⟨w3.heap.size, 0, none⟩ = some (.int .i64 op) ∧ X.drew.cell? ⟨w3.heap.size, 1, none⟩ = some (.string tx) ∧ X.drew.cell? ⟨w3.heap.size, 2, none⟩ = some (.int .i64 nn) := ⟨u2, uc, i0', i1', i2'⟩
          refine Lt.take (i := 0) (oi := { dst := some 66, op := Op.fieldAddr 25 (Operand.tmp 3) 2, type := 0, pos := "l7_form.go:107", after := #[], guard := none }) (v := ?_) rfl (by kernel_rfl) (by kernel_rfl) (by kernel_rfl) (by kernel_rfl) (fun _ _ _ h => h) hS0 (Or.inl ⟨by rfl, ?_⟩) ?_
          rotate_left 1
          · rintro w ⟨s1, s2, s3, s4, s5⟩
            go_simp
            first | done | with_reducible rfl
          simp only [Act.put, List.setIfInBounds_toArray, List.set_cons_zero, List.set_cons_succ]
          refine Lt.take (i := 1) (oi := { dst := some 67, op := Op.load 23 (Operand.tmp 66), type := 23, pos := "l7_form.go:107", after := #[{ on := 0, ground := Ground.data }], guard := none }) (v := ?_) rfl (by kernel_rfl) (by kernel_rfl) (by kernel_rfl) (by kernel_rfl) (fun _ _ _ h => h) hS0 (Or.inl ⟨by rfl, ?_⟩) ?_
          rotate_left 1
          · rintro w ⟨s1, s2, s3, s4, s5⟩
            go_simp
            first | done | with_reducible rfl
          simp only [Act.put, List.setIfInBounds_toArray, List.set_cons_zero, List.set_cons_succ]
          refine Lt.take (i := 2) (oi := { dst := some 68, op := Op.move (Operand.tmp 7), type := 3, pos := "l7_form.go:107", after := #[], guard := none }) (v := ?_) rfl (by kernel_rfl) (by kernel_rfl) (by kernel_rfl) (by kernel_rfl) (fun _ _ _ h => h) hS0 (Or.inl ⟨by rfl, ?_⟩) ?_
          rotate_left 1
          · rintro w ⟨s1, s2, s3, s4, s5⟩
            go_simp
            first | done | with_reducible rfl
          simp only [Act.put, List.setIfInBounds_toArray, List.set_cons_zero, List.set_cons_succ]
          refine Lt.take (i := 3) (oi := { dst := some 69, op := Op.fieldAddr 25 (Operand.tmp 3) 2, type := 0, pos := "l7_form.go:107", after := #[], guard := none }) (v := ?_) rfl (by kernel_rfl) (by kernel_rfl) (by kernel_rfl) (by kernel_rfl) (fun _ _ _ h => h) hS0 (Or.inl ⟨by rfl, ?_⟩) ?_
          rotate_left 1
          · rintro w ⟨s1, s2, s3, s4, s5⟩
            go_simp
            first | done | with_reducible rfl
          simp only [Act.put, List.setIfInBounds_toArray, List.set_cons_zero, List.set_cons_succ]
          refine Lt.take (i := 4) (oi := { dst := some 70, op := Op.load 23 (Operand.tmp 69), type := 23, pos := "l7_form.go:107", after := #[{ on := 3, ground := Ground.data }], guard := none }) (v := ?_) rfl (by kernel_rfl) (by kernel_rfl) (by kernel_rfl) (by kernel_rfl) (fun _ _ _ h => h) hS0 (Or.inl ⟨by rfl, ?_⟩) ?_
          rotate_left 1
          · rintro w ⟨s1, s2, s3, s4, s5⟩
            go_simp
            first | done | with_reducible rfl
          simp only [Act.put, List.setIfInBounds_toArray, List.set_cons_zero, List.set_cons_succ]
          refine Lt.take (i := 5) (oi := { dst := some 71, op := Op.move (Operand.tmp 7), type := 3, pos := "l7_form.go:107", after := #[], guard := none }) (v := ?_) rfl (by kernel_rfl) (by kernel_rfl) (by kernel_rfl) (by kernel_rfl) (fun _ _ _ h => h) hS0 (Or.inl ⟨by rfl, ?_⟩) ?_
          rotate_left 1
          · rintro w ⟨s1, s2, s3, s4, s5⟩
            go_simp
            first | done | with_reducible rfl
          simp only [Act.put, List.setIfInBounds_toArray, List.set_cons_zero, List.set_cons_succ]
          refine Lt.take (i := 6) (oi := { dst := some 72, op := Op.indexAddr 23 (Operand.tmp 70) (Operand.tmp 71), type := 0, pos := "l7_form.go:107", after := #[{ on := 4, ground := Ground.data }, { on := 5, ground := Ground.data }], guard := none }) (v := ?_) rfl (by kernel_rfl) (by kernel_rfl) (by kernel_rfl) (by kernel_rfl) (fun _ _ _ h => h) hS0 (Or.inl ⟨by rfl, ?_⟩) ?_
          rotate_left 1
          · rintro w ⟨s1, s2, s3, s4, s5⟩
            go_simp
            first | done | with_reducible rfl
          simp only [Act.put, List.setIfInBounds_toArray, List.set_cons_zero, List.set_cons_succ]
          refine Lt.take (i := 7) (oi := { dst := some 73, op := Op.fieldAddr 54 (Operand.tmp 72) 0, type := 0, pos := "l7_form.go:107", after := #[{ on := 6, ground := Ground.data }], guard := none }) (v := ?_) rfl (by kernel_rfl) (by kernel_rfl) (by kernel_rfl) (by kernel_rfl) (fun _ _ _ h => h) hS0 (Or.inl ⟨by rfl, ?_⟩) ?_
          rotate_left 1
          · rintro w ⟨s1, s2, s3, s4, s5⟩
            go_simp
            first | done | with_reducible rfl
          simp only [Act.put, List.setIfInBounds_toArray, List.set_cons_zero, List.set_cons_succ]
          refine Lt.take (i := 8) (oi := { dst := some 74, op := Op.fieldAddr 51 (Operand.tmp 73) 0, type := 0, pos := "l7_form.go:107", after := #[{ on := 7, ground := Ground.data }], guard := none }) (v := ?_) rfl (by kernel_rfl) (by kernel_rfl) (by kernel_rfl) (by kernel_rfl) (fun _ _ _ h => h) hS0 (Or.inl ⟨by rfl, ?_⟩) ?_
          rotate_left 1
          · rintro w ⟨s1, s2, s3, s4, s5⟩
            go_simp
            first | done | with_reducible rfl
          simp only [Act.put, List.setIfInBounds_toArray, List.set_cons_zero, List.set_cons_succ]
          refine Lt.take (i := 9) (oi := { dst := some 75, op := Op.load 49 (Operand.tmp 74), type := 49, pos := "l7_form.go:107", after := #[{ on := 8, ground := Ground.data }], guard := none }) (v := ?_) rfl (by kernel_rfl) (by kernel_rfl) (by kernel_rfl) (by kernel_rfl) (fun _ _ _ h => h) hS0 (Or.inl ⟨by rfl, ?_⟩) ?_
          rotate_left 1
          · rintro w ⟨s1, s2, s3, s4, s5⟩
            go_simp
            first | done | with_reducible rfl
          simp only [Act.put, List.setIfInBounds_toArray, List.set_cons_zero, List.set_cons_succ]
          refine Lt.take (i := 10) (oi := { dst := some 76, op := Op.load 56 (Operand.tmp 8), type := 56, pos := "l7_form.go:107", after := #[], guard := none }) (v := ?_) rfl (by kernel_rfl) (by kernel_rfl) (by kernel_rfl) (by kernel_rfl) (fun _ _ _ h => h) hS0 (Or.inl ⟨by rfl, ?_⟩) ?_
          rotate_left 1
          · rintro w ⟨s1, s2, s3, s4, s5⟩
            go_simp
            first | done | with_reducible rfl
          simp only [Act.put, List.setIfInBounds_toArray, List.set_cons_zero, List.set_cons_succ]
          refine Lt.step (i := 11) (o := { dst := some 77, op := Op.buildSlice 49 1 #[(0, Operand.tmp 76)], type := 49, pos := "l7_form.go:107", after := #[{ on := 10, ground := Ground.data }], guard := none }) (by kernel_rfl) rfl (fun K hK => ?_)
          go_simp
          have hbA : Below X.heap.size X (X.alloc (.cells #[.int .i64 op, .string tx, .int .i64 nn] 56)).drew := ((Below.refl _ _).alloc (Nat.le_refl _) _).drew
          have HR5 := hid (HRX.out.below hbA)
          obtain ⟨_, _, m2, _, _, _⟩ := HR5.out.rs.cells
          obtain ⟨mc, _, _, _⟩ := HR5.out.rs.last
          rw [HMM.out] at m2 mc
          have hIA : (X.alloc (.cells #[.int .i64 op, .string tx, .int .i64 nn] 56)).drew.heap[w3.heap.size]? = some (.cells #[.int .i64 op, .string tx, .int .i64 nn] 56 (0, 0)) := by rw [hbA.block _ (hlt hIU)]; exact hIU
          refine hK.out _ _ (fun _ => ⟨m2, mc, by rw [Lib.cell_of_heap hIA]; rfl, by rw [Lib.cell_of_heap hIA]; rfl, by rw [Lib.cell_of_heap hIA]; rfl⟩) (fun _ => ?_)
          clear hK K
          try simp only [Act.put, List.setIfInBounds_toArray, List.set_cons_zero, List.set_cons_succ]
          refine Lt.step (i := 12) (o := { dst := some 78, op := Op.call { callee := Callee.builtin Builtin.append, args := #[Operand.tmp 75, Operand.tmp 77], argTypes := #[49, 49] }, type := 49, pos := "l7_form.go:107", after := #[{ on := 9, ground := Ground.data }, { on := 11, ground := Ground.data }], guard := none }) (by kernel_rfl) rfl (fun K hK => ?_)
          refine step_append_lies _ (by rfl) _ _ 49 (by rfl) B 56 i0 (.agg #[.int .i64 0, .string ByteArray.empty, .int .i64 0]) 3 32 Tryz.underlying49 hi hz0 hz1 hz2 (by rfl) (by decide) c r.code.length (insC r.code) (by rfl) (HR5.out.rs.cod (c, l, r) (by simp)) ⟨X.heap.size, 0, none⟩ 1 1 [.int .i64 op, .string tx, .int .i64 nn] (by rfl) (by rfl) (World.news_of_block (cs := #[.int .i64 op, .string tx, .int .i64 nn]) (t := 56) (fr := (0, 0)) (alloc_here _ _)) (by intro u hu; simp at hu; rcases hu with rfl | rfl | rfl <;> rfl) (by decide) (by unfold maxLen; omega) (by omega) (HR5.out.sz) _ rfl ?_
          intro g' cap2 w4 hown' hgrow hlie hlt3
          have hF4 := HR5.out.keepF (HR5.out.rs.cod (c, l, r) (by simp)) hgrow
          have hq4 : w4.heap[q]? = (X.alloc (.cells #[.int .i64 op, .string tx, .int .i64 nn] 56)).drew.heap[q]? := hgrow.block q (HR5.out.rs.row.lt q rfl).2 (fun e => neTP (HR5.out.rs.cod (c, l, r) (by simp)) HR5.out.rs.row (by decide) q e.symm rfl)
          have n2 : w4.cell? ⟨F, 2, none⟩ = some (.slice (some ⟨q, 0, none⟩) (m + 1) qc) := by rw [Lib.cell_of_heap hF4, ← HMM.out]; rfl
          have nc : w4.cell? ⟨q, m * 3, none⟩ = some c := by rw [World.cell?_of_block (a := ⟨q, m * 3, none⟩) hq4]; exact mc
          have nfc : w4.frozen? ⟨q, m * 3, none⟩ = false := by rw [World.frozen?_of_block (a := ⟨q, m * 3, none⟩) hq4, ← HMM.out]; exact HR5.out.rs.last.2.2.1
          have hI4 : w4.heap[w3.heap.size]? = some (.cells #[.int .i64 op, .string tx, .int .i64 nn] 56 (0, 0)) := by rw [hgrow.block w3.heap.size (hlt hIA) (fun e => HNI.out e.symm)]; exact hIA
          have hS4 : w4.cell? ⟨w3.heap.size, 0, none⟩ = some (.int .i64 op) ∧ w4.cell? ⟨w3.heap.size, 1, none⟩ = some (.string tx) ∧ w4.cell? ⟨w3.heap.size, 2, none⟩ = some (.int .i64 nn) := ⟨by rw [Lib.cell_of_heap hI4]; rfl, by rw [Lib.cell_of_heap hI4]; rfl, by rw [Lib.cell_of_heap hI4]; rfl⟩
          have HR4 := hid (HR5.out.addI hgrow (⟨op, tx, nn⟩ : I3) hown' hlie)
          rw [HMM.out] at HR4
          refine hK.out _ _ (fun _ => ⟨n2, nc, hS4⟩) (fun hS5 => ?_)
          replace hS5 := hS5 (by decide)
          clear hK K hown' hgrow hlie hlt3 hF4 HR5 HRU HRX m2 mc hIA hI4 hS4 hq4 hbA
          try simp only [Act.put, List.setIfInBounds_toArray, List.set_cons_zero, List.set_cons_succ]
          refine Lt.step (i := 13) (o := { dst := some 79, op := Op.indexAddr 23 (Operand.tmp 67) (Operand.tmp 68), type := 0, pos := "l7_form.go:107", after := #[{ on := 1, ground := Ground.data }, { on := 2, ground := Ground.data }, { on := 0, ground := Ground.phase }, { on := 1, ground := Ground.phase }, { on := 2, ground := Ground.phase }, { on := 3, ground := Ground.phase }, { on := 4, ground := Ground.phase }, { on := 5, ground := Ground.phase }, { on := 6, ground := Ground.phase }, { on := 7, ground := Ground.phase }, { on := 8, ground := Ground.phase }, { on := 9, ground := Ground.phase }, { on := 10, ground := Ground.phase }, { on := 11, ground := Ground.phase }, { on := 12, ground := Ground.phase }], guard := none }) (by kernel_rfl) rfl (fun K hK => ?_)
          go_simp
          refine hK.out _ _ (fun _ => hS5) (fun _ => ?_)
          clear hK K
          try simp only [Act.put, List.setIfInBounds_toArray, List.set_cons_zero, List.set_cons_succ]
          refine Lt.step (i := 14) (o := { dst := some 80, op := Op.fieldAddr 54 (Operand.tmp 79) 0, type := 0, pos := "l7_form.go:107", after := #[{ on := 13, ground := Ground.data }, { on := 0, ground := Ground.phase }, { on := 1, ground := Ground.phase }, { on := 2, ground := Ground.phase }, { on := 3, ground := Ground.phase }, { on := 4, ground := Ground.phase }, { on := 5, ground := Ground.phase }, { on := 6, ground := Ground.phase }, { on := 7, ground := Ground.phase }, { on := 8, ground := Ground.phase }, { on := 9, ground := Ground.phase }, { on := 10, ground := Ground.phase }, { on := 11, ground := Ground.phase }, { on := 12, ground := Ground.phase }], guard := none }) (by kernel_rfl) rfl (fun K hK => ?_)
          go_simp
          refine hK.out _ _ (fun _ => hS5) (fun _ => ?_)
          clear hK K
          try simp only [Act.put, List.setIfInBounds_toArray, List.set_cons_zero, List.set_cons_succ]
          refine Lt.step (i := 15) (o := { dst := some 81, op := Op.fieldAddr 51 (Operand.tmp 80) 0, type := 0, pos := "l7_form.go:107", after := #[{ on := 14, ground := Ground.data }, { on := 0, ground := Ground.phase }, { on := 1, ground := Ground.phase }, { on := 2, ground := Ground.phase }, { on := 3, ground := Ground.phase }, { on := 4, ground := Ground.phase }, { on := 5, ground := Ground.phase }, { on := 6, ground := Ground.phase }, { on := 7, ground := Ground.phase }, { on := 8, ground := Ground.phase }, { on := 9, ground := Ground.phase }, { on := 10, ground := Ground.phase }, { on := 11, ground := Ground.phase }, { on := 12, ground := Ground.phase }], guard := none }) (by kernel_rfl) rfl (fun K hK => ?_)
          go_simp
          refine hK.out _ _ (fun _ => hS5) (fun _ => ?_)
          clear hK K
          try simp only [Act.put, List.setIfInBounds_toArray, List.set_cons_zero, List.set_cons_succ]
          refine Lt.step (i := 16) (o := { dst := none, op := Op.store 49 (Operand.tmp 81) (Operand.tmp 78), type := 0, pos := "l7_form.go:107", after := #[{ on := 15, ground := Ground.data }, { on := 12, ground := Ground.data }, { on := 12, ground := Ground.chain }, { on := 0, ground := Ground.phase }, { on := 1, ground := Ground.phase }, { on := 2, ground := Ground.phase }, { on := 3, ground := Ground.phase }, { on := 4, ground := Ground.phase }, { on := 5, ground := Ground.phase }, { on := 6, ground := Ground.phase }, { on := 7, ground := Ground.phase }, { on := 8, ground := Ground.phase }, { on := 9, ground := Ground.phase }, { on := 10, ground := Ground.phase }, { on := 11, ground := Ground.phase }, { on := 12, ground := Ground.phase }], guard := none }) (by kernel_rfl) rfl (fun K hK => ?_)
          go_simp
          refine hK.out _ _ (fun h => absurd rfl h) (fun _ => ?_)
          clear hK K hS5
          refine Lt.done (by kernel_rfl) ?_ _
          go_wp2_with fail
          refine (HB5.out _).mono ?_
          rintro e w' ⟨rfl, rfl⟩
          go_wp2_with fail
          refine (HB6.out _).mono ?_
          rintro e w' ⟨rfl, rfl⟩
          go_wp2
          go_roundw
          case rel => exact ⟨k + 1, _, _, _, _, by omega, by go_num, HST.out, HM2.out, HR4.out⟩
          case measure => simp [intOf]; omega
      · by_cases hes : es = []
        · subst hes
          have hrs : s.rs = [] := by rw [← HR.out.rs.er]; rfl
          obtain ⟨qa, qc, rfl⟩ := slN HR.out.rs
          have HB1 := hid (beg_at xb ⟨#[115, 116, 111, 114, 101, 32]⟩ _ b1 (by omega) (by decide))
          have HB2 := hid (beg_at xb ⟨#[116, 101, 120, 116, 32]⟩ _ b2 (by omega) (by decide))
          have HB3 := hid (beg_at xb ⟨#[114, 101, 99, 111, 114, 100, 32]⟩ _ b3 (by omega) (by decide))
          have HB4 := hid (beg_at xb ⟨#[100, 111, 32]⟩ _ b4 (by omega) (by decide))
          have HB5 := hid (beg_at xb ⟨#[97, 115, 107, 32]⟩ _ b5 (by omega) (by decide))
          rw [ls_ask hc, ls_nil hrs] at HST HM2
          clear hc b1 b2 b3 b4 b5 b6 HM
          obtain ⟨c0, c1, c2, f0, f1, f2⟩ := HR.out.rs.cells
          go_wp2_with fail
          refine (HB1.out _).mono ?_
          rintro e w' ⟨rfl, rfl⟩
          go_wp2_with fail
          refine (HB2.out _).mono ?_
          rintro e w' ⟨rfl, rfl⟩
          go_wp2_with fail
          refine (HB3.out _).mono ?_
          rintro e w' ⟨rfl, rfl⟩
          go_wp2_with fail
          refine (HB4.out _).mono ?_
          rintro e w' ⟨rfl, rfl⟩
          go_wp2_with fail
          refine (HB5.out _).mono ?_
          rintro e w' ⟨rfl, rfl⟩
          go_wp2
          go_roundw
          case rel => exact ⟨k + 1, _, _, _, _, by omega, by go_num, HST.out, HM2.out, HR.out⟩
          case measure => simp [intOf]; omega
        · obtain ⟨es, c, l, r, rs, q, qc, rfl, hs3, rfl⟩ := slS HR.out.rs hes
          obtain ⟨sw, sts, srs⟩ := s
          obtain rfl : srs = rs ++ [r] := hs3
          have hms : es.length ≤ 200002 := by
            have h1 := HM.out.rs
            have h2 := congrArg List.length HR.out.rs.er
            simp at h1 h2; omega
          have hrr := HM.out.rr r (by simp)
          have HB1 := hid (beg_at xb ⟨#[115, 116, 111, 114, 101, 32]⟩ _ b1 (by omega) (by decide))
          have HB2 := hid (beg_at xb ⟨#[116, 101, 120, 116, 32]⟩ _ b2 (by omega) (by decide))
          have HB3 := hid (beg_at xb ⟨#[114, 101, 99, 111, 114, 100, 32]⟩ _ b3 (by omega) (by decide))
          have HB4 := hid (beg_at xb ⟨#[100, 111, 32]⟩ _ b4 (by omega) (by decide))
          have HB5 := hid (beg_at xb ⟨#[97, 115, 107, 32]⟩ _ b5 (by omega) (by decide))
          rw [ls_ask hc] at HST HM2
          dsimp only at HST HM2
          rw [onLast_snoc] at HST HM2
          have HN := hid (fun w => gl_of (l7Glance_any xb w (by omega) (by omega)))
          have hx6 : (4 : Int) ≤ (xb.size : Int) := by omega
          have hrc := hrr.2.1
          have hkl : k ≤ 200001 := by omega
          have hB3 := HR.out.sz
          have hqb := HR.out.rs.row.lt q rfl
          clear hc b1 b2 b3 b4 b5 b6 HM hrr
          generalize glanceL xb.data.toList = gg at *
          obtain ⟨gn, ga, gs⟩ := gg
          dsimp only at HN
          obtain ⟨m, em⟩ : ∃ m, es.length = m := ⟨_, rfl⟩
          have HMM := hid em
          obtain ⟨c0, c1, c2, f0, f1, f2⟩ := HR.out.rs.cells
          have HRU := hid (HR.out.below ((Below.refl _ _).drew))
          obtain ⟨_, _, u2, _, _, _⟩ := HRU.out.rs.cells
          obtain ⟨_, uc, _, _⟩ := HRU.out.rs.last
          rw [em] at c2 hms u2 uc
          clear em
          have dm : decide ((0 : Int) ≤ (m : Int)) = true := by simp
          have hm1 : (m : Int) < (m : Int) + 1 := by omega
          obtain ⟨i0, hi, hz0, hz1, hz2⟩ := info_parts Tryz.info60
          go_wp2_with fail
          refine (HB1.out _).mono ?_
          rintro e w' ⟨rfl, rfl⟩
          go_wp2_with fail
          refine (HB2.out _).mono ?_
          rintro e w' ⟨rfl, rfl⟩
          go_wp2_with fail
          refine (HB3.out _).mono ?_
          rintro e w' ⟨rfl, rfl⟩
          go_wp2_with fail
          refine (HB4.out _).mono ?_
          rintro e w' ⟨rfl, rfl⟩
          go_wp2_with fail
          refine (HB5.out _).mono ?_
          rintro e w' ⟨rfl, rfl⟩
          go_wp2_with fail
          clear c0 c1 c2 f0 f1 f2 cx HR
          refine Lt.begin 15 (fun w' => w'.cell? ⟨F, 2, none⟩ = some (.slice (some ⟨q, 0, none⟩) (m + 1) qc) ∧ w'.cell? ⟨q, m * 3 + 1, none⟩ = some l) (by kernel_rfl) ?_
          have hS0 : wr.drew.cell? ⟨F, 2, none⟩ = some (.slice (some ⟨q, 0, none⟩) (m + 1) qc) ∧ wr.drew.cell? ⟨q, m * 3 + 1, none⟩ = some l := ⟨u2, uc⟩
          refine Lt.take (i := 0) (oi := { dst := some 92, op := Op.fieldAddr 25 (Operand.tmp 3) 2, type := 0, pos := "l7_form.go:110", after := #[], guard := none }) (v := ?_) rfl (by kernel_rfl) (by kernel_rfl) (by kernel_rfl) (by kernel_rfl) (fun _ _ _ h => h) hS0 (Or.inl ⟨by rfl, ?_⟩) ?_
          rotate_left 1
          · rintro w ⟨s1, s2⟩
            go_simp
            first | done | with_reducible rfl
          simp only [Act.put, List.setIfInBounds_toArray, List.set_cons_zero, List.set_cons_succ]
          refine Lt.take (i := 1) (oi := { dst := some 93, op := Op.load 23 (Operand.tmp 92), type := 23, pos := "l7_form.go:110", after := #[{ on := 0, ground := Ground.data }], guard := none }) (v := ?_) rfl (by kernel_rfl) (by kernel_rfl) (by kernel_rfl) (by kernel_rfl) (fun _ _ _ h => h) hS0 (Or.inl ⟨by rfl, ?_⟩) ?_
          rotate_left 1
          · rintro w ⟨s1, s2⟩
            go_simp
            first | done | with_reducible rfl
          simp only [Act.put, List.setIfInBounds_toArray, List.set_cons_zero, List.set_cons_succ]
          refine Lt.take (i := 2) (oi := { dst := some 94, op := Op.move (Operand.tmp 7), type := 3, pos := "l7_form.go:110", after := #[], guard := none }) (v := ?_) rfl (by kernel_rfl) (by kernel_rfl) (by kernel_rfl) (by kernel_rfl) (fun _ _ _ h => h) hS0 (Or.inl ⟨by rfl, ?_⟩) ?_
          rotate_left 1
          · rintro w ⟨s1, s2⟩
            go_simp
            first | done | with_reducible rfl
          simp only [Act.put, List.setIfInBounds_toArray, List.set_cons_zero, List.set_cons_succ]
          refine Lt.take (i := 3) (oi := { dst := some 95, op := Op.fieldAddr 25 (Operand.tmp 3) 2, type := 0, pos := "l7_form.go:110", after := #[], guard := none }) (v := ?_) rfl (by kernel_rfl) (by kernel_rfl) (by kernel_rfl) (by kernel_rfl) (fun _ _ _ h => h) hS0 (Or.inl ⟨by rfl, ?_⟩) ?_
          rotate_left 1
          · rintro w ⟨s1, s2⟩
            go_simp
            first | done | with_reducible rfl
          simp only [Act.put, List.setIfInBounds_toArray, List.set_cons_zero, List.set_cons_succ]
          refine Lt.take (i := 4) (oi := { dst := some 96, op := Op.load 23 (Operand.tmp 95), type := 23, pos := "l7_form.go:110", after := #[{ on := 3, ground := Ground.data }], guard := none }) (v := ?_) rfl (by kernel_rfl) (by kernel_rfl) (by kernel_rfl) (by kernel_rfl) (fun _ _ _ h => h) hS0 (Or.inl ⟨by rfl, ?_⟩) ?_
          rotate_left 1
          · rintro w ⟨s1, s2⟩
            go_simp
            first | done | with_reducible rfl
          simp only [Act.put, List.setIfInBounds_toArray, List.set_cons_zero, List.set_cons_succ]
          refine Lt.take (i := 5) (oi := { dst := some 97, op := Op.move (Operand.tmp 7), type := 3, pos := "l7_form.go:110", after := #[], guard := none }) (v := ?_) rfl (by kernel_rfl) (by kernel_rfl) (by kernel_rfl) (by kernel_rfl) (fun _ _ _ h => h) hS0 (Or.inl ⟨by rfl, ?_⟩) ?_
          rotate_left 1
          · rintro w ⟨s1, s2⟩
            go_simp
            first | done | with_reducible rfl
          simp only [Act.put, List.setIfInBounds_toArray, List.set_cons_zero, List.set_cons_succ]
          refine Lt.take (i := 6) (oi := { dst := some 98, op := Op.indexAddr 23 (Operand.tmp 96) (Operand.tmp 97), type := 0, pos := "l7_form.go:110", after := #[{ on := 4, ground := Ground.data }, { on := 5, ground := Ground.data }], guard := none }) (v := ?_) rfl (by kernel_rfl) (by kernel_rfl) (by kernel_rfl) (by kernel_rfl) (fun _ _ _ h => h) hS0 (Or.inl ⟨by rfl, ?_⟩) ?_
          rotate_left 1
          · rintro w ⟨s1, s2⟩
            go_simp
            first | done | with_reducible rfl
          simp only [Act.put, List.setIfInBounds_toArray, List.set_cons_zero, List.set_cons_succ]
          refine Lt.take (i := 7) (oi := { dst := some 99, op := Op.fieldAddr 54 (Operand.tmp 98) 1, type := 0, pos := "l7_form.go:110", after := #[{ on := 6, ground := Ground.data }], guard := none }) (v := ?_) rfl (by kernel_rfl) (by kernel_rfl) (by kernel_rfl) (by kernel_rfl) (fun _ _ _ h => h) hS0 (Or.inl ⟨by rfl, ?_⟩) ?_
          rotate_left 1
          · rintro w ⟨s1, s2⟩
            go_simp
            first | done | with_reducible rfl
          simp only [Act.put, List.setIfInBounds_toArray, List.set_cons_zero, List.set_cons_succ]
          refine Lt.take (i := 8) (oi := { dst := some 100, op := Op.load 52 (Operand.tmp 99), type := 52, pos := "l7_form.go:110", after := #[{ on := 7, ground := Ground.data }], guard := none }) (v := ?_) rfl (by kernel_rfl) (by kernel_rfl) (by kernel_rfl) (by kernel_rfl) (fun _ _ _ h => h) hS0 (Or.inl ⟨by rfl, ?_⟩) ?_
          rotate_left 1
          · rintro w ⟨s1, s2⟩
            go_simp
            first | done | with_reducible rfl
          simp only [Act.put, List.setIfInBounds_toArray, List.set_cons_zero, List.set_cons_succ]
          refine Lt.take (i := 9) (oi := { dst := some 101, op := Op.move (Operand.tmp 6), type := 9, pos := "l7_form.go:110", after := #[], guard := none }) (v := ?_) rfl (by kernel_rfl) (by kernel_rfl) (by kernel_rfl) (by kernel_rfl) (fun _ _ _ h => h) hS0 (Or.inl ⟨by rfl, ?_⟩) ?_
          rotate_left 1
          · rintro w ⟨s1, s2⟩
            go_simp
            first | done | with_reducible rfl
          simp only [Act.put, List.setIfInBounds_toArray, List.set_cons_zero, List.set_cons_succ]
          refine Lt.step (i := 10) (o := { dst := some 102, op := Op.call { callee := Callee.value (Operand.func 26), args := #[Operand.tmp 101], argTypes := #[9] }, type := 60, pos := "l7_form.go:110", after := #[{ on := 9, ground := Ground.data }], guard := none }) (by kernel_rfl) rfl (fun K hK => ?_)
          refine step_call1 (f := 26) rfl rfl (.string xb) rfl (HN.out _) (fun W => by simp [go_sem]) ?_
          rintro v w2 ⟨rfl, hb2⟩
          have HR2 := hid (HRU.out.below hb2)
          obtain ⟨_, _, k2, _, _, _⟩ := HR2.out.rs.cells
          obtain ⟨_, kc, _, _⟩ := HR2.out.rs.last
          rw [HMM.out] at k2 kc
          refine hK.out _ _ (fun _ => ⟨k2, kc⟩) (fun _ => ?_)
          clear hK K
          try simp only [Act.put, List.setIfInBounds_toArray, List.set_cons_zero, List.set_cons_succ]
          refine Lt.step (i := 11) (o := { dst := some 103, op := Op.buildSlice 52 1 #[(0, Operand.tmp 102)], type := 52, pos := "l7_form.go:110", after := #[{ on := 10, ground := Ground.data }], guard := none }) (by kernel_rfl) rfl (fun K hK => ?_)
          go_simp
          have HR5 := hid (HR2.out.below ((Below.refl _ _).alloc (Nat.le_refl _) (.cells #[.string gn, .bool ga, .string gs] 60)))
          obtain ⟨_, _, m2, _, _, _⟩ := HR5.out.rs.cells
          obtain ⟨_, mc, _, _⟩ := HR5.out.rs.last
          rw [HMM.out] at m2 mc
          refine hK.out _ _ (fun _ => ⟨m2, mc⟩) (fun _ => ?_)
          clear hK K
          try simp only [Act.put, List.setIfInBounds_toArray, List.set_cons_zero, List.set_cons_succ]
          refine Lt.step (i := 12) (o := { dst := some 104, op := Op.call { callee := Callee.builtin Builtin.append, args := #[Operand.tmp 100, Operand.tmp 103], argTypes := #[52, 52] }, type := 52, pos := "l7_form.go:110", after := #[{ on := 8, ground := Ground.data }, { on := 11, ground := Ground.data }, { on := 10, ground := Ground.chain }], guard := none }) (by kernel_rfl) rfl (fun K hK => ?_)
          refine step_append_lies _ (by rfl) _ _ 52 (by rfl) B 60 i0 (.agg #[.string ByteArray.empty, .bool false, .string ByteArray.empty]) 3 40 Tryz.underlying52 hi hz0 hz1 hz2 (by rfl) (by decide) l r.looks.length (gloC r.looks) (by rfl) (HR5.out.rs.loo (c, l, r) (by simp)) ⟨w2.heap.size, 0, none⟩ 1 1 [.string gn, .bool ga, .string gs] (by rfl) (by rfl) (World.news_of_block (cs := #[.string gn, .bool ga, .string gs]) (t := 60) (fr := (0, 0)) (alloc_here _ _)) (by intro u hu; simp at hu; rcases hu with rfl | rfl | rfl <;> rfl) (by decide) (by unfold maxLen; omega) (by omega) (HR5.out.sz) _ rfl ?_
          intro g' cap2 w4 hown' hgrow hlie hlt3
          have hF4 := HR5.out.keepF (HR5.out.rs.loo (c, l, r) (by simp)) hgrow
          have hq4 : w4.heap[q]? = (w2.alloc (.cells #[.string gn, .bool ga, .string gs] 60)).heap[q]? := hgrow.block q (HR5.out.rs.row.lt q rfl).2 (fun e => neTP (HR5.out.rs.loo (c, l, r) (by simp)) HR5.out.rs.row (by decide) q e.symm rfl)
          have n2 : w4.cell? ⟨F, 2, none⟩ = some (.slice (some ⟨q, 0, none⟩) (m + 1) qc) := by rw [Lib.cell_of_heap hF4, ← HMM.out]; rfl
          have nc : w4.cell? ⟨q, m * 3 + 1, none⟩ = some l := by rw [World.cell?_of_block (a := ⟨q, m * 3 + 1, none⟩) hq4]; exact mc
          have nfc : w4.frozen? ⟨q, m * 3 + 1, none⟩ = false := by rw [World.frozen?_of_block (a := ⟨q, m * 3 + 1, none⟩) hq4, ← HMM.out]; exact HR5.out.rs.last.2.2.2
          have HR4 := hid (HR5.out.addL hgrow (⟨gn, ga, gs⟩ : G3) hown' hlie)
          rw [HMM.out] at HR4
          refine hK.out _ _ (fun _ => ⟨n2, nc⟩) (fun hS5 => ?_)
          replace hS5 := hS5 (by decide)
          clear hK K hown' hgrow hlie hlt3 hF4 HR5 HR2 HRU m2 mc hq4 k2 kc hb2
          try simp only [Act.put, List.setIfInBounds_toArray, List.set_cons_zero, List.set_cons_succ]
          refine Lt.step (i := 13) (o := { dst := some 105, op := Op.indexAddr 23 (Operand.tmp 93) (Operand.tmp 94), type := 0, pos := "l7_form.go:110", after := #[{ on := 1, ground := Ground.data }, { on := 2, ground := Ground.data }, { on := 0, ground := Ground.phase }, { on := 1, ground := Ground.phase }, { on := 2, ground := Ground.phase }, { on := 3, ground := Ground.phase }, { on := 4, ground := Ground.phase }, { on := 5, ground := Ground.phase }, { on := 6, ground := Ground.phase }, { on := 7, ground := Ground.phase }, { on := 8, ground := Ground.phase }, { on := 9, ground := Ground.phase }, { on := 10, ground := Ground.phase }, { on := 11, ground := Ground.phase }, { on := 12, ground := Ground.phase }], guard := none }) (by kernel_rfl) rfl (fun K hK => ?_)
          go_simp
          refine hK.out _ _ (fun _ => hS5) (fun _ => ?_)
          clear hK K
          try simp only [Act.put, List.setIfInBounds_toArray, List.set_cons_zero, List.set_cons_succ]
          refine Lt.step (i := 14) (o := { dst := some 106, op := Op.fieldAddr 54 (Operand.tmp 105) 1, type := 0, pos := "l7_form.go:110", after := #[{ on := 13, ground := Ground.data }, { on := 0, ground := Ground.phase }, { on := 1, ground := Ground.phase }, { on := 2, ground := Ground.phase }, { on := 3, ground := Ground.phase }, { on := 4, ground := Ground.phase }, { on := 5, ground := Ground.phase }, { on := 6, ground := Ground.phase }, { on := 7, ground := Ground.phase }, { on := 8, ground := Ground.phase }, { on := 9, ground := Ground.phase }, { on := 10, ground := Ground.phase }, { on := 11, ground := Ground.phase }, { on := 12, ground := Ground.phase }], guard := none }) (by kernel_rfl) rfl (fun K hK => ?_)
          go_simp
          refine hK.out _ _ (fun _ => hS5) (fun _ => ?_)
          clear hK K
          try simp only [Act.put, List.setIfInBounds_toArray, List.set_cons_zero, List.set_cons_succ]
          refine Lt.step (i := 15) (o := { dst := none, op := Op.store 52 (Operand.tmp 106) (Operand.tmp 104), type := 0, pos := "l7_form.go:110", after := #[{ on := 14, ground := Ground.data }, { on := 12, ground := Ground.data }, { on := 12, ground := Ground.chain }, { on := 0, ground := Ground.phase }, { on := 1, ground := Ground.phase }, { on := 2, ground := Ground.phase }, { on := 3, ground := Ground.phase }, { on := 4, ground := Ground.phase }, { on := 5, ground := Ground.phase }, { on := 6, ground := Ground.phase }, { on := 7, ground := Ground.phase }, { on := 8, ground := Ground.phase }, { on := 9, ground := Ground.phase }, { on := 10, ground := Ground.phase }, { on := 11, ground := Ground.phase }, { on := 12, ground := Ground.phase }], guard := none }) (by kernel_rfl) rfl (fun K hK => ?_)
          go_simp
          refine hK.out _ _ (fun h => absurd rfl h) (fun _ => ?_)
          clear hK K hS5
          refine Lt.done (by kernel_rfl) ?_ _
          go_wp2
          go_roundw
          case rel => exact ⟨k + 1, _, _, _, _, by omega, by go_num, HST.out, HM2.out, HR4.out⟩
          case measure => simp [intOf]; omega
      · by_cases hes : es = []
        · subst hes
          have hrs : s.rs = [] := by rw [← HR.out.rs.er]; rfl
          obtain ⟨qa, qc, rfl⟩ := slN HR.out.rs
          have HB1 := hid (beg_at xb ⟨#[115, 116, 111, 114, 101, 32]⟩ _ b1 (by omega) (by decide))
          have HB2 := hid (beg_at xb ⟨#[116, 101, 120, 116, 32]⟩ _ b2 (by omega) (by decide))
          have HB3 := hid (beg_at xb ⟨#[114, 101, 99, 111, 114, 100, 32]⟩ _ b3 (by omega) (by decide))
          have HB4 := hid (beg_at xb ⟨#[100, 111, 32]⟩ _ b4 (by omega) (by decide))
          have HB5 := hid (beg_at xb ⟨#[97, 115, 107, 32]⟩ _ b5 (by omega) (by decide))
          have HB6 := hid (beg_at xb ⟨#[104, 97, 115, 32]⟩ _ b6 (by omega) (by decide))
          rw [ls_has hc, ls_nil hrs] at HST HM2
          clear hc b1 b2 b3 b4 b5 b6 HM
          obtain ⟨c0, c1, c2, f0, f1, f2⟩ := HR.out.rs.cells
          go_wp2_with fail
          refine (HB1.out _).mono ?_
          rintro e w' ⟨rfl, rfl⟩
          go_wp2_with fail
          refine (HB2.out _).mono ?_
          rintro e w' ⟨rfl, rfl⟩
          go_wp2_with fail
          refine (HB3.out _).mono ?_
          rintro e w' ⟨rfl, rfl⟩
          go_wp2_with fail
          refine (HB4.out _).mono ?_
          rintro e w' ⟨rfl, rfl⟩
          go_wp2_with fail
          refine (HB5.out _).mono ?_
          rintro e w' ⟨rfl, rfl⟩
          go_wp2_with fail
          refine (HB6.out _).mono ?_
          rintro e w' ⟨rfl, rfl⟩
          go_wp2
          go_roundw
          case rel => exact ⟨k + 1, _, _, _, _, by omega, by go_num, HST.out, HM2.out, HR.out⟩
          case measure => simp [intOf]; omega
        · obtain ⟨es, c, l, r, rs, q, qc, rfl, hs3, rfl⟩ := slS HR.out.rs hes
          obtain ⟨sw, sts, srs⟩ := s
          obtain rfl : srs = rs ++ [r] := hs3
          have hms : es.length ≤ 200002 := by
            have h1 := HM.out.rs
            have h2 := congrArg List.length HR.out.rs.er
            simp at h1 h2; omega
          have hrr := HM.out.rr r (by simp)
          have HB1 := hid (beg_at xb ⟨#[115, 116, 111, 114, 101, 32]⟩ _ b1 (by omega) (by decide))
          have HB2 := hid (beg_at xb ⟨#[116, 101, 120, 116, 32]⟩ _ b2 (by omega) (by decide))
          have HB3 := hid (beg_at xb ⟨#[114, 101, 99, 111, 114, 100, 32]⟩ _ b3 (by omega) (by decide))
          have HB4 := hid (beg_at xb ⟨#[100, 111, 32]⟩ _ b4 (by omega) (by decide))
          have HB5 := hid (beg_at xb ⟨#[97, 115, 107, 32]⟩ _ b5 (by omega) (by decide))
          have HB6 := hid (beg_at xb ⟨#[104, 97, 115, 32]⟩ _ b6 (by omega) (by decide))
          rw [ls_has hc] at HST HM2
          dsimp only at HST HM2
          rw [onLast_snoc] at HST HM2
          have HN := hid (fun w => gl_of (l7Glance_any xb w (by omega) (by omega)))
          have hx6 : (4 : Int) ≤ (xb.size : Int) := by omega
          have hrc := hrr.2.1
          have hkl : k ≤ 200001 := by omega
          have hB3 := HR.out.sz
          have hqb := HR.out.rs.row.lt q rfl
          clear hc b1 b2 b3 b4 b5 b6 HM hrr
          generalize glanceL xb.data.toList = gg at *
          obtain ⟨gn, ga, gs⟩ := gg
          dsimp only at HN
          obtain ⟨m, em⟩ : ∃ m, es.length = m := ⟨_, rfl⟩
          have HMM := hid em
          obtain ⟨c0, c1, c2, f0, f1, f2⟩ := HR.out.rs.cells
          have HRU := hid (HR.out.below ((Below.refl _ _).drew))
          obtain ⟨_, _, u2, _, _, _⟩ := HRU.out.rs.cells
          obtain ⟨_, uc, _, _⟩ := HRU.out.rs.last
          rw [em] at c2 hms u2 uc
          clear em
          have dm : decide ((0 : Int) ≤ (m : Int)) = true := by simp
          have hm1 : (m : Int) < (m : Int) + 1 := by omega
          obtain ⟨i0, hi, hz0, hz1, hz2⟩ := info_parts Tryz.info60
          go_wp2_with fail
          refine (HB1.out _).mono ?_
          rintro e w' ⟨rfl, rfl⟩
          go_wp2_with fail
          refine (HB2.out _).mono ?_
          rintro e w' ⟨rfl, rfl⟩
          go_wp2_with fail
          refine (HB3.out _).mono ?_
          rintro e w' ⟨rfl, rfl⟩
          go_wp2_with fail
          refine (HB4.out _).mono ?_
          rintro e w' ⟨rfl, rfl⟩
          go_wp2_with fail
          refine (HB5.out _).mono ?_
          rintro e w' ⟨rfl, rfl⟩
          go_wp2_with fail
          refine (HB6.out _).mono ?_
          rintro e w' ⟨rfl, rfl⟩
          go_wp2_with fail
          clear c0 c1 c2 f0 f1 f2 cx HR
          refine Lt.begin 15 (fun w' => w'.cell? ⟨F, 2, none⟩ = some (.slice (some ⟨q, 0, none⟩) (m + 1) qc) ∧ w'.cell? ⟨q, m * 3 + 1, none⟩ = some l) (by kernel_rfl) ?_
          have hS0 : wr.drew.cell? ⟨F, 2, none⟩ = some (.slice (some ⟨q, 0, none⟩) (m + 1) qc) ∧ wr.drew.cell? ⟨q, m * 3 + 1, none⟩ = some l := ⟨u2, uc⟩
          refine Lt.take (i := 0) (oi := { dst := some 92, op := Op.fieldAddr 25 (Operand.tmp 3) 2, type := 0, pos := "l7_form.go:110", after := #[], guard := none }) (v := ?_) rfl (by kernel_rfl) (by kernel_rfl) (by kernel_rfl) (by kernel_rfl) (fun _ _ _ h => h) hS0 (Or.inl ⟨by rfl, ?_⟩) ?_
          rotate_left 1
          · rintro w ⟨s1, s2⟩
            go_simp
            first | done | with_reducible rfl
          simp only [Act.put, List.setIfInBounds_toArray, List.set_cons_zero, List.set_cons_succ]
          refine Lt.take (i := 1) (oi := { dst := some 93, op := Op.load 23 (Operand.tmp 92), type := 23, pos := "l7_form.go:110", after := #[{ on := 0, ground := Ground.data }], guard := none }) (v := ?_) rfl (by kernel_rfl) (by kernel_rfl) (by kernel_rfl) (by kernel_rfl) (fun _ _ _ h => h) hS0 (Or.inl ⟨by rfl, ?_⟩) ?_
          rotate_left 1
          · rintro w ⟨s1, s2⟩
            go_simp
            first | done | with_reducible rfl
          simp only [Act.put, List.setIfInBounds_toArray, List.set_cons_zero, List.set_cons_succ]
          refine Lt.take (i := 2) (oi := { dst := some 94, op := Op.move (Operand.tmp 7), type := 3, pos := "l7_form.go:110", after := #[], guard := none }) (v := ?_) rfl (by kernel_rfl) (by kernel_rfl) (by kernel_rfl) (by kernel_rfl) (fun _ _ _ h => h) hS0 (Or.inl ⟨by rfl, ?_⟩) ?_
          rotate_left 1
          · rintro w ⟨s1, s2⟩
            go_simp
            first | done | with_reducible rfl
          simp only [Act.put, List.setIfInBounds_toArray, List.set_cons_zero, List.set_cons_succ]
          refine Lt.take (i := 3) (oi := { dst := some 95, op := Op.fieldAddr 25 (Operand.tmp 3) 2, type := 0, pos := "l7_form.go:110", after := #[], guard := none }) (v := ?_) rfl (by kernel_rfl) (by kernel_rfl) (by kernel_rfl) (by kernel_rfl) (fun _ _ _ h => h) hS0 (Or.inl ⟨by rfl, ?_⟩) ?_
          rotate_left 1
          · rintro w ⟨s1, s2⟩
            go_simp
            first | done | with_reducible rfl
          simp only [Act.put, List.setIfInBounds_toArray, List.set_cons_zero, List.set_cons_succ]
          refine Lt.take (i := 4) (oi := { dst := some 96, op := Op.load 23 (Operand.tmp 95), type := 23, pos := "l7_form.go:110", after := #[{ on := 3, ground := Ground.data }], guard := none }) (v := ?_) rfl (by kernel_rfl) (by kernel_rfl) (by kernel_rfl) (by kernel_rfl) (fun _ _ _ h => h) hS0 (Or.inl ⟨by rfl, ?_⟩) ?_
          rotate_left 1
          · rintro w ⟨s1, s2⟩
            go_simp
            first | done | with_reducible rfl
          simp only [Act.put, List.setIfInBounds_toArray, List.set_cons_zero, List.set_cons_succ]
          refine Lt.take (i := 5) (oi := { dst := some 97, op := Op.move (Operand.tmp 7), type := 3, pos := "l7_form.go:110", after := #[], guard := none }) (v := ?_) rfl (by kernel_rfl) (by kernel_rfl) (by kernel_rfl) (by kernel_rfl) (fun _ _ _ h => h) hS0 (Or.inl ⟨by rfl, ?_⟩) ?_
          rotate_left 1
          · rintro w ⟨s1, s2⟩
            go_simp
            first | done | with_reducible rfl
          simp only [Act.put, List.setIfInBounds_toArray, List.set_cons_zero, List.set_cons_succ]
          refine Lt.take (i := 6) (oi := { dst := some 98, op := Op.indexAddr 23 (Operand.tmp 96) (Operand.tmp 97), type := 0, pos := "l7_form.go:110", after := #[{ on := 4, ground := Ground.data }, { on := 5, ground := Ground.data }], guard := none }) (v := ?_) rfl (by kernel_rfl) (by kernel_rfl) (by kernel_rfl) (by kernel_rfl) (fun _ _ _ h => h) hS0 (Or.inl ⟨by rfl, ?_⟩) ?_
          rotate_left 1
          · rintro w ⟨s1, s2⟩
            go_simp
            first | done | with_reducible rfl
          simp only [Act.put, List.setIfInBounds_toArray, List.set_cons_zero, List.set_cons_succ]
          refine Lt.take (i := 7) (oi := { dst := some 99, op := Op.fieldAddr 54 (Operand.tmp 98) 1, type := 0, pos := "l7_form.go:110", after := #[{ on := 6, ground := Ground.data }], guard := none }) (v := ?_) rfl (by kernel_rfl) (by kernel_rfl) (by kernel_rfl) (by kernel_rfl) (fun _ _ _ h => h) hS0 (Or.inl ⟨by rfl, ?_⟩) ?_
          rotate_left 1
          · rintro w ⟨s1, s2⟩
            go_simp
            first | done | with_reducible rfl
          simp only [Act.put, List.setIfInBounds_toArray, List.set_cons_zero, List.set_cons_succ]
          refine Lt.take (i := 8) (oi := { dst := some 100, op := Op.load 52 (Operand.tmp 99), type := 52, pos := "l7_form.go:110", after := #[{ on := 7, ground := Ground.data }], guard := none }) (v := ?_) rfl (by kernel_rfl) (by kernel_rfl) (by kernel_rfl) (by kernel_rfl) (fun _ _ _ h => h) hS0 (Or.inl ⟨by rfl, ?_⟩) ?_
          rotate_left 1
          · rintro w ⟨s1, s2⟩
            go_simp
            first | done | with_reducible rfl
          simp only [Act.put, List.setIfInBounds_toArray, List.set_cons_zero, List.set_cons_succ]
          refine Lt.take (i := 9) (oi := { dst := some 101, op := Op.move (Operand.tmp 6), type := 9, pos := "l7_form.go:110", after := #[], guard := none }) (v := ?_) rfl (by kernel_rfl) (by kernel_rfl) (by kernel_rfl) (by kernel_rfl) (fun _ _ _ h => h) hS0 (Or.inl ⟨by rfl, ?_⟩) ?_
          rotate_left 1
          · rintro w ⟨s1, s2⟩
            go_simp
            first | done | with_reducible rfl
          simp only [Act.put, List.setIfInBounds_toArray, List.set_cons_zero, List.set_cons_succ]
          refine Lt.step (i := 10) (o := { dst := some 102, op := Op.call { callee := Callee.value (Operand.func 26), args := #[Operand.tmp 101], argTypes := #[9] }, type := 60, pos := "l7_form.go:110", after := #[{ on := 9, ground := Ground.data }], guard := none }) (by kernel_rfl) rfl (fun K hK => ?_)
          refine step_call1 (f := 26) rfl rfl (.string xb) rfl (HN.out _) (fun W => by simp [go_sem]) ?_
          rintro v w2 ⟨rfl, hb2⟩
          have HR2 := hid (HRU.out.below hb2)
          obtain ⟨_, _, k2, _, _, _⟩ := HR2.out.rs.cells
          obtain ⟨_, kc, _, _⟩ := HR2.out.rs.last
          rw [HMM.out] at k2 kc
          refine hK.out _ _ (fun _ => ⟨k2, kc⟩) (fun _ => ?_)
          clear hK K
          try simp only [Act.put, List.setIfInBounds_toArray, List.set_cons_zero, List.set_cons_succ]
          refine Lt.step (i := 11) (o := { dst := some 103, op := Op.buildSlice 52 1 #[(0, Operand.tmp 102)], type := 52, pos := "l7_form.go:110", after := #[{ on := 10, ground := Ground.data }], guard := none }) (by kernel_rfl) rfl (fun K hK => ?_)
          go_simp
          have HR5 := hid (HR2.out.below ((Below.refl _ _).alloc (Nat.le_refl _) (.cells #[.string gn, .bool ga, .string gs] 60)))
          obtain ⟨_, _, m2, _, _, _⟩ := HR5.out.rs.cells
          obtain ⟨_, mc, _, _⟩ := HR5.out.rs.last
          rw [HMM.out] at m2 mc
          refine hK.out _ _ (fun _ => ⟨m2, mc⟩) (fun _ => ?_)
          clear hK K
          try simp only [Act.put, List.setIfInBounds_toArray, List.set_cons_zero, List.set_cons_succ]
          refine Lt.step (i := 12) (o := { dst := some 104, op := Op.call { callee := Callee.builtin Builtin.append, args := #[Operand.tmp 100, Operand.tmp 103], argTypes := #[52, 52] }, type := 52, pos := "l7_form.go:110", after := #[{ on := 8, ground := Ground.data }, { on := 11, ground := Ground.data }, { on := 10, ground := Ground.chain }], guard := none }) (by kernel_rfl) rfl (fun K hK => ?_)
          refine step_append_lies _ (by rfl) _ _ 52 (by rfl) B 60 i0 (.agg #[.string ByteArray.empty, .bool false, .string ByteArray.empty]) 3 40 Tryz.underlying52 hi hz0 hz1 hz2 (by rfl) (by decide) l r.looks.length (gloC r.looks) (by rfl) (HR5.out.rs.loo (c, l, r) (by simp)) ⟨w2.heap.size, 0, none⟩ 1 1 [.string gn, .bool ga, .string gs] (by rfl) (by rfl) (World.news_of_block (cs := #[.string gn, .bool ga, .string gs]) (t := 60) (fr := (0, 0)) (alloc_here _ _)) (by intro u hu; simp at hu; rcases hu with rfl | rfl | rfl <;> rfl) (by decide) (by unfold maxLen; omega) (by omega) (HR5.out.sz) _ rfl ?_
          intro g' cap2 w4 hown' hgrow hlie hlt3
          have hF4 := HR5.out.keepF (HR5.out.rs.loo (c, l, r) (by simp)) hgrow
          have hq4 : w4.heap[q]? = (w2.alloc (.cells #[.string gn, .bool ga, .string gs] 60)).heap[q]? := hgrow.block q (HR5.out.rs.row.lt q rfl).2 (fun e => neTP (HR5.out.rs.loo (c, l, r) (by simp)) HR5.out.rs.row (by decide) q e.symm rfl)
          have n2 : w4.cell? ⟨F, 2, none⟩ = some (.slice (some ⟨q, 0, none⟩) (m + 1) qc) := by rw [Lib.cell_of_heap hF4, ← HMM.out]; rfl
          have nc : w4.cell? ⟨q, m * 3 + 1, none⟩ = some l := by rw [World.cell?_of_block (a := ⟨q, m * 3 + 1, none⟩) hq4]; exact mc
          have nfc : w4.frozen? ⟨q, m * 3 + 1, none⟩ = false := by rw [World.frozen?_of_block (a := ⟨q, m * 3 + 1, none⟩) hq4, ← HMM.out]; exact HR5.out.rs.last.2.2.2
          have HR4 := hid (HR5.out.addL hgrow (⟨gn, ga, gs⟩ : G3) hown' hlie)
          rw [HMM.out] at HR4
          refine hK.out _ _ (fun _ => ⟨n2, nc⟩) (fun hS5 => ?_)
          replace hS5 := hS5 (by decide)
          clear hK K hown' hgrow hlie hlt3 hF4 HR5 HR2 HRU m2 mc hq4 k2 kc hb2
          try simp only [Act.put, List.setIfInBounds_toArray, List.set_cons_zero, List.set_cons_succ]
          refine Lt.step (i := 13) (o := { dst := some 105, op := Op.indexAddr 23 (Operand.tmp 93) (Operand.tmp 94), type := 0, pos := "l7_form.go:110", after := #[{ on := 1, ground := Ground.data }, { on := 2, ground := Ground.data }, { on := 0, ground := Ground.phase }, { on := 1, ground := Ground.phase }, { on := 2, ground := Ground.phase }, { on := 3, ground := Ground.phase }, { on := 4, ground := Ground.phase }, { on := 5, ground := Ground.phase }, { on := 6, ground := Ground.phase }, { on := 7, ground := Ground.phase }, { on := 8, ground := Ground.phase }, { on := 9, ground := Ground.phase }, { on := 10, ground := Ground.phase }, { on := 11, ground := Ground.phase }, { on := 12, ground := Ground.phase }], guard := none }) (by kernel_rfl) rfl (fun K hK => ?_)
          go_simp
          refine hK.out _ _ (fun _ => hS5) (fun _ => ?_)
          clear hK K
          try simp only [Act.put, List.setIfInBounds_toArray, List.set_cons_zero, List.set_cons_succ]
          refine Lt.step (i := 14) (o := { dst := some 106, op := Op.fieldAddr 54 (Operand.tmp 105) 1, type := 0, pos := "l7_form.go:110", after := #[{ on := 13, ground := Ground.data }, { on := 0, ground := Ground.phase }, { on := 1, ground := Ground.phase }, { on := 2, ground := Ground.phase }, { on := 3, ground := Ground.phase }, { on := 4, ground := Ground.phase }, { on := 5, ground := Ground.phase }, { on := 6, ground := Ground.phase }, { on := 7, ground := Ground.phase }, { on := 8, ground := Ground.phase }, { on := 9, ground := Ground.phase }, { on := 10, ground := Ground.phase }, { on := 11, ground := Ground.phase }, { on := 12, ground := Ground.phase }], guard := none }) (by kernel_rfl) rfl (fun K hK => ?_)
          go_simp
          refine hK.out _ _ (fun _ => hS5) (fun _ => ?_)
          clear hK K
          try simp only [Act.put, List.setIfInBounds_toArray, List.set_cons_zero, List.set_cons_succ]
          refine Lt.step (i := 15) (o := { dst := none, op := Op.store 52 (Operand.tmp 106) (Operand.tmp 104), type := 0, pos := "l7_form.go:110", after := #[{ on := 14, ground := Ground.data }, { on := 12, ground := Ground.data }, { on := 12, ground := Ground.chain }, { on := 0, ground := Ground.phase }, { on := 1, ground := Ground.phase }, { on := 2, ground := Ground.phase }, { on := 3, ground := Ground.phase }, { on := 4, ground := Ground.phase }, { on := 5, ground := Ground.phase }, { on := 6, ground := Ground.phase }, { on := 7, ground := Ground.phase }, { on := 8, ground := Ground.phase }, { on := 9, ground := Ground.phase }, { on := 10, ground := Ground.phase }, { on := 11, ground := Ground.phase }, { on := 12, ground := Ground.phase }], guard := none }) (by kernel_rfl) rfl (fun K hK => ?_)
          go_simp
          refine hK.out _ _ (fun h => absurd rfl h) (fun _ => ?_)
          clear hK K hS5
          refine Lt.done (by kernel_rfl) ?_ _
          go_wp2
          go_roundw
          case rel => exact ⟨k + 1, _, _, _, _, by omega, by go_num, HST.out, HM2.out, HR4.out⟩
          case measure => simp [intOf]; omega
      · obtain ⟨qa, qn, qc, rfl, hqn⟩ := slQ HR.out.rs HM.out
        have HB1 := hid (beg_at xb ⟨#[115, 116, 111, 114, 101, 32]⟩ _ b1 (by omega) (by decide))
        have HB2 := hid (beg_at xb ⟨#[116, 101, 120, 116, 32]⟩ _ b2 (by omega) (by decide))
        have HB3 := hid (beg_at xb ⟨#[114, 101, 99, 111, 114, 100, 32]⟩ _ b3 (by omega) (by decide))
        have HB4 := hid (beg_at xb ⟨#[100, 111, 32]⟩ _ b4 (by omega) (by decide))
        have HB5 := hid (beg_at xb ⟨#[97, 115, 107, 32]⟩ _ b5 (by omega) (by decide))
        have HB6 := hid (beg_at xb ⟨#[104, 97, 115, 32]⟩ _ b6 (by omega) (by decide))
        rw [ls_other hc] at HST HM2
        clear hc b1 b2 b3 b4 b5 b6 HM
        obtain ⟨c0, c1, c2, f0, f1, f2⟩ := HR.out.rs.cells
        go_wp2_with fail
        refine (HB1.out _).mono ?_
        rintro e w' ⟨rfl, rfl⟩
        go_wp2_with fail
        refine (HB2.out _).mono ?_
        rintro e w' ⟨rfl, rfl⟩
        go_wp2_with fail
        refine (HB3.out _).mono ?_
        rintro e w' ⟨rfl, rfl⟩
        go_wp2_with fail
        refine (HB4.out _).mono ?_
        rintro e w' ⟨rfl, rfl⟩
        go_wp2_with fail
        refine (HB5.out _).mono ?_
        rintro e w' ⟨rfl, rfl⟩
        go_wp2_with fail
        refine (HB6.out _).mono ?_
        rintro e w' ⟨rfl, rfl⟩
        go_wp2
        go_roundw
        case rel => exact ⟨k + 1, _, _, _, _, by omega, by go_num, HST.out, HM2.out, HR.out⟩
        case measure => simp [intOf]; omega
    · have d0 : decide ((k : Int) < (T.length : Int)) = false := by simp; omega
      obtain rfl : k = T.length := by omega
      have hsL : s = LL := by rw [← HS.out, ← HLS.out, List.take_length]
      subst hsL
      have HSM := hid (HM.out.mono (show T.length ≤ 200002 by omega))
      obtain ⟨ta, tc, ra, rc, rfl, rfl, _⟩ := HR.out.rs.stIn HSM.out
      obtain ⟨c0, c1, c2, f0, f1, f2⟩ := HR.out.rs.cells
      obtain ⟨r0, r1, r2, g0, g1, g2⟩ := HR.out.rb.cells
      have hfb := HR.out.rs.fb
      have hlR := hlt HR.out.rb
      clear HS HLS HM hTl
      have hB2 := HR.out.bl
      have HRS := hid (((HR.out.rs.setR (b := w.heap.size) (j := 0) (by omega) (by omega) (.int .i64 s.w)).setR (b := w.heap.size) (j := 1) (by omega) (by omega) (.slice ta s.ts.length tc)).setR (b := w.heap.size) (j := 2) (by omega) (by omega) (.slice ra s.rs.length rc))
      clear HR
      go_wp2
      refine bodyPost_ret (v := .agg #[.int .i64 s.w, .slice ta s.ts.length tc, .slice ra s.rs.length rc]) (by simp [results, Tryz.results9, go_sem, r0, r1, r2]) rfl ⟨below_setR hB2 (Nat.le_refl _) _ _ _, ta, tc, ra, rc, F, B, es, rfl, hFw, HRS.out, HSM.out⟩

end Go.Proofs.YtikdgmmloiegjaaGreatDoor
