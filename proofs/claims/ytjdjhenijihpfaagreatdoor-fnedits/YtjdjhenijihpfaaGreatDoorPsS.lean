import Derived.Test.YtjdjhenijihpfaaGreatDoorPsI
namespace Go.Proofs.YtjdjhenijihpfaaGreatDoor
open Go.RowKit
set_option linter.unusedVariables false

/-- Where the loop of spec.PutSource stands. -/
def Mid (L : List S2) (s : S2) (r k : Nat) (M : List S2) (d : Bool) : Prop := (k ≤ r ∧ M = L.take k ∧ d = false) ∨ (r < k ∧ M = L.take r ++ [s] ++ (L.take k).drop r ∧ d = true)
theorem take_one {L : List S2} {k : Nat} (h : k < L.length) : L.take (k + 1) = L.take k ++ [sx L k] := by rw [List.take_succ_eq_append_getElem h, sx_get h]
theorem Mid.len {L : List S2} {s : S2} {r k : Nat} {M : List S2} {d : Bool} (h : Mid L s r k M d) (hk : k ≤ L.length) : M.length ≤ k + 1 := by
  rcases h with ⟨h1, rfl, _⟩ | ⟨h1, rfl, _⟩
  · rw [List.length_take]; omega
  · simp; omega
theorem Mid.before {L : List S2} {s : S2} {r k : Nat} {M : List S2} (h : Mid L s r k M false) (hk : k < L.length) (hr : k < r) : Mid L s r (k + 1) (M ++ [sx L k]) false := by
  rcases h with ⟨h1, rfl, _⟩ | ⟨_, _, h⟩
  · exact Or.inl ⟨by omega, (take_one hk).symm, rfl⟩
  · cases h
theorem Mid.here {L : List S2} {s : S2} {r : Nat} {M : List S2} (h : Mid L s r r M false) (hk : r < L.length) : Mid L s r (r + 1) (M ++ [s] ++ [sx L r]) true := by
  rcases h with ⟨h1, rfl, _⟩ | ⟨_, _, h⟩
  · refine Or.inr ⟨by omega, ?_, rfl⟩
    rw [take_one hk, List.drop_append_of_le_length (by rw [List.length_take]; omega), List.drop_of_length_le (by rw [List.length_take]; omega), List.nil_append]
  · cases h
theorem Mid.past {L : List S2} {s : S2} {r k : Nat} {M : List S2} (h : Mid L s r k M true) (hk : k < L.length) : Mid L s r (k + 1) (M ++ [sx L k]) true := by
  rcases h with ⟨_, _, h⟩ | ⟨h1, rfl, _⟩
  · cases h
  · refine Or.inr ⟨by omega, ?_, rfl⟩
    rw [take_one hk, List.drop_append_of_le_length (by rw [List.length_take]; omega), List.append_assoc (L.take r ++ [s])]
theorem Mid.done {L : List S2} {s : S2} {r : Nat} {M : List S2} (h : Mid L s r L.length M true) : M = insS L s r := by
  rcases h with ⟨_, _, h⟩ | ⟨h1, rfl, _⟩
  · cases h
  · rw [List.take_of_length_le (Nat.le_refl _)]; rfl
theorem Mid.last {L : List S2} {s : S2} {r : Nat} {M : List S2} (h : Mid L s r L.length M false) (hr : r ≤ L.length) : M ++ [s] = insS L s r := by
  rcases h with ⟨h1, rfl, _⟩ | ⟨_, _, h⟩
  · obtain rfl : r = L.length := by omega
    unfold insS
    rw [List.drop_of_length_le (Nat.le_refl _), List.append_nil]
  · cases h
theorem srcV_snoc (M : List S2) (s : S2) : srcV M ++ [.string s.name, .string s.text] = srcV (M ++ [s]) := by rw [srcV_append, srcV_one]

set_option maxRecDepth 100000 in
set_option maxHeartbeats 8000000 in
theorem specPs_any (sa ta : Option Addr) (c1 c2 : Nat) (ss : List S2) (ts : List T2) (t x : ByteArray) (w : World) (h : SpOk w sa ss ta ts) (hsm : SpSmall ss ts) (ht : t.size ≤ 9223372036854775807) (hx : x.size ≤ 9223372036854775807) :
    Calls Tryz.prog 7 #[.agg #[.slice sa ss.length c1, .slice ta ts.length c2], .string t, .string x] w fun e w' => Below w.heap.size w w' ∧ PsOut w.heap.size w' e ss ts t x (decide (x.size ≤ 2000)) := by
  obtain ⟨ok, eok⟩ : ∃ ok, decide (x.size ≤ 2000) = ok := ⟨_, rfl⟩
  have hok : decide ((2000 : Int) < (x.size : Int)) = !ok := by rw [← eok, ← decide_not, decide_eq_decide]; omega
  rw [eok]
  clear eok
  obtain ⟨i0, hi, hz0, hz1, hz2⟩ := info_parts Tryz.info103b
  have hb0 : Below w.heap.size w ((w.alloc (.cells #[.slice sa ss.length c1, .slice ta ts.length c2] 26)).alloc (.cells #[.slice none 0 0, .slice none 0 0] 26)) := ((Below.refl _ _).alloc (Nat.le_refl _) _).alloc (by simp) _
  have p0 : ((w.alloc (.cells #[.slice sa ss.length c1, .slice ta ts.length c2] 26)).alloc (.cells #[.slice none 0 0, .slice none 0 0] 26)).cell? ⟨w.heap.size, 0, none⟩ = some (.slice sa ss.length c1) := by simp [go_sem]
  have p1 : ((w.alloc (.cells #[.slice sa ss.length c1, .slice ta ts.length c2] 26)).alloc (.cells #[.slice none 0 0, .slice none 0 0] 26)).cell? ⟨w.heap.size, 1, none⟩ = some (.slice ta ts.length c2) := by simp [go_sem]
  have kb : ((w.alloc (.cells #[.slice sa ss.length c1, .slice ta ts.length c2] 26)).alloc (.cells #[.slice none 0 0, .slice none 0 0] 26)).heap[w.heap.size + 1]? = some (.cells #[.slice none 0 0, .slice none 0 0] 26 (0, 0)) := by
    have h := heapW_new (w.alloc (.cells #[.slice sa ss.length c1, .slice ta ts.length c2] 26)) (.cells #[.slice none 0 0, .slice none 0 0] 26)
    rw [show (w.alloc (.cells #[.slice sa ss.length c1, .slice ta ts.length c2] 26)).heap.size = w.heap.size + 1 from by simp] at h
    exact h
  have hR : w.heap.size ≤ w.heap.size + 1 := by omega
  go_enter Tryz.func7, Tryz.ntmps7
  go_wp2_with fail
  refine (specCheck_any sa ta c1 c2 ss ts _ (h.below hb0) hsm).mono ?_
  rintro e w1 ⟨hb1, rfl⟩
  have hB1 := bt hb0 hb1
  replace p0 := cell_below hb1 p0
  replace p1 := cell_below hb1 p1
  have kb1 : w1.heap[w.heap.size + 1]? = some (.cells #[.slice none 0 0, .slice none 0 0] 26 (0, 0)) := by rw [hb1.block _ (blkW_lt kb)]; exact kb
  have r0 : w1.cell? ⟨w.heap.size + 1, 0, none⟩ = some (.slice none 0 0) := by rw [Lib.cell_of_heap kb1]; rfl
  have r1 : w1.cell? ⟨w.heap.size + 1, 1, none⟩ = some (.slice none 0 0) := by rw [Lib.cell_of_heap kb1]; rfl
  have fr : ∀ j, w1.frozen? ⟨w.heap.size + 1, j, none⟩ = false := fun j => Lib.frozen_of_heap kb1 j
  have KB1 : Hid (w1.heap[w.heap.size + 1]? = some (.cells #[.slice none 0 0, .slice none 0 0] 26 (0, 0))) := kb1
  clear hb0 hb1 kb kb1
  by_cases hc : chk ss ts = 0
  · have HC : Hid (ChkOk ss ts) := chk_ok hc
    rw [hc]
    by_cases hn : NameOk t
    · have hnb := nameB_true hn
      cases ok
      · have HD : Hid (roomC ss ts t false = 2) := roomC2 hc (fun k => by cases k.2)
        clear hn hc
        go_wp2_with (go_at_call 29; refine (l2NameOk_any t _ ht).mono ?_; rintro e w9 ⟨rfl, rfl⟩; rw [hnb])
        exact bodyPost_ret (v := .tuple #[.agg #[.slice none 0 0, .slice none 0 0], .int .i64 2]) (by simp [results, Tryz.results7, go_sem, r0, r1]) rfl ⟨(hB1.setCell (p := ⟨w.heap.size + 1, 0, none⟩) hR _).setCell (p := ⟨w.heap.size + 1, 1, none⟩) hR _, PsOut.no HD.out (by decide)⟩
      · go_wp2_with (go_at_call 29; refine (l2NameOk_any t _ ht).mono ?_; rintro e w9 ⟨rfl, rfl⟩; rw [hnb])
        refine (l3Without_any sa ta c1 c2 ss ts t _ (h.rs.below hB1) (h.rt.below hB1) (by have := HC.out.len; omega) (by have := HC.out.len; omega) HC.out.codes).mono ?_
        rintro e w5 ⟨hb5, v1, v2, rfl, o1, o2⟩
        have hB5 := bt hB1 hb5
        have kb5 : w5.heap[w.heap.size + 1]? = some (.cells #[.slice none 0 0, .slice none 0 0] 26 (0, 0)) := by rw [hb5.block _ (blkW_lt KB1.out)]; exact KB1.out
        have hz : w.heap.size + 1 < w1.heap.size := blkW_lt KB1.out
        have hz5 : w1.heap.size ≤ w5.heap.size := hb5.size
        obtain ⟨a1, q1, rfl, rs1⟩ := o1.sl
        obtain ⟨a2, q2, rfl, _⟩ := o2.sl
        obtain ⟨w6, e6⟩ : ∃ y, w5.alloc (.cells #[.slice a1 (fltS t ss).length q1, .slice a2 (fltT t ts).length q2] 26) = y := ⟨_, rfl⟩
        have hb6 : Below w5.heap.size w5 w6 := by rw [← e6]; exact (Below.refl _ _).alloc (Nat.le_refl _) _
        have hB6 := bt hB5 hb6
        have kb6 : w6.heap[w.heap.size + 1]? = some (.cells #[.slice none 0 0, .slice none 0 0] 26 (0, 0)) := blk_below kb5 hb6
        have HK6 : Hid (w6.heap[w.heap.size + 1]? = some (.cells #[.slice none 0 0, .slice none 0 0] 26 (0, 0))) := kb6
        have HP6 : Hid (w6.heap[w5.heap.size]? = some (.cells #[.slice a1 (fltS t ss).length q1, .slice a2 (fltT t ts).length q2] 26 (0, 0))) := by show _ = _; rw [← e6]; exact heapW_new _ _
        have hs6 : w5.heap.size < w6.heap.size := blkW_lt HP6.out
        have HRS : Hid (RowS w6 a1 (fltS t ss)) := rs1.below hb6
        have s0 : w6.cell? ⟨w.heap.size + 1, 0, none⟩ = some (.slice none 0 0) := by rw [Lib.cell_of_heap kb6]; rfl
        have s1 : w6.cell? ⟨w.heap.size + 1, 1, none⟩ = some (.slice none 0 0) := by rw [Lib.cell_of_heap kb6]; rfl
        have fs : ∀ j, w6.frozen? ⟨w.heap.size + 1, j, none⟩ = false := fun j => Lib.frozen_of_heap kb6 j
        obtain ⟨x0, x1⟩ := blk_c HP6.out
        have HO2 : Hid (OwnT w6 w1.heap.size w5.heap.size (.slice a2 (fltT t ts).length q2) (fltT t ts)) := o2.below hb6
        have HDY : Hid (¬ 200 ≤ (fltS t ss).length + (fltT t ts).length → roomC ss ts t true = 0) := roomC0 hc ⟨hn, rfl⟩
        have HDN : Hid (200 ≤ (fltS t ss).length + (fltT t ts).length → roomC ss ts t true = 3) := roomC3 hc ⟨hn, rfl⟩
        have hl1 : (fltS t ss).length ≤ 200 := by have h1 := fltS_len t ss; have h2 := HC.out.len; omega
        have hl2 : (fltT t ts).length ≤ 200 := by have h1 := fltT_len t ts; have h2 := HC.out.len; omega
        have HAS : Hid (Asc (snames (fltS t ss))) := ascS t HC.out.a1
        clear o1 o2 kb5 kb6 hb5 hb6 p0 p1 r0 r1 fr hc hn hB5 rs1 KB1
        by_cases hf : 200 ≤ (fltS t ss).length + (fltT t ts).length
        · have HD : Hid (roomC ss ts t true = 3) := HDN.out hf
          have heq : decide ((200 : Int) ≤ ((fltS t ss).length : Int) + ((fltT t ts).length : Int)) = true := by simp; omega
          generalize (fltS t ss).length = n1 at *
          generalize (fltT t ts).length = n2 at *
          go_wp2_with fail
          exact bodyPost_ret (v := .tuple #[.agg #[.slice none 0 0, .slice none 0 0], .int .i64 3]) (by simp [results, Tryz.results7, go_sem, s0, s1]) rfl ⟨(hB6.setCell (p := ⟨w.heap.size + 1, 0, none⟩) hR _).setCell (p := ⟨w.heap.size + 1, 1, none⟩) hR _, PsOut.no HD.out (by decide)⟩
        · have HD : Hid (roomC ss ts t true = 0) := HDY.out hf
          have heq : decide ((200 : Int) ≤ ((fltS t ss).length : Int) + ((fltT t ts).length : Int)) = false := by simp; omega
          obtain ⟨r, hat⟩ := atR_exists HAS.out t
          have hrl : r ≤ (fltS t ss).length := by have := hat.le; rw [snames_length] at this; exact this
          have HAT : Hid (AtR (snames (fltS t ss)) t r) := hat
          have HCB : Hid (∀ k, k < r → Op.bytesLess (sx (fltS t ss) k).name.toList t.toList = true) := fun k hk => by
            have h1 := hat.lo k hk
            rw [nx_snames] at h1
            exact h1
          have HCA : Hid (∀ k, r ≤ k → k < (fltS t ss).length → Op.bytesLess (sx (fltS t ss) k).name.toList t.toList = false ∧ ((sx (fltS t ss) k).name.toList == t.toList) = false) := fun k hk1 hk2 => by
            have h1 := hat.hi k hk1 (by rw [snames_length]; exact hk2)
            rw [nx_snames] at h1
            refine ⟨h1, ?_⟩
            rw [beq_eq_false_iff_ne]
            intro e
            rw [ByteArray.toList_eq, ByteArray.toList_eq] at e
            exact fltS_ne t ss hk2 (WideShapes.bytes_inj e)
          have HPY : Hid (psS ss ts t x true = insS (fltS t ss) ⟨t, x⟩ r ∧ psT ss ts t true = fltT t ts) := ps_yes HD.out hat
          clear hat
          generalize fltS t ss = L at *
          obtain ⟨w7, e7⟩ : ∃ y, w6.alloc (.cells #[] 60) = y := ⟨_, rfl⟩
          have hb7 : Below w6.heap.size w6 w7 := by rw [← e7]; exact (Below.refl _ _).alloc (Nat.le_refl _) _
          have HO7 : Hid (w7.ownsRow w6.heap.size 60 2 (.slice (some ⟨w6.heap.size, 0, none⟩) 0 0) 0 []) := by
            show World.ownsRow _ _ _ _ _ _ _
            rw [← e7]
            exact World.ownsRow_lit (base := w6.heap.size) (e := 60) (size := 2) w6 #[] 0 (Nat.le_refl _) (by unfold maxLen; omega) (by simp)
          go_wp2_with fail
          clear e7 heq x0 x1 s0 s1 fs
          have HB7 : Hid (Below w6.heap.size w6 w7) := hb7
          clear hb7
          go_loopw [9, 10, 11] (fun lv dn i wr => ∃ (k : Nat) (M : List S2) (g cp : Nat) (d : Bool), k ≤ L.length ∧ lv = .slice (some ⟨g, 0, none⟩) M.length cp ∧ dn = .bool d ∧ i = .int .i64 k ∧ Hid (wr.ownsRow w6.heap.size 60 2 (.slice (some ⟨g, 0, none⟩) M.length cp) M.length (srcV M)) ∧ Hid (Mid L ⟨t, x⟩ r k M d) ∧ Below w6.heap.size w6 wr) (fun _ _ i _ => L.length - (intOf i).toNat)
          case atStart => exact ⟨0, [], _, 0, false, Nat.zero_le _, rfl, rfl, rfl, HO7.out, (Or.inl ⟨Nat.zero_le _, rfl, rfl⟩ : Mid L ⟨t, x⟩ r 0 [] false), HB7.out⟩
          case round =>
            obtain ⟨k, M, g, cp, d, hk, rfl, rfl, rfl, HO, HM, hbr⟩ := hrel
            clear HO7 HB7
            have hwr : w6.heap.size ≤ wr.heap.size := hbr.size
            obtain ⟨z0, z1⟩ := blk_c (blk_below HP6.out hbr)
            have hml := HM.out.len hk
            by_cases hlt : k < L.length
            · obtain ⟨b, off, rfl, y1, y2⟩ := HRS.out k hlt
              have hbl : b < w6.heap.size := World.block_lt_of_cell? _ _ y1
              have d1 := cell_below hbr y1
              have d2 := cell_below hbr y2
              have hkI : (k : Int) < (L.length : Int) := by omega
              have hk0 : (0 : Int) ≤ (k : Int) := by omega
              have HNB : Hid (∀ hr : k < r, d = false → Mid L ⟨t, x⟩ r (k + 1) (M ++ [sx L k]) false) := fun hr hd => by subst hd; exact HM.out.before hlt hr
              have HNH : Hid (∀ hr : k = r, d = false → Mid L ⟨t, x⟩ r (k + 1) (M ++ [⟨t, x⟩] ++ [sx L k]) true) := fun hr hd => by subst hd; subst hr; exact HM.out.here hlt
              have HNP : Hid (d = true → Mid L ⟨t, x⟩ r (k + 1) (M ++ [sx L k]) true) := fun hd => by subst hd; exact HM.out.past hlt
              have HRK : Hid (d = false → k ≤ r) := fun hd => by
                rcases HM.out with ⟨h1, _, _⟩ | ⟨_, _, h1⟩
                · exact h1
                · rw [hd] at h1; cases h1
              have HV1 : Hid (k < r → Op.bytesLess (sx L k).name.toList t.toList = true) := HCB.out k
              have HV2 : Hid (r ≤ k → Op.bytesLess (sx L k).name.toList t.toList = false ∧ ((sx L k).name.toList == t.toList) = false) := fun h => HCA.out k h hlt
              obtain ⟨s, es⟩ : ∃ s, sx L k = s := ⟨_, rfl⟩
              rw [es] at d1 d2 HNB HNH HNP HV1 HV2
              clear es y1 y2 HM
              obtain ⟨wA, eA⟩ : ∃ y, wr.alloc (.cells #[.string s.name, .string s.text] 60) = y := ⟨_, rfl⟩
              have hbA : Below wr.heap.size wr wA := by rw [← eA]; exact (Below.refl _ _).alloc (Nat.le_refl _) _
              have HOA : Hid (wA.ownsRow w6.heap.size 60 2 (.slice (some ⟨g, 0, none⟩) M.length cp) M.length (srcV M)) := ownsRow_below HO.out hbA
              have HNA : Hid (wA.heap[wr.heap.size]? = some (.cells #[.string s.name, .string s.text] 60 (0, 0))) := by show _ = _; rw [← eA]; exact heapW_new _ _
              have HBA : Hid (Below w6.heap.size w6 wA) := hbr.trans (hbA.mono hwr)
              have hsA : wr.heap.size < wA.heap.size := blkW_lt HNA.out
              cases d
              · rcases Nat.lt_or_ge k r with hkr | hkr
                · have hv := HV1.out hkr
                  have HMN : Hid (Mid L ⟨t, x⟩ r (k + 1) (M ++ [s]) false) := HNB.out hkr rfl
                  clear HV1 HV2 HNB HNH HNP hbA
                  go_wp2_with (first | (at_builtin; refine wpList_append_own _ rfl (.tmp 63) (.tmp 69) 23 rfl w6.heap.size 60 i0 (.agg #[.string ⟨#[]⟩, .string ⟨#[]⟩]) 2 32 Tryz.underlying23 hi hz0 hz1 hz2 rfl (by decide) _ _ _ rfl HOA.out ⟨wr.heap.size, 0, none⟩ 1 1 [.string s.name, .string s.text] rfl rfl (World.news_of_block (cs := #[.string s.name, .string s.text]) (t := 60) (fr := (0, 0)) HNA.out) (by intro u hu; simp at hu; rcases hu with rfl | rfl <;> rfl) (by unfold maxLen; omega) (by omega) (by omega) ?_; intro v' w2 hown' hgrow hnil; clear hnil; obtain ⟨g', cp', rfl⟩ := own_first hown' (by omega); rw [srcV_snoc] at hown'; have HN2 : Hid (w2.ownsRow w6.heap.size 60 2 (.slice (some ⟨g', 0, none⟩) (M ++ [s]).length cp') (M ++ [s]).length (srcV (M ++ [s]))) := (by show World.ownsRow _ _ _ _ _ _ _; rw [List.length_append]; exact hown'); have HB2 : Hid (Below w6.heap.size w6 w2) := HBA.out.grown hgrow (by omega) (fun m hm => (HOA.out.lt m hm).1); clear hgrow hown'))
                  clear eA
                  exact ⟨⟨k + 1, M ++ [s], g', cp', false, by omega, by rw [List.length_append]; rfl, rfl, by go_num, HN2.out, HMN.out, HB2.out⟩, by simp [intOf]; omega⟩
                · have hkr' : k = r := by have := HRK.out rfl; omega
                  obtain ⟨hv, hv2⟩ := HV2.out hkr
                  have HMN : Hid (Mid L ⟨t, x⟩ r (k + 1) (M ++ [⟨t, x⟩] ++ [s]) true) := HNH.out hkr' rfl
                  clear eA
                  obtain ⟨wC, eC⟩ : ∃ y, wr.alloc (.cells #[.string t, .string x] 60) = y := ⟨_, rfl⟩
                  have hbC : Below wr.heap.size wr wC := by rw [← eC]; exact (Below.refl _ _).alloc (Nat.le_refl _) _
                  have HOC : Hid (wC.ownsRow w6.heap.size 60 2 (.slice (some ⟨g, 0, none⟩) M.length cp) M.length (srcV M)) := ownsRow_below HO.out hbC
                  have HNC : Hid (wC.heap[wr.heap.size]? = some (.cells #[.string t, .string x] 60 (0, 0))) := by show _ = _; rw [← eC]; exact heapW_new _ _
                  have HBC : Hid (Below w6.heap.size w6 wC) := hbr.trans (hbC.mono hwr)
                  have hsC : wr.heap.size < wC.heap.size := blkW_lt HNC.out
                  clear HV1 HV2 HNB HNH HNP hbA hbC HOA HNA HBA hsA wA hkr'
                  have HZ : Hid (wr.cell? ⟨w5.heap.size, 0, none⟩ = some (.slice (some ⟨b, off, none⟩) L.length q1) ∧ wr.cell? ⟨b, off + k * 2, none⟩ = some (.string s.name) ∧ wr.cell? ⟨b, off + k * 2 + 1, none⟩ = some (.string s.text)) := ⟨z0, d1, d2⟩
                  go_wp2_with (first | (at_builtin; refine wpList_append_own _ rfl (.tmp 57) (.tmp 61) 23 rfl w6.heap.size 60 i0 (.agg #[.string ⟨#[]⟩, .string ⟨#[]⟩]) 2 32 Tryz.underlying23 hi hz0 hz1 hz2 rfl (by decide) _ _ _ rfl HOC.out ⟨wr.heap.size, 0, none⟩ 1 1 [.string t, .string x] rfl rfl (World.news_of_block (cs := #[.string t, .string x]) (t := 60) (fr := (0, 0)) HNC.out) (by intro u hu; simp at hu; rcases hu with rfl | rfl <;> rfl) (by unfold maxLen; omega) (by omega) (by omega) ?_; intro v' w2 hown' hgrow hnil; clear hnil; obtain ⟨g', cp', rfl⟩ := own_first hown' (by omega); rw [srcV_snoc M ⟨t, x⟩] at hown'; have KC : ∀ (p : Addr) (u : Value), p.block < w6.heap.size → wr.cell? p = some u → w2.cell? p = some u := (fun p u hp hcell => by have hc2 := hcell; rw [← World.cell?_alloc_lt _ (.cells #[.string t, .string x] 60) _ (World.block_lt_of_cell? _ _ hcell)] at hc2; rw [eC] at hc2; rw [hgrow.cell_far p (World.block_lt_of_cell? _ _ hc2) (fun e => by have := (HOC.out.lt _ e.symm).1; omega)]; exact hc2); have m0 := KC _ _ (by show w5.heap.size < w6.heap.size; omega) HZ.out.1; have m1 := KC _ _ (by show b < w6.heap.size; omega) HZ.out.2.1; have m2 := KC _ _ (by show b < w6.heap.size; omega) HZ.out.2.2; have HB2 : Hid (Below w6.heap.size w6 w2) := HBC.out.grown hgrow (by omega) (fun m hm => (HOC.out.lt m hm).1); have hs2 : w6.heap.size ≤ w2.heap.size := HB2.out.size; clear eC; obtain ⟨wE, eE⟩ : ∃ y, w2.alloc (.cells #[.string s.name, .string s.text] 60) = y := ⟨_, rfl⟩; have hbE : Below w2.heap.size w2 wE := (by rw [← eE]; exact (Below.refl _ _).alloc (Nat.le_refl _) _); have HOE : Hid (wE.ownsRow w6.heap.size 60 2 (.slice (some ⟨g', 0, none⟩) (M.length + 1) cp') (M.length + 1) (srcV (M ++ [⟨t, x⟩]))) := ownsRow_below hown' hbE; have HNE : Hid (wE.heap[w2.heap.size]? = some (.cells #[.string s.name, .string s.text] 60 (0, 0))) := (by show _ = _; rw [← eE]; exact heapW_new _ _); have HBE : Hid (Below w6.heap.size w6 wE) := HB2.out.trans (hbE.mono hs2); have hsE : w2.heap.size < wE.heap.size := blkW_lt HNE.out; clear hgrow hown' KC hbE) | (at_builtin; refine wpList_append_own _ rfl (.tmp 63) (.tmp 69) 23 rfl w6.heap.size 60 i0 (.agg #[.string ⟨#[]⟩, .string ⟨#[]⟩]) 2 32 Tryz.underlying23 hi hz0 hz1 hz2 rfl (by decide) _ _ _ rfl HOE.out ⟨w2.heap.size, 0, none⟩ 1 1 [.string s.name, .string s.text] rfl rfl (World.news_of_block (cs := #[.string s.name, .string s.text]) (t := 60) (fr := (0, 0)) HNE.out) (by intro u hu; simp at hu; rcases hu with rfl | rfl <;> rfl) (by unfold maxLen; omega) (by omega) (by omega) ?_; intro v3 w3 hown3 hgrow3 hnil3; clear hnil3 eE; obtain ⟨g3, cp3, rfl⟩ := own_first hown3 (by omega); rw [srcV_snoc] at hown3; have HN3 : Hid (w3.ownsRow w6.heap.size 60 2 (.slice (some ⟨g3, 0, none⟩) (M.length + 1 + 1) cp3) (M.length + 1 + 1) (srcV (M ++ [⟨t, x⟩] ++ [s]))) := hown3; have HB3 : Hid (Below w6.heap.size w6 w3) := HBE.out.grown hgrow3 (by omega) (fun m hm => (HOE.out.lt m hm).1); clear hgrow3 hown3))
                  have hll : (M ++ [(⟨t, x⟩ : S2)] ++ [s]).length = M.length + 1 + 1 := by simp
                  exact ⟨⟨k + 1, M ++ [(⟨t, x⟩ : S2)] ++ [s], g3, cp3, true, by omega, by rw [hll], rfl, by go_num, (by show World.ownsRow _ _ _ _ _ _ _; rw [hll]; exact HN3.out), HMN.out, HB3.out⟩, by simp [intOf]; omega⟩
              · have HMN : Hid (Mid L ⟨t, x⟩ r (k + 1) (M ++ [s]) true) := HNP.out rfl
                clear HV1 HV2 HNB HNH HNP hbA
                go_wp2_with (first | (at_builtin; refine wpList_append_own _ rfl (.tmp 63) (.tmp 69) 23 rfl w6.heap.size 60 i0 (.agg #[.string ⟨#[]⟩, .string ⟨#[]⟩]) 2 32 Tryz.underlying23 hi hz0 hz1 hz2 rfl (by decide) _ _ _ rfl HOA.out ⟨wr.heap.size, 0, none⟩ 1 1 [.string s.name, .string s.text] rfl rfl (World.news_of_block (cs := #[.string s.name, .string s.text]) (t := 60) (fr := (0, 0)) HNA.out) (by intro u hu; simp at hu; rcases hu with rfl | rfl <;> rfl) (by unfold maxLen; omega) (by omega) (by omega) ?_; intro v' w2 hown' hgrow hnil; clear hnil; obtain ⟨g', cp', rfl⟩ := own_first hown' (by omega); rw [srcV_snoc] at hown'; have HN2 : Hid (w2.ownsRow w6.heap.size 60 2 (.slice (some ⟨g', 0, none⟩) (M ++ [s]).length cp') (M ++ [s]).length (srcV (M ++ [s]))) := (by show World.ownsRow _ _ _ _ _ _ _; rw [List.length_append]; exact hown'); have HB2 : Hid (Below w6.heap.size w6 w2) := HBA.out.grown hgrow (by omega) (fun m hm => (HOA.out.lt m hm).1); clear hgrow hown'))
                clear eA
                exact ⟨⟨k + 1, M ++ [s], g', cp', true, by omega, by rw [List.length_append]; rfl, rfl, by go_num, HN2.out, HMN.out, HB2.out⟩, by simp [intOf]; omega⟩
            · have ek : k = L.length := by omega
              subst ek
              have HRI : Hid (d = true → M = insS L ⟨t, x⟩ r) := fun hd => by subst hd; exact HM.out.done
              have HRL : Hid (d = false → M ++ [⟨t, x⟩] = insS L ⟨t, x⟩ r) := fun hd => by subst hd; exact HM.out.last hrl
              have kr := blk_below HK6.out hbr
              have kp := blk_below HP6.out hbr
              clear HM
              cases d
              · obtain ⟨wC, eC⟩ : ∃ y, wr.alloc (.cells #[.string t, .string x] 60) = y := ⟨_, rfl⟩
                have hbC : Below wr.heap.size wr wC := by rw [← eC]; exact (Below.refl _ _).alloc (Nat.le_refl _) _
                have HOC : Hid (wC.ownsRow w6.heap.size 60 2 (.slice (some ⟨g, 0, none⟩) M.length cp) M.length (srcV M)) := ownsRow_below HO.out hbC
                have HNC : Hid (wC.heap[wr.heap.size]? = some (.cells #[.string t, .string x] 60 (0, 0))) := by show _ = _; rw [← eC]; exact heapW_new _ _
                have HBC : Hid (Below w6.heap.size w6 wC) := hbr.trans (hbC.mono hwr)
                have hsC : wr.heap.size < wC.heap.size := blkW_lt HNC.out
                have HRE : Hid (M ++ [⟨t, x⟩] = insS L ⟨t, x⟩ r) := HRL.out rfl
                have HLE : Hid (M.length + 1 = (insS L ⟨t, x⟩ r).length) := by show _ = _; rw [← HRE.out]; simp
                clear hbC HRI HRL kr kp
                go_wp2_with (first | (at_builtin; refine wpList_append_own _ rfl (.tmp 73) (.tmp 77) 23 rfl w6.heap.size 60 i0 (.agg #[.string ⟨#[]⟩, .string ⟨#[]⟩]) 2 32 Tryz.underlying23 hi hz0 hz1 hz2 rfl (by decide) _ _ _ rfl HOC.out ⟨wr.heap.size, 0, none⟩ 1 1 [.string t, .string x] rfl rfl (World.news_of_block (cs := #[.string t, .string x]) (t := 60) (fr := (0, 0)) HNC.out) (by intro u hu; simp at hu; rcases hu with rfl | rfl <;> rfl) (by unfold maxLen; omega) (by omega) (by omega) ?_; intro v' w2 hown' hgrow hnil; clear hnil; obtain ⟨g', cp', rfl⟩ := own_first hown' (by omega); rw [srcV_snoc M ⟨t, x⟩, HRE.out] at hown'; have HBW : Hid (Below w6.heap.size w6 w2) := HBC.out.grown hgrow (by omega) (fun m hm => (HOC.out.lt m hm).1); have HN2 : Hid (w2.ownsRow w6.heap.size 60 2 (.slice (some ⟨g', 0, none⟩) (M.length + 1) cp') (M.length + 1) (srcV (insS L ⟨t, x⟩ r))) := hown'; have kr := blk_below HK6.out HBW.out; have kp := blk_below HP6.out HBW.out; have u0 := (blk_c kr).1; have u1 := (blk_c kr).2; have v0 := (blk_c kp).1; have v1 := (blk_c kp).2; have uf : ∀ j, w2.frozen? ⟨w.heap.size + 1, j, none⟩ = false := (fun j => Lib.frozen_of_heap kr j); have vf : ∀ j, w2.frozen? ⟨w5.heap.size, j, none⟩ = false := (fun j => Lib.frozen_of_heap kp j); have hBr : Below w.heap.size w w2 := hB6.trans (HBW.out.mono (by omega)); have HTP : Hid (HasT w2 w5.heap.size 26) := ⟨_, kp⟩; have HTR : Hid (HasT w2 (w.heap.size + 1) 26) := ⟨_, kr⟩; have HO2r : Hid (OwnT w2 w1.heap.size w5.heap.size (.slice a2 (fltT t ts).length q2) (fltT t ts)) := HO2.out.below HBW.out; have hs2 : w6.heap.size ≤ w2.heap.size := HBW.out.size; clear hgrow hown' kr kp eC))
                refine bodyPost_ret (v := .tuple #[.agg #[.slice (some ⟨g', 0, none⟩) (M.length + 1) cp', .slice a2 (fltT t ts).length q2], .int .i64 0]) (by simp [results, Tryz.results7, go_sem, u0, u1]) rfl ⟨((hBr.setCell (p := ⟨w5.heap.size, 0, none⟩) (by simp; omega) _).setCell (p := ⟨w.heap.size + 1, 0, none⟩) hR _).setCell (p := ⟨w.heap.size + 1, 1, none⟩) hR _, _, _, by rw [HD.out], ?_, ?_⟩
                · rw [HPY.out.1]
                  refine OwnS.setT (OwnS.setT (OwnS.setT ?_ HTP.out _) (HTR.out.set _) _) ((HTR.out.set _).set _) _
                  refine OwnS.ofV ?_
                  rw [← HLE.out]
                  exact ⟨own_base HN2.out (by omega), fun b eb => by have := (HN2.out.lt b eb).2; simp; omega⟩
                · rw [HPY.out.2]
                  exact (OwnT.setT (OwnT.setT (OwnT.setT HO2r.out HTP.out _) (HTR.out.set _) _) ((HTR.out.set _).set _) _).wide (by omega) (by simp; omega)
              · have HRE : Hid (M = insS L ⟨t, x⟩ r) := HRI.out rfl
                have HLE : Hid (M.length = (insS L ⟨t, x⟩ r).length) := by show _ = _; rw [← HRE.out]
                have u0 := (blk_c kr).1
                have u1 := (blk_c kr).2
                have uf : ∀ j, wr.frozen? ⟨w.heap.size + 1, j, none⟩ = false := fun j => Lib.frozen_of_heap kr j
                have vf : ∀ j, wr.frozen? ⟨w5.heap.size, j, none⟩ = false := fun j => Lib.frozen_of_heap kp j
                have hBr : Below w.heap.size w wr := hB6.trans (hbr.mono (by omega))
                have HTP : Hid (HasT wr w5.heap.size 26) := ⟨_, kp⟩
                have HTR : Hid (HasT wr (w.heap.size + 1) 26) := ⟨_, kr⟩
                have HO2r : Hid (OwnT wr w1.heap.size w5.heap.size (.slice a2 (fltT t ts).length q2) (fltT t ts)) := HO2.out.below hbr
                clear HRI HRL kr kp
                go_wp2_with fail
                refine bodyPost_ret (v := .tuple #[.agg #[.slice (some ⟨g, 0, none⟩) M.length cp, .slice a2 (fltT t ts).length q2], .int .i64 0]) (by simp [results, Tryz.results7, go_sem, u0, u1]) rfl ⟨((hBr.setCell (p := ⟨w5.heap.size, 0, none⟩) (by simp; omega) _).setCell (p := ⟨w.heap.size + 1, 0, none⟩) hR _).setCell (p := ⟨w.heap.size + 1, 1, none⟩) hR _, _, _, by rw [HD.out], ?_, ?_⟩
                · rw [HPY.out.1]
                  refine OwnS.setT (OwnS.setT (OwnS.setT ?_ HTP.out _) (HTR.out.set _) _) ((HTR.out.set _).set _) _
                  rw [← HRE.out]
                  exact OwnS.ofV ⟨own_base HO.out (by omega), fun b eb => by have := (HO.out.lt b eb).2; simp; omega⟩
                · rw [HPY.out.2]
                  exact (OwnT.setT (OwnT.setT (OwnT.setT HO2r.out HTP.out _) (HTR.out.set _) _) ((HTR.out.set _).set _) _).wide (by omega) (by simp; omega)
    · have hnb := nameB_false hn
      have HD : Hid (roomC ss ts t ok = 2) := roomC2 hc (fun k => hn k.1)
      clear hn hc
      go_wp2_with (go_at_call 29; refine (l2NameOk_any t _ ht).mono ?_; rintro e w9 ⟨rfl, rfl⟩; rw [hnb])
      exact bodyPost_ret (v := .tuple #[.agg #[.slice none 0 0, .slice none 0 0], .int .i64 2]) (by simp [results, Tryz.results7, go_sem, r0, r1]) rfl ⟨(hB1.setCell (p := ⟨w.heap.size + 1, 0, none⟩) hR _).setCell (p := ⟨w.heap.size + 1, 1, none⟩) hR _, PsOut.no HD.out (by decide)⟩
  · have hcb : (chk ss ts != 0) = true := by simpa using hc
    have HD : Hid (roomC ss ts t ok = 1) := roomC1 hc
    clear hc
    generalize chk ss ts = q at *
    go_wp2_with fail
    exact bodyPost_ret (v := .tuple #[.agg #[.slice none 0 0, .slice none 0 0], .int .i64 1]) (by simp [results, Tryz.results7, go_sem, r0, r1]) rfl ⟨(hB1.setCell (p := ⟨w.heap.size + 1, 0, none⟩) hR _).setCell (p := ⟨w.heap.size + 1, 1, none⟩) hR _, PsOut.no HD.out (by decide)⟩

end Go.Proofs.YtjdjhenijihpfaaGreatDoor
