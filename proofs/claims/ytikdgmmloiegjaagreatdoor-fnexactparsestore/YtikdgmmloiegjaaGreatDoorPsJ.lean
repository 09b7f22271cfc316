import Derived.Test.YtikdgmmloiegjaaGreatDoorPsK
namespace Go.Proofs.YtikdgmmloiegjaaGreatDoor
open Go.RowKit
set_option linter.unusedVariables false
/-- The zero store and the reader, laid. -/
def psW (w : World) : World := (w.alloc (.cells #[.int .i64 0, .slice none 0 0, .slice none 0 0] 25)).alloc (.cells #[.int .i64 0, .slice none 0 0, .slice none 0 0, .pointer none] 35)
theorem FS.start {F : Nat} {w : World} (h : w.heap[F]? = some (.cells #[.int .i64 0, .slice none 0 0, .slice none 0 0, .pointer none] 35 (0, 0))) : FS F sta0 (.slice none 0 0) (.slice none 0 0) (.pointer none) [] [] w :=
  ⟨rfl, rfl, h, World.ownsRow_nil _ _ _ _, World.ownsRow_nil _ _ _ _, fun e he => by simp at he, fun e he => by simp at he, List.Pairwise.nil, List.Pairwise.nil, fun _ => rfl, fun e he => by cases he⟩
def zeroS : Value := .tuple #[.agg #[.int .i64 0, .slice none 0 0, .slice none 0 0], .bool false]
def StInP : Prop := ∀ (F : Nat) (s : Sta) (tv qv pv : Value) (es : List Ent) (w' : World), FS F s tv qv pv es [] w' → Small 200000 s → ∃ ta tc ra rc, tv = .slice ta s.ts.length tc ∧ qv = .slice ra s.rs.length rc ∧ StIn w' ta s.ts ra s.rs
def RB (b : Nat) (w : World) : Prop := w.heap[b]? = some (.cells #[.int .i64 0, .slice none 0 0, .slice none 0 0] 25 (0, 0))
theorem RB.cells {b : Nat} {w : World} (h : RB b w) : w.cell? ⟨b, 0, none⟩ = some (.int .i64 0) ∧ w.cell? ⟨b, 1, none⟩ = some (.slice none 0 0) ∧ w.cell? ⟨b, 2, none⟩ = some (.slice none 0 0) ∧ w.frozen? ⟨b, 0, none⟩ = false ∧ w.frozen? ⟨b, 1, none⟩ = false ∧ w.frozen? ⟨b, 2, none⟩ = false :=
  ⟨by rw [Lib.cell_of_heap h]; rfl, by rw [Lib.cell_of_heap h]; rfl, by rw [Lib.cell_of_heap h]; rfl, Lib.frozen_of_heap h 0, Lib.frozen_of_heap h 1, Lib.frozen_of_heap h 2⟩
theorem RB.below {b B : Nat} {w w' : World} (h : RB b w) (hb : Below B w w') (hB : b < B) : RB b w' := by
  unfold RB; rw [hb.block b hB]; exact h
theorem below_setR {B b : Nat} {w w' : World} (h : Below B w w') (hR : B ≤ b) (x y z : Value) : Below B w (((w'.setCell ⟨b, 0, none⟩ x).setCell ⟨b, 1, none⟩ y).setCell ⟨b, 2, none⟩ z) :=
  ((h.setCell (p := ⟨b, 0, none⟩) hR _).setCell (p := ⟨b, 1, none⟩) hR _).setCell (p := ⟨b, 2, none⟩) hR _
set_option maxRecDepth 100000 in
set_option maxHeartbeats 4000000 in
theorem implParse_any (HST : StInP) (p : Nat → Addr) (S : List UInt8) (w : World) (hE : Env p w) :
    Calls Tryz.prog 5 #[.string ⟨S.toArray⟩] w fun e w' => Below w.heap.size w w' ∧ ((∀ s, ¬ Acc S s) ∧ e = .returned zeroS ∨ ∃ s, Acc S s ∧ ∃ tv qv es w2, FS (w.heap.size + 1) s tv qv (.pointer none) es [] w2 ∧ w' = ((w2.setCell ⟨w.heap.size, 0, none⟩ (.int .i64 (s.w : Int))).setCell ⟨w.heap.size, 1, none⟩ tv).setCell ⟨w.heap.size, 2, none⟩ qv ∧ e = .returned (.tuple #[.agg #[.int .i64 (s.w : Int), tv, qv], .bool true])) := by
  obtain ⟨V, eV⟩ : ∃ V, w.alloc (.cells #[.int .i64 0, .slice none 0 0, .slice none 0 0] 25) = V := ⟨_, rfl⟩
  have hbV : Below w.heap.size w V := eV ▸ (Below.refl _ _).alloc (Nat.le_refl _) _
  have hRV : RB w.heap.size V := by unfold RB; rw [← eV]; exact alloc_here _ _
  have hVs : V.heap.size = w.heap.size + 1 := by rw [← eV]; simp
  have HVS : Hid (V.heap.size = w.heap.size + 1) := hVs
  clear hVs
  have HeV : Hid (w.alloc (.cells #[.int .i64 0, .slice none 0 0, .slice none 0 0] 25) = V) := eV
  by_cases hbig : 200000 < S.length
  · have HN : Hid (∀ s, ¬ Acc S s) := fun s h => by have := h.1; omega
    have d1 : decide ((200000 : Int) < (S.length : Int)) = true := by simp; omega
    obtain ⟨c0, c1, c2, f0, f1, f2⟩ := hRV.cells
    go_enter Tryz.func5, Tryz.ntmps5
    go_wp2_with fail
    refine bodyPost_ret (v := zeroS) (by simp [results, Tryz.results5, go_sem, c0, c1, c2, zeroS]) rfl ⟨below_setR hbV (Nat.le_refl _) _ _ _, Or.inl ⟨HN.out, rfl⟩⟩
  · have d1 : decide ((200000 : Int) < (S.length : Int)) = false := by simp; omega
    obtain ⟨X, eX⟩ : ∃ X, V.alloc (.cells #[.int .i64 0, .slice none 0 0, .slice none 0 0, .pointer none] 35) = X := ⟨_, rfl⟩
    have HeX : Hid (V.alloc (.cells #[.int .i64 0, .slice none 0 0, .slice none 0 0, .pointer none] 35) = X) := eX
    have hbX : Below V.heap.size V X := eX ▸ (Below.refl _ _).alloc (Nat.le_refl _) _
    have HB0 : Hid (Below w.heap.size w X) := hbV.trans (hbX.mono hbV.size)
    have HR0 : Hid (RB w.heap.size X) := hRV.below hbX (hlt hRV)
    obtain ⟨F, eF⟩ : ∃ F, V.heap.size = F := ⟨_, rfl⟩
    have hFw : F = w.heap.size + 1 := eF ▸ HVS.out
    have HFW : Hid (F = w.heap.size + 1) := hFw
    have hwF : w.heap.size < F := by omega
    clear hFw
    have HF0 : Hid (FS F sta0 (.slice none 0 0) (.slice none 0 0) (.pointer none) [] [] X) := by
      refine FS.start ?_
      rw [← eF, ← eX]; exact alloc_here _ _
    have HE : Hid (∀ w', Below w.heap.size w w' → EnvF p F w') := fun w' h => ⟨w, hE, by omega, h⟩
    clear hbX hbV hRV HVS HeX HeV hE
    go_enter Tryz.func5, Tryz.ntmps5
    go_wp2_with fail
    clear eV eX
    go_loopw [0, 5] (fun v f wr => ∃ (C : List UInt8) (dn : List (List UInt8)) (m : Md) (s : Sta) (tv qv pv : Value) (es ce : List Ent), v = .string ⟨C.toArray⟩ ∧ f = .func (.func (fnOf m)) #[.pointer (some ⟨F, 0, none⟩)] #[] ∧ Hid (Mid S C dn m s) ∧ Hid (InvM m s) ∧ Hid (Small dn.length s) ∧ Hid (FS F s tv qv pv es ce wr) ∧ Hid (RB w.heap.size wr) ∧ Below w.heap.size w wr) (fun v _ _ => strLen v)
    case atStart => exact ⟨S, [], .head, sta0, _, _, _, _, _, rfl, rfl, Mid.start S, (show InvM .head sta0 from rfl), Small.start, HF0.out, HR0.out, HB0.out⟩
    case round =>
      clear HF0 HR0 HB0
      obtain ⟨C, dn, m, s, tv, qv, pv, es, ce, rfl, rfl, HM, HI, HS, HF, HR, hB⟩ := hrel
      have hCl : C.length ≤ 200000 := by have := HM.out.le; omega
      have hdl : dn.length ≤ 200000 := by have := HM.out.le; omega
      have hsz := hB.size
      have hFl := HF.out.lt
      by_cases hC : C = []
      · subst hC
        have HD : Hid (∀ t, Acc S t ↔ t = s ∧ s.cur = none ∧ WdOk s.w s.ts s.rs) := fun t => HM.out.done (by omega) t
        have HS2 : Hid (Small 200000 s) := by
          have := HS.out
          exact ⟨by have := this.ts; omega, by have := this.rs; omega, this.xs, fun r hr => by have q := this.rr r hr; exact ⟨by have := q.1; omega, by have := q.2.1; omega, q.2.2⟩, fun r hr => by have q := this.cc r hr; exact ⟨by have := q.1; omega, by have := q.2.1; omega, q.2.2⟩⟩
        obtain ⟨u0, u1, u2, u3, _, _, _, _⟩ := HF.out.cells
        obtain ⟨c0, c1, c2, f0, f1, f2⟩ := HR.out.cells
        clear HM HI HS
        cases hcur : s.cur with
        | some r =>
          have HN : Hid (∀ t, ¬ Acc S t) := fun t h => by have := ((HD.out t).1 h).2.1; rw [hcur] at this; cases this
          obtain ⟨c, l, rfl⟩ := ent_one (show ce.map (·.2.2) = [r] from by have := HF.out.ec; rw [hcur] at this; exact this)
          obtain ⟨R, rfl, _⟩ := HF.out.now _ rfl
          clear HD HS2 HF hcur
          go_wp2
          refine bodyPost_ret (v := zeroS) (by simp [results, Tryz.results5, go_sem, c0, c1, c2, zeroS]) rfl ⟨below_setR hB (Nat.le_refl _) _ _ _, Or.inl ⟨HN.out, rfl⟩⟩
        | none =>
          obtain rfl : ce = [] := by have := HF.out.ec; rw [hcur] at this; simpa [curL] using this
          obtain rfl := HF.out.nul rfl
          obtain ⟨ta, tc, ra, rc, rfl, rfl, hin⟩ := HST F s _ _ _ es wr HF.out HS2.out
          have HV := hid (implValidStore_any (s.w : Int) ta ra tc rc s.ts s.rs wr (HE.out wr hB).env.tab hin)
          clear hin HS2
          go_wp2_with fail
          refine HV.out.mono ?_
          rintro e w3 ⟨hb3, b, rfl, hbi⟩
          have HF3 := hid (HF.out.below hb3)
          have HR3 := hid (HR.out.below hb3 (hlt HR.out))
          have hB3 := hB.trans (hb3.mono hsz)
          obtain ⟨c0, c1, c2, f0, f1, f2⟩ := HR3.out.cells
          obtain ⟨u0, u1, u2, u3, _, _, _, _⟩ := HF3.out.cells
          clear HF HR hB HV hb3
          cases b with
          | false =>
            have HN : Hid (∀ t, ¬ Acc S t) := fun t h => by have := hbi.2 ((HD.out t).1 h).2.2; cases this
            clear HD hbi
            go_wp2
            refine bodyPost_ret (v := zeroS) (by simp [results, Tryz.results5, go_sem, c0, c1, c2, zeroS]) rfl ⟨below_setR hB3 (Nat.le_refl _) _ _ _, Or.inl ⟨HN.out, rfl⟩⟩
          | true =>
            have HN : Hid (Acc S s) := (HD.out s).2 ⟨rfl, hcur, hbi.1 rfl⟩
            clear HD hbi hcur
            go_wp2
            refine bodyPost_ret (v := .tuple #[.agg #[.int .i64 (s.w : Int), .slice ta s.ts.length tc, .slice ra s.rs.length rc], .bool true]) (by simp [results, Tryz.results5, go_sem, c0, c1, c2]) rfl ⟨below_setR hB3 (Nat.le_refl _) _ _ _, Or.inr ⟨s, HN.out, _, _, _, _, HFW.out ▸ HF3.out, rfl, rfl⟩⟩
      · have hC1 : C.isEmpty = false := by simpa using hC
        have HC := hid (cut_any p ⟨C.toArray⟩ 10 wr (HE.out wr hB).env (by rw [bytes_size]; omega))
        rw [bB_eq] at HC
        have HNX : Hid (∀ m' s', (cutL 10 C).2.2 = true → stepS m s (cutL 10 C).1 = some (m', s') → Mid S (cutL 10 C).2.1 (dn ++ [(cutL 10 C).1]) m' s') := fun m' s' h1 h2 => HM.out.next h1 h2
        have HBD : Hid ((cutL 10 C).2.2 = true → stepS m s (cutL 10 C).1 = none → ∀ t, ¬ Acc S t) := fun h1 h2 t => HM.out.bad h1 h2 t
        have HOP : Hid ((cutL 10 C).2.2 = false → ∀ t, ¬ Acc S t) := fun h1 t => HM.out.open_ hC h1 t
        have hlen := cutL_len 10 C
        clear HM
        generalize cutL 10 C = q at *
        obtain ⟨ln, be, fl⟩ := q
        dsimp only at HC HNX HBD HOP hlen
        have HLEN := hid hlen
        clear hlen
        go_wp2_with fail
        refine HC.out.mono ?_
        rintro e w1 ⟨rfl, hb1⟩
        have HF1 : Hid (FS F s tv qv pv es ce w1) := HF.out.below hb1
        have HR1 : Hid (RB w.heap.size w1) := HR.out.below hb1 (hlt HR.out)
        have hB1 := hB.trans (hb1.mono hsz)
        clear HC HF HR hb1 hB
        cases fl with
        | false =>
          have HN := hid (HOP.out rfl)
          obtain ⟨c0, c1, c2, f0, f1, f2⟩ := HR1.out.cells
          go_wp2_with fail
          refine bodyPost_ret (v := zeroS) (by simp [results, Tryz.results5, go_sem, c0, c1, c2, zeroS]) rfl ⟨below_setR hB1 (Nat.le_refl _) _ _ _, Or.inl ⟨HN.out, rfl⟩⟩
        | true =>
          have HMT := hid (meth_any p F m s ln tv qv pv es ce w1 (HE.out w1 hB1) HF1.out HI.out (by
            have := HS.out
            exact ⟨by have := this.ts; omega, by have := this.rs; omega, this.xs, fun r hr => by have q := this.rr r hr; exact ⟨by have := q.1; omega, by have := q.2.1; omega, q.2.2⟩, fun r hr => by have q := this.cc r hr; exact ⟨by have := q.1; omega, by have := q.2.1; omega, q.2.2⟩⟩) (by have := HLEN.out.1; omega))
          have HBK : Hid (∀ m' s', stepS m s ln = some (m', s') → InvM m' s') := fun m' s' h => (back_step HI.out h).1
          have HSK : Hid (∀ m' s', stepS m s ln = some (m', s') → Small (dn.length + 1) s') := fun m' s' h => small_step HS.out (by have := HLEN.out.1; omega) h
          generalize hO : stepS m s ln = O at *
          clear hO HI HS HOP HF1
          cases m
          all_goals
            dsimp only [fnOf] at HMT ⊢
            go_wp2_with fail
            refine HMT.out.mono ?_
            clear HMT
            rintro e w2 ⟨hb2, hs2⟩
            have hB2 := hB1.trans (hb2.mono (by omega))
            have HR2 : Hid (RB w.heap.size w2) := HR1.out.below hb2 hwF
            clear HR1 hb2 hB1
            rcases hs2 with ⟨h1, rfl⟩ | ⟨m', s', h1, rfl, tv', qv', pv', es', ce', hF'⟩
            · have HN := hid (HBD.out (by first | trivial | rfl) h1)
              obtain ⟨c0, c1, c2, f0, f1, f2⟩ := HR2.out.cells
              clear h1 HBD HNX HBK HSK
              dsimp only
              go_wp2_with fail
              rename_i kk hkk
              refine hkk _ _ ?_
              simp only [Act.put]
              go_wp2
              refine bodyPost_ret (v := zeroS) (by simp [results, Tryz.results5, go_sem, c0, c1, c2, zeroS]) rfl ⟨below_setR hB2 (Nat.le_refl _) _ _ _, Or.inl ⟨HN.out, rfl⟩⟩
            · have HM2 := hid (HNX.out m' s' (by first | trivial | rfl) h1)
              have HI2 := hid (HBK.out m' s' h1)
              have HS2 := hid (HSK.out m' s' h1)
              have HF2 := hid hF'
              have hbe : be.length < C.length := HLEN.out.2.2 (by first | trivial | rfl)
              clear h1 HBD HNX HBK HSK hF'
              unfold fnV
              dsimp only
              go_wp2_with fail
              rename_i kk hkk
              refine hkk _ _ ?_
              simp only [Act.put]
              go_wp2
              go_roundw
              case rel => exact ⟨be, dn ++ [ln], m', s', _, _, _, _, _, rfl, rfl, HM2.out, HI2.out, (by show Small _ _; rw [List.length_append]; exact HS2.out), HF2.out, HR2.out, hB2⟩
              case measure => simp [strLen, bytes_size]; omega

end Go.Proofs.YtikdgmmloiegjaaGreatDoor
