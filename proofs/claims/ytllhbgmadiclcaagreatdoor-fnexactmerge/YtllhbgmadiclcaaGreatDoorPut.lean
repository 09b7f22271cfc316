import Derived.Test.YtllhbgmadiclcaaGreatDoorSh
namespace Go.Proofs.YtllhbgmadiclcaaGreatDoor
open Go.RowKit Go.Deep
set_option linter.unusedVariables false

theorem map_insX (n : Nat) (ts : List ByteArray) (x : ByteArray) (r : Nat) : (insX ts x r).map (sumB n) = insX (ts.map (sumB n)) (sumB n x) r := by simp [insX, List.map_take, List.map_drop]
/-- What put makes of the texts. -/
def PutR (n : Nat) (ts : List ByteArray) (x : ByteArray) (r : Nat) (cd : Int) (ts' : List ByteArray) (A B : ByteArray) : Prop :=
  (There n ts x r ∧ nx ts r ≠ x ∧ cd = 2 ∧ ts' = ts ∧ A = nx ts r ∧ B = x) ∨
  (There n ts x r ∧ nx ts r = x ∧ cd = 0 ∧ ts' = ts ∧ A = ⟨#[]⟩ ∧ B = ⟨#[]⟩) ∨
  (¬ There n ts x r ∧ 5000 ≤ ts.length ∧ cd = 3 ∧ ts' = ts ∧ A = ⟨#[]⟩ ∧ B = ⟨#[]⟩) ∨
  (¬ There n ts x r ∧ ¬ 5000 ≤ ts.length ∧ cd = 0 ∧ ts' = insX ts x r ∧ A = ⟨#[]⟩ ∧ B = ⟨#[]⟩)
/-- What is left alone: all but the shelf's block and its two rows. -/
def KeepS (w w' : World) (g g1 : Nat) (sv : Value) : Prop := ∀ b, b < w.heap.size → b ≠ g → sv.ownBlock ≠ some b → b ≠ g1 → w'.heap[b]? = w.heap[b]?
def PutO (w : World) (g lo n : Nat) (sv : Value) (g1 : Nat) (qv : Value) (ts : List ByteArray) (rs : List T3) (x : ByteArray) (e : Ending) (w' : World) : Prop :=
  ∃ r cd ts' A B sv' g1' p1', e = .returned (.agg #[.int .i64 cd, .int .i64 0, .slice none 0 0, .slice none 0 0, .string A, .string B]) ∧ PlT n ts (sumB n x) r ∧ PutR n ts x r cd ts' A B ∧ Below lo w w' ∧ ShO w' g lo w'.heap.size n sv' (.slice (some ⟨g1', 0, none⟩) ts'.length p1') qv ts' rs ∧ KeepS w w' g g1 sv ∧ (∀ b, sv'.ownBlock = some b → sv.ownBlock = some b ∨ w.heap.size ≤ b) ∧ (g1' = g1 ∨ w.heap.size ≤ g1')
theorem ShG.set6T {w : World} {R g lo hi n : Nat} {sv tv qv : Value} {ss ts : List ByteArray} {rs : List T3} (h : ShG w g lo hi n sv tv qv ss ts rs) (ht : HasT w R 31) (hg : R ≠ g) (u1 u2 u3 u4 u5 u6 : Value) : ShG ((((((w.setCell ⟨R, 0, none⟩ u1).setCell ⟨R, 1, none⟩ u2).setCell ⟨R, 2, none⟩ u3).setCell ⟨R, 3, none⟩ u4).setCell ⟨R, 4, none⟩ u5).setCell ⟨R, 5, none⟩ u6) g lo hi n sv tv qv ss ts rs :=
  (((((h.setT ht hg (by decide) (by decide) (by decide) (by decide) u1).setT (ht.set u1) hg (by decide) (by decide) (by decide) (by decide) u2).setT ((ht.set u1).set u2) hg (by decide) (by decide) (by decide) (by decide) u3).setT (((ht.set u1).set u2).set u3) hg (by decide) (by decide) (by decide) (by decide) u4).setT ((((ht.set u1).set u2).set u3).set u4) hg (by decide) (by decide) (by decide) (by decide) u5).setT (((((ht.set u1).set u2).set u3).set u4).set u5) hg (by decide) (by decide) (by decide) (by decide) u6
theorem set6_ne' {w : World} {R b : Nat} (h : b ≠ R) (u1 u2 u3 u4 u5 u6 : Value) : ((((((w.setCell ⟨R, 0, none⟩ u1).setCell ⟨R, 1, none⟩ u2).setCell ⟨R, 2, none⟩ u3).setCell ⟨R, 3, none⟩ u4).setCell ⟨R, 4, none⟩ u5).setCell ⟨R, 5, none⟩ u6).heap[b]? = w.heap[b]? := by
  rw [Below.heap_setCell _ ⟨R, 5, none⟩ _ b h, Below.heap_setCell _ ⟨R, 4, none⟩ _ b h, Below.heap_setCell _ ⟨R, 3, none⟩ _ b h, Below.heap_setCell _ ⟨R, 2, none⟩ _ b h, Below.heap_setCell _ ⟨R, 1, none⟩ _ b h, Below.heap_setCell _ ⟨R, 0, none⟩ _ b h]
theorem PutO.mk {w w' : World} {g lo n g1 r g1' p1' : Nat} {sv sv' qv : Value} {ts ts' : List ByteArray} {rs : List T3} {x A B : ByteArray} {cd : Int} (hlo : lo ≤ w.heap.size) (hB : Below lo w w') (hR : HasT w' w.heap.size 31) (hp : PlT n ts (sumB n x) r) (hr : PutR n ts x r cd ts' A B) (hg : g < w.heap.size)
    (hsh : ShO w' g lo w'.heap.size n sv' (.slice (some ⟨g1', 0, none⟩) ts'.length p1') qv ts' rs) (hk : KeepS w w' g g1 sv) (hs : ∀ b, sv'.ownBlock = some b → sv.ownBlock = some b ∨ w.heap.size ≤ b) (ht : g1' = g1 ∨ w.heap.size ≤ g1') (u1 u2 u3 u4 u5 u6 : Value) :
    PutO w g lo n sv g1 qv ts rs x (.returned (.agg #[.int .i64 cd, .int .i64 0, .slice none 0 0, .slice none 0 0, .string A, .string B])) ((((((w'.setCell ⟨w.heap.size, 0, none⟩ u1).setCell ⟨w.heap.size, 1, none⟩ u2).setCell ⟨w.heap.size, 2, none⟩ u3).setCell ⟨w.heap.size, 3, none⟩ u4).setCell ⟨w.heap.size, 4, none⟩ u5).setCell ⟨w.heap.size, 5, none⟩ u6) :=
  ⟨r, cd, ts', A, B, sv', g1', p1', rfl, hp, hr, below_set6P hB hlo _ _ _ _ _ _, ShG.wide (ShG.set6T hsh hR (by omega) u1 u2 u3 u4 u5 u6) (Nat.le_refl _) (by simp), fun b h1 h2 h3 h4 => by rw [set6_ne' (by omega)]; exact hk b h1 h2 h3 h4, hs, ht⟩

set_option maxRecDepth 100000 in
set_option maxHeartbeats 8000000 in
theorem put_any (g lo hi n g1 p1 : Nat) (sv qv : Value) (ts : List ByteArray) (rs : List T3) (x : ByteArray) (w : World) (h1 : 1 ≤ n) (h8 : n ≤ 8) (hx : x.size ≤ 1048576) (hl : ts.length ≤ 5000) (hasc : Asc (ts.map (sumB n))) (hlg : lo ≤ g) (hh : hi ≤ w.heap.size) (hsh : ShO w g lo hi n sv (.slice (some ⟨g1, 0, none⟩) ts.length p1) qv ts rs) :
    Calls Tryz.prog 24 #[.pointer (some ⟨g, 0, none⟩), .string x] w fun e w' => PutO w g lo n sv g1 qv ts rs x e w' := by
  obtain ⟨sa, sc, esv, hss⟩ := OwnX.sl hsh.sx
  rw [List.length_map] at esv
  subst esv
  obtain ⟨qa, qc, rfl, _⟩ := hsh.qs.sl
  have hgl : g < w.heap.size := ShG.lt hsh
  have hlo : lo ≤ w.heap.size := by omega
  obtain ⟨W, eW⟩ : ∃ W, w.alloc (.cells #[.int .i64 0, .int .i64 0, .slice none 0 0, .slice none 0 0, .string ⟨#[]⟩, .string ⟨#[]⟩] 31) = W := ⟨_, rfl⟩
  have hb0 : Below w.heap.size w W := by rw [← eW]; exact (Below.refl _ _).alloc (Nat.le_refl _) _
  have HK : Hid (W.heap[w.heap.size]? = some (.cells #[.int .i64 0, .int .i64 0, .slice none 0 0, .slice none 0 0, .string ⟨#[]⟩, .string ⟨#[]⟩] 31 (0, 0))) := by show _ = _; rw [← eW]; exact heapW_new _ _
  have HSH : Hid (ShG w g lo hi n (.slice sa ts.length sc) (.slice (some ⟨g1, 0, none⟩) ts.length p1) (.slice qa rs.length qc) (ts.map (sumB n)) ts rs) := hsh
  have HASC : Hid (Asc (ts.map (sumB n))) := hasc
  have HSS : Hid (Strs w sa (ts.map (sumB n))) := hss
  obtain ⟨c0, c1, c2, c3, cf⟩ := blk_c4 (HSH.out.below hb0).blk
  obtain ⟨sm, esm⟩ : ∃ sm, sumB n x = sm := ⟨_, rfl⟩
  have HSUM : Hid (∀ W' : World, Calls Tryz.prog 43 #[.string x, .int .i64 (n : Int)] W' fun e w' => e = .returned (.string sm) ∧ Below W'.heap.size W' w') := fun W' => by rw [← esm]; exact implSum_yes x n W' hx h1 h8
  have ESM : Hid (sumB n x = sm) := esm
  have HBS : Hid (∀ W' : World, Strs W' sa (ts.map (sumB n)) → Calls Tryz.prog 44 #[.slice sa ts.length sc, .string sm] W' fun e w' => W' = w' ∧ ∃ (r : Nat) (b : Bool), e = .returned (.tuple #[.int .i64 r, .bool b]) ∧ PlT n ts sm r ∧ (b = true ↔ (r < ts.length ∧ sumB n (nx ts r) = sm))) := fun W' hW => by
    have h := binarySearch_at sa sc (ts.map (sumB n)) sm W' hW (by rw [List.length_map]; omega) HASC.out
    rw [List.length_map] at h
    refine h.mono ?_
    rintro e w' ⟨rfl, r, b, rfl, k1, k2, k3, k4⟩
    refine ⟨rfl, r, b, rfl, ⟨k1, fun j hj => ?_, fun hj => ?_⟩, ?_⟩
    · rw [← nx_sums n ts j (by omega)]; exact k2 j hj
    · rw [← nx_sums n ts r hj]; exact k3 r (Nat.le_refl _) hj
    · rcases k4 with ⟨rfl, k5, k6⟩ | ⟨rfl, k5⟩
      · exact ⟨fun _ => ⟨k5, by rw [← nx_sums n ts r k5]; exact k6⟩, fun _ => rfl⟩
      · exact ⟨fun h => absurd h (by decide), fun h => absurd ⟨h.1, by rw [nx_sums n ts r h.1]; exact h.2⟩ k5⟩
  clear esm hsh hasc hss
  go_enter Tryz.func24, Tryz.ntmps24
  go_wp2_with fail
  clear eW
  refine (HSUM.out _).mono ?_
  rintro e w1 ⟨rfl, hb1⟩
  have hB1 : Below w.heap.size w w1 := bt hb0 hb1
  have HK1 : Hid (w1.heap[w.heap.size]? = some (.cells #[.int .i64 0, .int .i64 0, .slice none 0 0, .slice none 0 0, .string ⟨#[]⟩, .string ⟨#[]⟩] 31 (0, 0))) := blk_below HK.out hb1
  have HS1 : Hid (ShG w1 g lo hi n (.slice sa ts.length sc) (.slice (some ⟨g1, 0, none⟩) ts.length p1) (.slice qa rs.length qc) (ts.map (sumB n)) ts rs) := HSH.out.below hB1
  have hs1 : w.heap.size < w1.heap.size := blkW_lt HK1.out
  clear c0 c1 c2 c3 cf hb0 hb1 HK
  obtain ⟨c0, c1, c2, c3, cf⟩ := blk_c4 HS1.out.blk
  go_wp2_with fail
  refine (HBS.out _ (HSS.out.below hB1)).mono ?_
  rintro e w2 ⟨hw2, r, t, rfl, hp, hr⟩
  subst hw2
  have HPL : Hid (PlT n ts (sumB n x) r) := by show PlT _ _ _ _; rw [ESM.out]; exact hp
  have HTR : Hid (t = true ↔ There n ts x r) := by show _ ↔ _; unfold There; rw [ESM.out]; exact hr
  have hrl : r ≤ ts.length := hp.le
  clear hp hr HBS HSUM
  obtain ⟨r0, r1, r2, r3, r4, r5⟩ := blk_c6 HK1.out
  have rf := (fun j => Lib.frozen_of_heap HK1.out j)
  have HHT : Hid (HasT w1 w.heap.size 31) := ⟨_, HK1.out⟩
  have HSO : Hid (ShO w1 g lo w1.heap.size n (.slice sa ts.length sc) (.slice (some ⟨g1, 0, none⟩) ts.length p1) (.slice qa rs.length qc) ts rs) := ShG.wide HS1.out (Nat.le_refl _) (by omega)
  have HKS : Hid (KeepS w w1 g g1 (.slice sa ts.length sc)) := fun b hb _ _ _ => hB1.block b hb
  have HOWN : Hid (∀ b, (Value.slice sa ts.length sc).ownBlock = some b → (Value.slice sa ts.length sc).ownBlock = some b ∨ w.heap.size ≤ b) := fun b h => Or.inl h
  cases t
  · have HNT : Hid (¬ There n ts x r) := fun h => by have := HTR.out.2 h; cases this
    by_cases h5 : 5000 ≤ ts.length
    · have HP : Hid (PutR n ts x r 3 ts ⟨#[]⟩ ⟨#[]⟩) := Or.inr (Or.inr (Or.inl ⟨HNT.out, h5, rfl, rfl, rfl, rfl⟩))
      have e5 : ts.length = 5000 := by omega
      have d5 : (((ts.length : Nat) : Int) == 5000) = true := by rw [e5]; rfl
      clear e5 HTR
      go_wp2
      refine bodyPost_ret (v := .agg #[.int .i64 3, .int .i64 0, .slice none 0 0, .slice none 0 0, .string ⟨#[]⟩, .string ⟨#[]⟩]) (by simp [results, Tryz.results24, go_sem, r0, r1, r2, r3, r4, r5]) rfl (PutO.mk hlo (hB1.mono hlo) HHT.out HPL.out HP.out hgl HSO.out HKS.out HOWN.out (Or.inl rfl) _ _ _ _ _ _)
    · have HP : Hid (PutR n ts x r 0 (insX ts x r) ⟨#[]⟩ ⟨#[]⟩) := Or.inr (Or.inr (Or.inr ⟨HNT.out, h5, rfl, rfl, rfl, rfl⟩))
      have d5 : (((ts.length : Nat) : Int) == 5000) = false := by rw [beq_eq_false_iff_ne]; omega
      clear HTR HNT HSO HKS HOWN HHT
      obtain ⟨w2, e2⟩ : ∃ y, w1.alloc (.cells #[.string sm] 9) = y := ⟨_, rfl⟩
      have hb2 : Below w1.heap.size w1 w2 := by rw [← e2]; exact (Below.refl _ _).alloc (Nat.le_refl _) _
      have HV2 : Hid (w2.heap[w1.heap.size]? = some (.cells #[.string sm] 9 (0, 0))) := by show _ = _; rw [← e2]; exact heapW_new _ _
      have hs2 : w1.heap.size < w2.heap.size := blkW_lt HV2.out
      have HINS : Hid (Calls Tryz.prog 45 #[.slice sa ts.length sc, .int .i64 r, .slice (some ⟨w1.heap.size, 0, none⟩) 1 1] w2 fun e w' => ∃ g' cp, e = .returned (.slice (some ⟨g', 0, none⟩) (ts.length + 1) cp) ∧ w'.ownsRow lo 9 1 (.slice (some ⟨g', 0, none⟩) (ts.length + 1) cp) (ts.length + 1) ((insX (ts.map (sumB n)) sm r).map Value.string) ∧ Below lo w2 w' ∧ KeepO (Value.slice sa ts.length sc).ownBlock w2 w' ∧ ((Value.slice sa ts.length sc).ownBlock = some g' ∨ g' = w2.heap.size)) := by
        have ho : w2.ownsRow lo 9 1 (.slice sa ts.length sc) ts.length ((ts.map (sumB n)).map Value.string) := by
          have := RowO.own (HS1.out.below hb2).sx
          rw [List.length_map] at this
          exact this
        rw [insX_map]
        exact insertX_own lo ts.length r w1.heap.size _ _ (.string sm) w2 ho (by omega) hrl (by omega) HV2.out (fun e => by have := RowO.top HS1.out.sx _ e; omega) (txV_one _) (by intro u hu; simp at hu; rw [hu]; rfl)
      have HB2 : Hid (Below w1.heap.size w1 w2) := hb2
      clear hb2
      go_wp2_with fail
      clear e2
      refine HINS.out.mono ?_
      rintro e w3 ⟨g3, p3, rfl, ho3, hb3, hk3, hl3⟩
      have hs3 : w2.heap.size ≤ w3.heap.size := hb3.size
      have hg2 := (HS1.out.below HB2.out).blk
      have kg3 : w3.heap[g]? = some (.cells #[.int .i64 (n : Int), .slice (some ⟨g1, 0, none⟩) ts.length p1, .slice qa rs.length qc, .slice sa ts.length sc] 73 (0, 0)) := by
        rw [hk3 g (by omega) (fun e => HasT.ne (T := 73) ⟨_, hg2⟩ (RowO.own (HS1.out.below HB2.out).sx) (by decide) e.symm)]; exact hg2
      have HR3 : Hid (w3.heap[w.heap.size]? = some (.cells #[.int .i64 0, .int .i64 0, .slice none 0 0, .slice none 0 0, .string ⟨#[]⟩, .string ⟨#[]⟩] 31 (0, 0))) := by
        show _ = _
        rw [hk3 _ (by omega) (fun e => by have := RowO.top HS1.out.sx _ e.symm; omega)]
        exact blk_below HK1.out HB2.out
      have HSI : Hid (ShG (w3.setCell ⟨g, 3, none⟩ (.slice (some ⟨g3, 0, none⟩) (ts.length + 1) p3)) g lo w3.heap.size n (.slice (some ⟨g3, 0, none⟩) (ts.length + 1) p3) (.slice (some ⟨g1, 0, none⟩) ts.length p1) (.slice qa rs.length qc) (insX (ts.map (sumB n)) sm r) ts rs) :=
        ShG.insS HS1.out (by omega) HB2.out (by rw [insX_length _ _ _ (by rw [List.length_map]; exact hrl), List.length_map]) ho3 hk3 hs3 hl3
      have HKP3 : Hid (∀ b, b < w.heap.size → b ≠ g → (Value.slice sa ts.length sc).ownBlock ≠ some b → b ≠ g1 → w3.heap[b]? = w.heap[b]?) := fun b q1 q2 q3 q4 => by
        rw [hk3 b (by omega) (fun e => q3 e.symm), HB2.out.block b (by omega), hB1.block b q1]
      have HBL3 : Hid (Below lo w w3) := (hB1.mono hlo).trans ((HB2.out.mono (by omega)).trans hb3)
      have HL3 : Hid (∀ b, (Value.slice (some ⟨g3, 0, none⟩) (ts.length + 1) p3).ownBlock = some b → (Value.slice sa ts.length sc).ownBlock = some b ∨ w.heap.size ≤ b) := fun b e => by
        obtain rfl : g3 = b := by simpa [Value.ownBlock] using e
        rcases hl3 with h | h
        · exact Or.inl h
        · right; omega
      clear c0 c1 c2 c3 cf r0 r1 r2 r3 r4 r5 rf hg2 ho3 hb3 hk3 hl3 HINS HV2
      obtain ⟨c0, c1, c2, c3, cf⟩ := blk_c4 kg3
      obtain ⟨w4, e4⟩ : ∃ y, w3.setCell ⟨g, 3, none⟩ (.slice (some ⟨g3, 0, none⟩) (ts.length + 1) p3) = y := ⟨_, rfl⟩
      have HS4 : Hid (ShG w4 g lo w3.heap.size n (.slice (some ⟨g3, 0, none⟩) (ts.length + 1) p3) (.slice (some ⟨g1, 0, none⟩) ts.length p1) (.slice qa rs.length qc) (insX (ts.map (sumB n)) sm r) ts rs) := by show ShG _ _ _ _ _ _ _ _ _ _ _; rw [← e4]; exact HSI.out
      have hs4 : w3.heap.size ≤ w4.heap.size ∧ w4.heap.size ≤ w3.heap.size := by rw [← e4]; simp
      have HR4 : Hid (w4.heap[w.heap.size]? = some (.cells #[.int .i64 0, .int .i64 0, .slice none 0 0, .slice none 0 0, .string ⟨#[]⟩, .string ⟨#[]⟩] 31 (0, 0))) := by
        show _ = _
        rw [← e4, Below.heap_setCell w3 ⟨g, 3, none⟩ _ w.heap.size (by show w.heap.size ≠ g; omega)]
        exact HR3.out
      have HKP4 : Hid (∀ b, b < w.heap.size → b ≠ g → (Value.slice sa ts.length sc).ownBlock ≠ some b → b ≠ g1 → w4.heap[b]? = w.heap[b]?) := fun b q1 q2 q3 q4 => by
        rw [← e4, Below.heap_setCell w3 ⟨g, 3, none⟩ _ b q2]; exact HKP3.out b q1 q2 q3 q4
      have HBL4 : Hid (Below lo w w4) := by show Below _ _ _; rw [← e4]; exact HBL3.out.setCell (p := ⟨g, 3, none⟩) hlg _
      obtain ⟨x0, x1, x2, x3, xf⟩ := blk_c4 HS4.out.blk
      obtain ⟨w5, e5⟩ : ∃ y, w4.alloc (.cells #[.string x] 9) = y := ⟨_, rfl⟩
      have HB5 : Hid (Below w4.heap.size w4 w5) := by show Below _ _ _; rw [← e5]; exact (Below.refl _ _).alloc (Nat.le_refl _) _
      have HV5 : Hid (w5.heap[w4.heap.size]? = some (.cells #[.string x] 9 (0, 0))) := by show _ = _; rw [← e5]; exact heapW_new _ _
      have hs5 : w4.heap.size < w5.heap.size := blkW_lt HV5.out
      have HINS : Hid (Calls Tryz.prog 45 #[.slice (some ⟨g1, 0, none⟩) ts.length p1, .int .i64 r, .slice (some ⟨w4.heap.size, 0, none⟩) 1 1] w5 fun e w' => ∃ g' cp, e = .returned (.slice (some ⟨g', 0, none⟩) (ts.length + 1) cp) ∧ w'.ownsRow lo 9 1 (.slice (some ⟨g', 0, none⟩) (ts.length + 1) cp) (ts.length + 1) ((insX ts x r).map Value.string) ∧ Below lo w5 w' ∧ KeepO (Value.slice (some ⟨g1, 0, none⟩) ts.length p1).ownBlock w5 w' ∧ ((Value.slice (some ⟨g1, 0, none⟩) ts.length p1).ownBlock = some g' ∨ g' = w5.heap.size)) := by
        rw [insX_map]
        exact insertX_own lo ts.length r w4.heap.size _ _ (.string x) w5 (RowO.own (HS4.out.below HB5.out).tx) (by omega) hrl (by omega) HV5.out (fun e => by have := RowO.top HS4.out.tx _ e; omega) (txV_one _) (by intro u hu; simp at hu; rw [hu]; rfl)
      go_wp2_with fail
      clear e4 e5
      refine HINS.out.mono ?_
      rintro e w6 ⟨g6, p6, rfl, ho6, hb6, hk6, hl6⟩
      have hs6 : w5.heap.size ≤ w6.heap.size := hb6.size
      have hg5 := (HS4.out.below HB5.out).blk
      have kg6 : w6.heap[g]? = some (.cells #[.int .i64 (n : Int), .slice (some ⟨g1, 0, none⟩) ts.length p1, .slice qa rs.length qc, .slice (some ⟨g3, 0, none⟩) (ts.length + 1) p3] 73 (0, 0)) := by
        rw [hk6 g (by omega) (fun e => HasT.ne (T := 73) ⟨_, hg5⟩ (RowO.own (HS4.out.below HB5.out).tx) (by decide) e.symm)]; exact hg5
      have kr6 : w6.heap[w.heap.size]? = some (.cells #[.int .i64 0, .int .i64 0, .slice none 0 0, .slice none 0 0, .string ⟨#[]⟩, .string ⟨#[]⟩] 31 (0, 0)) := by
        rw [hk6 _ (by omega) (fun e => by have := RowO.top HSH.out.tx _ e.symm; omega)]
        exact blk_below HR4.out HB5.out
      have HSJ : Hid (ShG (w6.setCell ⟨g, 1, none⟩ (.slice (some ⟨g6, 0, none⟩) (ts.length + 1) p6)) g lo w6.heap.size n (.slice (some ⟨g3, 0, none⟩) (ts.length + 1) p3) (.slice (some ⟨g6, 0, none⟩) (ts.length + 1) p6) (.slice qa rs.length qc) (insX (ts.map (sumB n)) sm r) (insX ts x r) rs) :=
        ShG.insT HS4.out (by omega) HB5.out (insX_length _ _ _ hrl).symm ho6 hk6 hs6 hl6
      have HKP6 : Hid (KeepS w (w6.setCell ⟨g, 1, none⟩ (.slice (some ⟨g6, 0, none⟩) (ts.length + 1) p6)) g g1 (.slice sa ts.length sc)) := fun b q1 q2 q3 q4 => by
        rw [Below.heap_setCell w6 ⟨g, 1, none⟩ _ b q2, hk6 b (by omega) (fun e => q4 (by simpa [Value.ownBlock] using e)), HB5.out.block b (by omega)]
        exact HKP4.out b q1 q2 q3 q4
      have HBL6 : Hid (Below lo w (w6.setCell ⟨g, 1, none⟩ (.slice (some ⟨g6, 0, none⟩) (ts.length + 1) p6))) := (HBL4.out.trans ((HB5.out.mono (by omega)).trans hb6)).setCell (p := ⟨g, 1, none⟩) hlg _
      have HL6 : Hid (g6 = g1 ∨ w.heap.size ≤ g6) := by
        show _ ∨ _
        rcases hl6 with h | h
        · left; simpa [Value.ownBlock, eq_comm] using h
        · right; omega
      have HHT6 : Hid (HasT (w6.setCell ⟨g, 1, none⟩ (.slice (some ⟨g6, 0, none⟩) (ts.length + 1) p6)) w.heap.size 31) := HasT.set ⟨_, kr6⟩ _
      have HSO : Hid (ShO (w6.setCell ⟨g, 1, none⟩ (.slice (some ⟨g6, 0, none⟩) (ts.length + 1) p6)) g lo (w6.setCell ⟨g, 1, none⟩ (.slice (some ⟨g6, 0, none⟩) (ts.length + 1) p6)).heap.size n (.slice (some ⟨g3, 0, none⟩) (ts.length + 1) p3) (.slice (some ⟨g6, 0, none⟩) (insX ts x r).length p6) (.slice qa rs.length qc) (insX ts x r) rs) := by
        unfold ShO
        show ShG _ _ _ _ _ _ _ _ _ _ _
        rw [map_insX, ESM.out, insX_length _ _ _ hrl]
        exact ShG.wide HSJ.out (Nat.le_refl _) (by simp)
      have hne : w.heap.size ≠ g := by omega
      clear c0 c1 c2 c3 cf x0 x1 x2 x3 xf hg5 ho6 hb6 hk6 hl6 HINS HV5 HSJ
      obtain ⟨c0, c1, c2, c3, cf⟩ := blk_c4 kg6
      obtain ⟨r0, r1, r2, r3, r4, r5⟩ := blk_c6 kr6
      have rf := (fun j => Lib.frozen_of_heap kr6 j)
      go_wp2
      refine bodyPost_ret (v := .agg #[.int .i64 0, .int .i64 0, .slice none 0 0, .slice none 0 0, .string ⟨#[]⟩, .string ⟨#[]⟩]) (by simp [results, Tryz.results24, go_sem, r0, r1, r2, r3, r4, r5]) rfl (PutO.mk hlo HBL6.out HHT6.out HPL.out HP.out hgl HSO.out HKP6.out HL3.out HL6.out _ _ _ _ _ _)
  · obtain ⟨h3, h4⟩ := HTR.out.1 rfl
    have HTH : Hid (There n ts x r) := ⟨h3, h4⟩
    have hrI : (r : Int) < (ts.length : Int) := by omega
    have k1 : w1.cell? ⟨g1, r, none⟩ = some (.string (nx ts r)) := by
      obtain ⟨a', c', ea, hst⟩ := OwnX.sl HS1.out.tx
      cases ea
      obtain ⟨b', off', ea, c⟩ := hst r h3
      cases ea
      rw [Nat.zero_add] at c
      exact c
    by_cases hne : nx ts r = x
    · have HP : Hid (PutR n ts x r 0 ts ⟨#[]⟩ ⟨#[]⟩) := Or.inr (Or.inl ⟨HTH.out, hne, rfl, rfl, rfl, rfl⟩)
      have heq := str_eq hne
      clear HTR HTH h4 hne
      generalize nx ts r = z at k1 heq
      go_wp2
      refine bodyPost_ret (v := .agg #[.int .i64 0, .int .i64 0, .slice none 0 0, .slice none 0 0, .string ⟨#[]⟩, .string ⟨#[]⟩]) (by simp [results, Tryz.results24, go_sem, r0, r1, r2, r3, r4, r5]) rfl (PutO.mk hlo (hB1.mono hlo) HHT.out HPL.out HP.out hgl HSO.out HKS.out HOWN.out (Or.inl rfl) _ _ _ _ _ _)
    · have HP : Hid (PutR n ts x r 2 ts (nx ts r) x) := Or.inl ⟨HTH.out, hne, rfl, rfl, rfl, rfl⟩
      have heq := str_ne hne
      clear HTR HTH h4 hne
      generalize nx ts r = z at k1 heq HP
      go_wp2
      refine bodyPost_ret (v := .agg #[.int .i64 2, .int .i64 0, .slice none 0 0, .slice none 0 0, .string z, .string x]) (by simp [results, Tryz.results24, go_sem, r0, r1, r2, r3, r4, r5]) rfl (PutO.mk hlo (hB1.mono hlo) HHT.out HPL.out HP.out hgl HSO.out HKS.out HOWN.out (Or.inl rfl) _ _ _ _ _ _)

end Go.Proofs.YtllhbgmadiclcaaGreatDoor
