import Derived.Test.YtllhbgmadiclcaaGreatDoorNmD
import Derived.Test.YtllhbgmadiclcaaGreatDoorOrd
namespace Go.Proofs.YtllhbgmadiclcaaGreatDoor
open Go.RowKit
set_option linter.unusedVariables false

/-- The maps of numbers. -/
structure Nums (z : Cel3) (kt : TypeId) (w : World) (mb n : Nat) (f : Value → Option Nat) (rep : Nat → List Cel3) : Prop where
  map : MapK kt w mb n f
  num : NumS z n f rep
  le : ∀ k v, f k = some v → v ≤ n
theorem Nums.same {z : Cel3} {kt : TypeId} {w w' : World} {mb n : Nat} {f : Value → Option Nat} {rep : Nat → List Cel3} (h : Nums z kt w mb n f rep) (e : w'.heap[mb]? = w.heap[mb]?) : Nums z kt w' mb n f rep := ⟨h.map.same e, h.num, h.le⟩
/-- A list of entries that can be numbered. -/
structure Lst (ok : Cel3 → Prop) (z : Cel3) (w : World) (qa : Option Addr) (qc : Nat) (xs : List Cel3) : Prop where
  le : xs.length ≤ 1048576
  cap : xs.length ≤ qc
  capm : qc ≤ 9223372036854775807
  row : RowT w qa xs
  ok : ∀ x ∈ xs, ok x ∧ x ≠ z
theorem RowT.at {w : World} {qa : Option Addr} {xs : List Cel3} (h : RowT w qa xs) : ∃ b off, 0 < xs.length → qa = some ⟨b, off, none⟩ := by
  match xs, h with
  | [], _ => exact ⟨0, 0, fun q => absurd q (by simp)⟩
  | x :: xs, h =>
    obtain ⟨b, off, e, _⟩ := h 0 x rfl
    exact ⟨b, off, fun _ => e⟩
theorem RowT.keepX {w w' : World} {qa : Option Addr} {xs : List Cel3} {B : Nat} {X : Nat → Prop} (h : RowT w qa xs) (k : KeepX B X w w') (hB : w.heap.size ≤ B) (hX : ∀ b o, w.heap[b]? = some o → o.isCells = true → ¬ X b) : RowT w' qa xs := fun i x hx => by
  obtain ⟨b, off, e, q1, q2, q3⟩ := h i x hx
  obtain ⟨o, ho, hc⟩ := cells_of_cell q1
  have hb : b < B := Nat.lt_of_lt_of_le (World.block_lt_of_cell? _ _ q1) hB
  have hc' := hX b o ho hc
  exact ⟨b, off, e, (k.cell (p := ⟨b, _, none⟩) hb hc').trans q1, (k.cell (p := ⟨b, _, none⟩) hb hc').trans q2, (k.cell (p := ⟨b, _, none⟩) hb hc').trans q3⟩
theorem Nums.notCells {z : Cel3} {kt : TypeId} {w : World} {mb n : Nat} {f : Value → Option Nat} {rep : Nat → List Cel3} (h : Nums z kt w mb n f rep) : ∀ b o, w.heap[b]? = some o → o.isCells = true → ¬ b = mb := fun b o ho hc e => by
  subst e
  cases o <;> simp [Obj.isCells] at hc
  exact h.map.notCells ho
theorem num1 {w : World} {mb n qc : Nat} {f : Value → Option Nat} {rep : Nat → List Cel3} {qa : Option Addr} {xs : List Cel3} (hN : Nums zI 124 w mb n f rep) (hL : Lst okI zI w qa qc xs) (hn : n + xs.length ≤ 1073741823) :
    Calls Tryz.prog 47 #[.map (some mb), .slice qa xs.length qc] w fun e w' => ∃ n' f' rep' m, e = .returned (.int .i64 (m : Nat)) ∧ Nums zI 124 w' mb n' f' rep' ∧ Ext n rep n' rep' ∧ m ≤ n' ∧ n' ≤ n + xs.length ∧ rep' m = xs ∧ KeepX w.heap.size (· = mb) w w' := by
  obtain ⟨b, off, hq⟩ := hL.row.at
  refine (number101 mb n xs.length qc b off f rep qa xs w hN.map hN.num hN.le rfl hL.le hn hq hL.cap hL.capm hL.row hL.ok).mono ?_
  rintro e w' ⟨n', f', rep', m, rfl, h1, h2, h3, h4, h5, h6, h7, h8⟩
  exact ⟨n', f', rep', m, rfl, ⟨h1, h2, h7⟩, h3, h4, h5, h6, h8⟩
theorem num2 {w : World} {mb n qc : Nat} {f : Value → Option Nat} {rep : Nat → List Cel3} {qa : Option Addr} {xs : List Cel3} (hN : Nums zG 130 w mb n f rep) (hL : Lst okG zG w qa qc xs) (hn : n + xs.length ≤ 1073741823) :
    Calls Tryz.prog 48 #[.map (some mb), .slice qa xs.length qc] w fun e w' => ∃ n' f' rep' m, e = .returned (.int .i64 (m : Nat)) ∧ Nums zG 130 w' mb n' f' rep' ∧ Ext n rep n' rep' ∧ m ≤ n' ∧ n' ≤ n + xs.length ∧ rep' m = xs ∧ KeepX w.heap.size (· = mb) w w' := by
  obtain ⟨b, off, hq⟩ := hL.row.at
  refine (number102 mb n xs.length qc b off f rep qa xs w hN.map hN.num hN.le rfl hL.le hn hq hL.cap hL.capm hL.row hL.ok).mono ?_
  rintro e w' ⟨n', f', rep', m, rfl, h1, h2, h3, h4, h5, h6, h7, h8⟩
  exact ⟨n', f', rep', m, rfl, ⟨h1, h2, h7⟩, h3, h4, h5, h6, h8⟩
theorem Lst.keepX {ok : Cel3 → Prop} {z : Cel3} {w w' : World} {qa : Option Addr} {qc : Nat} {xs : List Cel3} {B : Nat} {X : Nat → Prop} (h : Lst ok z w qa qc xs) (k : KeepX B X w w') (hB : w.heap.size ≤ B) (hX : ∀ b o, w.heap[b]? = some o → o.isCells = true → ¬ X b) : Lst ok z w' qa qc xs := ⟨h.le, h.cap, h.capm, h.row.keepX k hB hX, h.ok⟩

theorem KeepX.setCell {B : Nat} {X : Nat → Prop} {w w' : World} (h : KeepX B X w w') (p : Addr) (v : Value) (hp : B ≤ p.block ∨ X p.block) : KeepX B X w (w'.setCell p v) := ⟨h.os, h.tape, h.output, Nat.le_trans h.size (KeepsOthers.setCell w' p v).size, fun k hk hx => (Below.heap_setCell w' p v k (fun e => Or.elim hp (fun q => by rw [← e] at q; omega) (fun q => hx (by rw [e]; exact q)))).trans (h.block k hk hx)⟩

set_option maxRecDepth 100000 in
set_option maxHeartbeats 2000000 in
theorem keyOf61 (m1 m2 mc n1 n2 cn ln cc lc : Nat) (f1 f2 : Value → Option Nat) (rep1 rep2 : Nat → List Cel3) (ca la : Option Addr) (out : ByteArray) (xs ys : List Cel3) (w : World)
    (h1 : Nums zI 124 w m1 n1 f1 rep1) (h2 : Nums zG 130 w m2 n2 f2 rep2) (hne : m1 ≠ m2) (hx : xs.length = cn) (hy : ys.length = ln) (l1 : Lst okI zI w ca cc xs) (l2 : Lst okG zG w la lc ys) (b1 : n1 + cn ≤ 1073741823) (b2 : n2 + ln ≤ 1073741823) :
    Calls Tryz.prog 28 #[.agg #[.map (some m1), .map (some m2), .map (some mc)], .agg #[.slice ca cn cc, .slice la ln lc, .string out]] w fun e w' => ∃ n1' f1' rep1' j n2' f2' rep2' k, e = .returned (.agg #[.int .i64 (j : Nat), .int .i64 (k : Nat), .string out]) ∧
      Nums zI 124 w' m1 n1' f1' rep1' ∧ Nums zG 130 w' m2 n2' f2' rep2' ∧ Ext n1 rep1 n1' rep1' ∧ Ext n2 rep2 n2' rep2' ∧ j ≤ n1' ∧ k ≤ n2' ∧ n1' ≤ n1 + cn ∧ n2' ≤ n2 + ln ∧ rep1' j = xs ∧ rep2' k = ys ∧ KeepX w.heap.size (fun b => b = m1 ∨ b = m2) w w' := by
  have hm1 := h1.map.lt
  have hm2 := h2.map.lt
  refine calls_of_wp Tryz.func28 rfl ?_
  go_wp2_with fail
  obtain ⟨w1, e1⟩ : ∃ y, ((w.alloc (.cells #[.map (some m1), .map (some m2), .map (some mc)] 62)).alloc (.cells #[.slice ca cn cc, .slice la ln lc, .string out] 50)).alloc (.cells #[.int .i64 0, .int .i64 0, .string ⟨#[]⟩] 69) = y := ⟨_, rfl⟩
  rw [e1]
  refine Lt.begin 15 (fun w' => w'.cell? ⟨w.heap.size, 0, none⟩ = some (.map (some m1)) ∧ w'.cell? ⟨w.heap.size, 1, none⟩ = some (.map (some m2)) ∧ w'.cell? ⟨w.heap.size + 1, 0, none⟩ = some (.slice ca cn cc) ∧ w'.cell? ⟨w.heap.size + 1, 1, none⟩ = some (.slice la ln lc) ∧ w'.cell? ⟨w.heap.size + 1, 2, none⟩ = some (.string out)) (by kernel_rfl) ?_
  have hS0 : (fun w' => w'.cell? ⟨w.heap.size, 0, none⟩ = some (.map (some m1)) ∧ w'.cell? ⟨w.heap.size, 1, none⟩ = some (.map (some m2)) ∧ w'.cell? ⟨w.heap.size + 1, 0, none⟩ = some (.slice ca cn cc) ∧ w'.cell? ⟨w.heap.size + 1, 1, none⟩ = some (.slice la ln lc) ∧ w'.cell? ⟨w.heap.size + 1, 2, none⟩ = some (.string out)) w1.drew := by rw [← e1]; exact ⟨by simp [go_sem], by simp [go_sem], by simp [go_sem], by simp [go_sem], by simp [go_sem]⟩
  have hw1 : w1.heap.size = w.heap.size + 3 := by rw [← e1]; simp
  have hb1 : Below w.heap.size w w1 := by rw [← e1]; exact (((Below.refl _ w).alloc (Nat.le_refl _) _).alloc (by simp) _).alloc (by simp; omega) _
  have HN1 : Hid (Nums zI 124 w1.drew m1 n1 f1 rep1) := h1.same (hb1.block m1 hm1)
  have HN2 : Hid (Nums zG 130 w1.drew m2 n2 f2 rep2) := h2.same (hb1.block m2 hm2)
  have HK0 : KeepX w.heap.size (fun _ => False) w w1.drew := KeepX.of_below (show Below w.heap.size w w1.drew from ⟨hb1.os, hb1.tape, hb1.output, hb1.size, hb1.block⟩)
  have HK1 : Hid (KeepX w.heap.size (fun b => b = m1 ∨ b = m2) w w1.drew) := HK0.mono (Nat.le_refl _) (fun _ _ h => h.elim)
  have HL1 : Hid (Lst okI zI w1.drew ca cc xs) := l1.keepX HK0 (Nat.le_refl _) (fun _ _ _ _ h => h)
  have HL2 : Hid (Lst okG zG w1.drew la lc ys) := l2.keepX HK0 (Nat.le_refl _) (fun _ _ _ _ h => h)
  have HR : Hid (w1.drew.heap[w.heap.size + 2]? = some (.cells #[.int .i64 0, .int .i64 0, .string ⟨#[]⟩] 69 (0, 0))) := by
    show w1.heap[w.heap.size + 2]? = _
    rw [← e1]
    have h := World.alloc_heap_new ((w.alloc (.cells #[.map (some m1), .map (some m2), .map (some mc)] 62)).alloc (.cells #[.slice ca cn cc, .slice la ln lc, .string out] 50)) (.cells #[.int .i64 0, .int .i64 0, .string ⟨#[]⟩] 69)
    simpa using h
  clear e1
  refine Lt.take (i := 0) (oi := { dst := some 5, op := Op.fieldAddr 62 (Operand.tmp 2) 0, type := 0, pos := "l6_keep.go:100", after := #[], guard := none }) (v := ?_) rfl (by kernel_rfl) (by kernel_rfl) (by kernel_rfl) (by kernel_rfl) (fun _ _ _ h => h) hS0 (Or.inl ⟨by rfl, ?_⟩) ?_
  rotate_left 1
  · rintro w ⟨s1, s2, s3, s4, s5⟩
    go_simp
    first | done | with_reducible rfl
  simp only [Act.put]
  refine Lt.take (i := 1) (oi := { dst := some 6, op := Op.load 58 (Operand.tmp 5), type := 58, pos := "l6_keep.go:100", after := #[{ on := 0, ground := Ground.data }], guard := none }) (v := ?_) rfl (by kernel_rfl) (by kernel_rfl) (by kernel_rfl) (by kernel_rfl) (fun _ _ _ h => h) hS0 (Or.inl ⟨by rfl, ?_⟩) ?_
  rotate_left 1
  · rintro w ⟨s1, s2, s3, s4, s5⟩
    go_simp
    first | done | with_reducible rfl
  simp only [Act.put]
  refine Lt.take (i := 2) (oi := { dst := some 7, op := Op.fieldAddr 50 (Operand.tmp 3) 0, type := 0, pos := "l6_keep.go:100", after := #[], guard := none }) (v := ?_) rfl (by kernel_rfl) (by kernel_rfl) (by kernel_rfl) (by kernel_rfl) (fun _ _ _ h => h) hS0 (Or.inl ⟨by rfl, ?_⟩) ?_
  rotate_left 1
  · rintro w ⟨s1, s2, s3, s4, s5⟩
    go_simp
    first | done | with_reducible rfl
  simp only [Act.put]
  refine Lt.take (i := 3) (oi := { dst := some 8, op := Op.fieldAddr 47 (Operand.tmp 7) 0, type := 0, pos := "l6_keep.go:100", after := #[{ on := 2, ground := Ground.data }], guard := none }) (v := ?_) rfl (by kernel_rfl) (by kernel_rfl) (by kernel_rfl) (by kernel_rfl) (fun _ _ _ h => h) hS0 (Or.inl ⟨by rfl, ?_⟩) ?_
  rotate_left 1
  · rintro w ⟨s1, s2, s3, s4, s5⟩
    go_simp
    first | done | with_reducible rfl
  simp only [Act.put]
  refine Lt.take (i := 4) (oi := { dst := some 9, op := Op.load 45 (Operand.tmp 8), type := 45, pos := "l6_keep.go:100", after := #[{ on := 3, ground := Ground.data }], guard := none }) (v := ?_) rfl (by kernel_rfl) (by kernel_rfl) (by kernel_rfl) (by kernel_rfl) (fun _ _ _ h => h) hS0 (Or.inl ⟨by rfl, ?_⟩) ?_
  rotate_left 1
  · rintro w ⟨s1, s2, s3, s4, s5⟩
    go_simp
    first | done | with_reducible rfl
  simp only [Act.put]
  refine Lt.take (i := 6) (oi := { dst := some 11, op := Op.fieldAddr 62 (Operand.tmp 2) 1, type := 0, pos := "l6_keep.go:100", after := #[], guard := none }) (v := ?_) rfl (by kernel_rfl) (by kernel_rfl) (by kernel_rfl) (by kernel_rfl) (fun _ _ _ h => h) hS0 (Or.inl ⟨by rfl, ?_⟩) ?_
  rotate_left 1
  · rintro w ⟨s1, s2, s3, s4, s5⟩
    go_simp
    first | done | with_reducible rfl
  simp only [Act.put]
  refine Lt.take (i := 7) (oi := { dst := some 12, op := Op.load 59 (Operand.tmp 11), type := 59, pos := "l6_keep.go:100", after := #[{ on := 6, ground := Ground.data }], guard := none }) (v := ?_) rfl (by kernel_rfl) (by kernel_rfl) (by kernel_rfl) (by kernel_rfl) (fun _ _ _ h => h) hS0 (Or.inl ⟨by rfl, ?_⟩) ?_
  rotate_left 1
  · rintro w ⟨s1, s2, s3, s4, s5⟩
    go_simp
    first | done | with_reducible rfl
  simp only [Act.put]
  refine Lt.take (i := 8) (oi := { dst := some 13, op := Op.fieldAddr 50 (Operand.tmp 3) 1, type := 0, pos := "l6_keep.go:100", after := #[], guard := none }) (v := ?_) rfl (by kernel_rfl) (by kernel_rfl) (by kernel_rfl) (by kernel_rfl) (fun _ _ _ h => h) hS0 (Or.inl ⟨by rfl, ?_⟩) ?_
  rotate_left 1
  · rintro w ⟨s1, s2, s3, s4, s5⟩
    go_simp
    first | done | with_reducible rfl
  simp only [Act.put]
  refine Lt.take (i := 9) (oi := { dst := some 14, op := Op.load 48 (Operand.tmp 13), type := 48, pos := "l6_keep.go:100", after := #[{ on := 8, ground := Ground.data }], guard := none }) (v := ?_) rfl (by kernel_rfl) (by kernel_rfl) (by kernel_rfl) (by kernel_rfl) (fun _ _ _ h => h) hS0 (Or.inl ⟨by rfl, ?_⟩) ?_
  rotate_left 1
  · rintro w ⟨s1, s2, s3, s4, s5⟩
    go_simp
    first | done | with_reducible rfl
  simp only [Act.put]
  refine Lt.take (i := 12) (oi := { dst := some 17, op := Op.fieldAddr 50 (Operand.tmp 3) 2, type := 0, pos := "l6_keep.go:100", after := #[], guard := none }) (v := ?_) rfl (by kernel_rfl) (by kernel_rfl) (by kernel_rfl) (by kernel_rfl) (fun _ _ _ h => h) hS0 (Or.inl ⟨by rfl, ?_⟩) ?_
  rotate_left 1
  · rintro w ⟨s1, s2, s3, s4, s5⟩
    go_simp
    first | done | with_reducible rfl
  simp only [Act.put]
  refine Lt.take (i := 13) (oi := { dst := some 18, op := Op.load 9 (Operand.tmp 17), type := 9, pos := "l6_keep.go:100", after := #[{ on := 12, ground := Ground.data }], guard := none }) (v := ?_) rfl (by kernel_rfl) (by kernel_rfl) (by kernel_rfl) (by kernel_rfl) (fun _ _ _ h => h) hS0 (Or.inl ⟨by rfl, ?_⟩) ?_
  rotate_left 1
  · rintro w ⟨s1, s2, s3, s4, s5⟩
    go_simp
    first | done | with_reducible rfl
  simp only [Act.put]
  refine Lt.step (i := 5) (o := { dst := some 10, op := Op.call { callee := Callee.value (Operand.func 47), args := #[Operand.tmp 6, Operand.tmp 9], argTypes := #[58, 45] }, type := 3, pos := "l6_keep.go:100", after := #[{ on := 1, ground := Ground.data }, { on := 4, ground := Ground.data }], guard := none }) (by kernel_rfl) rfl (fun K hK => ?_)
  go_simp
  rw [← hx]
  refine (num1 (HN1.out) (HL1.out) (by rw [hx]; exact b1)).mono ?_
  rintro e w3 ⟨n1', f1', rep1', j, rfl, q1, q2, q3, q4, q5, q6⟩
  have hs3 : w1.heap.size ≤ w3.heap.size := q6.size
  have kk : ∀ p : Addr, p.block < w1.heap.size → p.block ≠ m1 → w3.cell? p = w1.cell? p := fun p hp hpm => (q6.cell (p := p) hp hpm)
  have hS3 : (fun w' => w'.cell? ⟨w.heap.size, 0, none⟩ = some (.map (some m1)) ∧ w'.cell? ⟨w.heap.size, 1, none⟩ = some (.map (some m2)) ∧ w'.cell? ⟨w.heap.size + 1, 0, none⟩ = some (.slice ca cn cc) ∧ w'.cell? ⟨w.heap.size + 1, 1, none⟩ = some (.slice la ln lc) ∧ w'.cell? ⟨w.heap.size + 1, 2, none⟩ = some (.string out)) w3 := ⟨(kk ⟨w.heap.size, 0, none⟩ (by dsimp only; omega) (by dsimp only; omega)).trans hS0.1, (kk ⟨w.heap.size, 1, none⟩ (by dsimp only; omega) (by dsimp only; omega)).trans hS0.2.1, (kk ⟨w.heap.size + 1, 0, none⟩ (by dsimp only; omega) (by dsimp only; omega)).trans hS0.2.2.1, (kk ⟨w.heap.size + 1, 1, none⟩ (by dsimp only; omega) (by dsimp only; omega)).trans hS0.2.2.2.1, (kk ⟨w.heap.size + 1, 2, none⟩ (by dsimp only; omega) (by dsimp only; omega)).trans hS0.2.2.2.2⟩
  have HN3 : Hid (Nums zG 130 w3 m2 n2 f2 rep2) := HN2.out.same (q6.block m2 (by show m2 < w1.heap.size; omega) (fun e => hne e.symm))
  have HL3 : Hid (Lst okG zG w3 la lc ys) := HL2.out.keepX q6 (Nat.le_refl _) HN1.out.notCells
  have HR3 : Hid (w3.heap[w.heap.size + 2]? = some (.cells #[.int .i64 0, .int .i64 0, .string ⟨#[]⟩] 69 (0, 0))) := (q6.block _ (by show w.heap.size + 2 < w1.heap.size; omega) (by show ¬ w.heap.size + 2 = m1; omega)).trans HR.out
  have HQ1 : Hid (Nums zI 124 w3 m1 n1' f1' rep1') := q1
  have HK3 : Hid (KeepX w.heap.size (fun b => b = m1 ∨ b = m2) w w3) := HK1.out.trans (q6.mono (by show w.heap.size ≤ w1.heap.size; omega) (fun k _ e => Or.inl e))
  refine hK.out _ _ (fun _ => hS3) (fun _ => ?_)
  clear hK K kk q1 q6 HN2 HL2 HR HN1 HL1 HK1
  refine Lt.step (i := 10) (o := { dst := some 15, op := Op.call { callee := Callee.value (Operand.func 48), args := #[Operand.tmp 12, Operand.tmp 14], argTypes := #[59, 48] }, type := 3, pos := "l6_keep.go:100", after := #[{ on := 7, ground := Ground.data }, { on := 9, ground := Ground.data }, { on := 5, ground := Ground.chain }], guard := none }) (by kernel_rfl) rfl (fun K hK => ?_)
  go_simp
  rw [← hy]
  refine (num2 (HN3.out) (HL3.out) (by rw [hy]; exact b2)).mono ?_
  rintro e w4 ⟨n2', f2', rep2', k, rfl, r1, r2, r3, r4, r5, r6⟩
  have hs4 : w3.heap.size ≤ w4.heap.size := r6.size
  have kk : ∀ p : Addr, p.block < w3.heap.size → p.block ≠ m2 → w4.cell? p = w3.cell? p := fun p hp hpm => (r6.cell (p := p) hp hpm)
  have hS4 : (fun w' => w'.cell? ⟨w.heap.size, 0, none⟩ = some (.map (some m1)) ∧ w'.cell? ⟨w.heap.size, 1, none⟩ = some (.map (some m2)) ∧ w'.cell? ⟨w.heap.size + 1, 0, none⟩ = some (.slice ca cn cc) ∧ w'.cell? ⟨w.heap.size + 1, 1, none⟩ = some (.slice la ln lc) ∧ w'.cell? ⟨w.heap.size + 1, 2, none⟩ = some (.string out)) w4 := ⟨(kk ⟨w.heap.size, 0, none⟩ (by dsimp only; omega) (by dsimp only; omega)).trans hS3.1, (kk ⟨w.heap.size, 1, none⟩ (by dsimp only; omega) (by dsimp only; omega)).trans hS3.2.1, (kk ⟨w.heap.size + 1, 0, none⟩ (by dsimp only; omega) (by dsimp only; omega)).trans hS3.2.2.1, (kk ⟨w.heap.size + 1, 1, none⟩ (by dsimp only; omega) (by dsimp only; omega)).trans hS3.2.2.2.1, (kk ⟨w.heap.size + 1, 2, none⟩ (by dsimp only; omega) (by dsimp only; omega)).trans hS3.2.2.2.2⟩
  have HR4 : w4.heap[w.heap.size + 2]? = some (.cells #[.int .i64 0, .int .i64 0, .string ⟨#[]⟩] 69 (0, 0)) := (r6.block _ (by show w.heap.size + 2 < w3.heap.size; omega) (by show ¬ w.heap.size + 2 = m2; omega)).trans HR3.out
  have HQ4 : Hid (Nums zI 124 w4 m1 n1' f1' rep1') := HQ1.out.same (r6.block m1 (by show m1 < w3.heap.size; omega) hne)
  have HK4 : Hid (KeepX w.heap.size (fun b => b = m1 ∨ b = m2) w w4) := HK3.out.trans (r6.mono (by show w.heap.size ≤ w3.heap.size; omega) (fun k _ e => Or.inr e))
  refine hK.out _ _ (fun _ => hS4) (fun _ => ?_)
  clear hK K kk r6 HK3 HQ1 HR3 HN3 HL3
  obtain ⟨z0, z1, z2⟩ := blk_c3 HR4
  have zf : ∀ j, w4.frozen? ⟨w.heap.size + 2, j, none⟩ = false := fun j => Lib.frozen_of_heap HR4 j
  refine Lt.step (i := 11) (o := { dst := some 16, op := Op.build 67 #[(0, Operand.tmp 10), (1, Operand.tmp 15)], type := 67, pos := "l6_keep.go:100", after := #[{ on := 5, ground := Ground.data }, { on := 10, ground := Ground.data }], guard := none }) (by kernel_rfl) rfl (fun K hK => ?_)
  go_simp
  refine hK.out _ _ (fun _ => hS4) (fun _ => ?_)
  clear hK K
  refine Lt.step (i := 14) (o := { dst := some 19, op := Op.build 69 #[(0, Operand.tmp 16), (1, Operand.tmp 18)], type := 69, pos := "l6_keep.go:100", after := #[{ on := 11, ground := Ground.data }, { on := 13, ground := Ground.data }], guard := none }) (by kernel_rfl) rfl (fun K hK => ?_)
  go_simp
  refine hK.out _ _ (fun _ => hS4) (fun _ => ?_)
  clear hK K
  refine Lt.step (i := 15) (o := { dst := none, op := Op.store 69 (Operand.tmp 4) (Operand.tmp 19), type := 0, pos := "l6_keep.go:100", after := #[{ on := 14, ground := Ground.data }, { on := 10, ground := Ground.chain }, { on := 0, ground := Ground.phase }, { on := 1, ground := Ground.phase }, { on := 2, ground := Ground.phase }, { on := 3, ground := Ground.phase }, { on := 4, ground := Ground.phase }, { on := 5, ground := Ground.phase }, { on := 6, ground := Ground.phase }, { on := 7, ground := Ground.phase }, { on := 8, ground := Ground.phase }, { on := 9, ground := Ground.phase }, { on := 10, ground := Ground.phase }, { on := 11, ground := Ground.phase }, { on := 12, ground := Ground.phase }, { on := 13, ground := Ground.phase }, { on := 14, ground := Ground.phase }], guard := none }) (by kernel_rfl) rfl (fun K hK => ?_)
  go_simp
  refine hK.out _ _ (fun h => absurd rfl h) (fun _ => ?_)
  clear hK K
  refine Lt.done (by kernel_rfl) ?_ _
  go_wp2
  rw [show w.heap.size + 1 + 1 = w.heap.size + 2 from rfl]
  have hn3 : ∀ m, m < w.heap.size → ∀ a b c : Value, (((w4.setCell ⟨w.heap.size + 2, 0, none⟩ a).setCell ⟨w.heap.size + 2, 1, none⟩ b).setCell ⟨w.heap.size + 2, 2, none⟩ c).heap[m]? = w4.heap[m]? := fun m hm a b c => by
    rw [Below.heap_setCell _ _ _ _ (by dsimp only; omega), Below.heap_setCell _ _ _ _ (by dsimp only; omega), Below.heap_setCell _ _ _ _ (by dsimp only; omega)]
  exact bodyPost_ret (v := .agg #[.int .i64 j, .int .i64 k, .string out]) (by simp [results, Tryz.results28, go_sem, z0, z1, z2]) rfl ⟨n1', f1', rep1', j, n2', f2', rep2', k, rfl, HQ4.out.same (hn3 m1 hm1 _ _ _), r1.same (hn3 m2 hm2 _ _ _), q2, r2, q3, r3, by rw [← hx]; exact q4, by rw [← hy]; exact r4, q5, r5, ((HK4.out.setCell _ _ (Or.inl (by dsimp only; omega))).setCell _ _ (Or.inl (by dsimp only; omega))).setCell _ _ (Or.inl (by dsimp only; omega))⟩
end Go.Proofs.YtllhbgmadiclcaaGreatDoor
