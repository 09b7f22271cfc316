import Derived.Test.YtllhbgmadiclcaaGreatDoorNmE
import Derived.Test.YtllhbgmadiclcaaGreatDoorMgC
namespace Go.Proofs.YtllhbgmadiclcaaGreatDoor
open Go.RowKit
set_option linter.unusedVariables false

set_option maxRecDepth 100000 in
set_option maxHeartbeats 2000000 in
theorem mergeClos (m1 m2 mc n1 n2 nc cn ln cc lc bp : Nat) (f1 f2 fc : Value → Option Nat) (rep1 rep2 : Nat → List Cel3) (ca la : Option Addr) (out : ByteArray) (xs ys : List Cel3) (w : World)
    (h1 : Nums zI 124 w m1 n1 f1 rep1) (h2 : Nums zG 130 w m2 n2 f2 rep2) (hc : MapK 69 w mc nc fc) (hne : m1 ≠ m2) (hn1 : mc ≠ m1) (hn2 : mc ≠ m2) (hx : xs.length = cn) (hy : ys.length = ln) (l1 : Lst okI zI w ca cc xs) (l2 : Lst okG zG w la lc ys) (b1 : n1 + cn ≤ 1073741823) (b2 : n2 + ln ≤ 1073741823) (ho : out.size ≤ maxLen)
    (hp : w.heap[bp]? = some (.cells #[.map (some m1), .map (some m2), .map (some mc)] 62 (0, 0))) :
    Calls Tryz.prog 27 #[.agg #[.slice ca cn cc, .slice la ln lc, .string out], .pointer (some ⟨bp, 0, none⟩)] w fun e w' => ∃ n1' f1' rep1' j n2' f2' rep2' k, e = .returned (.bool (decide ((fc (.agg #[.int .i64 (j : Nat), .int .i64 (k : Nat), .string out])).getD 0 = 0))) ∧
      Nums zI 124 w' m1 n1' f1' rep1' ∧ Nums zG 130 w' m2 n2' f2' rep2' ∧ Ext n1 rep1 n1' rep1' ∧ Ext n2 rep2 n2' rep2' ∧ j ≤ n1' ∧ k ≤ n2' ∧ n1' ≤ n1 + cn ∧ n2' ≤ n2 + ln ∧ rep1' j = xs ∧ rep2' k = ys ∧ KeepX w.heap.size (fun b => b = m1 ∨ b = m2) w w' := by
  have hm1 := h1.map.lt
  have hm2 := h2.map.lt
  have hmc := hc.lt
  have hbp := (Array.getElem?_eq_some_iff.1 hp).1
  have hp1 : bp ≠ m1 := h1.notCells bp _ hp rfl
  have hp2 : bp ≠ m2 := h2.notCells bp _ hp rfl
  refine calls_of_wp Tryz.func27 rfl ?_
  go_wp2_with fail
  obtain ⟨w1, e1⟩ : ∃ y, w.alloc (.cells #[.slice ca cn cc, .slice la ln lc, .string out] 50) = y := ⟨_, rfl⟩
  rw [e1]
  have hw1 : w1.heap.size = w.heap.size + 1 := by rw [← e1]; simp
  have hb1 : Below w.heap.size w w1 := by rw [← e1]; exact (Below.refl _ w).alloc (Nat.le_refl _) _
  have hpb : w1.heap[bp]? = some (.cells #[.map (some m1), .map (some m2), .map (some mc)] 62 (0, 0)) := (hb1.block bp hbp).trans hp
  have hrb : w1.heap[w.heap.size]? = some (.cells #[.slice ca cn cc, .slice la ln lc, .string out] 50 (0, 0)) := by rw [← e1]; exact World.alloc_heap_new w _
  refine Lt.begin 7 (fun w' => w'.cell? ⟨bp, 0, none⟩ = some (.map (some m1)) ∧ w'.cell? ⟨bp, 1, none⟩ = some (.map (some m2)) ∧ w'.cell? ⟨bp, 2, none⟩ = some (.map (some mc)) ∧ w'.cell? ⟨w.heap.size, 0, none⟩ = some (.slice ca cn cc) ∧ w'.cell? ⟨w.heap.size, 1, none⟩ = some (.slice la ln lc) ∧ w'.cell? ⟨w.heap.size, 2, none⟩ = some (.string out)) (by kernel_rfl) ?_
  have hS0 : (fun w' => w'.cell? ⟨bp, 0, none⟩ = some (.map (some m1)) ∧ w'.cell? ⟨bp, 1, none⟩ = some (.map (some m2)) ∧ w'.cell? ⟨bp, 2, none⟩ = some (.map (some mc)) ∧ w'.cell? ⟨w.heap.size, 0, none⟩ = some (.slice ca cn cc) ∧ w'.cell? ⟨w.heap.size, 1, none⟩ = some (.slice la ln lc) ∧ w'.cell? ⟨w.heap.size, 2, none⟩ = some (.string out)) w1.drew := ⟨(blk_c3 hpb).1, (blk_c3 hpb).2.1, (blk_c3 hpb).2.2, (blk_c3 hrb).1, (blk_c3 hrb).2.1, (blk_c3 hrb).2.2⟩
  have HK0 : KeepX w.heap.size (fun _ => False) w w1.drew := KeepX.of_below (show Below w.heap.size w w1.drew from ⟨hb1.os, hb1.tape, hb1.output, hb1.size, hb1.block⟩)
  have HCL : Hid (∀ _ : Unit, Calls Tryz.prog 28 #[.agg #[.map (some m1), .map (some m2), .map (some mc)], .agg #[.slice ca cn cc, .slice la ln lc, .string out]] w1.drew fun e w' => ∃ n1' f1' rep1' j n2' f2' rep2' k, e = .returned (.agg #[.int .i64 (j : Nat), .int .i64 (k : Nat), .string out]) ∧
      Nums zI 124 w' m1 n1' f1' rep1' ∧ Nums zG 130 w' m2 n2' f2' rep2' ∧ Ext n1 rep1 n1' rep1' ∧ Ext n2 rep2 n2' rep2' ∧ j ≤ n1' ∧ k ≤ n2' ∧ n1' ≤ n1 + cn ∧ n2' ≤ n2 + ln ∧ rep1' j = xs ∧ rep2' k = ys ∧ KeepX w1.drew.heap.size (fun b => b = m1 ∨ b = m2) w1.drew w') := fun _ =>
    keyOf61 m1 m2 mc n1 n2 cn ln cc lc f1 f2 rep1 rep2 ca la out xs ys w1.drew (h1.same (hb1.block m1 hm1)) (h2.same (hb1.block m2 hm2)) hne hx hy (l1.keepX HK0 (Nat.le_refl _) (fun _ _ _ _ h => h)) (l2.keepX HK0 (Nat.le_refl _) (fun _ _ _ _ h => h)) b1 b2
  have HC1 : Hid (MapK 69 w1.drew mc nc fc) := hc.same (hb1.block mc hmc)
  clear e1
  refine Lt.take (i := 0) (oi := { dst := some 4, op := Op.fieldAddr 62 (Operand.tmp 1) 2, type := 0, pos := "l6_keep.go:69", after := #[], guard := none }) (v := ?_) rfl (by kernel_rfl) (by kernel_rfl) (by kernel_rfl) (by kernel_rfl) (fun _ _ _ h => h) hS0 (Or.inl ⟨by rfl, ?_⟩) ?_
  rotate_left 1
  · rintro w ⟨s1, s2, s3, s4, s5, s6⟩
    go_simp
    first | done | with_reducible rfl
  simp only [Act.put]
  refine Lt.take (i := 1) (oi := { dst := some 5, op := Op.load 60 (Operand.tmp 4), type := 60, pos := "l6_keep.go:69", after := #[{ on := 0, ground := Ground.data }], guard := none }) (v := ?_) rfl (by kernel_rfl) (by kernel_rfl) (by kernel_rfl) (by kernel_rfl) (fun _ _ _ h => h) hS0 (Or.inl ⟨by rfl, ?_⟩) ?_
  rotate_left 1
  · rintro w ⟨s1, s2, s3, s4, s5, s6⟩
    go_simp
    first | done | with_reducible rfl
  simp only [Act.put]
  refine Lt.take (i := 2) (oi := { dst := some 6, op := Op.load 62 (Operand.tmp 1), type := 62, pos := "l6_keep.go:69", after := #[], guard := none }) (v := ?_) rfl (by kernel_rfl) (by kernel_rfl) (by kernel_rfl) (by kernel_rfl) (fun _ _ _ h => h) hS0 (Or.inl ⟨by rfl, ?_⟩) ?_
  rotate_left 1
  · rintro w ⟨s1, s2, s3, s4, s5, s6⟩
    go_simp
    first | done | with_reducible rfl
  simp only [Act.put]
  refine Lt.take (i := 3) (oi := { dst := some 7, op := Op.load 50 (Operand.tmp 2), type := 50, pos := "l6_keep.go:69", after := #[], guard := none }) (v := ?_) rfl (by kernel_rfl) (by kernel_rfl) (by kernel_rfl) (by kernel_rfl) (fun _ _ _ h => h) hS0 (Or.inl ⟨by rfl, ?_⟩) ?_
  rotate_left 1
  · rintro w ⟨s1, s2, s3, s4, s5, s6⟩
    go_simp
    first | done | with_reducible rfl
  simp only [Act.put]
  refine Lt.step (i := 4) (o := { dst := some 8, op := Op.call { callee := Callee.value (Operand.func 28), args := #[Operand.tmp 6, Operand.tmp 7], argTypes := #[62, 50] }, type := 69, pos := "l6_keep.go:69", after := #[{ on := 2, ground := Ground.data }, { on := 3, ground := Ground.data }], guard := none }) (by kernel_rfl) rfl (fun K hK => ?_)
  go_simp
  refine (HCL.out ()).mono ?_
  rintro e w3 ⟨n1', f1', rep1', j, n2', f2', rep2', k, rfl, q1, q2, q3, q4, q5, q6, q7, q8, q9, q10, q11⟩
  have kk : ∀ p : Addr, p.block < w1.heap.size → ¬ (p.block = m1 ∨ p.block = m2) → w3.cell? p = w1.cell? p := fun p hp hpm => (q11.cell (p := p) hp hpm)
  have hS3 : (fun w' => w'.cell? ⟨bp, 0, none⟩ = some (.map (some m1)) ∧ w'.cell? ⟨bp, 1, none⟩ = some (.map (some m2)) ∧ w'.cell? ⟨bp, 2, none⟩ = some (.map (some mc)) ∧ w'.cell? ⟨w.heap.size, 0, none⟩ = some (.slice ca cn cc) ∧ w'.cell? ⟨w.heap.size, 1, none⟩ = some (.slice la ln lc) ∧ w'.cell? ⟨w.heap.size, 2, none⟩ = some (.string out)) w3 := ⟨(kk ⟨bp, 0, none⟩ (by dsimp only; omega) (by dsimp only; omega)).trans hS0.1, (kk ⟨bp, 1, none⟩ (by dsimp only; omega) (by dsimp only; omega)).trans hS0.2.1, (kk ⟨bp, 2, none⟩ (by dsimp only; omega) (by dsimp only; omega)).trans hS0.2.2.1, (kk ⟨w.heap.size, 0, none⟩ (by dsimp only; omega) (by dsimp only; omega)).trans hS0.2.2.2.1, (kk ⟨w.heap.size, 1, none⟩ (by dsimp only; omega) (by dsimp only; omega)).trans hS0.2.2.2.2.1, (kk ⟨w.heap.size, 2, none⟩ (by dsimp only; omega) (by dsimp only; omega)).trans hS0.2.2.2.2.2⟩
  have HC3 : MapK 69 w3 mc nc fc := HC1.out.same (q11.block mc (by show mc < w1.heap.size; omega) (by omega))
  have HK3 : Hid (KeepX w.heap.size (fun b => b = m1 ∨ b = m2) w w3) := (HK0.mono (Nat.le_refl _) (fun _ _ h => h.elim)).trans (q11.mono (by show w.heap.size ≤ w1.heap.size; omega) (fun _ _ h => h))
  obtain ⟨l, hl⟩ := keyR (j := j) (k := k) (s := out) (by omega) (by omega) ho
  have hlook := (HC3.look law97 Tryz.underlying60 hl).2
  obtain ⟨av, ea⟩ : ∃ av, (fc (.agg #[.int .i64 (j : Nat), .int .i64 (k : Nat), .string out])).getD 0 = av := ⟨_, rfl⟩
  rw [ea] at hlook
  have HEA : Hid ((fc (.agg #[.int .i64 (j : Nat), .int .i64 (k : Nat), .string out])).getD 0 = av) := ea
  clear ea
  refine hK.out _ _ (fun _ => hS3) (fun _ => ?_)
  clear hK K kk
  refine Lt.step (i := 5) (o := { dst := some 9, op := Op.lookup 60 (Operand.tmp 5) (Operand.tmp 8) false, type := 3, pos := "l6_keep.go:69", after := #[{ on := 1, ground := Ground.data }, { on := 4, ground := Ground.data }], guard := none }) (by kernel_rfl) rfl (fun K hK => ?_)
  go_simp
  refine hK.out _ _ (fun _ => hS3) (fun _ => ?_)
  clear hK K
  refine Lt.step (i := 6) (o := { dst := some 10, op := Op.binOp BinOp.eql 3 (Operand.tmp 9) (Operand.const (Value.int IntKind.i64 0)) 3, type := 4, pos := "l6_keep.go:69", after := #[{ on := 5, ground := Ground.data }], guard := none }) (by kernel_rfl) rfl (fun K hK => ?_)
  go_simp
  refine hK.out _ _ (fun _ => hS3) (fun _ => ?_)
  clear hK K
  refine Lt.step (i := 7) (o := { dst := some 3, op := Op.assign (Operand.tmp 10), type := 4, pos := "l6_keep.go:69", after := #[{ on := 6, ground := Ground.data }, { on := 4, ground := Ground.chain }, { on := 0, ground := Ground.phase }, { on := 1, ground := Ground.phase }, { on := 2, ground := Ground.phase }, { on := 3, ground := Ground.phase }, { on := 4, ground := Ground.phase }, { on := 5, ground := Ground.phase }, { on := 6, ground := Ground.phase }], guard := none }) (by kernel_rfl) rfl (fun K hK => ?_)
  go_simp
  refine hK.out _ _ (fun h => absurd rfl h) (fun _ => ?_)
  clear hK K
  refine Lt.done (by kernel_rfl) ?_ _
  go_wp2
  have hav : ((av : Int) == 0) = decide (av = 0) := by
    rw [show ((av : Int) == 0) = decide ((av : Int) = 0) from rfl]
    exact decide_eq_decide.2 (by omega)
  exact bodyPost_ret (v := .bool ((av : Int) == 0)) (by simp [results, Tryz.results27, go_sem]) rfl ⟨n1', f1', rep1', j, n2', f2', rep2', k, by rw [HEA.out, hav], q1, q2, q3, q4, q5, q6, q7, q8, q9, q10, HK3.out⟩
end Go.Proofs.YtllhbgmadiclcaaGreatDoor
namespace Go.Proofs.YtllhbgmadiclcaaGreatDoor
open Go.RowKit
set_option linter.unusedVariables false

def cI (is : List I3) : List Cel3 := is.map fun i => (.int .i64 i.op, .string i.text, .int .i64 i.n)
def cG (gs : List G3) : List Cel3 := gs.map fun g => (.string g.name, .bool g.ask, .string g.sum)
theorem cI_inj {is js : List I3} (h : cI is = cI js) : is = js := by
  refine (List.map_inj_right ?_).1 h
  rintro ⟨a, b, c⟩ ⟨d, e, f⟩ q
  simp at q
  obtain ⟨rfl, rfl, rfl⟩ := q; rfl
theorem cG_inj {is js : List G3} (h : cG is = cG js) : is = js := by
  refine (List.map_inj_right ?_).1 h
  rintro ⟨a, b, c⟩ ⟨d, e, f⟩ q
  simp at q
  obtain ⟨rfl, rfl, rfl⟩ := q; rfl
abbrev keyV (j k : Nat) (o : ByteArray) : Value := .agg #[.int .i64 (j : Nat), .int .i64 (k : Nat), .string o]
theorem keyV_inj {j k j' k' : Nat} {o o' : ByteArray} (h : keyV j k o = keyV j' k' o') : j = j' ∧ k = k' ∧ o = o' := by
  simp at h
  exact ⟨by omega, by omega, h.2.2⟩
/-- What the count of records tells. -/
structure CntI (ra : List T3) (n1 n2 : Nat) (rep1 rep2 : Nat → List Cel3) (fc : Value → Option Nat) : Prop where
  snd : ∀ r ∈ ra, ∃ j k v, j ≤ n1 ∧ k ≤ n2 ∧ rep1 j = cI r.code ∧ rep2 k = cG r.looks ∧ fc (keyV j k r.out) = some (v + 1)
  fst : ∀ j k o v, fc (keyV j k o) = some v → ∃ r ∈ ra, j ≤ n1 ∧ k ≤ n2 ∧ rep1 j = cI r.code ∧ rep2 k = cG r.looks ∧ r.out = o
theorem CntI.zero : CntI [] 0 0 (fun _ => []) (fun _ => []) (fun _ => none) := ⟨fun r hr => by simp at hr, fun j k o v h => by cases h⟩
theorem CntI.ext {ra : List T3} {n1 n2 n1' n2' : Nat} {rep1 rep2 rep1' rep2' : Nat → List Cel3} {fc : Value → Option Nat} (h : CntI ra n1 n2 rep1 rep2 fc) (e1 : Ext n1 rep1 n1' rep1') (e2 : Ext n2 rep2 n2' rep2') : CntI ra n1' n2' rep1' rep2' fc :=
  ⟨fun r hr => by
    obtain ⟨j, k, v, h1, h2, h3, h4, h5⟩ := h.snd r hr
    exact ⟨j, k, v, Nat.le_trans h1 e1.1, Nat.le_trans h2 e2.1, (e1.2 j h1).trans h3, (e2.2 k h2).trans h4, h5⟩, fun j k o v hf => by
    obtain ⟨r, hr, h1, h2, h3, h4, h5⟩ := h.fst j k o v hf
    exact ⟨r, hr, Nat.le_trans h1 e1.1, Nat.le_trans h2 e2.1, (e1.2 j h1).trans h3, (e2.2 k h2).trans h4, h5⟩⟩
open Classical in
theorem CntI.put {ra : List T3} {n1 n2 j k : Nat} {rep1 rep2 : Nat → List Cel3} {fc : Value → Option Nat} (h : CntI ra n1 n2 rep1 rep2 fc) (r : T3) (h1 : j ≤ n1) (h2 : k ≤ n2) (h3 : rep1 j = cI r.code) (h4 : rep2 k = cG r.looks) :
    CntI (ra ++ [r]) n1 n2 rep1 rep2 (fun x => if x = keyV j k r.out then some ((fc (keyV j k r.out)).getD 0 + 1) else fc x) := by
  refine ⟨fun q hq => ?_, fun j' k' o v hf => ?_⟩
  · rcases List.mem_append.1 hq with m | m
    · obtain ⟨j', k', v, a1, a2, a3, a4, a5⟩ := h.snd q m
      by_cases e : keyV j' k' q.out = keyV j k r.out
      · exact ⟨j', k', _, a1, a2, a3, a4, by rw [if_pos e]⟩
      · exact ⟨j', k', v, a1, a2, a3, a4, by rw [if_neg e]; exact a5⟩
    · rw [List.mem_singleton] at m; subst m
      exact ⟨j, k, _, h1, h2, h3, h4, by rw [if_pos rfl]⟩
  · by_cases e : keyV j' k' o = keyV j k r.out
    · obtain ⟨rfl, rfl, rfl⟩ := keyV_inj e
      exact ⟨r, by simp, h1, h2, h3, h4, rfl⟩
    · rw [if_neg e] at hf
      obtain ⟨q, hq, a⟩ := h.fst j' k' o v hf
      exact ⟨q, by simp [hq], a⟩
/-- Whether a record is there. -/
theorem CntI.tells {ra : List T3} {n1 n2 j k : Nat} {f1 f2 : Value → Option Nat} {rep1 rep2 : Nat → List Cel3} {fc : Value → Option Nat} (h : CntI ra n1 n2 rep1 rep2 fc) (s1 : NumS zI n1 f1 rep1) (s2 : NumS zG n2 f2 rep2) (r : T3) (h1 : j ≤ n1) (h2 : k ≤ n2) (h3 : rep1 j = cI r.code) (h4 : rep2 k = cG r.looks) :
    (fc (keyV j k r.out)).getD 0 = 0 ↔ r ∉ ra := by
  constructor
  · intro e hr
    obtain ⟨j', k', v, a1, a2, a3, a4, a5⟩ := h.snd r hr
    obtain rfl := s1.inj j j' h1 a1 (h3.trans a3.symm)
    obtain rfl := s2.inj k k' h2 a2 (h4.trans a4.symm)
    rw [a5] at e
    simp at e
  · intro hr
    cases hf : fc (keyV j k r.out) with
    | none => rfl
    | some v =>
      obtain ⟨q, hq, _, _, a3, a4, a5⟩ := h.fst j k r.out v hf
      exfalso; apply hr
      have e1 := cI_inj (a3.symm.trans h3)
      have e2 := cG_inj (a4.symm.trans h4)
      obtain ⟨qc, ql, qo⟩ := q
      obtain ⟨rc, rl, ro⟩ := r
      dsimp only at e1 e2 a5
      subst e1 e2 a5
      exact hq

/-! ### A range over an iterator that may turn what T lets it turn -/
def SeqStopsT {α : Type} (F : Fence) (n : Nat) (P : Program) (g : Nat) (lb : Array Value) (encs : α → Array Value) (T Kp : World → World → Prop) (S Sp : List α → Prop) (N : Nat) (w : World) : Prop :=
  ∀ (l : Nat) (J Jx : List α → World → Prop) (W : World), Below w.heap.size w W → (∀ s A B, J s A → T A B → J s B) → (∀ s A B, Jx s A → T A B → Jx s B) →
    (∀ pre x W1, J pre W1 → pre.length < N → YieldAt F (n - 1) P l (encs x) W1 fun e W' =>
      (e = .returned (.bool true) ∧ J (pre ++ [x]) W' ∧ Kp W1 W') ∨ (e = .returned (.bool false) ∧ Jx (pre ++ [x]) W')) →
    J [] W →
    CallsIn F n P g (#[.func (.yield l) #[] #[]] ++ lb) W fun e W' => (∃ v, e = .returned v) ∧ ((∃ xs, S xs ∧ J xs W') ∨ (∃ pre, Sp pre ∧ Jx pre W'))

theorem wpIn_rangeFunc_ownT {α : Type} {F : Fence} {n : Nat} {P : Program} {g : Operand} {ps : Array Tmp} {assign body : Code} {Q : Exit → Act → World → Prop} {a : Act} {w : World}
    (hro : F.round = none) (h1 : 1 ≤ n) {gf : Nat} {lb : Array Value} (hg : a.eval g = .func (.func gf) #[] lb) (hFg : F.fn gf) (eg : ∀ args w, (callFunc gf args).run P w = .ok (.enter gf args) w)
    {encs : α → Array Value} {T Kp : World → World → Prop} {S Sp : List α → Prop} {N : Nat} {w0 : World} (hseq : SeqStopsT F (n - 1) P gf lb encs T Kp S Sp N w0)
    (hKt : ∀ {A B C : World}, Kp A B → Kp B C → Kp A C) (hKb : ∀ (W : World) (l : Nat) (o o' : Obj), w.heap.size ≤ l → W.heap[l]? = some o → o.isCells = false → o.isWalk = false → Kp W (W.putObj l o')) (hb0 : Below w0.heap.size w0 w) (hps : ∀ x, (encs x).size = ps.size)
    (I : List α → World → Prop) (Ix : Code → List α → World → Prop) (hI : OwnFrom w.heap.size I) (hIx : ∀ c, OwnFrom w.heap.size (Ix c)) (hIT : ∀ s A B, I s A → T A B → I s B) (hIxT : ∀ c s A B, Ix c s A → T A B → Ix c s B)
    (hTk : ∀ A B k o, w.heap.size ≤ k → A.heap[k]? = some o → T A B → B.heap[k]? = some o) (h0 : I [] w) (a₁ : α → Act)
    (hassign : ∀ (l : Nat) (x : α) (W : World) (K : Act → World → Prop), K (a₁ x) W →
      assign.wpIn (F.inRound l) (n - 1 - 1) P (Exit.then K (fun _ _ _ => False)) { tmps := (ps.zip (encs x)).foldl (fun t (p, v) => t.setIfInBounds p v) a.tmps, defers := [] } W)
    (hbody : ∀ (l : Nat) (pre : List α) (x : α) (W : World), I pre W → pre.length < N → body.wpIn (F.inRound l) (n - 1 - 1) P (ownPostG w.heap.size Kp I Ix (pre ++ [x]) W) (a₁ x) W)
    (hdone : ∀ (D : Nat) (xs : List α) (W : World), w.heap.size ≤ D → S xs → I xs W → W.heap[D]? = some (.deferred (some [])) → Q .normal { a with defers := { target := .collected D, args := #[] } :: a.defers } W)
    (hstop : ∀ (D : Nat) (c : Code) (pre : List α) (W : World), w.heap.size ≤ D → Sp pre → Ix c pre W → W.heap[D]? = some (.deferred (some [])) → c.wpIn F n P Q { a with defers := { target := .collected D, args := #[] } :: a.defers } W) :
    (Code.rangeFunc g ps assign body).wpIn F n P Q a w := by
  refine wpIn_rangeFunc ?_
  intro fn hfn
  rw [hro]
  obtain ⟨rec, hrec⟩ : ∃ rec : LoopState → Option Code → Loop, rec = fun st pe => { state := st, pending := pe, fn, tmps := a.tmps, params := ps, assign, body, defers := w.heap.size } := ⟨_, rfl⟩
  obtain ⟨W1, hW1⟩ : ∃ W1, (w.alloc (.deferred (some []))).alloc (.loop (rec .ready none)) = W1 := ⟨_, rfl⟩
  have hL1 : W1.heap[w.heap.size + 1]? = some (.loop (rec .ready none)) := by
    rw [← hW1]; have := World.alloc_heap_new (w.alloc (.deferred (some []))) (.loop (rec .ready none)); rwa [World.size_alloc] at this
  have hK1 : W1.heap[w.heap.size]? = some (.deferred (some [])) := by
    rw [← hW1]; exact (Below.heap_alloc _ _ _ (by simp)).trans (World.alloc_heap_new w _)
  have hI1 : I [] W1 := by rw [← hW1]; exact hI.alloc _ (hI.alloc _ h0)
  have hb1 : Below w0.heap.size w0 W1 := by
    rw [← hW1]; exact hb0.trans ((((Below.refl _ w).alloc (Nat.le_refl _) _).alloc (by simp) _).mono hb0.size)
  refine ⟨w.heap.size + 1, [{ target := .collected w.heap.size, args := #[] }], W1, { target := .fn (.func gf) lb, args := #[.func (.yield (w.heap.size + 1)) #[] #[]] }, W1, gf,
    #[.func (.yield (w.heap.size + 1)) #[] #[]] ++ lb, W1, ?_, ?_, ?_, ?_, fun _ => h1, ?_⟩
  · rw [← hW1, hrec]; exact run_enterLoop_outer _ _ _ _ _
  · simp only [resolve, hg]
    simp [go_sem]
  · intro f' hf'; simp [Target.leads] at hf'; subst hf'; exact hFg
  · simp [invoke, go_sem, eg]
  · refine (hseq (w.heap.size + 1)
      (fun pre W => I pre W ∧ W.heap[w.heap.size + 1]? = some (.loop (rec .ready none)) ∧ W.heap[w.heap.size]? = some (.deferred (some [])))
      (fun pre W => ∃ c, Ix c pre W ∧ W.heap[w.heap.size + 1]? = some (.loop (rec .done (some c))) ∧ W.heap[w.heap.size]? = some (.deferred (some [])))
      W1 hb1
      (fun s A B hs ht => ⟨hIT s A B hs.1 ht, hTk A B _ _ (by omega) hs.2.1 ht, hTk A B _ _ (Nat.le_refl _) hs.2.2 ht⟩)
      (fun s A B hs ht => by
        obtain ⟨c, hc, hl, hk⟩ := hs
        exact ⟨c, hIxT c s A B hc ht, hTk A B _ _ (by omega) hl ht, hTk A B _ _ (Nat.le_refl _) hk ht⟩)
      ?_ ⟨hI1, hL1, hK1⟩).mono ?_
    · rintro pre x W ⟨hi, hl, hk⟩ hlen
      have hlt : w.heap.size + 1 < W.heap.size := (Array.getElem?_eq_some_iff.1 hl).1
      have hy := run_yield (P := P) (args := encs x) hl (by rw [hrec]; exact hps x)
      rw [hrec] at hy
      refine ⟨fn, _, assign, body, hy, roundIn_of_wpIn hfn (hassign _ x W _ ⟨_, run_beginRound hl (by rw [hrec]), ?_⟩)⟩
      have hl2 : (W.putObj (w.heap.size + 1) (.loop { rec .ready none with state := .busy })).heap[w.heap.size + 1]? = some (.loop { rec .ready none with state := .busy }) := World.putObj_heap_same hlt
      have hk2 : (W.putObj (w.heap.size + 1) (.loop { rec .ready none with state := .busy })).heap[w.heap.size]? = some (.deferred (some [])) := (World.putObj_heap_other (by omega)).trans hk
      have hw2 : Kp W (W.putObj (w.heap.size + 1) (.loop { rec .ready none with state := .busy })) := hKb _ _ _ _ (by omega) hl rfl rfl
      refine wpIn_mono (hbody _ pre x _ (hI.putObj _ hi (by omega) hl rfl) hlen) ?_
      have fin : ∀ (jump : Option Code) (W3 : World), KeepsFrom w.heap.size (W.putObj (w.heap.size + 1) (.loop { rec .ready none with state := .busy })) W3 →
          (Instr.endRound (w.heap.size + 1) jump).run P W3 = .ok (.bool jump.isNone) (W3.putObj (w.heap.size + 1) (.loop (rec (if jump.isNone then .ready else .done) jump))) ∧
          W3.heap[w.heap.size + 1]? = some (.loop { rec .ready none with state := .busy }) ∧
          (W3.putObj (w.heap.size + 1) (.loop (rec (if jump.isNone then .ready else .done) jump))).heap[w.heap.size + 1]? = some (.loop (rec (if jump.isNone then .ready else .done) jump)) ∧
          (W3.putObj (w.heap.size + 1) (.loop (rec (if jump.isNone then .ready else .done) jump))).heap[w.heap.size]? = some (.deferred (some [])) := fun jump W3 hk3 => by
        have hl3 := hk3.same _ _ (by omega) hl2 rfl
        have := run_endRound (P := P) jump hl3
        rw [hrec] at this ⊢
        exact ⟨this, by rw [hrec] at hl3; exact hl3, World.putObj_heap_same (Array.getElem?_eq_some_iff.1 hl3).1, (World.putObj_heap_other (by omega)).trans (hk3.same _ _ (Nat.le_refl _) hk2 rfl)⟩
      rintro e a3 W3 hp
      cases e with
      | normal =>
        obtain ⟨hk3, hkp3, hi3⟩ := hp
        obtain ⟨hr, hl3, hl4, hk4⟩ := fin none W3 hk3
        exact ⟨_, _, hr, .inl ⟨rfl, ⟨hI.putObj _ hi3 (by omega) hl3 rfl, hl4, hk4⟩, hKt (hKt hw2 hkp3) (hKb _ _ _ _ (by omega) hl3 rfl rfl)⟩⟩
      | ret =>
        obtain ⟨hk3, hi3⟩ := hp
        obtain ⟨hr, hl3, hl4, hk4⟩ := fin (some .ret) W3 hk3
        exact ⟨_, _, hr, .inr ⟨rfl, .ret, (hIx _).putObj _ hi3 (by omega) hl3 rfl, hl4, hk4⟩⟩
      | exit id =>
        obtain ⟨hk3, hi3⟩ := hp
        obtain ⟨hr, hl3, hl4, hk4⟩ := fin (some (.exit id)) W3 hk3
        exact ⟨_, _, hr, .inr ⟨rfl, .exit id, (hIx _).putObj _ hi3 (by omega) hl3 rfl, hl4, hk4⟩⟩
      | goto t =>
        obtain ⟨hk3, hi3⟩ := hp
        obtain ⟨hr, hl3, hl4, hk4⟩ := fin (some (.goto t)) W3 hk3
        exact ⟨_, _, hr, .inr ⟨rfl, .goto t, (hIx _).putObj _ hi3 (by omega) hl3 rfl, hl4, hk4⟩⟩
      | panic ch => exact hp.elim
      | outgrown => exact hp.elim
    · rintro e W2 ⟨⟨v, rfl⟩, (⟨xs, hS, hi, hl, hk⟩ | ⟨pre, hSp, c, hi, hl, hk⟩)⟩
      · exact ⟨none, _, by have := run_endLoop (P := P) hl (by rw [hrec]; simp); rw [hrec] at this; exact this, hdone _ xs _ (Nat.le_refl _) hS (hI.putObj _ hi (by omega) hl rfl) ((World.putObj_heap_other (by omega)).trans hk)⟩
      · exact ⟨some c, _, by have := run_endLoop (P := P) hl (by rw [hrec]; simp); rw [hrec] at this; exact this, hstop _ c pre _ (Nat.le_refl _) hSp ((hIx c).putObj _ hi (by omega) hl rfl) ((World.putObj_heap_other (by omega)).trans hk)⟩

end Go.Proofs.YtllhbgmadiclcaaGreatDoor
