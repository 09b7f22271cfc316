import Derived.OrdersIn
import Derived.Test.YtllhbgmadiclcaaGreatDoorMgG
import Derived.Test.YtllhbgmadiclcaaGreatDoorMgH
namespace Go.Proofs.YtllhbgmadiclcaaGreatDoor
open Go.RowKit
set_option linter.unusedVariables false

section
variable {P : Program} {ops : Array Oper} {Q : Exit → Act → World → Prop} {S : World → Prop} {l n z : Nat}
def isDefer : Op → Bool
  | .defer _ => true
  | _ => false
def noDefer (ops : Array Oper) : Bool := ops.all fun o => !(isDefer o.op)
theorem noDefer_spec (h : noDefer ops = true) {i : Nat} {o : Oper} (ho : ops[i]? = some o) : ∀ c, o.op ≠ .defer c := fun c e => by
  obtain ⟨hi, rfl⟩ := Array.getElem?_eq_some_iff.1 ho
  have := Array.all_eq_true.1 h i hi
  rw [e] at this
  simp [isDefer] at this
theorem oper_in {o : Oper} {a : Act} {w : World} {K : Act → World → Prop} (hd : ∀ c, o.op ≠ .defer c) (h : o.wp P a w K Q) : o.wpIn (Fence.wide.inRound l) n P a w K Q := by
  refine ⟨fun f _ => trivial, ?_⟩
  rw [Oper.semAt_eq _ _ _ hd]
  unfold Oper.wp at h
  generalize (execOp a.eval o).run P w = r at *
  cases r with
  | ok x w' =>
    cases x with
    | value v => exact h
    | skip => exact h
    | defer d => exact h
    | enter f args => exact ⟨fun e => (by cases e), (callsIn_wide (n := n - 1)).2 h⟩
    | row r args =>
      refine ⟨fun e => (by cases e), fun c cs _ => ?_⟩
      obtain ⟨v, w', h1, h2⟩ := h c cs
      exact ⟨v, w', h1, stepsIn_wide.2 h2⟩
    | _ => exact h.elim
  | halt x w' => cases x <;> exact h
theorem wpOp_in (hd : noDefer ops = true) (hq : ¬ LetsOut Q) {i : Nat} {K : Act → World → Prop} {a : Act} {w : World} (h : wpOp P ops Q i K a w) : wpOpIn (Fence.wide.inRound l) n P ops Q i K a w := by
  unfold wpOp at h
  unfold wpOpIn
  cases ho : ops[i]? with
  | none => simpa [ho] using h
  | some o =>
    simp only [ho] at h ⊢
    split
    · rename_i hw
      rw [if_pos hw] at h
      exact oper_in (noDefer_spec hd ho) (h.resolve_right (fun q => hq q.2))
    · rename_i hw
      rw [if_neg hw] at h
      exact ⟨fun f _ => trivial, h⟩
theorem wpAny_in (hd : noDefer ops = true) (hq : ¬ LetsOut Q) : ∀ (k : Nat) (b : Array Bool) (a : Act) (w : World), wpAny P .any ops Q k b a w → wpAnyIn (Fence.wide.inRound l) n P .any ops Q k b a w
  | 0, _, _, _, h => h
  | k + 1, b, a, w, h => ⟨h.1, fun i hi => wpOp_in hd hq (wpOp_mono (fun a' w' h' => wpAny_in hd hq k _ a' w' h') (h.2 i hi))⟩
theorem Lt.beginIn {id : Nat} {a : Act} {w : World} (z : Nat) (S : World → Prop) (hm : P.follows .mixedOrders = true) (hd : noDefer ops = true) (hq : ¬ LetsOut Q) (h : Lt P ops Q S z ops.size (Array.replicate ops.size false) a w.drew) : (Code.region id ops true).wpIn (Fence.wide.inRound l) n P Q a w :=
  wpIn_region_any hm (wpAny_in hd hq _ _ _ _ (Lt.any _ _ _ _ h))
end
end Go.Proofs.YtllhbgmadiclcaaGreatDoor
namespace Go.Proofs.YtllhbgmadiclcaaGreatDoor
open Go.RowKit
set_option linter.unusedVariables false

/-- What a row of records holds at each place. -/
structure ValL (w : World) (a : Option Addr) (is : List T3) (vals : Nat → RV) (i : Nat) : Prop where
  cn : (vals i).cn = (qx is i).code.length
  ln : (vals i).ln = (qx is i).looks.length
  out : (vals i).out = (qx is i).out
  row : ∃ b off, a = some ⟨b, off, none⟩ ∧ w.cell? ⟨b, off + i * 3, none⟩ = some (vals i).cv ∧ w.cell? ⟨b, off + i * 3 + 1, none⟩ = some (vals i).lv ∧ w.cell? ⟨b, off + i * 3 + 2, none⟩ = some (.string (vals i).out)
  l1 : Lst okI zI w (vals i).ca (vals i).cc (cI (qx is i).code)
  l2 : Lst okG zG w (vals i).la (vals i).lc (cG (qx is i).looks)
  b1 : (qx is i).code.length ≤ 10000
  b2 : (qx is i).looks.length ≤ 10000
  bo : (qx is i).out.size ≤ maxLen
  la : ∃ lb lf, (vals i).la = some ⟨lb, lf, none⟩
  c1 : 1 ≤ (qx is i).code.length
  r3 : Row3 w (vals i).ca (qx is i).code
  rg : RowG w (vals i).la (qx is i).looks
theorem RowL.vals {w : World} {a : Option Addr} {is : List T3} (h : RowL w a is) : ∃ vals : Nat → RV, ∀ i, i < is.length → ValL w a is vals i := by
  have h1 : ∀ i, ∃ v : RV, i < is.length → ValL w a is (fun _ => v) i := fun i => by
    by_cases hi : i < is.length
    · obtain ⟨b, off, ha, ca, cc, la, lc, h1, h2, h3, h4, h5, h6, h7, h8, h9, h10, h11, h12⟩ := h i hi
      exact ⟨⟨ca, (qx is i).code.length, cc, la, (qx is i).looks.length, lc, (qx is i).out⟩, fun _ => ⟨rfl, rfl, rfl, ⟨b, off, ha, h1, h2, h3⟩, h4, h5, h6, h7, h8, h9, h10, h11, h12⟩⟩
    · exact ⟨⟨none, 0, 0, none, 0, 0, ⟨#[]⟩⟩, fun q => (hi q).elim⟩
  refine ⟨fun i => Classical.choose (h1 i), fun i hi => ?_⟩
  have h2 := Classical.choose_spec (h1 i) hi
  exact ⟨h2.cn, h2.ln, h2.out, h2.row, h2.l1, h2.l2, h2.b1, h2.b2, h2.bo, h2.la, h2.c1, h2.r3, h2.rg⟩
theorem cell_same {w A : World} (hk : ∀ k, k < w.heap.size → A.heap[k]? = w.heap[k]?) {p : Addr} {v : Value} (h : w.cell? p = some v) : A.cell? p = some v := (World.cell?_of_block (hk _ (World.block_lt_of_cell? _ _ h))).trans h
theorem RowT.sameB {w A : World} {qa : Option Addr} {xs : List Cel3} (h : RowT w qa xs) (hk : ∀ k, k < w.heap.size → A.heap[k]? = w.heap[k]?) : RowT A qa xs := fun i x hx => by
  obtain ⟨b, off, e, q1, q2, q3⟩ := h i x hx
  exact ⟨b, off, e, cell_same hk q1, cell_same hk q2, cell_same hk q3⟩
theorem Lst.sameB {ok : Cel3 → Prop} {z : Cel3} {w A : World} {qa : Option Addr} {qc : Nat} {xs : List Cel3} (h : Lst ok z w qa qc xs) (hk : ∀ k, k < w.heap.size → A.heap[k]? = w.heap[k]?) : Lst ok z A qa qc xs := ⟨h.le, h.cap, h.capm, h.row.sameB hk, h.ok⟩

/-- The blocks that nothing turns. -/
def fixB (lo mc bp Bl Bs k : Nat) : Prop := k < lo ∨ k = mc ∨ k = bp ∨ k = Bl ∨ k = Bs
def StM (lo mc bp Bl Bs : Nat) (w1 A : World) : Prop := w1.heap.size ≤ A.heap.size ∧ ∀ k, fixB lo mc bp Bl Bs k → A.heap[k]? = w1.heap[k]?
def KpM (lo m1 m2 mc bp Bl Bs : Nat) (A B : World) : Prop := A.heap.size ≤ B.heap.size ∧ ∀ k, (fixB lo mc bp Bl Bs k ∨ k = m1 ∨ k = m2) → B.heap[k]? = A.heap[k]?
def MSM (ra : List T3) (fc : Value → Option Nat) (m1 m2 k : Nat) (A : World) : Prop := ∃ n1 n2 f1 f2 rep1 rep2, Nums zI 124 A m1 n1 f1 rep1 ∧ Nums zG 130 A m2 n2 f2 rep2 ∧ CntI ra n1 n2 rep1 rep2 fc ∧ n1 ≤ (ra.length + k) * 10000 ∧ n2 ≤ (ra.length + k) * 10000
theorem MSM.same {ra : List T3} {fc : Value → Option Nat} {m1 m2 k : Nat} {A B : World} (h : MSM ra fc m1 m2 k A) (e1 : B.heap[m1]? = A.heap[m1]?) (e2 : B.heap[m2]? = A.heap[m2]?) : MSM ra fc m1 m2 k B := by
  obtain ⟨n1, n2, f1, f2, rep1, rep2, h1, h2, h3⟩ := h
  exact ⟨n1, n2, f1, f2, rep1, rep2, h1.same e1, h2.same e2, h3⟩

open Classical in
theorem those_stops (n lo m1 m2 mc bp Bl Bs nc qc : Nat) (qb : Option Addr) (fc : Value → Option Nat) (ra rb : List T3) (vals : Nat → RV) (w₀ w1 : World) (hn : 1 ≤ n) (hlo : w₀.heap.size = lo) (h01 : ∀ k, k < lo → w1.heap[k]? = w₀.heap[k]?) (hl1 : lo ≤ w1.heap.size)
    (hv : ∀ i, i < rb.length → ValL w₀ qb rb vals i) (d1 : ¬ fixB lo mc bp Bl Bs m1) (d2 : ¬ fixB lo mc bp Bl Bs m2) (d3 : m1 ≠ m2) (s1 : m1 < w1.heap.size) (s2 : m2 < w1.heap.size)
    (hmc : MapK 69 w1 mc nc fc) (hbp : w1.heap[bp]? = some (.cells #[.map (some m1), .map (some m2), .map (some mc)] 62 (0, 0))) (hBl : w1.cell? ⟨Bl, 0, none⟩ = some (.slice qb rb.length qc)) (hBs : w1.cell? ⟨Bs, 0, none⟩ = some (.func (.func 27) #[] #[.pointer (some ⟨bp, 0, none⟩)]))
    (hM : MSM ra fc m1 m2 0 w1) (hla : ra.length ≤ 50000) (hlb : rb.length ≤ 50000) :
    SeqStopsT Fence.wide n Tryz.prog 46 #[.pointer (some ⟨Bl, 0, none⟩), .pointer (some ⟨Bs, 0, none⟩)] (fun x : At rb.length => #[(vals x.1).agg]) (TX m1 m2) (KpM lo m1 m2 mc bp Bl Bs) (fun ys => ys = comI rb.length (fun i => decide (qx rb i ∉ ra)) rb.length) (fun _ => True) rb.length w1 := fun l J Jx W hW hJ hJx hY h0 => by
  have hmc1 := hmc.lt
  have hbp1 := (Array.getElem?_eq_some_iff.1 hbp).1
  have hBl1 := World.block_lt_of_cell? _ _ hBl
  have hBs1 := World.block_lt_of_cell? _ _ hBs
  dsimp only at hBl1 hBs1
  have hlt : ∀ k, fixB lo mc bp Bl Bs k → k < w1.heap.size := fun k hk => by
    rcases hk with h | h | h | h | h <;> omega
  have e0 : ∀ A, StM lo mc bp Bl Bs w1 A → ∀ k, k < w₀.heap.size → A.heap[k]? = w₀.heap[k]? := fun A hA k hk => (hA.2 k (Or.inl (by omega))).trans (h01 k (by omega))
  have hcell : ∀ A, StM lo mc bp Bl Bs w1 A → ∀ b j v, fixB lo mc bp Bl Bs b → w1.cell? ⟨b, j, none⟩ = some v → A.cell? ⟨b, j, none⟩ = some v := fun A hA b j v hb hc => (World.cell?_of_block (a := ⟨b, j, none⟩) (hA.2 b hb)).trans hc
  refine those1X n l Bl Bs bp rb.length qc rb.length m1 m2 qb vals _ hn (Nat.le_refl _) (by omega) J Jx (KpM lo m1 m2 mc bp Bl Bs) (StM lo mc bp Bl Bs w1) (MSM ra fc m1 m2) hJ ?_ ?_ ?_ ?_ hY ?_ ?_ ?_ ?_ ?_ W ?_ ?_ h0
  · exact fun A B hA hT => ⟨Nat.le_trans hA.1 hT.keep.size, fun k hk => (hT.keep.block k (Nat.lt_of_lt_of_le (hlt k hk) hA.1) (fun e => by rcases e with rfl | rfl; exact d1 hk; exact d2 hk)).trans (hA.2 k hk)⟩
  · exact fun A B hA hK => ⟨Nat.le_trans hA.1 hK.1, fun k hk => (hK.2 k (Or.inl hk)).trans (hA.2 k hk)⟩
  · rintro k A B hA hb
    obtain ⟨n1, n2, f1, f2, rep1, rep2, h1, h2, h3⟩ := hA
    exact MSM.same ⟨n1, n2, f1, f2, rep1, rep2, h1, h2, h3⟩ (hb.block _ h1.map.lt) (hb.block _ h2.map.lt)
  · exact fun k A B hA hK => hA.same (hK.2 m1 (Or.inr (Or.inl rfl))) (hK.2 m2 (Or.inr (Or.inr rfl)))
  · exact fun A hA => ⟨Nat.lt_of_lt_of_le s1 hA.1, Nat.lt_of_lt_of_le s2 hA.1⟩
  · exact fun A hA => hcell A hA Bl 0 _ (by unfold fixB; omega) hBl
  · exact fun A hA => hcell A hA Bs 0 _ (by unfold fixB; omega) hBs
  · intro A hA i hi
    obtain ⟨b, off, e, c1, c2, c3⟩ := (hv i hi).row
    exact ⟨b, off, e, cell_same (e0 A hA) c1, cell_same (e0 A hA) c2, cell_same (e0 A hA) c3⟩
  · intro A hA i hi hMS
    obtain ⟨n1, n2, f1, f2, rep1, rep2, g1, g2, g3, g4, g5⟩ := hMS
    have hV := hv i hi
    have hb1 := hV.b1
    have hb2 := hV.b2
    have hc := mergeClos m1 m2 mc n1 n2 nc (vals i).cn (vals i).ln (vals i).cc (vals i).lc bp f1 f2 fc rep1 rep2 (vals i).ca (vals i).la (vals i).out (cI (qx rb i).code) (cG (qx rb i).looks) A g1 g2 (hmc.same (hA.2 mc (by unfold fixB; omega))) d3 (fun e => d1 (by unfold fixB; omega)) (fun e => d2 (by unfold fixB; omega))
      (by rw [hV.cn]; simp [cI]) (by rw [hV.ln]; simp [cG]) (hV.l1.sameB (e0 A hA)) (hV.l2.sameB (e0 A hA)) (by rw [hV.cn]; omega) (by rw [hV.ln]; omega) (by rw [hV.out]; exact hV.bo) ((hA.2 bp (by unfold fixB; omega)).trans hbp)
    refine hc.mono ?_
    rintro e w' ⟨n1', f1', rep1', j, n2', f2', rep2', k, rfl, q1, q2, q3, q4, q5, q6, q7, q8, q9, q10, q11⟩
    rw [hV.cn] at q7
    rw [hV.ln] at q8
    refine ⟨⟨q11, fun k hk _ => by rcases hk with rfl | rfl; exact q1.map.isMap; exact q2.map.isMap⟩, ⟨n1', n2', f1', f2', rep1', rep2', q1, q2, g3.ext q3 q4, by omega, by omega⟩, ?_⟩
    have ht := (g3.ext q3 q4).tells q1.num q2.num (qx rb i) q5 q6 q9 q10
    rw [hV.out]
    have : decide ((fc (keyV j k (qx rb i).out)).getD 0 = 0) = decide (qx rb i ∉ ra) := decide_eq_decide.2 ht
    rw [← this]
  · exact ⟨hW.size, fun k hk => hW.block k (hlt k hk)⟩
  · exact hM.same (hW.block _ s1) (hW.block _ s2)
end Go.Proofs.YtllhbgmadiclcaaGreatDoor
