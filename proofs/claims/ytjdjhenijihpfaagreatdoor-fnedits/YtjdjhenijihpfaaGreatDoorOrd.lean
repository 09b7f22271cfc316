import Derived.Test.YtjdjhenijihpfaaGreatDoorSpO
import Derived.Test.YtjdjhenijihpfaaGreatDoorProg
import Derived.WalkKit
import Derived.Deep.RegionHeld3
import Derived.Deep.AppendLies
namespace Go.Proofs.YtjdjhenijihpfaaGreatDoor
open Go.RowKit
set_option linter.unusedVariables false

/-- The first n sources of the row bear the marks from K on. -/
def MkS (K n : Nat) (ys : List Value) : Prop := ∀ i, i < n → ys[i * 2]? = some (.string (mt (K + 2 * i))) ∧ ys[i * 2 + 1]? = some (.string (mt (K + 2 * i + 1)))
theorem mkS_set {K k : Nat} {ys : List Value} (h : MkS K k ys) (hx : k * 2 + 1 < ys.length) :
    MkS K (k + 1) ((ys.set (k * 2) (.string (mt (K + 2 * k)))).set (k * 2 + 1) (.string (mt (K + 2 * k + 1)))) := by
  intro i hi
  rcases Nat.lt_or_ge i k with hl | hl
  · obtain ⟨h1, h2⟩ := h i hl
    rw [set2_old _ _ (by omega), set2_old _ _ (by omega)]
    exact ⟨h1, h2⟩
  · obtain rfl : i = k := by omega
    exact ⟨set2_0 _ _ hx, set2_1 _ _ hx⟩

/-- The marks are read back. -/
def RdS (K n : Nat) (w : World) (g : Nat) : Prop := ∀ i, i < n → w.cell? ⟨g, i * 2, none⟩ = some (.string (mt (K + 2 * i))) ∧ w.cell? ⟨g, i * 2 + 1, none⟩ = some (.string (mt (K + 2 * i + 1)))
theorem MkS.read {w : World} {B g n cap K : Nat} {ys : List Value} (h : w.ownsRow B 60 2 (.slice (some ⟨g, 0, none⟩) n cap) n ys) (hm : MkS K n ys) : RdS K n w g := by
  intro i hi
  obtain ⟨h1, h2⟩ := hm i hi
  exact ⟨by rw [h.cellAt _ (by omega)]; exact h1, by rw [h.cellAt _ (by omega)]; exact h2⟩
theorem RdS.below {w w' : World} {g n K : Nat} (h : RdS K n w g) (hb : Below w.heap.size w w') : RdS K n w' g := fun i hi =>
  ⟨cell_below hb (h i hi).1, cell_below hb (h i hi).2⟩

/-! ### targets -/
/-- The mark of target i's name. -/
def kT (cl : Nat → Nat) (K : Nat) : Nat → Nat
  | 0 => K
  | i + 1 => kT cl K i + 1 + 3 * cl i
theorem kT_le (cl : Nat → Nat) (K : Nat) : ∀ i n, i ≤ n → kT cl K i ≤ kT cl K n := by
  intro i n h
  induction n with
  | zero => obtain rfl : i = 0 := by omega
            exact Nat.le_refl _
  | succ n ih =>
    rcases Nat.lt_or_ge i (n + 1) with h1 | h1
    · have := ih (by omega)
      simp only [kT]; omega
    · obtain rfl : i = n + 1 := by omega
      exact Nat.le_refl _
theorem kT_bound (cl : Nat → Nat) (K : Nat) : ∀ n, (∀ i, i < n → cl i ≤ 1048576) → kT cl K n ≤ K + n * 3145729 := by
  intro n
  induction n with
  | zero => intro _; simp [kT]
  | succ n ih =>
    intro h
    have := ih (fun i hi => h i (by omega))
    have := h n (by omega)
    simp only [kT]
    rw [Nat.succ_mul]; omega
structure RowsT (w : World) (lo hi : Nat) (v : Value) (n : Nat) (cl : Nat → Nat) (xs : List Value) (cv : Nat → Value) : Prop where
  row : RowO w lo hi 64 2 v n xs
  sec : ∀ i, i < n → xs[i * 2 + 1]? = some (cv i)
  code : ∀ i, i < n → ∃ ys, RowO w lo hi 84 3 (cv i) (cl i) ys
  apart : ∀ i j, i < n → j < n → i ≠ j → ∀ b, (cv i).ownBlock = some b → (cv j).ownBlock ≠ some b
theorem OwnT1.rows {w : World} {lo hi : Nat} {v : Value} {ts : List T2} {xs : List Value} {cv : Nat → Value} (h : OwnT1 w lo hi v ts xs cv) : RowsT w lo hi v ts.length (fun i => (tx ts i).code.length) xs cv :=
  ⟨h.row, fun i hi => (h.fil i hi).2, fun i hi => by obtain ⟨ys, h1, _⟩ := h.code i hi; exact ⟨ys, h1⟩, fun i j hi hj hne b e1 e2 => by
    rcases Nat.lt_or_gt_of_ne hne with h1 | h1
    · exact h.apart i j h1 hj b e1 e2
    · exact h.apart j i h1 hi b e2 e1⟩
theorem RowsT.below {w w' : World} {lo hi n : Nat} {v : Value} {cl : Nat → Nat} {xs : List Value} {cv : Nat → Value} (h : RowsT w lo hi v n cl xs cv) (hb : Below w.heap.size w w') : RowsT w' lo hi v n cl xs cv :=
  ⟨h.row.below hb, h.sec, fun i hi => by obtain ⟨ys, h1⟩ := h.code i hi; exact ⟨ys, h1.below hb⟩, h.apart⟩
theorem RowsT.keep {w w' : World} {lo hi lo' hi' n : Nat} {v : Value} {cl : Nat → Nat} {xs : List Value} {cv : Nat → Value} (h : RowsT w lo hi v n cl xs cv) (hk : KeepR lo' hi' w w') (hd : hi ≤ lo' ∨ hi' ≤ lo) : RowsT w' lo hi v n cl xs cv :=
  ⟨h.row.keep hk hd, h.sec, fun i hi => by obtain ⟨ys, h1⟩ := h.code i hi; exact ⟨ys, h1.keep hk hd⟩, h.apart⟩
theorem RowsT.keepO {w w' : World} {lo hi n : Nat} {v u : Value} {e sz m B : Nat} {zs : List Value} {cl : Nat → Nat} {xs : List Value} {cv : Nat → Value} (h : RowsT w lo hi v n cl xs cv) (ho : w.ownsRow B e sz u m zs) (hk : KeepO u.ownBlock w w') (h1 : 64 ≠ e) (h2 : 84 ≠ e) : RowsT w' lo hi v n cl xs cv :=
  ⟨h.row.same fun b eb => hk b (h.row.own.lt b eb).2 (fun e' => neT h.row.own ho h1 b eb e'.symm), h.sec, fun i hi => by
    obtain ⟨ys, k1⟩ := h.code i hi
    exact ⟨ys, k1.same fun b eb => hk b (k1.own.lt b eb).2 (fun e' => neT k1.own ho h2 b eb e'.symm)⟩, h.apart⟩
theorem RowsT.store {w : World} {lo hi n g cap : Nat} {cl : Nat → Nat} {xs : List Value} {cv : Nat → Value} (h : RowsT w lo hi (.slice (some ⟨g, 0, none⟩) n cap) n cl xs cv) (m : Nat) (u : Value) : RowsT (w.setCell ⟨g, m * 2, none⟩ u) lo hi (.slice (some ⟨g, 0, none⟩) n cap) n cl (xs.set (m * 2) u) cv :=
  ⟨⟨(h.row.own.stored (m * 2) u).1, h.row.top⟩, fun i hi => by rw [List.getElem?_set, if_neg (by omega)]; exact h.sec i hi, fun i hi => by
    obtain ⟨ys, k1⟩ := h.code i hi
    exact ⟨ys, k1.same fun b eb => Below.heap_setCell w ⟨g, m * 2, none⟩ u b (by show b ≠ g; intro e; subst e; exact neT h.row.own k1.own (by decide) b rfl eb)⟩, h.apart⟩
theorem RowsT.mark {w w' : World} {lo hi n m : Nat} {v : Value} {cl : Nat → Nat} {xs zs : List Value} {cv : Nat → Value} (h : RowsT w lo hi v n cl xs cv) (hm : m < n) (hk : KeepO (cv m).ownBlock w w') (hn : RowO w' lo hi 84 3 (cv m) (cl m) zs) : RowsT w' lo hi v n cl xs cv := by
  obtain ⟨y0, k0⟩ := h.code m hm
  refine ⟨h.row.same fun b eb => hk b (h.row.own.lt b eb).2 (fun e' => neT h.row.own k0.own (by decide) b eb e'.symm), h.sec, fun i hi => ?_, h.apart⟩
  by_cases hi' : i = m
  · subst hi'; exact ⟨zs, hn⟩
  · obtain ⟨ys, k1⟩ := h.code i hi
    exact ⟨ys, k1.same fun b eb => hk b (k1.own.lt b eb).2 (fun e' => h.apart i m hi hm hi' b eb e'.symm)⟩
/-- The first m targets bear the marks. -/
def MkTm (w : World) (lo hi K : Nat) (cl : Nat → Nat) (cv : Nat → Value) (m : Nat) (ys : List Value) : Prop := ∀ i, i < m → ys[i * 2]? = some (.string (mt (kT cl K i))) ∧ ∃ zs, RowO w lo hi 84 3 (cv i) (cl i) zs ∧ MkI (kT cl K i + 1) (cl i) zs
theorem MkTm.below {w w' : World} {lo hi K m : Nat} {cl : Nat → Nat} {cv : Nat → Value} {ys : List Value} (h : MkTm w lo hi K cl cv m ys) (hb : Below w.heap.size w w') : MkTm w' lo hi K cl cv m ys := fun i hi => by
  obtain ⟨h1, zs, h2, h3⟩ := h i hi
  exact ⟨h1, zs, h2.below hb, h3⟩
theorem MkTm.keep {w w' : World} {lo hi lo' hi' K m : Nat} {cl : Nat → Nat} {cv : Nat → Value} {ys : List Value} (h : MkTm w lo hi K cl cv m ys) (hk : KeepR lo' hi' w w') (hd : hi ≤ lo' ∨ hi' ≤ lo) : MkTm w' lo hi K cl cv m ys := fun i hi => by
  obtain ⟨h1, zs, h2, h3⟩ := h i hi
  exact ⟨h1, zs, h2.keep hk hd, h3⟩
theorem MkTm.store {w : World} {lo hi K m n g cap : Nat} {cl : Nat → Nat} {cv : Nat → Value} {ys : List Value} (h : MkTm w lo hi K cl cv m ys) (hr : RowsT w lo hi (.slice (some ⟨g, 0, none⟩) n cap) n cl ys cv) (u : Value) : MkTm (w.setCell ⟨g, m * 2, none⟩ u) lo hi K cl cv m (ys.set (m * 2) u) := fun i hi => by
  obtain ⟨h1, zs, h2, h3⟩ := h i hi
  exact ⟨by rw [List.getElem?_set, if_neg (by omega)]; exact h1, zs, h2.same fun b eb => Below.heap_setCell w ⟨g, m * 2, none⟩ u b (by show b ≠ g; intro e; subst e; exact neT hr.row.own h2.own (by decide) b rfl eb), h3⟩
theorem MkTm.mark {w w' : World} {lo hi K m n : Nat} {v : Value} {cl : Nat → Nat} {cv : Nat → Value} {ys zs : List Value} (h : MkTm w lo hi K cl cv m ys) (hr : RowsT w lo hi v n cl ys cv) (hm : m < n) (hk : KeepO (cv m).ownBlock w w') (hn : RowO w' lo hi 84 3 (cv m) (cl m) zs) (hz : MkI (kT cl K m + 1) (cl m) zs) (hy : ys[m * 2]? = some (.string (mt (kT cl K m)))) : MkTm w' lo hi K cl cv (m + 1) ys := fun i hi => by
  rcases Nat.lt_or_ge i m with hlt | hge
  · obtain ⟨h1, zs', h2, h3⟩ := h i hlt
    exact ⟨h1, zs', h2.same fun b eb => hk b (h2.own.lt b eb).2 (fun e' => hr.apart i m (by omega) hm (by omega) b eb e'.symm), h3⟩
  · obtain rfl : i = m := by omega
    exact ⟨hy, zs, hn, hz⟩
/-- All blocks but the row's and the codes' stay. -/
def KeepTs (v : Value) (cv : Nat → Value) (n : Nat) (w w' : World) : Prop := ∀ b, b < w.heap.size → v.ownBlock ≠ some b → (∀ i, i < n → (cv i).ownBlock ≠ some b) → w'.heap[b]? = w.heap[b]?
theorem KeepTs.below {v : Value} {cv : Nat → Value} {n : Nat} {w w' w2 : World} (h : KeepTs v cv n w w') (hs : w.heap.size ≤ w'.heap.size) (hb : Below w'.heap.size w' w2) : KeepTs v cv n w w2 := fun b hl h1 h2 => by
  rw [hb.block b (by omega)]; exact h b hl h1 h2
theorem KeepTs.set {g n cap m : Nat} {cv : Nat → Value} {w w' : World} (h : KeepTs (.slice (some ⟨g, 0, none⟩) n cap) cv n w w') (u : Value) : KeepTs (.slice (some ⟨g, 0, none⟩) n cap) cv n w (w'.setCell ⟨g, m, none⟩ u) := fun b hl h1 h2 => by
  rw [Below.heap_setCell w' ⟨g, m, none⟩ u b (fun e => h1 (by rw [e]; rfl))]; exact h b hl h1 h2
theorem KeepTs.mark {v : Value} {cv : Nat → Value} {n m : Nat} {w w' w2 : World} (h : KeepTs v cv n w w') (hs : w.heap.size ≤ w'.heap.size) (hm : m < n) (hk : KeepO (cv m).ownBlock w' w2) : KeepTs v cv n w w2 := fun b hl h1 h2 => by
  rw [hk b (by omega) (fun e => h2 m hm e.symm)]; exact h b hl h1 h2
theorem KeepTs.keepR {v : Value} {cv : Nat → Value} {cl : Nat → Nat} {n lo hi : Nat} {xs : List Value} {w w' : World} (h : KeepTs v cv n w w') (hr : RowsT w lo hi v n cl xs cv) : KeepR lo hi w w' := fun b hb ho => h b hb (fun e => by have h1 := (hr.row.own.lt b e).1; have h2 := hr.row.top b e; omega) (fun i hi e => by
  obtain ⟨ys, k⟩ := hr.code i hi
  have h1 := (k.own.lt b e).1; have h2 := k.top b e; omega)
theorem code_slice {w : World} {lo hi : Nat} {v : Value} {n : Nat} {ys : List Value} (h : RowO w lo hi 84 3 v n ys) : ∃ va vc, v = .slice va n vc := by
  rcases own_cases h.own with ⟨hv, rfl⟩ | ⟨g', c', hv⟩
  · exact ⟨_, _, hv⟩
  · exact ⟨_, _, hv⟩

end Go.Proofs.YtjdjhenijihpfaaGreatDoor
namespace Go.Proofs.YtjdjhenijihpfaaGreatDoor
open Go.RowKit
set_option linter.unusedVariables false

theorem row_slice {w : World} {lo hi e sz : Nat} {v : Value} {n : Nat} {ys : List Value} (h : RowO w lo hi e sz v n ys) : ∃ va vc, v = .slice va n vc := by
  rcases own_cases h.own with ⟨hv, rfl⟩ | ⟨g', c', hv⟩
  · exact ⟨_, _, hv⟩
  · exact ⟨_, _, hv⟩
/-- A space's rows bear the marks. -/
def MkSp (w : World) (lo hi K : Nat) (v1 v2 : Value) (n1 n2 : Nat) (cl : Nat → Nat) : Prop := (∃ ys, RowO w lo hi 60 2 v1 n1 ys ∧ MkS K n1 ys) ∧ ∃ ys cv, RowsT w lo hi v2 n2 cl ys cv ∧ MkTm w lo hi (K + 2 * n1) cl cv n2 ys
theorem MkSp.below {w w' : World} {lo hi K n1 n2 : Nat} {v1 v2 : Value} {cl : Nat → Nat} (h : MkSp w lo hi K v1 v2 n1 n2 cl) (hb : Below w.heap.size w w') : MkSp w' lo hi K v1 v2 n1 n2 cl := by
  obtain ⟨⟨ys, h1, h2⟩, zs, cv, h3, h4⟩ := h
  exact ⟨⟨ys, h1.below hb, h2⟩, zs, cv, h3.below hb, h4.below hb⟩

end Go.Proofs.YtjdjhenijihpfaaGreatDoor
namespace Go.Proofs.YtjdjhenijihpfaaGreatDoor
open Go.RowKit

section
variable {P : Program} {ops : Array Oper} {Q : Exit → Act → World → Prop} {S : World → Prop} {z : Nat}

/-- Whatever order is picked; S holds behind every operation but number z. -/
def Lt (P : Program) (ops : Array Oper) (Q : Exit → Act → World → Prop) (S : World → Prop) (z : Nat) : Nat → Array Bool → Act → World → Prop
  | 0, l, a, w => Region.ready .any ops l = [] ∧ Q .normal a w
  | n + 1, l, a, w => (Region.ready .any ops l = [] → Q .normal a w) ∧ ∀ i ∈ Region.ready .any ops l, wpOp P ops Q i (fun a' w' => (i ≠ z → S w') ∧ Lt P ops Q S z n (l.setIfInBounds i true) a' w') a w
theorem Lt.any : ∀ (n : Nat) (l : Array Bool) (a : Act) (w : World), Lt P ops Q S z n l a w → wpAny P .any ops Q n l a w
  | 0, _, _, _, h => h
  | n + 1, _, _, _, h => ⟨h.1, fun i hi => wpOp_mono (fun a' w' h' => Lt.any n _ a' w' h'.2) (h.2 i hi)⟩
theorem Lt.begin {id : Nat} {a : Act} {w : World} (z : Nat) (S : World → Prop) (hm : P.follows .mixedOrders = true) (h : Lt P ops Q S z ops.size (Array.replicate ops.size false) a w.drew) : (Code.region id ops true).wp P Q a w := wp_region_any hm (Lt.any _ _ _ _ h)
theorem Lt.done {l : Array Bool} {a : Act} {w : World} (hr : Region.ready .any ops l = []) (h : Q .normal a w) : ∀ n, Lt P ops Q S z n l a w
  | 0 => ⟨hr, h⟩
  | _ + 1 => ⟨fun _ => h, by rw [hr]; simp⟩
theorem Lt.step {i : Nat} {o : Oper} {n : Nat} {l : Array Bool} {a : Act} {w : World} (hr : Region.ready .any ops l = [i]) (ho : ops[i]? = some o)
    (h : ∀ K : Act → World → Prop, Shut (∀ a w, (i ≠ z → S w) → ((i ≠ z → S w) → Lt P ops Q S z n (l.setIfInBounds i true) a w) → K a w) → if Region.wanted o (yielded ops a.tmps) = true then Oper.wp P o a w K Q else K (a.put o.dst undef) w) : Lt P ops Q S z (n + 1) l a w := by
  refine ⟨fun h0 => (by rw [hr] at h0; cases h0), fun j hj => ?_⟩
  rw [hr] at hj
  obtain rfl : j = i := by simpa using hj
  exact wpOp_step ho (fun K hK => h K (fun a w hS hW => hK a w ⟨hS, hW hS⟩))
theorem Lt.take1 {i : Nat} {oi : Oper} {v : Value} (hi : ops[i]? = some oi) (hsel : ∀ (j : Nat) (o : Oper) cs b, ops[j]? = some o → o.op ≠ .select cs b)
    (hQ : ∀ c a w, Q (.panic c) (a.put oi.dst v) w → Q (.panic c) a w) (hz : ∀ oz, ops[z]? = some oz → ∃ e ∈ oz.after, Region.binds .any e = true ∧ e.on = i) :
    ∀ (n : Nat) (l : Array Bool) (a : Act) (w : World),
      (∀ j oj, ops[j]? = some oj → j ≠ i → l.getD j true = false → (∀ e ∈ oj.after, Region.binds .any e = true → e.on ≠ i) → oi.apart ops oj = true) →
      i ∈ Region.ready .any ops l → YieldsIf P ops S oi v a → S w → Lt P ops Q S z n (l.setIfInBounds i true) (a.put oi.dst v) w → Lt P ops Q S z (n + 1) l a w := by
  intro n
  induction n with
  | zero =>
    intro l a w _ hr hy hS H
    refine ⟨fun h => (by rw [h] at hr; cases hr), fun j hj => ?_⟩
    rcases Decidable.em (j = i) with rfl | hji
    · exact hy.wpOp hi hS ⟨fun _ => hS, H⟩
    · exact absurd (H.1 ▸ ready_mono hj hji) (by simp)
  | succ n ih =>
    intro l a w hf hr hy hS H
    refine ⟨fun h => (by rw [h] at hr; cases hr), fun j hj => ?_⟩
    rcases Decidable.em (j = i) with rfl | hji
    · exact hy.wpOp hi hS ⟨fun _ => hS, H⟩
    obtain ⟨hj0, oj, hoj, hall⟩ := mem_ready.1 hj
    have hno : ∀ e ∈ oj.after, Region.binds .any e = true → e.on ≠ i := fun e he hb heq => by
      have h1 := hall e he hb
      have h0 := (mem_ready.1 hr).1
      rw [heq] at h1
      rcases Nat.lt_or_ge i l.size with h' | h'
      · simp [h'] at h0 h1; rw [h0] at h1; cases h1
      · simp [Array.getElem?_eq_none h'] at h1
    have hjz : j ≠ z := fun e => by
      subst e
      obtain ⟨ed, h1, h2, h3⟩ := hz oj hoj
      exact hno ed h1 h2 h3
    have hf2 : ∀ k ok, ops[k]? = some ok → k ≠ i → (l.setIfInBounds j true).getD k true = false → (∀ e ∈ ok.after, Region.binds .any e = true → e.on ≠ i) → oi.apart ops ok = true := fun k ok hk hki hun hn => by
      refine hf k ok hk hki ?_ hn
      rcases Decidable.em (j = k) with rfl | hjk
      · exact hj0
      · rw [getD_set_ne true hjk] at hun; exact hun
    refine wpOp_mono (fun a' w' h3 => ⟨h3.2.1, ih (l.setIfInBounds j true) a' w' hf2 (ready_mono hr (Ne.symm hji)) h3.1 (h3.2.1 hjz) ?_⟩) (wpOp_putIf hoj (hf j oj hoj hji hj0 hno) (fun cs b => hsel i oi cs b hi) (fun cs b => hsel j oj cs b hoj) hQ hy (H.2 j (ready_mono hj hji)))
    rw [Array.setIfInBounds_comm _ _ hji]
    exact h3.2.2
def waits (ops : Array Oper) (z i : Nat) : Bool := match ops[z]? with
  | some o => o.after.any fun e => Region.binds .any e && e.on == i
  | none => true
theorem waits_spec {i : Nat} (h : waits ops z i = true) : ∀ oz, ops[z]? = some oz → ∃ e ∈ oz.after, Region.binds .any e = true ∧ e.on = i := by
  intro oz hoz
  unfold waits at h
  rw [hoz] at h
  obtain ⟨k, hk, he⟩ := Array.any_eq_true.1 h
  simp at he
  exact ⟨_, Array.getElem_mem hk, he.1, he.2⟩
theorem Lt.take {i : Nat} {oi : Oper} {v : Value} {n : Nat} {l : Array Bool} {a : Act} {w : World} (hi : ops[i]? = some oi) (hs : Region.noSelect ops = true) (hf : Region.free .any ops l i = true) (hr : (Region.ready .any ops l).contains i = true) (hz : waits ops z i = true)
    (hQ : ∀ c a w, Q (.panic c) (a.put oi.dst v) w → Q (.panic c) a w) (hS : S w) (hy : YieldsIf P ops S oi v a) (h : Lt P ops Q S z n (l.setIfInBounds i true) (a.put oi.dst v) w) : Lt P ops Q S z (n + 1) l a w :=
  Lt.take1 hi (Region.noSelect_spec hs) hQ (waits_spec hz) n l a w (Region.free_spec hi hf) (by simpa using hr) hy hS h
end

end Go.Proofs.YtjdjhenijihpfaaGreatDoor
