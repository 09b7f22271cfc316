import Derived.Test.YtmeojnaoljgieaeGreatDoorTMkT
import Derived.Test.YtmeojnaoljgieaeGreatDoorProg
import Derived.WalkKit
import Derived.Deep.RegionHeld3
import Derived.Deep.AppendLies
namespace Go.Proofs.YtmeojnaoljgieaeGreatDoor
open Go.RowKit
set_option linter.unusedVariables false
set_option maxHeartbeats 8000000
set_option maxRecDepth 100000
section
open Go.Deep
theorem step_call1 {f : Nat} {xi : Nat} {ty : TypeId} {W : World} {ops : Array Oper} {o : Oper} {a : Act} {K : Act -> World -> Prop} {Q : Exit -> Act -> World -> Prop} {E : Prop} (hgd : o.guard = none)
    (ho : o.op = .call { callee := .value (.func f), args := #[.tmp xi], argTypes := #[ty] }) (v1 : Value) (hx : a.eval (.tmp xi) = v1) {P : Value -> World -> Prop} (hc : Calls Tryz.prog f #[v1] W fun e w' => ∃ v, e = .returned v /\ P v w') (hfn : ∀ W : World, (callFunc f #[v1]).run Tryz.prog W = .ok (.enter f #[v1]) W) (h : ∀ v w', P v w' -> K (a.put o.dst v) w') :
    if Region.wanted o (yielded ops a.tmps) = true then Oper.wp Tryz.prog o a W K Q else E := by
  have hw : Region.wanted o (yielded ops a.tmps) = true := by simp [Region.wanted, hgd]
  have hrun : (execOp a.eval o).run Tryz.prog W = .ok (.enter f #[v1]) W := by
    unfold execOp
    rw [ho]
    simp [Act.eval] at hx
    simp [go_sem, Act.eval, hx]
    exact hfn W
  rw [if_pos hw]
  unfold Oper.wp
  rw [hrun, Oper.upon_enter]
  refine hc.mono ?_
  rintro e w' ⟨v, rfl, hp⟩
  exact h v w' hp
theorem step_call2 {f : Nat} {xi yi : Nat} {ty ty' : TypeId} {W : World} {ops : Array Oper} {o : Oper} {a : Act} {K : Act -> World -> Prop} {Q : Exit -> Act -> World -> Prop} {E : Prop} (hgd : o.guard = none)
    (ho : o.op = .call { callee := .value (.func f), args := #[.tmp xi, .tmp yi], argTypes := #[ty, ty'] }) (v1 v2 : Value) (hx : a.eval (.tmp xi) = v1) (hy : a.eval (.tmp yi) = v2) {P : Value -> World -> Prop} (hc : Calls Tryz.prog f #[v1, v2] W fun e w' => ∃ v, e = .returned v /\ P v w') (hfn : ∀ W : World, (callFunc f #[v1, v2]).run Tryz.prog W = .ok (.enter f #[v1, v2]) W) (h : ∀ v w', P v w' -> K (a.put o.dst v) w') :
    if Region.wanted o (yielded ops a.tmps) = true then Oper.wp Tryz.prog o a W K Q else E := by
  have hw : Region.wanted o (yielded ops a.tmps) = true := by simp [Region.wanted, hgd]
  have hrun : (execOp a.eval o).run Tryz.prog W = .ok (.enter f #[v1, v2]) W := by
    unfold execOp
    rw [ho]
    simp [Act.eval] at hx hy
    simp [go_sem, Act.eval, hx, hy]
    exact hfn W
  rw [if_pos hw]
  unfold Oper.wp
  rw [hrun, Oper.upon_enter]
  refine hc.mono ?_
  rintro e w' ⟨v, rfl, hp⟩
  exact h v w' hp
theorem step_appR {s x : Operand} {W : World} {ops : Array Oper} {o : Oper} {a : Act} {K : Act -> World -> Prop} {Q : Exit -> Act -> World -> Prop} {E : Prop} (hgd : o.guard = none)
    (ho : o.op = .call { callee := .builtin .append, args := #[s, x], argTypes := #[29, 29] }) (B g0 : Nat) (hs : a.eval s = .slice (some ⟨g0, 0, none⟩) 0 0) (hown : W.ownsRow B 39 3 (.slice (some ⟨g0, 0, none⟩) 0 0) 0 []) (d n cap : Nat) (xs : List Value) (hn : 0 < n) (hn2 : n <= 200) (hx : a.eval x = .slice (some ⟨d, 0, none⟩) n cap) (hc : W.ownsRow B 39 3 (.slice (some ⟨d, 0, none⟩) n cap) n xs) (h1 : ∀ u ∈ xs, u.oneCell' = true) (hB : B <= W.heap.size)
    (h : ∀ g' cap' w', w'.ownsRow B 39 3 (.slice (some ⟨g', 0, none⟩) n cap') n xs -> W.grownBy w' (some g0) -> K (a.put o.dst (.slice (some ⟨g', 0, none⟩) n cap')) w') :
    if Region.wanted o (yielded ops a.tmps) = true then Oper.wp Tryz.prog o a W K Q else E := by
  obtain ⟨i0, hi, hz0, hz1, hz2⟩ := info_parts Tryz.info39
  refine step_append_lies (w := W) hgd s x 29 ho B 39 i0 (.agg #[.string ⟨#[]⟩, .bool false, .string ⟨#[]⟩]) 3 40 Tryz.underlying29 hi hz0 hz1 hz2 rfl (by decide) _ 0 [] hs hown ⟨d, 0, none⟩ n cap xs hx hc.1
    (fun j u hu => hc.cells (g := d) (by simp [Value.ownBlock]) j u hu) h1 hn (by unfold maxLen; omega) (by omega) hB W.heap.size rfl ?_
  intro g' cap' w' k1 k2 k3 k4
  rw [Nat.zero_add, List.nil_append] at k1
  rw [Nat.zero_add]
  exact h g' cap' w' k1 k2
theorem row_at {B : Nat} {w : World} {ms : Ms} {mv : Value} {vs : Nat -> Value} (hr : w.ownsRow B 103 6 mv ms.length (msC ms vs)) : ∃ a cap, mv = .slice a ms.length cap /\ ∀ i, i < ms.length -> ∃ g, a = some ⟨g, 0, none⟩ /\ ∀ j, j < 6 -> w.cell? ⟨g, i * 6 + j, none⟩ = (mk6 (mx ms i) (vs i))[j]? := by
  rcases hr.2 with ⟨e, h0⟩ | ⟨g, cap, cur, rfl, _⟩
  · exact ⟨none, 0, by rw [e, h0], fun i hi => by omega⟩
  · exact ⟨some ⟨g, 0, none⟩, cap, rfl, fun i hi => ⟨g, rfl, fun j hj => by rw [hr.cellAt (i * 6 + j) (by omega), msC_get ms vs i j hi hj]⟩⟩
theorem find_done (B h : Nat) (ms : Ms) (mv : Value) (vs : Nat -> Value) (nm : ByteArray) (w : World) (c2 : w.cell? ⟨h, 2, none⟩ = some mv) (row : w.ownsRow B 103 6 mv ms.length (msC ms vs)) (hl : ms.length <= 1048576) :
    Calls Tryz.prog 50 #[.pointer (some ⟨h, 0, none⟩), .string nm] w fun e w' => w' = w /\ ((∃ i : Nat, e = .returned (.int .i64 i) /\ i < ms.length /\ (mx ms i).1 = nm /\ ∀ j, j < i -> (mx ms j).1 ≠ nm) \/ (e = .returned (.int .i64 (-1)) /\ ∀ j, j < ms.length -> (mx ms j).1 ≠ nm)) := by
  obtain ⟨a, cap, rfl, hat⟩ := row_at row
  have HAT : Hid (∀ i, i < ms.length -> ∃ g, a = some ⟨g, 0, none⟩ /\ ∀ j, j < 6 -> w.cell? ⟨g, i * 6 + j, none⟩ = (mk6 (mx ms i) (vs i))[j]?) := hat
  clear hat row
  go_enter Tryz.func50, Tryz.ntmps50
  go_wp2
  go_loop [5] (fun i => ∃ k : Nat, k <= ms.length /\ i = .int .i64 k /\ Hid (∀ j, j < k -> (mx ms j).1 ≠ nm)) (fun i => ms.length - (intOf i).toNat)
  case atStart => exact ⟨0, Nat.zero_le _, rfl, (fun j hj => by omega : ∀ j, j < 0 -> (mx ms j).1 ≠ nm)⟩
  case round =>
    obtain ⟨k, hk, rfl, HK⟩ := hrel
    by_cases hlt : k < ms.length
    · have hkI : (k : Int) < (ms.length : Int) := by omega
      obtain ⟨g, rfl, hc⟩ := HAT.out k hlt
      have e0 := hc 0 (by omega)
      have e1 : w.cell? ⟨g, k * 6, none⟩ = some (.string (mx ms k).1) := by
        rw [Nat.add_zero] at e0
        rw [e0]
        unfold mk6
        split <;> rfl
      clear e0 hc
      have HQ : Hid ((mx ms k).1 = nm -> ∃ i : Nat, (Ending.returned (.int .i64 k) : Ending) = .returned (.int .i64 i) /\ i < ms.length /\ (mx ms i).1 = nm /\ ∀ j, j < i -> (mx ms j).1 ≠ nm) := fun q => ⟨k, rfl, hlt, q, HK.out⟩
      have HN : Hid ((mx ms k).1 ≠ nm -> ∀ j, j < k + 1 -> (mx ms j).1 ≠ nm) := fun q => ext_succ HK.out q
      generalize (mx ms k).1 = x at e1 HQ HN
      by_cases q : x = nm
      · have dq := str_eq q
        have HO : Hid _ := HQ.out q
        clear q HQ HN
        go_wp2_with fail
        go_ret
        exact ⟨rfl, Or.inl HO.out⟩
      · have dq := str_ne q
        have HO : Hid (∀ j, j < k + 1 -> (mx ms j).1 ≠ nm) := HN.out q
        clear q HQ HN
        go_wp2_with fail
        go_round
        case rel => exact ⟨k + 1, by omega, by go_num, HO.out⟩
        case measure => simp [intOf]; omega
    · have hkI : ¬ (k : Int) < (ms.length : Int) := by omega
      have HO : Hid (∀ j, j < ms.length -> (mx ms j).1 ≠ nm) := fun j hj => HK.out j (by omega)
      go_wp2_with fail
      go_ret
      exact ⟨rfl, Or.inr ⟨rfl, HO.out⟩⟩
end
section
section
variable {P : Program} {ops : Array Oper} {Q : Exit -> Act -> World -> Prop} {S : World -> Prop} {z : Nat}
def Lt (P : Program) (ops : Array Oper) (Q : Exit -> Act -> World -> Prop) (S : World -> Prop) (z : Nat) : Nat -> Array Bool -> Act -> World -> Prop
  | 0, l, a, w => Region.ready .any ops l = [] /\ Q .normal a w
  | n + 1, l, a, w => (Region.ready .any ops l = [] -> Q .normal a w) /\ ∀ i ∈ Region.ready .any ops l, wpOp P ops Q i (fun a' w' => (i ≠ z -> S w') /\ Lt P ops Q S z n (l.setIfInBounds i true) a' w') a w
theorem Lt.any : ∀ (n : Nat) (l : Array Bool) (a : Act) (w : World), Lt P ops Q S z n l a w -> wpAny P .any ops Q n l a w
  | 0, _, _, _, h => h
  | n + 1, _, _, _, h => ⟨h.1, fun i hi => wpOp_mono (fun a' w' h' => Lt.any n _ a' w' h'.2) (h.2 i hi)⟩
theorem Lt.begin {id : Nat} {a : Act} {w : World} (z : Nat) (S : World -> Prop) (hm : P.follows .mixedOrders = true) (h : Lt P ops Q S z ops.size (Array.replicate ops.size false) a w.drew) : (Code.region id ops true).wp P Q a w := wp_region_any hm (Lt.any _ _ _ _ h)
theorem Lt.done {l : Array Bool} {a : Act} {w : World} (hr : Region.ready .any ops l = []) (h : Q .normal a w) : ∀ n, Lt P ops Q S z n l a w
  | 0 => ⟨hr, h⟩
  | _ + 1 => ⟨fun _ => h, by rw [hr]; simp⟩
theorem Lt.step {i : Nat} {o : Oper} {n : Nat} {l : Array Bool} {a : Act} {w : World} (hr : Region.ready .any ops l = [i]) (ho : ops[i]? = some o)
    (h : ∀ K : Act -> World -> Prop, Shut (∀ a w, (i ≠ z -> S w) -> ((i ≠ z -> S w) -> Lt P ops Q S z n (l.setIfInBounds i true) a w) -> K a w) -> if Region.wanted o (yielded ops a.tmps) = true then Oper.wp P o a w K Q else K (a.put o.dst undef) w) : Lt P ops Q S z (n + 1) l a w := by
  refine ⟨fun h0 => (by rw [hr] at h0; cases h0), fun j hj => ?_⟩
  rw [hr] at hj
  obtain rfl : j = i := by simpa using hj
  exact wpOp_step ho (fun K hK => h K (fun a w hS hW => hK a w ⟨hS, hW hS⟩))
theorem Lt.take1 {i : Nat} {oi : Oper} {v : Value} (hi : ops[i]? = some oi) (hsel : ∀ (j : Nat) (o : Oper) cs b, ops[j]? = some o -> o.op ≠ .select cs b)
    (hQ : ∀ c a w, Q (.panic c) (a.put oi.dst v) w -> Q (.panic c) a w) (hz : ∀ oz, ops[z]? = some oz -> ∃ e ∈ oz.after, Region.binds .any e = true /\ e.on = i) :
    ∀ (n : Nat) (l : Array Bool) (a : Act) (w : World),
      (∀ j oj, ops[j]? = some oj -> j ≠ i -> l.getD j true = false -> (∀ e ∈ oj.after, Region.binds .any e = true -> e.on ≠ i) -> oi.apart ops oj = true) →
      i ∈ Region.ready .any ops l -> YieldsIf P ops S oi v a -> S w -> Lt P ops Q S z n (l.setIfInBounds i true) (a.put oi.dst v) w -> Lt P ops Q S z (n + 1) l a w := by
  intro n
  induction n with
  | zero =>
    intro l a w _ hr hy hS H
    refine ⟨fun h => (by rw [h] at hr; cases hr), fun j hj => ?_⟩
    rcases Decidable.em (j = i) with rfl | hji
    · exact hy.wpOp hi hS ⟨fun _ => hS, H⟩
    · exact absurd (H.1 ▸ ready_mono hj hji) (by simp)
  | succ n ih =>
    intro l a w hf hr hy hS H
    refine ⟨fun h => (by rw [h] at hr; cases hr), fun j hj => ?_⟩
    rcases Decidable.em (j = i) with rfl | hji
    · exact hy.wpOp hi hS ⟨fun _ => hS, H⟩
    obtain ⟨hj0, oj, hoj, hall⟩ := mem_ready.1 hj
    have hno : ∀ e ∈ oj.after, Region.binds .any e = true -> e.on ≠ i := fun e he hb heq => by
      have h1 := hall e he hb
      have h0 := (mem_ready.1 hr).1
      rw [heq] at h1
      rcases Nat.lt_or_ge i l.size with h' | h'
      · simp [h'] at h0 h1; rw [h0] at h1; cases h1
      · simp [Array.getElem?_eq_none h'] at h1
    have hjz : j ≠ z := fun e => by
      subst e
      obtain ⟨ed, h1, h2, h3⟩ := hz oj hoj
      exact hno ed h1 h2 h3
    have hf2 : ∀ k ok, ops[k]? = some ok -> k ≠ i -> (l.setIfInBounds j true).getD k true = false -> (∀ e ∈ ok.after, Region.binds .any e = true -> e.on ≠ i) -> oi.apart ops ok = true := fun k ok hk hki hun hn => by
      refine hf k ok hk hki ?_ hn
      rcases Decidable.em (j = k) with rfl | hjk
      · exact hj0
      · rw [getD_set_ne true hjk] at hun; exact hun
    refine wpOp_mono (fun a' w' h3 => ⟨h3.2.1, ih (l.setIfInBounds j true) a' w' hf2 (ready_mono hr (Ne.symm hji)) h3.1 (h3.2.1 hjz) ?_⟩) (wpOp_putIf hoj (hf j oj hoj hji hj0 hno) (fun cs b => hsel i oi cs b hi) (fun cs b => hsel j oj cs b hoj) hQ hy (H.2 j (ready_mono hj hji)))
    rw [Array.setIfInBounds_comm _ _ hji]
    exact h3.2.2
def waits (ops : Array Oper) (z i : Nat) : Bool := match ops[z]? with
  | some o => o.after.any fun e => Region.binds .any e && e.on == i
  | none => true
theorem waits_spec {i : Nat} (h : waits ops z i = true) : ∀ oz, ops[z]? = some oz -> ∃ e ∈ oz.after, Region.binds .any e = true /\ e.on = i := by
  intro oz hoz
  unfold waits at h
  rw [hoz] at h
  obtain ⟨k, hk, he⟩ := Array.any_eq_true.1 h
  simp at he
  exact ⟨_, Array.getElem_mem hk, he.1, he.2⟩
theorem Lt.take {i : Nat} {oi : Oper} {v : Value} {n : Nat} {l : Array Bool} {a : Act} {w : World} (hi : ops[i]? = some oi) (hs : Region.noSelect ops = true) (hf : Region.free .any ops l i = true) (hr : (Region.ready .any ops l).contains i = true) (hz : waits ops z i = true)
    (hQ : ∀ c a w, Q (.panic c) (a.put oi.dst v) w -> Q (.panic c) a w) (hS : S w) (hy : YieldsIf P ops S oi v a) (h : Lt P ops Q S z n (l.setIfInBounds i true) (a.put oi.dst v) w) : Lt P ops Q S z (n + 1) l a w :=
  Lt.take1 hi (Region.noSelect_spec hs) hQ (waits_spec hz) n l a w (Region.free_spec hi hf) (by simpa using hr) hy hS h
end
end
end Go.Proofs.YtmeojnaoljgieaeGreatDoor
