import Derived.Test.YtllhbgmadiclcaaGreatDoorNmB
import Derived.Laws.CopyRow
import Derived.Laws.CopyOwn
import Derived.Deep.WholeRow
import Derived.Test.YtllhbgmadiclcaaGreatDoorCpA
import Derived.RangeFuncWrites
import Derived.Maps.OwnIn
namespace Go.Proofs.YtllhbgmadiclcaaGreatDoor
open Go.RowKit Go.Shelf
set_option linter.unusedVariables false
attribute [local go_sem] Oper.semAt_some

theorem run_copy_row3 (w : World) (dT sT ty elem : TypeId) (g o dLen dCap : Nat) (a : Addr) (sLen sCap : Nat) (cur : Array Value) (t : TypeId) (cs : List Value)
    (hu : Tryz.prog.underlying dT = some (.slice elem)) (hs : (Tryz.prog.info? elem).map (·.size) = some 3)
    (hg : w.heap[g]? = some (.cells cur t (0, 0))) (hn : cs.length = Nat.min sLen dLen * 3)
    (hsrc : ∀ j v, cs[j]? = some v → w.cell? (a.add j) = some v) (hfit : o + cs.length ≤ cur.size) (h1 : ∀ v ∈ cs, v.oneCell' = true) :
    (Builtin.copy_ #[dT, sT] ty #[.slice (some ⟨g, o, none⟩) dLen dCap, .slice (some a) sLen sCap]).run Tryz.prog w =
      .ok (goInt (Nat.min sLen dLen)) (w.setRow g (cur.toList.take o ++ cs ++ cur.toList.drop (o + cs.length)).toArray) := by
  have hl := run_loadCells_list (P := Tryz.prog) w a cs hsrc
  have hst := run_storeCells_at Tryz.prog g o t cs 0 cur w hg (by simpa using hfit) h1
  cases hq : Tryz.prog.info? elem with
  | none => simp [hq] at hs
  | some i =>
    have hi : i.size = 3 := by simpa [hq] using hs
    simp [Builtin.copy_, run_underlying hu, Builtin.lenOf, Builtin.firstCells, sizeOf, typeInfo, hq, hi, ← hn, hl, hst]

theorem chunk_stops (n Bl Bn n₀ b off len qc : Nat) (qa : Option Addr) (X : Nat → Prop) (hn : 1 ≤ n) (h63 : len ≤ 1048576)
    (hqa : 0 < len → qa = some ⟨b, off, none⟩) (hqc : len ≤ qc) (hqm : qc ≤ 9223372036854775807)
    (w : World) (hn0 : n₀ ≤ w.heap.size) (hBl : Bl < n₀) (hBn : Bn < n₀) (hXl : ¬ X Bl) (hXn : ¬ X Bn) (hl : w.cell? ⟨Bl, 0, none⟩ = some (.slice qa len qc)) (hs : w.cell? ⟨Bn, 0, none⟩ = some (.int .i64 8)) :
    SeqStopsK Fence.wide n Tryz.prog 90 #[.pointer (some ⟨Bl, 0, none⟩), .pointer (some ⟨Bn, 0, none⟩)] (fun x : Eight len => #[chunkV b off len x.1]) (KeepX n₀ X) (fun ys => ys = firsts len ((len + 7) / 8)) (fun _ => True) ((len + 7) / 8) w := fun l J Jx W hW hJ _ hY h0 => by
  have hW0 : Below n₀ w W := hW.mono hn0
  exact chunk145_in n l Bl Bn n₀ b off len qc _ _ qa X hn (Nat.le_refl _) h63 J Jx hJ hqa hqc hqm hY W (Nat.le_trans hn0 hW.size) hBl hBn hXl hXn ((hW0.cell (p := ⟨Bl, 0, none⟩) hBl).trans hl) ((hW0.cell (p := ⟨Bn, 0, none⟩) hBn).trans hs) h0

theorem chunk126 (qa : Option Addr) (len qc : Nat) (w : World) : Calls Tryz.prog 74 #[.slice qa len qc, .int .i64 8] w fun e w' =>
    e = .returned (.func (.func 90) #[] #[.pointer (some ⟨w.heap.size, 0, none⟩), .pointer (some ⟨w.heap.size + 1, 0, none⟩)]) ∧ Below w.heap.size w w' ∧ w'.heap.size = w.heap.size + 2 ∧
      w'.cell? ⟨w.heap.size, 0, none⟩ = some (.slice qa len qc) ∧ w'.cell? ⟨w.heap.size + 1, 0, none⟩ = some (.int .i64 8) := by
  refine calls_of_wp Tryz.func74 rfl ?_
  go_wp2
  refine bodyPost_ret (v := .func (.func 90) #[] #[.pointer (some ⟨w.heap.size, 0, none⟩), .pointer (some ⟨w.heap.size + 1, 0, none⟩)]) (by simp [results, Tryz.results74, go_sem]) rfl ⟨rfl, ((Below.refl _ w).alloc (Nat.le_refl _) _).alloc (by simp) _, by simp, by simp [go_sem], by simp [go_sem]⟩

/-- The rows of a list's cells. -/
def RowT (w : World) (qa : Option Addr) (xs : List Cel3) : Prop := ∀ i x, xs[i]? = some x → ∃ b off, qa = some ⟨b, off, none⟩ ∧ w.cell? ⟨b, off + i * 3, none⟩ = some x.1 ∧ w.cell? ⟨b, off + i * 3 + 1, none⟩ = some x.2.1 ∧ w.cell? ⟨b, off + i * 3 + 2, none⟩ = some x.2.2

theorem RowT.flat {w : World} {b : Nat} : ∀ {xs : List Cel3} {off : Nat}, (∀ i x, xs[i]? = some x → w.cell? ⟨b, off + i * 3, none⟩ = some x.1 ∧ w.cell? ⟨b, off + i * 3 + 1, none⟩ = some x.2.1 ∧ w.cell? ⟨b, off + i * 3 + 2, none⟩ = some x.2.2) →
    ∀ j v, (xs.flatMap c3s)[j]? = some v → w.cell? ⟨b, off + j, none⟩ = some v
  | [], off, h, j, v, e => by simp at e
  | y :: ys, off, h, j, v, e => by
    obtain ⟨h1, h2, h3⟩ := h 0 y rfl
    simp only [List.flatMap_cons, c3s] at e
    match j, e with
    | 0, e => simp at e; subst e; simpa using h1
    | 1, e => simp at e; subst e; simpa using h2
    | 2, e => simp at e; subst e; simpa using h3
    | j + 3, e =>
      have e' : (ys.flatMap c3s)[j]? = some v := by simpa using e
      have := RowT.flat (off := off + 3) (xs := ys) (fun i x hx => by
        have := h (i + 1) x (by simpa using hx)
        rw [show off + (i + 1) * 3 = off + 3 + i * 3 by omega] at this
        exact this) j v e'
      rw [show off + (j + 3) = off + 3 + j by omega]
      exact this
theorem zeros_drop {q : Nat} (h : q ≤ 8) (z : Cel3) : ((List.replicate 8 z).flatMap c3s).drop (q * 3) = (List.replicate (8 - q) z).flatMap c3s := by
  have : q = 0 ∨ q = 1 ∨ q = 2 ∨ q = 3 ∨ q = 4 ∨ q = 5 ∨ q = 6 ∨ q = 7 ∨ q = 8 := by omega
  rcases this with rfl | rfl | rfl | rfl | rfl | rfl | rfl | rfl | rfl <;> rfl
theorem oneI {c : List Cel3} (h : ∀ x ∈ c, okI x) : ∀ v ∈ c.flatMap c3s, v.oneCell' = true := fun v hv => by
  obtain ⟨x, hx, hv⟩ := List.mem_flatMap.1 hv
  obtain ⟨a, s, b, rfl, _⟩ := h x hx
  simp only [c3s, List.mem_cons, List.not_mem_nil, or_false] at hv
  rcases hv with rfl | rfl | rfl <;> rfl
theorem info148 : (Tryz.prog.info? 98).map (·.size) = some 3 := by kernel_rfl
theorem copyI (W : World) (m b off q : Nat) (c : List Cel3) (hq : c.length = q) (h8 : q ≤ 8) (hok : ∀ x ∈ c, okI x)
    (hsrc : ∀ i x, c[i]? = some x → W.cell? ⟨b, off + i * 3, none⟩ = some x.1 ∧ W.cell? ⟨b, off + i * 3 + 1, none⟩ = some x.2.1 ∧ W.cell? ⟨b, off + i * 3 + 2, none⟩ = some x.2.2) (ty : TypeId) :
    (Builtin.copy_ #[45, 45] ty #[.slice (some ⟨W.heap.size, 1, none⟩) 8 8, .slice (some ⟨b, off, none⟩) q q]).run Tryz.prog (W.alloc (.cells (.int .i64 (m : Nat) :: (List.replicate 8 zI).flatMap c3s).toArray 124)) =
      .ok (.int .i64 (q : Nat)) (W.alloc (.cells (keyA zI m c) 124)) := by
  have hl : (c.flatMap c3s).length = q * 3 := by rw [flat_len, hq]
  have hmin : Nat.min q 8 = q := Nat.min_eq_left h8
  rw [run_copy_row3 (W.alloc (.cells (.int .i64 (m : Nat) :: (List.replicate 8 zI).flatMap c3s).toArray 124)) 45 45 ty 98 W.heap.size 1 8 8 ⟨b, off, none⟩ q q _ 124 (c.flatMap c3s) Tryz.underlying45 info148 (World.alloc_heap_new W _) (by rw [hl, hmin]) (fun j v hv => by
      have := RowT.flat hsrc j v hv
      rw [Addr.add_lit, World.cell?_alloc_lt _ _ _ (World.block_lt_of_cell? _ _ this)]
      exact this) (by rw [hl, List.size_toArray, List.length_cons, flat_len, List.length_replicate]; omega) (oneI hok)]
  rw [hmin, World.setRow_alloc_new]
  have e : (Value.int .i64 (m : Nat) :: (List.replicate 8 zI).flatMap c3s).take 1 ++ c.flatMap c3s ++ (Value.int .i64 (m : Nat) :: (List.replicate 8 zI).flatMap c3s).drop (1 + (c.flatMap c3s).length) = Value.int .i64 (m : Nat) :: (padT zI c).flatMap c3s := by
    rw [hl, Nat.add_comm 1, List.drop_succ_cons, zeros_drop h8]
    simp [padT, hq]
  rw [e]
  rfl
def zeroA (m : Int) : Array Value := (Value.int .i64 m :: (List.replicate 8 zI).flatMap c3s).toArray
theorem info178 : (Tryz.prog.info? 124).map (·.size) = some 25 := by kernel_rfl
theorem build178 (m : Int) (w : World) : (Instr.build 124 #[(0, .int .i64 m)]).run Tryz.prog w = .ok (.agg (zeroA m)) w := by kernel_rfl
theorem store178 (m : Int) (w : World) : (storeVar 124 ⟨w.heap.size, 0, none⟩ (.agg (zeroA m))).run Tryz.prog (w.alloc (.cells #[.int .i64 0, .int .i64 0, .string ⟨#[]⟩, .int .i64 0, .int .i64 0, .string ⟨#[]⟩, .int .i64 0, .int .i64 0, .string ⟨#[]⟩, .int .i64 0, .int .i64 0, .string ⟨#[]⟩, .int .i64 0, .int .i64 0, .string ⟨#[]⟩, .int .i64 0, .int .i64 0, .string ⟨#[]⟩, .int .i64 0, .int .i64 0, .string ⟨#[]⟩, .int .i64 0, .int .i64 0, .string ⟨#[]⟩, .int .i64 0] 124)) = .ok () (w.alloc (.cells (zeroA m) 124)) := by
  have h := run_storeVar_row (P := Tryz.prog) (w.alloc (.cells #[.int .i64 0, .int .i64 0, .string ⟨#[]⟩, .int .i64 0, .int .i64 0, .string ⟨#[]⟩, .int .i64 0, .int .i64 0, .string ⟨#[]⟩, .int .i64 0, .int .i64 0, .string ⟨#[]⟩, .int .i64 0, .int .i64 0, .string ⟨#[]⟩, .int .i64 0, .int .i64 0, .string ⟨#[]⟩, .int .i64 0, .int .i64 0, .string ⟨#[]⟩, .int .i64 0, .int .i64 0, .string ⟨#[]⟩, .int .i64 0] 124)) w.heap.size 124 124 #[.int .i64 0, .int .i64 0, .string ⟨#[]⟩, .int .i64 0, .int .i64 0, .string ⟨#[]⟩, .int .i64 0, .int .i64 0, .string ⟨#[]⟩, .int .i64 0, .int .i64 0, .string ⟨#[]⟩, .int .i64 0, .int .i64 0, .string ⟨#[]⟩, .int .i64 0, .int .i64 0, .string ⟨#[]⟩, .int .i64 0, .int .i64 0, .string ⟨#[]⟩, .int .i64 0, .int .i64 0, .string ⟨#[]⟩, .int .i64 0] (zeroA m) (World.alloc_heap_new w _) (by rw [info178]; rfl) rfl (by kernel_rfl)
  rw [World.setRow_alloc_new] at h
  exact h
theorem load178 (w : World) (b : Nat) (cs : Array Value) (h : w.heap[b]? = some (.cells cs 124 (0, 0))) (hs : cs.size = 25) : (loadVar 124 ⟨b, 0, none⟩).run Tryz.prog w = .ok (.agg cs) w := run_loadVar_row w b 124 124 cs (0, 0) _ h Tryz.underlying124 rfl (by rw [info178, hs])
theorem wpListIn_build178 {F : Fence} {nF : Nat} (w : World) {ops : Array Oper} {rest : List Oper} {o : Oper} {a : Act} {Q : Exit → Act → World → Prop} (hg : o.guard = none) (x : Operand) (hop : o.op = Op.build 124 #[(0, x)]) (m : Int) (hx : a.eval x = .int .i64 m)
    (hK : wpListIn F nF Tryz.prog ops Q rest (a.put o.dst (.agg (zeroA m))) w) : wpListIn F nF Tryz.prog ops Q (o :: rest) a w := by
  refine wpListIn_plain hg fun K' hK' => ?_
  unfold Oper.wpIn
  refine ⟨by simp [Oper.about, hop], ?_⟩
  rw [Oper.semAt_plain F _ _ (by rw [hop]; intro c hc'; cases hc')]
  simp [execOp, hop, hx, build178 m w, Result.andThen]
  exact hK' _ _ hK
theorem wpListIn_store178 {F : Fence} {nF : Nat} (w : World) {ops : Array Oper} {rest : List Oper} {o : Oper} {a : Act} {Q : Exit → Act → World → Prop} (hg : o.guard = none) (p x : Operand) (hop : o.op = Op.store 124 p x) (m : Int) (hp : a.eval p = .pointer (some ⟨w.heap.size, 0, none⟩)) (hx : a.eval x = .agg (zeroA m))
    (hK : wpListIn F nF Tryz.prog ops Q rest (a.put o.dst undef) (w.alloc (.cells (zeroA m) 124))) : wpListIn F nF Tryz.prog ops Q (o :: rest) a (w.alloc (.cells #[.int .i64 0, .int .i64 0, .string ⟨#[]⟩, .int .i64 0, .int .i64 0, .string ⟨#[]⟩, .int .i64 0, .int .i64 0, .string ⟨#[]⟩, .int .i64 0, .int .i64 0, .string ⟨#[]⟩, .int .i64 0, .int .i64 0, .string ⟨#[]⟩, .int .i64 0, .int .i64 0, .string ⟨#[]⟩, .int .i64 0, .int .i64 0, .string ⟨#[]⟩, .int .i64 0, .int .i64 0, .string ⟨#[]⟩, .int .i64 0] 124)) := by
  refine wpListIn_plain hg fun K' hK' => ?_
  unfold Oper.wpIn
  refine ⟨by simp [Oper.about, hop], ?_⟩
  rw [Oper.semAt_plain F _ _ (by rw [hop]; intro c hc'; cases hc')]
  have h : (Instr.storeAt 124 (.pointer (some ⟨w.heap.size, 0, none⟩)) (.agg (zeroA m))).run Tryz.prog (w.alloc (.cells #[.int .i64 0, .int .i64 0, .string ⟨#[]⟩, .int .i64 0, .int .i64 0, .string ⟨#[]⟩, .int .i64 0, .int .i64 0, .string ⟨#[]⟩, .int .i64 0, .int .i64 0, .string ⟨#[]⟩, .int .i64 0, .int .i64 0, .string ⟨#[]⟩, .int .i64 0, .int .i64 0, .string ⟨#[]⟩, .int .i64 0, .int .i64 0, .string ⟨#[]⟩, .int .i64 0, .int .i64 0, .string ⟨#[]⟩, .int .i64 0] 124)) = .ok () (w.alloc (.cells (zeroA m) 124)) := store178 m w
  simp only [execOp, hop, hp, hx, Sem.run_bind, h, Result.andThen_ok, Sem.run_pure]
  exact hK' _ _ hK
theorem wpListIn_load178 {F : Fence} {nF : Nat} (w : World) {ops : Array Oper} {rest : List Oper} {o : Oper} {a : Act} {Q : Exit → Act → World → Prop} (hg : o.guard = none) (p : Operand) (hop : o.op = Op.load 124 p) (b : Nat) (v : Value) (hp : a.eval p = .pointer (some ⟨b, 0, none⟩)) (hl : (loadVar 124 ⟨b, 0, none⟩).run Tryz.prog w = .ok v w)
    (hK : wpListIn F nF Tryz.prog ops Q rest (a.put o.dst v) w) : wpListIn F nF Tryz.prog ops Q (o :: rest) a w := by
  refine wpListIn_plain hg fun K' hK' => ?_
  unfold Oper.wpIn
  refine ⟨by simp [Oper.about, hop], ?_⟩
  rw [Oper.semAt_plain F _ _ (by rw [hop]; intro c hc'; cases hc')]
  have h : (Instr.loadAt 124 (.pointer (some ⟨b, 0, none⟩))).run Tryz.prog w = .ok v w := hl
  simp only [execOp, hop, hp, Sem.run_bind, h, Result.andThen_ok, Sem.run_pure]
  exact hK' _ _ hK
def INum (w W0 : World) (mb n len : Nat) (rep : Nat → List Cel3) (xs : List Cel3) (pre : List (Eight len)) (W : World) : Prop := ∃ n' f' m, MapK 124 W mb n' f' ∧ Boxed W w.heap.size 58 (.map (some mb)) ∧ Boxed W (w.heap.size + 1) 3 (.int .i64 (m : Nat)) ∧ m ≤ n' ∧ n' ≤ n + pre.length ∧ (∀ k v, f' k = some v → v ≤ n') ∧ KeepX (w.heap.size + 4) (fun k => k = mb ∨ k = w.heap.size + 1) W0 W ∧ (pre = firsts len pre.length → ∃ rep', NumS zI n' f' rep' ∧ Ext n rep n' rep' ∧ rep' m = xs.take (pre.length * 8))
theorem firsts_snoc {len : Nat} {pre : List (Eight len)} {x : Eight len} (hp : pre.length < (len + 7) / 8) (h : pre ++ [x] = firsts len (pre ++ [x]).length) : pre = firsts len pre.length ∧ x.1 = pre.length := by
  rw [List.length_append, List.length_singleton, firsts_succ (by omega)] at h
  obtain ⟨h1, h2⟩ := List.append_inj' h rfl
  refine ⟨h1, ?_⟩
  have := List.head_eq_of_cons_eq h2
  rw [this]
/-- The number goes one eight on. -/
theorem step_had {n n' len m q : Nat} {f' : Value → Option Nat} {rep : Nat → List Cel3} {xs c : List Cel3} {pre : List (Eight len)} {x : Eight len} (hlen : xs.length = len) (hp : pre.length < (len + 7) / 8) (ec : chunkT xs x.1 = c) (hc : c.length ≤ 8) (hz : ∀ y ∈ c, y ≠ zI)
    (h7 : pre = firsts len pre.length → ∃ rep', NumS zI n' f' rep' ∧ Ext n rep n' rep' ∧ rep' m = xs.take (pre.length * 8)) (hf : f' (.agg (keyA zI m c)) = some q) :
    pre ++ [x] = firsts len (pre ++ [x]).length → ∃ rep', NumS zI n' f' rep' ∧ Ext n rep n' rep' ∧ rep' q = xs.take ((pre ++ [x]).length * 8) := fun h => by
  obtain ⟨h1, h2⟩ := firsts_snoc hp h
  obtain ⟨rep', r1, r2, r3⟩ := h7 h1
  refine ⟨rep', r1, r2, ?_⟩
  rw [(r1.had hc hz hf).2, r3, ← ec, h2, chunkT_next]
  simp
open Classical in
theorem step_put {n n' len m : Nat} {f' : Value → Option Nat} {rep : Nat → List Cel3} {xs c : List Cel3} {pre : List (Eight len)} {x : Eight len} (hlen : xs.length = len) (hp : pre.length < (len + 7) / 8) (ec : chunkT xs x.1 = c) (hm : m ≤ n') (hc : c.length ≤ 8) (hc1 : 1 ≤ c.length) (hz : ∀ y ∈ c, y ≠ zI)
    (h7 : pre = firsts len pre.length → ∃ rep', NumS zI n' f' rep' ∧ Ext n rep n' rep' ∧ rep' m = xs.take (pre.length * 8)) (hf : f' (.agg (keyA zI m c)) = none) :
    pre ++ [x] = firsts len (pre ++ [x]).length → ∃ rep', NumS zI (n' + 1) (fun y => if y = .agg (keyA zI m c) then some (n' + 1) else f' y) rep' ∧ Ext n rep (n' + 1) rep' ∧ rep' (n' + 1) = xs.take ((pre ++ [x]).length * 8) := fun h => by
  obtain ⟨h1, h2⟩ := firsts_snoc hp h
  obtain ⟨rep', r1, r2, r3⟩ := h7 h1
  have h8 : (rep' m).length % 8 = 0 := by rw [r3, List.length_take, hlen]; omega
  obtain ⟨q1, q2⟩ := r1.put hm h8 hc1 hc hz hf
  refine ⟨_, q1, r2.trans q2, ?_⟩
  simp only [if_true]
  rw [r3, ← ec, h2, chunkT_next]
  simp

set_option maxRecDepth 100000 in
set_option maxHeartbeats 2000000 in
theorem number101 (mb n len qc b off : Nat) (f : Value → Option Nat) (rep : Nat → List Cel3) (qa : Option Addr) (xs : List Cel3) (w : World)
    (hM : MapK 124 w mb n f) (hN : NumS zI n f rep) (hle0 : ∀ k v, f k = some v → v ≤ n) (hlen : xs.length = len) (h63 : len ≤ 1048576) (hn : n + len ≤ 1073741823) (hqa : 0 < len → qa = some ⟨b, off, none⟩) (hqc : len ≤ qc) (hqm : qc ≤ 9223372036854775807)
    (hrow : RowT w qa xs) (hok : ∀ x ∈ xs, okI x ∧ x ≠ zI) :
    Calls Tryz.prog 47 #[.map (some mb), .slice qa len qc] w fun e w' => ∃ n' f' rep' m, e = .returned (.int .i64 (m : Nat)) ∧ MapK 124 w' mb n' f' ∧ NumS zI n' f' rep' ∧ Ext n rep n' rep' ∧ m ≤ n' ∧ n' ≤ n + len ∧ rep' m = xs ∧ (∀ k v, f' k = some v → v ≤ n') ∧ KeepX w.heap.size (· = mb) w w' := by
  have hmb := hM.lt
  refine (callsIn_wide (n := 3)).1 ?_
  refine callsIn_of_wp_marks Tryz.func47 rfl trivial ?_ rfl
  simp only [Tryz.ntmps47, List.size_toArray, List.length_cons, List.length_nil, Nat.reduceAdd, Nat.reduceSub, Array.replicate_succ, Array.replicate_zero, List.push_toArray, List.append_toArray, List.nil_append, List.cons_append]
  gi_wp2
  refine ⟨trivial, (callsIn_wide.2 (chunk126 qa len qc _)).mono ?_⟩
  rintro e W0 ⟨rfl, hb0, hs0, hl0, h80⟩
  dsimp only
  have eh : ((w.alloc (.cells #[.map (some mb)] 58)).alloc (.cells #[.int .i64 0] 3)).heap.size = w.heap.size + 2 := by simp
  rw [eh] at hb0 hs0 hl0 h80
  have hBw : Below w.heap.size w W0 := (((Below.refl _ w).alloc (Nat.le_refl _) _).alloc (by simp) _).trans (hb0.mono (by omega))
  have bM : Boxed W0 w.heap.size 58 (.map (some mb)) := (hb0.block _ (by omega)).trans ((Boxed.new w 58 _).alloc _)
  have bK : Boxed W0 (w.heap.size + 1) 3 (.int .i64 0) := (hb0.block _ (by omega)).trans (by have h := Boxed.new (w.alloc (.cells #[.map (some mb)] 58)) 3 (.int .i64 0); rw [show (w.alloc (.cells #[.map (some mb)] 58)).heap.size = w.heap.size + 1 by simp] at h; exact h)
  rw [eh]
  clear eh hb0
  have hM0 : MapK 124 W0 mb n f := hM.same (hBw.block mb hmb)
  gi_wp2
  refine wpIn_rangeFunc_ownG rfl (by decide) (gf := 90) (lb := #[.pointer (some ⟨w.heap.size + 2, 0, none⟩), .pointer (some ⟨w.heap.size + 2 + 1, 0, none⟩)]) rfl trivial (enters_of Tryz.func90 (by kernel_rfl) rfl)
    (chunk_stops 2 (w.heap.size + 2) (w.heap.size + 2 + 1) (w.heap.size + 4) b off len qc qa (fun k => k = mb ∨ k = w.heap.size + 1) (by omega) h63 hqa hqc hqm W0 (by omega) (by omega) (by omega) (by omega) (by omega) hl0 h80)
    (fun h k => h.trans k) (fun W l o o' hl h _ _ => KeepX.of_grown (grownBy_putObj' W l o') (by have := (Array.getElem?_eq_some_iff.1 h).1; omega) (fun r e h => by cases e; omega)) (Below.refl _ _) (fun _ => rfl)
    (INum w W0 mb n len rep xs)
    (fun _ _ _ => False)
    (fun s W W' row hs hg hr => by
      obtain ⟨n', f', m, h1, h2, h3, h4, h5, hle, h6, h7⟩ := hs
      have hrr : ∀ k, k < W0.heap.size → some k ≠ row := fun k hk e => by have := (hr k e.symm).1; omega
      have hsz := h6.size
      exact ⟨n', f', m, h1.same (hg.block mb h1.lt (hrr mb (by omega))), h2.kept hg (hrr _ (by omega)), h3.kept hg (hrr _ (by omega)), h4, h5, hle, h6.trans (KeepX.of_grown hg (by omega) (fun r e h => by have := (hr r e).1; omega)), h7⟩)
    (fun _ _ _ _ _ hs _ _ => hs)
    ⟨n, f, 0, hM0, bM, bK, Nat.zero_le _, by simp, hle0, KeepX.refl _ _ _, fun _ => ⟨rep, hN, Ext.refl _ _, by simp [hN.zero]⟩⟩
    (fun x => { tmps := #[.map (some mb), .slice qa len qc, .pointer (some ⟨w.heap.size, 0, none⟩), undef, .int .i64 0, .pointer (some ⟨w.heap.size + 1, 0, none⟩), chunkV b off len x.1, undef, undef, undef, .slice qa len qc, .func (.func 90) #[] #[.pointer (some ⟨w.heap.size + 2, 0, none⟩), .pointer (some ⟨w.heap.size + 2 + 1, 0, none⟩)], chunkV b off len x.1, undef, undef, undef, undef, undef, undef, undef, undef, undef, undef, undef, undef, undef, undef, undef, undef, undef, undef, undef, undef, undef, undef], defers := [] })
    ?assign ?body ?done ?stop
  case assign =>
    rintro l x W K hK
    gi_wp2
    exact hK
  case body => as_aux_lemma =>
    rintro l pre x W ⟨n', f', m, h1, h2, h3, h4, h5, hle, h6, h7⟩ hlt
    have c2 := h2.cell
    have c3 := h3.cell
    have hsz := h6.size
    obtain ⟨x, hx⟩ := x
    obtain ⟨c, ec⟩ : ∃ c, chunkT xs x = c := ⟨_, rfl⟩
    have hc8 : c.length ≤ 8 := by rw [← ec]; exact chunkT_le xs x
    have hcm : ∀ y ∈ c, y ∈ xs := fun y hy => chunkT_mem (ec ▸ hy)
    have hcl : min 8 (len - x * 8) = c.length := by rw [← ec, chunkT, List.length_take, List.length_drop, hlen]
    obtain ⟨l0, hkey⟩ := keyI (k := m) (c := c) (by omega) hc8 (fun y hy => (hok y (hcm y hy)).1)
    obtain rfl := hqa (by omega)
    have hsrc : ∀ i y, c[i]? = some y → W.cell? ⟨b, off + x * 8 * 3 + i * 3, none⟩ = some y.1 ∧ W.cell? ⟨b, off + x * 8 * 3 + i * 3 + 1, none⟩ = some y.2.1 ∧ W.cell? ⟨b, off + x * 8 * 3 + i * 3 + 2, none⟩ = some y.2.2 := fun i y hy => by
      have hi : i < 8 := by have := (List.getElem?_eq_some_iff.1 hy).1; omega
      have e1 : xs[x * 8 + i]? = some y := by
        rw [← ec, chunkT, List.getElem?_take, if_pos hi, List.getElem?_drop] at hy
        exact hy
      obtain ⟨b', off', eb, q1, q2, q3⟩ := hrow _ y e1
      cases eb
      have hbl := World.block_lt_of_cell? _ _ q1
      have hbm : ¬ (b = mb ∨ b = w.heap.size + 1) := fun e => by
        rcases e with e | e
        · subst e
          obtain ⟨o, ho, hoc⟩ := cells_of_cell q1
          cases o <;> simp [Obj.isCells] at hoc
          exact hM.notCells ho
        · dsimp only at hbl; omega
      have hk : ∀ p : Addr, p.block = b → W.cell? p = w.cell? p := fun p ep => (h6.cell (p := p) (by rw [ep]; dsimp only at hbl; omega) (by rw [ep]; exact hbm)).trans (hBw.cell (p := p) (by rw [ep]; exact hbl))
      rw [show off + x * 8 * 3 + i * 3 = off + (x * 8 + i) * 3 by omega]
      exact ⟨(hk _ rfl).trans q1, (hk _ rfl).trans q2, (hk _ rfl).trans q3⟩
    have hcopy := copyI W m b (off + x * 8 * 3) c.length c rfl hc8 (fun y hy => (hok y (hcm y hy)).1) hsrc
    change ∀ ty, (Builtin.copy_ _ ty _).run Tryz.prog (W.alloc (.cells (zeroA (m : Nat)) 124)) = _ at hcopy
    obtain ⟨W1, eW1⟩ : ∃ y, W.alloc (.cells (keyA zI m c) 124) = y := ⟨_, rfl⟩
    rw [eW1] at hcopy
    have hM1 : MapK 124 W1 mb n' f' := h1.same (by rw [← eW1]; exact Below.heap_alloc W _ _ h1.lt)
    have b21 : Boxed W1 w.heap.size 58 (.map (some mb)) := by rw [← eW1]; exact h2.alloc _
    have b31 : Boxed W1 (w.heap.size + 1) 3 (.int .i64 (m : Nat)) := by rw [← eW1]; exact h3.alloc _
    have hk1 : KeepX (w.heap.size + 4) (fun k => k = mb ∨ k = w.heap.size + 1) W W1 := by rw [← eW1]; exact KeepX.of_grown (World.grownBy_alloc W _ none) (by omega) (fun r e => by cases e)
    have hko1 : KeepsFrom (w.heap.size + 2 + 2) W W1 := by rw [← eW1]; exact (KeepsOthers.alloc W _).from _
    obtain ⟨KA, ek⟩ : ∃ KA, keyA zI m c = KA := ⟨_, rfl⟩
    have hb1 : W1.heap[W.heap.size]? = some (.cells KA 124 (0, 0)) := by rw [← eW1, ← ek]; exact World.alloc_heap_new W _
    have hKA : KA.size = 25 := by rw [← ek]; simp only [keyA, List.size_toArray, List.length_cons, flat_len, padT_length hc8]
    have hload := load178 W1 W.heap.size KA hb1 hKA
    have d2 := b21.cell
    have d3 := b31.cell
    have fr := b31.frozen
    have hsz1 : W.heap.size < W1.heap.size := (Array.getElem?_eq_some_iff.1 hb1).1
    rw [ek] at hkey
    have hlook := (hM1.look law178 Tryz.underlying58 hkey).1
    have hlen1 := fun ty => hM1.len (mt := 58) Tryz.underlying58 ty
    unfold chunkV
    dsimp only
    rw [hcl]
    cases hf : f' (.agg KA) with
    | some q =>
      rw [hf] at hlook
      simp only [Option.getD_some, Option.isSome_some] at hlook
      clear eW1
      have hq : q ≤ n' := hle _ _ hf
      gi_wp2_with (first | (refine wpListIn_build178 _ rfl (.tmp 13) rfl (m : Nat) rfl ?_) | (refine wpListIn_store178 W rfl (.tmp 7) (.tmp 14) rfl (m : Nat) rfl rfl ?_) | (refine wpListIn_load178 W1 rfl (.tmp 7) rfl W.heap.size (.agg KA) rfl hload ?_))
      refine ⟨hko1.trans ((KeepsOthers.setCell W1 ⟨w.heap.size + 1, 0, none⟩ _).from _), ?_⟩
      have hst : KeepX (w.heap.size + 4) (fun k => k = mb ∨ k = w.heap.size + 1) W1 (W1.setCell ⟨w.heap.size + 1, 0, none⟩ (.int .i64 (q : Nat))) := KeepX.of_grown (grownBy_setCell' W1 (w.heap.size + 1) _) (by omega) (fun r e h => by cases e; exact Or.inr rfl)
      exact ⟨hk1.trans hst, n', f', q, hM1.same (Below.heap_setCell _ _ _ _ (by dsimp only; omega)), b21.other (by omega) _, b31.set _, hq, by rw [List.length_append]; omega, hle, h6.trans (hk1.trans hst), step_had (x := ⟨x, hx⟩) hlen hlt ec hc8 (fun y hy => (hok y (hcm y hy)).2) h7 (by rw [ek]; exact hf)⟩
    | none =>
      rw [hf] at hlook
      simp only [Option.getD_none, Option.isSome_none] at hlook
      obtain ⟨W2, hst2, hM2, hg2⟩ := hM1.store law178 Tryz.underlying58 hkey (by unfold maxLen; omega) (n' + 1)
      rw [hf] at hM2
      simp only [Option.isSome_none, Bool.false_eq_true, if_false] at hM2
      have b22 : Boxed W2 w.heap.size 58 (.map (some mb)) := b21.kept hg2 (by simp; omega)
      have b32 : Boxed W2 (w.heap.size + 1) 3 (.int .i64 (m : Nat)) := b31.kept hg2 (by simp; omega)
      have hk2 : KeepX (w.heap.size + 4) (fun k => k = mb ∨ k = w.heap.size + 1) W1 W2 := KeepX.of_grown hg2 (by omega) (fun r e h => by cases e; exact Or.inl rfl)
      have hko2 : KeepsFrom (w.heap.size + 2 + 2) W1 W2 := KeepsFrom.of_grownBy hg2 (fun j e => by cases e; omega)
      have hsz2 := hk2.size
      have e2 := b32.cell
      have fr2 := b32.frozen
      rw [show ((n' + 1 : Nat) : Int) = (n' : Int) + 1 by omega] at hst2
      have hnN : n' ≤ 1073741823 := by omega
      clear eW1
      gi_wp2_with (first | (refine wpListIn_build178 _ rfl (.tmp 13) rfl (m : Nat) rfl ?_) | (refine wpListIn_store178 W rfl (.tmp 7) (.tmp 14) rfl (m : Nat) rfl rfl ?_) | (refine wpListIn_load178 W1 rfl (.tmp 7) rfl W.heap.size (.agg KA) rfl hload ?_))
      rw [show (n' : Int) + 1 = ((n' + 1 : Nat) : Int) by omega]
      have hst : KeepX (w.heap.size + 4) (fun k => k = mb ∨ k = w.heap.size + 1) W2 (W2.setCell ⟨w.heap.size + 1, 0, none⟩ (.int .i64 (n' + 1 : Nat))) := KeepX.of_grown (grownBy_setCell' W2 (w.heap.size + 1) _) (by omega) (fun r e h => by cases e; exact Or.inr rfl)
      refine ⟨(hko1.trans hko2).trans ((KeepsOthers.setCell W2 ⟨w.heap.size + 1, 0, none⟩ _).from _), (hk1.trans hk2).trans hst, n' + 1, _, n' + 1, hM2.same (Below.heap_setCell _ _ _ _ (by dsimp only; omega)), b22.other (by omega) _, b32.set _, Nat.le_refl _, by rw [List.length_append, List.length_singleton]; omega, ?_, h6.trans ((hk1.trans hk2).trans hst), ?_⟩
      · intro k v hv
        by_cases ek2 : k = .agg KA
        · simp only [if_pos ek2] at hv
          cases hv
          exact Nat.le_refl _
        · simp only [if_neg ek2] at hv
          have := hle k v hv
          omega
      · have := step_put (n := n) (rep := rep) (x := ⟨x, hx⟩) hlen hlt ec h4 hc8 (by rw [← hcl]; omega) (fun y hy => (hok y (hcm y hy)).2) h7 (by rw [ek]; exact hf)
        rw [ek] at this
        exact this
  case done => as_aux_lemma =>
    rintro D ys W hD rfl ⟨n', f', m, h1, h2, h3, h4, h5, hle, h6, h7⟩ hK
    have c3 := h3.cell
    have hfl : (firsts len ((len + 7) / 8)).length = (len + 7) / 8 := firsts_length (Nat.le_refl _)
    obtain ⟨rep', r1, r2, r3⟩ := h7 (by rw [hfl])
    gi_wp2
    refine ⟨by simp, .inl ⟨_, _, rfl, run_takeDeferred hK, ?_⟩⟩
    refine ⟨_, results_tmp rfl _ _ _, n', f', rep', m, rfl, h1.same (World.putObj_heap_other (fun e => by have := h1.lt; have := h6.size; omega)), r1, r2, h4, ?_, ?_, ?_, ?_⟩
    · rw [hfl] at h5; omega
    · rw [r3, hfl]; exact List.take_of_length_le (by omega)
    · exact hle
    · exact ((KeepX.of_below hBw).trans (h6.mono (by omega) (fun k hk e => Or.elim e id (fun e => by have := hBw.size; omega)))).trans (KeepX.of_grown (grownBy_putObj' W D _) (by have := h6.size; have := hBw.size; omega) (fun r e h => by cases e; have := hBw.size; omega))
  case stop =>
    rintro D c pre W _ _ h _
    exact h.elim
end Go.Proofs.YtllhbgmadiclcaaGreatDoor
