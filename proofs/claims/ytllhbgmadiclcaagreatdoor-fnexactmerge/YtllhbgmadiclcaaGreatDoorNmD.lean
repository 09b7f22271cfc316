import Derived.Test.YtllhbgmadiclcaaGreatDoorNmC
namespace Go.Proofs.YtllhbgmadiclcaaGreatDoor
open Go.RowKit Go.Shelf
set_option linter.unusedVariables false
attribute [local go_sem] Oper.semAt_some

set_option maxRecDepth 100000 in
set_option maxHeartbeats 1000000 in
theorem chunk146_in (n l Bl Bn n₀ b off len qc Bj N : Nat) (qa : Option Addr) (X : Nat → Prop) (hn : 1 ≤ n) (hN : (len + 7) / 8 ≤ N) (h63 : len ≤ 1048576) (J Jx : List (Eight len) → World → Prop) (hJ : AbidesFrom Bj J)
    (hqa : 0 < len → qa = some ⟨b, off, none⟩) (hqc : len ≤ qc) (hqm : qc ≤ 9223372036854775807)
    (hY : ∀ pre x W, J pre W → pre.length < N → YieldAt Fence.wide (n - 1) Tryz.prog l #[chunkV b off len x.1] W fun e W' =>
      (e = .returned (.bool true) ∧ J (pre ++ [x]) W' ∧ KeepX n₀ X W W') ∨ (e = .returned (.bool false) ∧ Jx (pre ++ [x]) W'))
    (W : World) (hn0 : n₀ ≤ W.heap.size) (hBl : Bl < n₀) (hBn : Bn < n₀) (hXl : ¬ X Bl) (hXn : ¬ X Bn) (hl : W.cell? ⟨Bl, 0, none⟩ = some (.slice qa len qc)) (hs : W.cell? ⟨Bn, 0, none⟩ = some (.int .i64 8))
    (h0 : J [] W) :
    CallsIn Fence.wide n Tryz.prog 91 #[.func (.yield l) #[] #[], .pointer (some ⟨Bl, 0, none⟩), .pointer (some ⟨Bn, 0, none⟩)] W fun e W' => (∃ v, e = .returned v) ∧
      ((∃ ys, ys = firsts len ((len + 7) / 8) ∧ J ys W') ∨ (∃ pre, True ∧ Jx pre W')) := by
  refine callsIn_of_wp Tryz.func91 rfl trivial ?_ rfl
  simp only [Tryz.ntmps91, List.size_toArray, List.length_cons, List.length_nil, Nat.reduceAdd, Nat.reduceSub, Array.replicate_succ, Array.replicate_zero, List.push_toArray, List.append_toArray, List.nil_append, List.cons_append]
  gi_wp2
  gi_loopw [4] (fun i wr => ∃ k : Nat, k ≤ (len + 7) / 8 ∧ i = .int .i64 (k * 8 : Nat) ∧ Hid (J (firsts len k) wr) ∧ KeepX n₀ X W wr) (fun i _ => len + 8 - (intOf i).toNat)
  case atStart => exact ⟨0, Nat.zero_le _, rfl, h0, KeepX.refl _ _ _⟩
  case round =>
    obtain ⟨k, hk, rfl, HJ, hbr⟩ := hrel
    have cl : wr.cell? ⟨Bl, 0, none⟩ = some (.slice qa len qc) := (hbr.cell (p := ⟨Bl, 0, none⟩) hBl hXl).trans hl
    have cn : wr.cell? ⟨Bn, 0, none⟩ = some (.int .i64 8) := (hbr.cell (p := ⟨Bn, 0, none⟩) hBn hXn).trans hs
    by_cases hlt : k * 8 < len
    · have hkI : ((k * 8 : Nat) : Int) < (len : Int) := by omega
      obtain rfl := hqa (by omega)
      have HC : Hid (firsts len (k + 1) = firsts len k ++ [⟨k, hlt⟩]) := firsts_succ hlt
      obtain ⟨m, em⟩ : ∃ m, min 8 (len - k * 8) = m := ⟨_, rfl⟩
      have hm : Hid (min 8 (len - k * 8) = m) := em
      have a1 : (k : Int) * 8 ≤ (len : Int) := by omega
      have a2 : (len : Int) ≤ (qc : Int) := by omega
      have a3 : ((len : Int) - (k : Int) * 8) = ((len - k * 8 : Nat) : Int) := by omega
      gi_wp2
      gi_region
      have hif : (if ((len - k * 8 : Nat) : Int) < 8 then ((len - k * 8 : Nat) : Int) else 8) = (m : Int) := by rw [← em]; split <;> omega
      have hmi : min (8 : Int) ((len - k * 8 : Nat) : Int) = (m : Int) := by rw [← em]; omega
      first | simp only [hif] | simp only [hmi]
      clear hmi
      have HJ1 : Hid (J (firsts len k) wr.drew) := hJ _ _ _ _ HJ.out (grown_drew _) (fun r e => by cases e)
      have hB1 : KeepX n₀ X W wr.drew := hbr.trans (KeepX.of_grown (grown_drew _) (by have := hbr.size; omega) (fun r e => by cases e))
      have cl1 : wr.drew.cell? ⟨Bl, 0, none⟩ = some (.slice (some ⟨b, off, none⟩) len qc) := cl
      have cn1 : wr.drew.cell? ⟨Bn, 0, none⟩ = some (.int .i64 8) := cn
      obtain ⟨w1, e1⟩ : ∃ w1, wr.drew = w1 := ⟨_, rfl⟩
      rw [e1] at HJ1 hB1 cl1 cn1
      rw [e1]
      have hm8 : m ≤ 8 := by omega
      have hmk : k * 8 + m ≤ len := by omega
      have a4 : (k : Int) * 8 ≤ (k : Int) * 8 + (m : Int) := by omega
      have a5 : (k : Int) * 8 + (m : Int) ≤ (qc : Int) := by omega
      have hcv : chunkV b off len k = .slice (some ⟨b, off + k * 8 * 3, none⟩) m m := by unfold chunkV; rw [em]
      clear e1 cl cn HJ hbr a1 a3 hif
      obtain ⟨fn, tmps, assign, body, hy, hR⟩ := hY (firsts len k) ⟨k, hlt⟩ w1 HJ1.out (by rw [firsts_length hk]; omega)
      dsimp only at hy
      rw [hcv] at hy
      gi_wp2
      refine hR.mono ?_
      rintro e w3 (⟨rfl, hJ3, hk3⟩ | ⟨rfl, hJx3⟩)
      · have HJ3 : Hid (J (firsts len (k + 1)) w3) := by show J _ _; rw [HC.out]; exact hJ3
        have hB3 : KeepX n₀ X W w3 := hB1.trans hk3
        have cn3 : w3.cell? ⟨Bn, 0, none⟩ = some (.int .i64 8) := (hB3.cell (p := ⟨Bn, 0, none⟩) hBn hXn).trans hs
        clear hJ3 hk3 HJ1 hB1 cl1 cn1 hR hy
        gi_wp2
        go_roundw
        case rel => exact ⟨k + 1, by omega, by go_num, HJ3.out, hB3⟩
        case measure => simp [intOf]; omega
      · gi_wp2
        refine bodyPost_ret (results_none rfl _ _ _) rfl ?_
        exact ⟨⟨_, rfl⟩, .inr ⟨_, trivial, hJx3⟩⟩
    · have hkI : ¬ ((k * 8 : Nat) : Int) < (len : Int) := by omega
      obtain rfl : k = (len + 7) / 8 := by omega
      gi_wp2
      go_end0
      exact ⟨⟨_, rfl⟩, Or.inl HJ.out⟩

theorem chunk_stopsG (n Bl Bn n₀ b off len qc : Nat) (qa : Option Addr) (X : Nat → Prop) (hn : 1 ≤ n) (h63 : len ≤ 1048576)
    (hqa : 0 < len → qa = some ⟨b, off, none⟩) (hqc : len ≤ qc) (hqm : qc ≤ 9223372036854775807)
    (w : World) (hn0 : n₀ ≤ w.heap.size) (hBl : Bl < n₀) (hBn : Bn < n₀) (hXl : ¬ X Bl) (hXn : ¬ X Bn) (hl : w.cell? ⟨Bl, 0, none⟩ = some (.slice qa len qc)) (hs : w.cell? ⟨Bn, 0, none⟩ = some (.int .i64 8)) :
    SeqStopsK Fence.wide n Tryz.prog 91 #[.pointer (some ⟨Bl, 0, none⟩), .pointer (some ⟨Bn, 0, none⟩)] (fun x : Eight len => #[chunkV b off len x.1]) (KeepX n₀ X) (fun ys => ys = firsts len ((len + 7) / 8)) (fun _ => True) ((len + 7) / 8) w := fun l J Jx W hW hJ _ hY h0 => by
  have hW0 : Below n₀ w W := hW.mono hn0
  exact chunk146_in n l Bl Bn n₀ b off len qc _ _ qa X hn (Nat.le_refl _) h63 J Jx hJ hqa hqc hqm hY W (Nat.le_trans hn0 hW.size) hBl hBn hXl hXn ((hW0.cell (p := ⟨Bl, 0, none⟩) hBl).trans hl) ((hW0.cell (p := ⟨Bn, 0, none⟩) hBn).trans hs) h0

theorem chunk127 (qa : Option Addr) (len qc : Nat) (w : World) : Calls Tryz.prog 75 #[.slice qa len qc, .int .i64 8] w fun e w' =>
    e = .returned (.func (.func 91) #[] #[.pointer (some ⟨w.heap.size, 0, none⟩), .pointer (some ⟨w.heap.size + 1, 0, none⟩)]) ∧ Below w.heap.size w w' ∧ w'.heap.size = w.heap.size + 2 ∧
      w'.cell? ⟨w.heap.size, 0, none⟩ = some (.slice qa len qc) ∧ w'.cell? ⟨w.heap.size + 1, 0, none⟩ = some (.int .i64 8) := by
  refine calls_of_wp Tryz.func75 rfl ?_
  go_wp2
  refine bodyPost_ret (v := .func (.func 91) #[] #[.pointer (some ⟨w.heap.size, 0, none⟩), .pointer (some ⟨w.heap.size + 1, 0, none⟩)]) (by simp [results, Tryz.results75, go_sem]) rfl ⟨rfl, ((Below.refl _ w).alloc (Nat.le_refl _) _).alloc (by simp) _, by simp, by simp [go_sem], by simp [go_sem]⟩

theorem oneG {c : List Cel3} (h : ∀ x ∈ c, okG x) : ∀ v ∈ c.flatMap c3s, v.oneCell' = true := fun v hv => by
  obtain ⟨x, hx, hv⟩ := List.mem_flatMap.1 hv
  obtain ⟨s, v0, u0, rfl, _⟩ := h x hx
  simp only [c3s, List.mem_cons, List.not_mem_nil, or_false] at hv
  rcases hv with rfl | rfl | rfl <;> rfl
theorem info106 : (Tryz.prog.info? 90).map (·.size) = some 3 := by kernel_rfl
theorem copyG (W : World) (m b off q : Nat) (c : List Cel3) (hq : c.length = q) (h8 : q ≤ 8) (hok : ∀ x ∈ c, okG x)
    (hsrc : ∀ i x, c[i]? = some x → W.cell? ⟨b, off + i * 3, none⟩ = some x.1 ∧ W.cell? ⟨b, off + i * 3 + 1, none⟩ = some x.2.1 ∧ W.cell? ⟨b, off + i * 3 + 2, none⟩ = some x.2.2) (ty : TypeId) :
    (Builtin.copy_ #[48, 48] ty #[.slice (some ⟨W.heap.size, 1, none⟩) 8 8, .slice (some ⟨b, off, none⟩) q q]).run Tryz.prog (W.alloc (.cells (.int .i64 (m : Nat) :: (List.replicate 8 zG).flatMap c3s).toArray 130)) =
      .ok (.int .i64 (q : Nat)) (W.alloc (.cells (keyA zG m c) 130)) := by
  have hl : (c.flatMap c3s).length = q * 3 := by rw [flat_len, hq]
  have hmin : Nat.min q 8 = q := Nat.min_eq_left h8
  rw [run_copy_row3 (W.alloc (.cells (.int .i64 (m : Nat) :: (List.replicate 8 zG).flatMap c3s).toArray 130)) 48 48 ty 90 W.heap.size 1 8 8 ⟨b, off, none⟩ q q _ 130 (c.flatMap c3s) Tryz.underlying48 info106 (World.alloc_heap_new W _) (by rw [hl, hmin]) (fun j v hv => by
      have := RowT.flat hsrc j v hv
      rw [Addr.add_lit, World.cell?_alloc_lt _ _ _ (World.block_lt_of_cell? _ _ this)]
      exact this) (by rw [hl, List.size_toArray, List.length_cons, flat_len, List.length_replicate]; omega) (oneG hok)]
  rw [hmin, World.setRow_alloc_new]
  have e : (Value.int .i64 (m : Nat) :: (List.replicate 8 zG).flatMap c3s).take 1 ++ c.flatMap c3s ++ (Value.int .i64 (m : Nat) :: (List.replicate 8 zG).flatMap c3s).drop (1 + (c.flatMap c3s).length) = Value.int .i64 (m : Nat) :: (padT zG c).flatMap c3s := by
    rw [hl, Nat.add_comm 1, List.drop_succ_cons, zeros_drop h8]
    simp [padT, hq]
  rw [e]
  rfl
def zeroG (m : Int) : Array Value := (Value.int .i64 m :: (List.replicate 8 zG).flatMap c3s).toArray
theorem info184 : (Tryz.prog.info? 130).map (·.size) = some 25 := by kernel_rfl
theorem build184 (m : Int) (w : World) : (Instr.build 130 #[(0, .int .i64 m)]).run Tryz.prog w = .ok (.agg (zeroG m)) w := by kernel_rfl
theorem store184 (m : Int) (w : World) : (storeVar 130 ⟨w.heap.size, 0, none⟩ (.agg (zeroG m))).run Tryz.prog (w.alloc (.cells #[.int .i64 0, .string ⟨#[]⟩, .bool false, .string ⟨#[]⟩, .string ⟨#[]⟩, .bool false, .string ⟨#[]⟩, .string ⟨#[]⟩, .bool false, .string ⟨#[]⟩, .string ⟨#[]⟩, .bool false, .string ⟨#[]⟩, .string ⟨#[]⟩, .bool false, .string ⟨#[]⟩, .string ⟨#[]⟩, .bool false, .string ⟨#[]⟩, .string ⟨#[]⟩, .bool false, .string ⟨#[]⟩, .string ⟨#[]⟩, .bool false, .string ⟨#[]⟩] 130)) = .ok () (w.alloc (.cells (zeroG m) 130)) := by
  have h := run_storeVar_row (P := Tryz.prog) (w.alloc (.cells #[.int .i64 0, .string ⟨#[]⟩, .bool false, .string ⟨#[]⟩, .string ⟨#[]⟩, .bool false, .string ⟨#[]⟩, .string ⟨#[]⟩, .bool false, .string ⟨#[]⟩, .string ⟨#[]⟩, .bool false, .string ⟨#[]⟩, .string ⟨#[]⟩, .bool false, .string ⟨#[]⟩, .string ⟨#[]⟩, .bool false, .string ⟨#[]⟩, .string ⟨#[]⟩, .bool false, .string ⟨#[]⟩, .string ⟨#[]⟩, .bool false, .string ⟨#[]⟩] 130)) w.heap.size 130 130 #[.int .i64 0, .string ⟨#[]⟩, .bool false, .string ⟨#[]⟩, .string ⟨#[]⟩, .bool false, .string ⟨#[]⟩, .string ⟨#[]⟩, .bool false, .string ⟨#[]⟩, .string ⟨#[]⟩, .bool false, .string ⟨#[]⟩, .string ⟨#[]⟩, .bool false, .string ⟨#[]⟩, .string ⟨#[]⟩, .bool false, .string ⟨#[]⟩, .string ⟨#[]⟩, .bool false, .string ⟨#[]⟩, .string ⟨#[]⟩, .bool false, .string ⟨#[]⟩] (zeroG m) (World.alloc_heap_new w _) (by rw [info184]; rfl) rfl (by kernel_rfl)
  rw [World.setRow_alloc_new] at h
  exact h
theorem load184 (w : World) (b : Nat) (cs : Array Value) (h : w.heap[b]? = some (.cells cs 130 (0, 0))) (hs : cs.size = 25) : (loadVar 130 ⟨b, 0, none⟩).run Tryz.prog w = .ok (.agg cs) w := run_loadVar_row w b 130 130 cs (0, 0) _ h Tryz.underlying130 rfl (by rw [info184, hs])
theorem wpListIn_build184 {F : Fence} {nF : Nat} (w : World) {ops : Array Oper} {rest : List Oper} {o : Oper} {a : Act} {Q : Exit → Act → World → Prop} (hg : o.guard = none) (x : Operand) (hop : o.op = Op.build 130 #[(0, x)]) (m : Int) (hx : a.eval x = .int .i64 m)
    (hK : wpListIn F nF Tryz.prog ops Q rest (a.put o.dst (.agg (zeroG m))) w) : wpListIn F nF Tryz.prog ops Q (o :: rest) a w := by
  refine wpListIn_plain hg fun K' hK' => ?_
  unfold Oper.wpIn
  refine ⟨by simp [Oper.about, hop], ?_⟩
  rw [Oper.semAt_plain F _ _ (by rw [hop]; intro c hc'; cases hc')]
  simp [execOp, hop, hx, build184 m w, Result.andThen]
  exact hK' _ _ hK
theorem wpListIn_store184 {F : Fence} {nF : Nat} (w : World) {ops : Array Oper} {rest : List Oper} {o : Oper} {a : Act} {Q : Exit → Act → World → Prop} (hg : o.guard = none) (p x : Operand) (hop : o.op = Op.store 130 p x) (m : Int) (hp : a.eval p = .pointer (some ⟨w.heap.size, 0, none⟩)) (hx : a.eval x = .agg (zeroG m))
    (hK : wpListIn F nF Tryz.prog ops Q rest (a.put o.dst undef) (w.alloc (.cells (zeroG m) 130))) : wpListIn F nF Tryz.prog ops Q (o :: rest) a (w.alloc (.cells #[.int .i64 0, .string ⟨#[]⟩, .bool false, .string ⟨#[]⟩, .string ⟨#[]⟩, .bool false, .string ⟨#[]⟩, .string ⟨#[]⟩, .bool false, .string ⟨#[]⟩, .string ⟨#[]⟩, .bool false, .string ⟨#[]⟩, .string ⟨#[]⟩, .bool false, .string ⟨#[]⟩, .string ⟨#[]⟩, .bool false, .string ⟨#[]⟩, .string ⟨#[]⟩, .bool false, .string ⟨#[]⟩, .string ⟨#[]⟩, .bool false, .string ⟨#[]⟩] 130)) := by
  refine wpListIn_plain hg fun K' hK' => ?_
  unfold Oper.wpIn
  refine ⟨by simp [Oper.about, hop], ?_⟩
  rw [Oper.semAt_plain F _ _ (by rw [hop]; intro c hc'; cases hc')]
  have h : (Instr.storeAt 130 (.pointer (some ⟨w.heap.size, 0, none⟩)) (.agg (zeroG m))).run Tryz.prog (w.alloc (.cells #[.int .i64 0, .string ⟨#[]⟩, .bool false, .string ⟨#[]⟩, .string ⟨#[]⟩, .bool false, .string ⟨#[]⟩, .string ⟨#[]⟩, .bool false, .string ⟨#[]⟩, .string ⟨#[]⟩, .bool false, .string ⟨#[]⟩, .string ⟨#[]⟩, .bool false, .string ⟨#[]⟩, .string ⟨#[]⟩, .bool false, .string ⟨#[]⟩, .string ⟨#[]⟩, .bool false, .string ⟨#[]⟩, .string ⟨#[]⟩, .bool false, .string ⟨#[]⟩] 130)) = .ok () (w.alloc (.cells (zeroG m) 130)) := store184 m w
  simp only [execOp, hop, hp, hx, Sem.run_bind, h, Result.andThen_ok, Sem.run_pure]
  exact hK' _ _ hK
theorem wpListIn_load184 {F : Fence} {nF : Nat} (w : World) {ops : Array Oper} {rest : List Oper} {o : Oper} {a : Act} {Q : Exit → Act → World → Prop} (hg : o.guard = none) (p : Operand) (hop : o.op = Op.load 130 p) (b : Nat) (v : Value) (hp : a.eval p = .pointer (some ⟨b, 0, none⟩)) (hl : (loadVar 130 ⟨b, 0, none⟩).run Tryz.prog w = .ok v w)
    (hK : wpListIn F nF Tryz.prog ops Q rest (a.put o.dst v) w) : wpListIn F nF Tryz.prog ops Q (o :: rest) a w := by
  refine wpListIn_plain hg fun K' hK' => ?_
  unfold Oper.wpIn
  refine ⟨by simp [Oper.about, hop], ?_⟩
  rw [Oper.semAt_plain F _ _ (by rw [hop]; intro c hc'; cases hc')]
  have h : (Instr.loadAt 130 (.pointer (some ⟨b, 0, none⟩))).run Tryz.prog w = .ok v w := hl
  simp only [execOp, hop, hp, Sem.run_bind, h, Result.andThen_ok, Sem.run_pure]
  exact hK' _ _ hK
def INumG (w W0 : World) (mb n len : Nat) (rep : Nat → List Cel3) (xs : List Cel3) (pre : List (Eight len)) (W : World) : Prop := ∃ n' f' m, MapK 130 W mb n' f' ∧ Boxed W w.heap.size 59 (.map (some mb)) ∧ Boxed W (w.heap.size + 1) 3 (.int .i64 (m : Nat)) ∧ m ≤ n' ∧ n' ≤ n + pre.length ∧ (∀ k v, f' k = some v → v ≤ n') ∧ KeepX (w.heap.size + 4) (fun k => k = mb ∨ k = w.heap.size + 1) W0 W ∧ (pre = firsts len pre.length → ∃ rep', NumS zG n' f' rep' ∧ Ext n rep n' rep' ∧ rep' m = xs.take (pre.length * 8))
/-- The number goes one eight on. -/
theorem step_hadG {n n' len m q : Nat} {f' : Value → Option Nat} {rep : Nat → List Cel3} {xs c : List Cel3} {pre : List (Eight len)} {x : Eight len} (hlen : xs.length = len) (hp : pre.length < (len + 7) / 8) (ec : chunkT xs x.1 = c) (hc : c.length ≤ 8) (hz : ∀ y ∈ c, y ≠ zG)
    (h7 : pre = firsts len pre.length → ∃ rep', NumS zG n' f' rep' ∧ Ext n rep n' rep' ∧ rep' m = xs.take (pre.length * 8)) (hf : f' (.agg (keyA zG m c)) = some q) :
    pre ++ [x] = firsts len (pre ++ [x]).length → ∃ rep', NumS zG n' f' rep' ∧ Ext n rep n' rep' ∧ rep' q = xs.take ((pre ++ [x]).length * 8) := fun h => by
  obtain ⟨h1, h2⟩ := firsts_snoc hp h
  obtain ⟨rep', r1, r2, r3⟩ := h7 h1
  refine ⟨rep', r1, r2, ?_⟩
  rw [(r1.had hc hz hf).2, r3, ← ec, h2, chunkT_next]
  simp
open Classical in
theorem step_putG {n n' len m : Nat} {f' : Value → Option Nat} {rep : Nat → List Cel3} {xs c : List Cel3} {pre : List (Eight len)} {x : Eight len} (hlen : xs.length = len) (hp : pre.length < (len + 7) / 8) (ec : chunkT xs x.1 = c) (hm : m ≤ n') (hc : c.length ≤ 8) (hc1 : 1 ≤ c.length) (hz : ∀ y ∈ c, y ≠ zG)
    (h7 : pre = firsts len pre.length → ∃ rep', NumS zG n' f' rep' ∧ Ext n rep n' rep' ∧ rep' m = xs.take (pre.length * 8)) (hf : f' (.agg (keyA zG m c)) = none) :
    pre ++ [x] = firsts len (pre ++ [x]).length → ∃ rep', NumS zG (n' + 1) (fun y => if y = .agg (keyA zG m c) then some (n' + 1) else f' y) rep' ∧ Ext n rep (n' + 1) rep' ∧ rep' (n' + 1) = xs.take ((pre ++ [x]).length * 8) := fun h => by
  obtain ⟨h1, h2⟩ := firsts_snoc hp h
  obtain ⟨rep', r1, r2, r3⟩ := h7 h1
  have h8 : (rep' m).length % 8 = 0 := by rw [r3, List.length_take, hlen]; omega
  obtain ⟨q1, q2⟩ := r1.put hm h8 hc1 hc hz hf
  refine ⟨_, q1, r2.trans q2, ?_⟩
  simp only [if_true]
  rw [r3, ← ec, h2, chunkT_next]
  simp

set_option maxRecDepth 100000 in
set_option maxHeartbeats 2000000 in
theorem number102 (mb n len qc b off : Nat) (f : Value → Option Nat) (rep : Nat → List Cel3) (qa : Option Addr) (xs : List Cel3) (w : World)
    (hM : MapK 130 w mb n f) (hN : NumS zG n f rep) (hle0 : ∀ k v, f k = some v → v ≤ n) (hlen : xs.length = len) (h63 : len ≤ 1048576) (hn : n + len ≤ 1073741823) (hqa : 0 < len → qa = some ⟨b, off, none⟩) (hqc : len ≤ qc) (hqm : qc ≤ 9223372036854775807)
    (hrow : RowT w qa xs) (hok : ∀ x ∈ xs, okG x ∧ x ≠ zG) :
    Calls Tryz.prog 48 #[.map (some mb), .slice qa len qc] w fun e w' => ∃ n' f' rep' m, e = .returned (.int .i64 (m : Nat)) ∧ MapK 130 w' mb n' f' ∧ NumS zG n' f' rep' ∧ Ext n rep n' rep' ∧ m ≤ n' ∧ n' ≤ n + len ∧ rep' m = xs ∧ (∀ k v, f' k = some v → v ≤ n') ∧ KeepX w.heap.size (· = mb) w w' := by
  have hmb := hM.lt
  refine (callsIn_wide (n := 3)).1 ?_
  refine callsIn_of_wp_marks Tryz.func48 rfl trivial ?_ rfl
  simp only [Tryz.ntmps48, List.size_toArray, List.length_cons, List.length_nil, Nat.reduceAdd, Nat.reduceSub, Array.replicate_succ, Array.replicate_zero, List.push_toArray, List.append_toArray, List.nil_append, List.cons_append]
  gi_wp2
  refine ⟨trivial, (callsIn_wide.2 (chunk127 qa len qc _)).mono ?_⟩
  rintro e W0 ⟨rfl, hb0, hs0, hl0, h80⟩
  dsimp only
  have eh : ((w.alloc (.cells #[.map (some mb)] 59)).alloc (.cells #[.int .i64 0] 3)).heap.size = w.heap.size + 2 := by simp
  rw [eh] at hb0 hs0 hl0 h80
  have hBw : Below w.heap.size w W0 := (((Below.refl _ w).alloc (Nat.le_refl _) _).alloc (by simp) _).trans (hb0.mono (by omega))
  have bM : Boxed W0 w.heap.size 59 (.map (some mb)) := (hb0.block _ (by omega)).trans ((Boxed.new w 59 _).alloc _)
  have bK : Boxed W0 (w.heap.size + 1) 3 (.int .i64 0) := (hb0.block _ (by omega)).trans (by have h := Boxed.new (w.alloc (.cells #[.map (some mb)] 59)) 3 (.int .i64 0); rw [show (w.alloc (.cells #[.map (some mb)] 59)).heap.size = w.heap.size + 1 by simp] at h; exact h)
  rw [eh]
  clear eh hb0
  have hM0 : MapK 130 W0 mb n f := hM.same (hBw.block mb hmb)
  gi_wp2
  refine wpIn_rangeFunc_ownG rfl (by decide) (gf := 91) (lb := #[.pointer (some ⟨w.heap.size + 2, 0, none⟩), .pointer (some ⟨w.heap.size + 2 + 1, 0, none⟩)]) rfl trivial (enters_of Tryz.func91 (by kernel_rfl) rfl)
    (chunk_stopsG 2 (w.heap.size + 2) (w.heap.size + 2 + 1) (w.heap.size + 4) b off len qc qa (fun k => k = mb ∨ k = w.heap.size + 1) (by omega) h63 hqa hqc hqm W0 (by omega) (by omega) (by omega) (by omega) (by omega) hl0 h80)
    (fun h k => h.trans k) (fun W l o o' hl h _ _ => KeepX.of_grown (grownBy_putObj' W l o') (by have := (Array.getElem?_eq_some_iff.1 h).1; omega) (fun r e h => by cases e; omega)) (Below.refl _ _) (fun _ => rfl)
    (INumG w W0 mb n len rep xs)
    (fun _ _ _ => False)
    (fun s W W' row hs hg hr => by
      obtain ⟨n', f', m, h1, h2, h3, h4, h5, hle, h6, h7⟩ := hs
      have hrr : ∀ k, k < W0.heap.size → some k ≠ row := fun k hk e => by have := (hr k e.symm).1; omega
      have hsz := h6.size
      exact ⟨n', f', m, h1.same (hg.block mb h1.lt (hrr mb (by omega))), h2.kept hg (hrr _ (by omega)), h3.kept hg (hrr _ (by omega)), h4, h5, hle, h6.trans (KeepX.of_grown hg (by omega) (fun r e h => by have := (hr r e).1; omega)), h7⟩)
    (fun _ _ _ _ _ hs _ _ => hs)
    ⟨n, f, 0, hM0, bM, bK, Nat.zero_le _, by simp, hle0, KeepX.refl _ _ _, fun _ => ⟨rep, hN, Ext.refl _ _, by simp [hN.zero]⟩⟩
    (fun x => { tmps := #[.map (some mb), .slice qa len qc, .pointer (some ⟨w.heap.size, 0, none⟩), undef, .int .i64 0, .pointer (some ⟨w.heap.size + 1, 0, none⟩), chunkV b off len x.1, undef, undef, undef, .slice qa len qc, .func (.func 91) #[] #[.pointer (some ⟨w.heap.size + 2, 0, none⟩), .pointer (some ⟨w.heap.size + 2 + 1, 0, none⟩)], chunkV b off len x.1, undef, undef, undef, undef, undef, undef, undef, undef, undef, undef, undef, undef, undef, undef, undef, undef, undef, undef, undef, undef, undef, undef], defers := [] })
    ?assign ?body ?done ?stop
  case assign =>
    rintro l x W K hK
    gi_wp2
    exact hK
  case body => as_aux_lemma =>
    rintro l pre x W ⟨n', f', m, h1, h2, h3, h4, h5, hle, h6, h7⟩ hlt
    have c2 := h2.cell
    have c3 := h3.cell
    have hsz := h6.size
    obtain ⟨x, hx⟩ := x
    obtain ⟨c, ec⟩ : ∃ c, chunkT xs x = c := ⟨_, rfl⟩
    have hc8 : c.length ≤ 8 := by rw [← ec]; exact chunkT_le xs x
    have hcm : ∀ y ∈ c, y ∈ xs := fun y hy => chunkT_mem (ec ▸ hy)
    have hcl : min 8 (len - x * 8) = c.length := by rw [← ec, chunkT, List.length_take, List.length_drop, hlen]
    obtain ⟨l0, hkey⟩ := keyG (k := m) (c := c) (by omega) hc8 (fun y hy => (hok y (hcm y hy)).1)
    obtain rfl := hqa (by omega)
    have hsrc : ∀ i y, c[i]? = some y → W.cell? ⟨b, off + x * 8 * 3 + i * 3, none⟩ = some y.1 ∧ W.cell? ⟨b, off + x * 8 * 3 + i * 3 + 1, none⟩ = some y.2.1 ∧ W.cell? ⟨b, off + x * 8 * 3 + i * 3 + 2, none⟩ = some y.2.2 := fun i y hy => by
      have hi : i < 8 := by have := (List.getElem?_eq_some_iff.1 hy).1; omega
      have e1 : xs[x * 8 + i]? = some y := by
        rw [← ec, chunkT, List.getElem?_take, if_pos hi, List.getElem?_drop] at hy
        exact hy
      obtain ⟨b', off', eb, q1, q2, q3⟩ := hrow _ y e1
      cases eb
      have hbl := World.block_lt_of_cell? _ _ q1
      have hbm : ¬ (b = mb ∨ b = w.heap.size + 1) := fun e => by
        rcases e with e | e
        · subst e
          obtain ⟨o, ho, hoc⟩ := cells_of_cell q1
          cases o <;> simp [Obj.isCells] at hoc
          exact hM.notCells ho
        · dsimp only at hbl; omega
      have hk : ∀ p : Addr, p.block = b → W.cell? p = w.cell? p := fun p ep => (h6.cell (p := p) (by rw [ep]; dsimp only at hbl; omega) (by rw [ep]; exact hbm)).trans (hBw.cell (p := p) (by rw [ep]; exact hbl))
      rw [show off + x * 8 * 3 + i * 3 = off + (x * 8 + i) * 3 by omega]
      exact ⟨(hk _ rfl).trans q1, (hk _ rfl).trans q2, (hk _ rfl).trans q3⟩
    have hcopy := copyG W m b (off + x * 8 * 3) c.length c rfl hc8 (fun y hy => (hok y (hcm y hy)).1) hsrc
    change ∀ ty, (Builtin.copy_ _ ty _).run Tryz.prog (W.alloc (.cells (zeroG (m : Nat)) 130)) = _ at hcopy
    obtain ⟨W1, eW1⟩ : ∃ y, W.alloc (.cells (keyA zG m c) 130) = y := ⟨_, rfl⟩
    rw [eW1] at hcopy
    have hM1 : MapK 130 W1 mb n' f' := h1.same (by rw [← eW1]; exact Below.heap_alloc W _ _ h1.lt)
    have b21 : Boxed W1 w.heap.size 59 (.map (some mb)) := by rw [← eW1]; exact h2.alloc _
    have b31 : Boxed W1 (w.heap.size + 1) 3 (.int .i64 (m : Nat)) := by rw [← eW1]; exact h3.alloc _
    have hk1 : KeepX (w.heap.size + 4) (fun k => k = mb ∨ k = w.heap.size + 1) W W1 := by rw [← eW1]; exact KeepX.of_grown (World.grownBy_alloc W _ none) (by omega) (fun r e => by cases e)
    have hko1 : KeepsFrom (w.heap.size + 2 + 2) W W1 := by rw [← eW1]; exact (KeepsOthers.alloc W _).from _
    obtain ⟨KA, ek⟩ : ∃ KA, keyA zG m c = KA := ⟨_, rfl⟩
    have hb1 : W1.heap[W.heap.size]? = some (.cells KA 130 (0, 0)) := by rw [← eW1, ← ek]; exact World.alloc_heap_new W _
    have hKA : KA.size = 25 := by rw [← ek]; simp only [keyA, List.size_toArray, List.length_cons, flat_len, padT_length hc8]
    have hload := load184 W1 W.heap.size KA hb1 hKA
    have d2 := b21.cell
    have d3 := b31.cell
    have fr := b31.frozen
    have hsz1 : W.heap.size < W1.heap.size := (Array.getElem?_eq_some_iff.1 hb1).1
    rw [ek] at hkey
    have hlook := (hM1.look law184 Tryz.underlying59 hkey).1
    have hlen1 := fun ty => hM1.len (mt := 59) Tryz.underlying59 ty
    unfold chunkV
    dsimp only
    rw [hcl]
    cases hf : f' (.agg KA) with
    | some q =>
      rw [hf] at hlook
      simp only [Option.getD_some, Option.isSome_some] at hlook
      clear eW1
      have hq : q ≤ n' := hle _ _ hf
      gi_wp2_with (first | (refine wpListIn_build184 _ rfl (.tmp 13) rfl (m : Nat) rfl ?_) | (refine wpListIn_store184 W rfl (.tmp 7) (.tmp 14) rfl (m : Nat) rfl rfl ?_) | (refine wpListIn_load184 W1 rfl (.tmp 7) rfl W.heap.size (.agg KA) rfl hload ?_))
      refine ⟨hko1.trans ((KeepsOthers.setCell W1 ⟨w.heap.size + 1, 0, none⟩ _).from _), ?_⟩
      have hst : KeepX (w.heap.size + 4) (fun k => k = mb ∨ k = w.heap.size + 1) W1 (W1.setCell ⟨w.heap.size + 1, 0, none⟩ (.int .i64 (q : Nat))) := KeepX.of_grown (grownBy_setCell' W1 (w.heap.size + 1) _) (by omega) (fun r e h => by cases e; exact Or.inr rfl)
      exact ⟨hk1.trans hst, n', f', q, hM1.same (Below.heap_setCell _ _ _ _ (by dsimp only; omega)), b21.other (by omega) _, b31.set _, hq, by rw [List.length_append]; omega, hle, h6.trans (hk1.trans hst), step_hadG (x := ⟨x, hx⟩) hlen hlt ec hc8 (fun y hy => (hok y (hcm y hy)).2) h7 (by rw [ek]; exact hf)⟩
    | none =>
      rw [hf] at hlook
      simp only [Option.getD_none, Option.isSome_none] at hlook
      obtain ⟨W2, hst2, hM2, hg2⟩ := hM1.store law184 Tryz.underlying59 hkey (by unfold maxLen; omega) (n' + 1)
      rw [hf] at hM2
      simp only [Option.isSome_none, Bool.false_eq_true, if_false] at hM2
      have b22 : Boxed W2 w.heap.size 59 (.map (some mb)) := b21.kept hg2 (by simp; omega)
      have b32 : Boxed W2 (w.heap.size + 1) 3 (.int .i64 (m : Nat)) := b31.kept hg2 (by simp; omega)
      have hk2 : KeepX (w.heap.size + 4) (fun k => k = mb ∨ k = w.heap.size + 1) W1 W2 := KeepX.of_grown hg2 (by omega) (fun r e h => by cases e; exact Or.inl rfl)
      have hko2 : KeepsFrom (w.heap.size + 2 + 2) W1 W2 := KeepsFrom.of_grownBy hg2 (fun j e => by cases e; omega)
      have hsz2 := hk2.size
      have e2 := b32.cell
      have fr2 := b32.frozen
      rw [show ((n' + 1 : Nat) : Int) = (n' : Int) + 1 by omega] at hst2
      have hnN : n' ≤ 1073741823 := by omega
      clear eW1
      gi_wp2_with (first | (refine wpListIn_build184 _ rfl (.tmp 13) rfl (m : Nat) rfl ?_) | (refine wpListIn_store184 W rfl (.tmp 7) (.tmp 14) rfl (m : Nat) rfl rfl ?_) | (refine wpListIn_load184 W1 rfl (.tmp 7) rfl W.heap.size (.agg KA) rfl hload ?_))
      rw [show (n' : Int) + 1 = ((n' + 1 : Nat) : Int) by omega]
      have hst : KeepX (w.heap.size + 4) (fun k => k = mb ∨ k = w.heap.size + 1) W2 (W2.setCell ⟨w.heap.size + 1, 0, none⟩ (.int .i64 (n' + 1 : Nat))) := KeepX.of_grown (grownBy_setCell' W2 (w.heap.size + 1) _) (by omega) (fun r e h => by cases e; exact Or.inr rfl)
      refine ⟨(hko1.trans hko2).trans ((KeepsOthers.setCell W2 ⟨w.heap.size + 1, 0, none⟩ _).from _), (hk1.trans hk2).trans hst, n' + 1, _, n' + 1, hM2.same (Below.heap_setCell _ _ _ _ (by dsimp only; omega)), b22.other (by omega) _, b32.set _, Nat.le_refl _, by rw [List.length_append, List.length_singleton]; omega, ?_, h6.trans ((hk1.trans hk2).trans hst), ?_⟩
      · intro k v hv
        by_cases ek2 : k = .agg KA
        · simp only [if_pos ek2] at hv
          cases hv
          exact Nat.le_refl _
        · simp only [if_neg ek2] at hv
          have := hle k v hv
          omega
      · have := step_putG (n := n) (rep := rep) (x := ⟨x, hx⟩) hlen hlt ec h4 hc8 (by rw [← hcl]; omega) (fun y hy => (hok y (hcm y hy)).2) h7 (by rw [ek]; exact hf)
        rw [ek] at this
        exact this
  case done => as_aux_lemma =>
    rintro D ys W hD rfl ⟨n', f', m, h1, h2, h3, h4, h5, hle, h6, h7⟩ hK
    have c3 := h3.cell
    have hfl : (firsts len ((len + 7) / 8)).length = (len + 7) / 8 := firsts_length (Nat.le_refl _)
    obtain ⟨rep', r1, r2, r3⟩ := h7 (by rw [hfl])
    gi_wp2
    refine ⟨by simp, .inl ⟨_, _, rfl, run_takeDeferred hK, ?_⟩⟩
    refine ⟨_, results_tmp rfl _ _ _, n', f', rep', m, rfl, h1.same (World.putObj_heap_other (fun e => by have := h1.lt; have := h6.size; omega)), r1, r2, h4, ?_, ?_, ?_, ?_⟩
    · rw [hfl] at h5; omega
    · rw [r3, hfl]; exact List.take_of_length_le (by omega)
    · exact hle
    · exact ((KeepX.of_below hBw).trans (h6.mono (by omega) (fun k hk e => Or.elim e id (fun e => by have := hBw.size; omega)))).trans (KeepX.of_grown (grownBy_putObj' W D _) (by have := h6.size; have := hBw.size; omega) (fun r e h => by cases e; have := hBw.size; omega))
  case stop =>
    rintro D c pre W _ _ h _
    exact h.elim
end Go.Proofs.YtllhbgmadiclcaaGreatDoor
