import Derived.Test.YtllhbgmadiclcaaGreatDoorMgJ
namespace Go.Proofs.YtllhbgmadiclcaaGreatDoor
open Go.RowKit
set_option linter.unusedVariables false

theorem wpIn_rangeFunc_ownA {α : Type} {F : Fence} {n : Nat} {P : Program} {g : Operand} {ps : Array Tmp} {assign body : Code} {Q : Exit → Act → World → Prop} {a : Act} {w : World}
    (hro : F.round = none) (h1 : 1 ≤ n) {gf : Nat} {lb : Array Value} (hg : a.eval g = .func (.func gf) #[] lb) (hFg : F.fn gf) (eg : ∀ args w, (callFunc gf args).run P w = .ok (.enter gf args) w)
    {encs : α → Array Value} {T Kp : World → World → Prop} {S Sp : List α → Prop} {N : Nat} {w0 : World} (hseq : SeqStopsT F (n - 1) P gf lb encs T Kp S Sp N w0)
    (hKt : ∀ {A B C : World}, Kp A B → Kp B C → Kp A C) (hKb : ∀ (W : World) (l : Nat) (o o' : Obj), w.heap.size ≤ l → W.heap[l]? = some o → o.isCells = false → o.isWalk = false → Kp W (W.putObj l o')) (hb0 : Below w0.heap.size w0 w) (hps : ∀ x, (encs x).size = ps.size)
    (I : List α → World → Prop) (Ix : Code → List α → World → Prop) (hI : OwnFrom w.heap.size I) (hIx : ∀ c, OwnFrom w.heap.size (Ix c)) (hIT : ∀ s A B, I s A → T A B → I s B) (hIxT : ∀ c s A B, Ix c s A → T A B → Ix c s B)
    (hTk : ∀ A B k o, w.heap.size ≤ k → A.heap[k]? = some o → T A B → B.heap[k]? = some o) (h0 : I [] w) (Ax : α → Act → World → Prop) (hKa : ∀ s A B, I s A → Below A.heap.size A B → Kp A B)
    (hAx : ∀ (x : α) (a' : Act) (W : World) (l : Nat) (o o' : Obj), Ax x a' W → W.heap[l]? = some o → o.isCells = false → Ax x a' (W.putObj l o'))
    (hassign : ∀ (l : Nat) (pre : List α) (x : α) (W : World) (K : Act → World → Prop), I pre W → (∀ a' W', Below W.heap.size W W' → Ax x a' W' → K a' W') →
      assign.wpIn (F.inRound l) (n - 1 - 1) P (Exit.then K (fun _ _ _ => False)) { tmps := (ps.zip (encs x)).foldl (fun t (p, v) => t.setIfInBounds p v) a.tmps, defers := [] } W)
    (hbody : ∀ (l : Nat) (pre : List α) (x : α) (a' : Act) (W : World), I pre W → Ax x a' W → pre.length < N → body.wpIn (F.inRound l) (n - 1 - 1) P (ownPostG w.heap.size Kp I Ix (pre ++ [x]) W) a' W)
    (hdone : ∀ (D : Nat) (xs : List α) (W : World), w.heap.size ≤ D → S xs → I xs W → W.heap[D]? = some (.deferred (some [])) → Q .normal { a with defers := { target := .collected D, args := #[] } :: a.defers } W)
    (hstop : ∀ (D : Nat) (c : Code) (pre : List α) (W : World), w.heap.size ≤ D → Sp pre → Ix c pre W → W.heap[D]? = some (.deferred (some [])) → c.wpIn F n P Q { a with defers := { target := .collected D, args := #[] } :: a.defers } W) :
    (Code.rangeFunc g ps assign body).wpIn F n P Q a w := by
  refine wpIn_rangeFunc ?_
  intro fn hfn
  rw [hro]
  obtain ⟨rec, hrec⟩ : ∃ rec : LoopState → Option Code → Loop, rec = fun st pe => { state := st, pending := pe, fn, tmps := a.tmps, params := ps, assign, body, defers := w.heap.size } := ⟨_, rfl⟩
  obtain ⟨W1, hW1⟩ : ∃ W1, (w.alloc (.deferred (some []))).alloc (.loop (rec .ready none)) = W1 := ⟨_, rfl⟩
  have hL1 : W1.heap[w.heap.size + 1]? = some (.loop (rec .ready none)) := by
    rw [← hW1]; have := World.alloc_heap_new (w.alloc (.deferred (some []))) (.loop (rec .ready none)); rwa [World.size_alloc] at this
  have hK1 : W1.heap[w.heap.size]? = some (.deferred (some [])) := by
    rw [← hW1]; exact (Below.heap_alloc _ _ _ (by simp)).trans (World.alloc_heap_new w _)
  have hI1 : I [] W1 := by rw [← hW1]; exact hI.alloc _ (hI.alloc _ h0)
  have hb1 : Below w0.heap.size w0 W1 := by
    rw [← hW1]; exact hb0.trans ((((Below.refl _ w).alloc (Nat.le_refl _) _).alloc (by simp) _).mono hb0.size)
  refine ⟨w.heap.size + 1, [{ target := .collected w.heap.size, args := #[] }], W1, { target := .fn (.func gf) lb, args := #[.func (.yield (w.heap.size + 1)) #[] #[]] }, W1, gf,
    #[.func (.yield (w.heap.size + 1)) #[] #[]] ++ lb, W1, ?_, ?_, ?_, ?_, fun _ => h1, ?_⟩
  · rw [← hW1, hrec]; exact run_enterLoop_outer _ _ _ _ _
  · simp only [resolve, hg]
    simp [go_sem]
  · intro f' hf'; simp [Target.leads] at hf'; subst hf'; exact hFg
  · simp [invoke, go_sem, eg]
  · refine (hseq (w.heap.size + 1)
      (fun pre W => I pre W ∧ W.heap[w.heap.size + 1]? = some (.loop (rec .ready none)) ∧ W.heap[w.heap.size]? = some (.deferred (some [])))
      (fun pre W => ∃ c, Ix c pre W ∧ W.heap[w.heap.size + 1]? = some (.loop (rec .done (some c))) ∧ W.heap[w.heap.size]? = some (.deferred (some [])))
      W1 hb1
      (fun s A B hs ht => ⟨hIT s A B hs.1 ht, hTk A B _ _ (by omega) hs.2.1 ht, hTk A B _ _ (Nat.le_refl _) hs.2.2 ht⟩)
      (fun s A B hs ht => by
        obtain ⟨c, hc, hl, hk⟩ := hs
        exact ⟨c, hIxT c s A B hc ht, hTk A B _ _ (by omega) hl ht, hTk A B _ _ (Nat.le_refl _) hk ht⟩)
      ?_ ⟨hI1, hL1, hK1⟩).mono ?_
    · rintro pre x W0 ⟨hi0, hl0, hk0⟩ hlen
      have hy := run_yield (P := P) (args := encs x) hl0 (by rw [hrec]; exact hps x)
      rw [hrec] at hy
      refine ⟨fn, _, assign, body, hy, roundIn_of_wpIn hfn (hassign _ pre x W0 _ hi0 (fun a' W hbW hax => ?_))⟩
      have hlt0 : w.heap.size + 1 < W0.heap.size := (Array.getElem?_eq_some_iff.1 hl0).1
      have hl : W.heap[w.heap.size + 1]? = some (.loop (rec .ready none)) := (hbW.block _ hlt0).trans hl0
      have hk : W.heap[w.heap.size]? = some (.deferred (some [])) := (hbW.block _ (by omega)).trans hk0
      have hi : I pre W := hI pre W0 W none hi0 ⟨hbW.os, hbW.tape, hbW.output, hbW.size, fun k hk _ => hbW.block k hk⟩ (fun r e => by cases e)
      refine ⟨_, run_beginRound hl (by rw [hrec]), ?_⟩
      have hlt : w.heap.size + 1 < W.heap.size := (Array.getElem?_eq_some_iff.1 hl).1
      have hl2 : (W.putObj (w.heap.size + 1) (.loop { rec .ready none with state := .busy })).heap[w.heap.size + 1]? = some (.loop { rec .ready none with state := .busy }) := World.putObj_heap_same hlt
      have hk2 : (W.putObj (w.heap.size + 1) (.loop { rec .ready none with state := .busy })).heap[w.heap.size]? = some (.deferred (some [])) := (World.putObj_heap_other (by omega)).trans hk
      have hw2 : Kp W0 (W.putObj (w.heap.size + 1) (.loop { rec .ready none with state := .busy })) := hKt (hKa pre _ _ hi0 hbW) (hKb _ _ _ _ (by omega) hl rfl rfl)
      refine wpIn_mono (hbody _ pre x a' _ (hI.putObj _ hi (by omega) hl rfl) (hAx x a' W _ _ _ hax hl rfl) hlen) ?_
      have fin : ∀ (jump : Option Code) (W3 : World), KeepsFrom w.heap.size (W.putObj (w.heap.size + 1) (.loop { rec .ready none with state := .busy })) W3 →
          (Instr.endRound (w.heap.size + 1) jump).run P W3 = .ok (.bool jump.isNone) (W3.putObj (w.heap.size + 1) (.loop (rec (if jump.isNone then .ready else .done) jump))) ∧
          W3.heap[w.heap.size + 1]? = some (.loop { rec .ready none with state := .busy }) ∧
          (W3.putObj (w.heap.size + 1) (.loop (rec (if jump.isNone then .ready else .done) jump))).heap[w.heap.size + 1]? = some (.loop (rec (if jump.isNone then .ready else .done) jump)) ∧
          (W3.putObj (w.heap.size + 1) (.loop (rec (if jump.isNone then .ready else .done) jump))).heap[w.heap.size]? = some (.deferred (some [])) := fun jump W3 hk3 => by
        have hl3 := hk3.same _ _ (by omega) hl2 rfl
        have := run_endRound (P := P) jump hl3
        rw [hrec] at this ⊢
        exact ⟨this, by rw [hrec] at hl3; exact hl3, World.putObj_heap_same (Array.getElem?_eq_some_iff.1 hl3).1, (World.putObj_heap_other (by omega)).trans (hk3.same _ _ (Nat.le_refl _) hk2 rfl)⟩
      rintro e a3 W3 hp
      cases e with
      | normal =>
        obtain ⟨hk3, hkp3, hi3⟩ := hp
        obtain ⟨hr, hl3, hl4, hk4⟩ := fin none W3 hk3
        exact ⟨_, _, hr, .inl ⟨rfl, ⟨hI.putObj _ hi3 (by omega) hl3 rfl, hl4, hk4⟩, hKt (hKt hw2 hkp3) (hKb _ _ _ _ (by omega) hl3 rfl rfl)⟩⟩
      | ret =>
        obtain ⟨hk3, hi3⟩ := hp
        obtain ⟨hr, hl3, hl4, hk4⟩ := fin (some .ret) W3 hk3
        exact ⟨_, _, hr, .inr ⟨rfl, .ret, (hIx _).putObj _ hi3 (by omega) hl3 rfl, hl4, hk4⟩⟩
      | exit id =>
        obtain ⟨hk3, hi3⟩ := hp
        obtain ⟨hr, hl3, hl4, hk4⟩ := fin (some (.exit id)) W3 hk3
        exact ⟨_, _, hr, .inr ⟨rfl, .exit id, (hIx _).putObj _ hi3 (by omega) hl3 rfl, hl4, hk4⟩⟩
      | goto t =>
        obtain ⟨hk3, hi3⟩ := hp
        obtain ⟨hr, hl3, hl4, hk4⟩ := fin (some (.goto t)) W3 hk3
        exact ⟨_, _, hr, .inr ⟨rfl, .goto t, (hIx _).putObj _ hi3 (by omega) hl3 rfl, hl4, hk4⟩⟩
      | panic ch => exact hp.elim
      | outgrown => exact hp.elim
    · rintro e W2 ⟨⟨v, rfl⟩, (⟨xs, hS, hi, hl, hk⟩ | ⟨pre, hSp, c, hi, hl, hk⟩)⟩
      · exact ⟨none, _, by have := run_endLoop (P := P) hl (by rw [hrec]; simp); rw [hrec] at this; exact this, hdone _ xs _ (Nat.le_refl _) hS (hI.putObj _ hi (by omega) hl rfl) ((World.putObj_heap_other (by omega)).trans hk)⟩
      · exact ⟨some c, _, by have := run_endLoop (P := P) hl (by rw [hrec]; simp); rw [hrec] at this; exact this, hstop _ c pre _ (Nat.le_refl _) hSp ((hIx c).putObj _ hi (by omega) hl rfl) ((World.putObj_heap_other (by omega)).trans hk)⟩

end Go.Proofs.YtllhbgmadiclcaaGreatDoor
namespace Go.Proofs.YtllhbgmadiclcaaGreatDoor
open Go.RowKit
set_option linter.unusedVariables false

theorem own_cells {w : World} {B e sz n b : Nat} {v : Value} {xs : List Value} (h : w.ownsRow B e sz v n xs) (hb : v.ownBlock = some b) : ∃ cs, w.heap[b]? = some (.cells cs e (0, 0)) := by
  rcases h.2 with ⟨rfl, _⟩ | ⟨g, cap, cur, rfl, hg, hh, _⟩
  · simp [Value.ownBlock] at hb
  · obtain rfl : g = b := by simpa [Value.ownBlock] using hb
    exact ⟨cur, hh⟩
/-- All blocks of cells are as they were. -/
def CellsSame (w w' : World) : Prop := ∀ (b : Nat) (cs : Array Value) (T : TypeId) (fr : Nat × Nat), w.heap[b]? = some (Obj.cells cs T fr) → w'.heap[b]? = w.heap[b]?
theorem RowO.cellsSame {w w' : World} {lo hi e sz n : Nat} {v : Value} {xs : List Value} (h : RowO w lo hi e sz v n xs) (hk : CellsSame w w') : RowO w' lo hi e sz v n xs := h.same fun b eb => by
  obtain ⟨cs, hc⟩ := own_cells h.own eb
  exact hk b _ _ _ hc
theorem OwnQ.cellsSame {w w' : World} {lo hi : Nat} {v : Value} {rs : List T3} (h : OwnQ w lo hi v rs) (hk : CellsSame w w') : OwnQ w' lo hi v rs := by
  obtain ⟨xs, cv, lv, h⟩ := h
  exact ⟨xs, cv, lv, h.row.cellsSame hk, h.fil, fun i hi => by obtain ⟨ys, h1, h2⟩ := h.code i hi; exact ⟨ys, h1.cellsSame hk, h2⟩, fun i hi => by obtain ⟨ys, h1, h2⟩ := h.look i hi; exact ⟨ys, h1.cellsSame hk, h2⟩, h.apc, h.apl, h.som⟩
theorem ShG.cellsSame {w w' : World} {g lo hi n : Nat} {sv tv qv : Value} {ss ts : List ByteArray} {rs : List T3} (h : ShG w g lo hi n sv tv qv ss ts rs) (hk : CellsSame w w') : ShG w' g lo hi n sv tv qv ss ts rs := ⟨(hk g _ _ _ h.blk).trans h.blk, RowO.cellsSame h.sx hk, RowO.cellsSame h.tx hk, h.qs.cellsSame hk, h.ne⟩

/-- One record more. -/
theorem OwnQ1.push {W0 W w' : World} {lo hi : Nat} {qv nv c d : Value} {rs : List T3} {r : T3} {xs zs us : List Value} {cv lv : Nat → Value} (h : OwnQ1 W0 lo hi qv rs xs cv lv) (hb : Below W0.heap.size W0 W) (hlo : lo ≤ W0.heap.size)
    (hc : W.ownsRow W0.heap.size 98 3 c r.code.length zs) (hz : Filled3 r.code r.code.length zs) (hd : W.ownsRow W0.heap.size 90 3 d r.looks.length us) (hu : FilledG r.looks r.looks.length us) (hds : ∃ g cap, d = .slice (some ⟨g, 0, none⟩) r.looks.length cap)
    (hg : W.grownBy w' qv.ownBlock) (hn : w'.ownsRow lo 50 3 nv (rs.length + 1) (xs ++ [c, d, .string r.out])) : OwnQ w' lo w'.heap.size nv (rs ++ [r]) := by
  have hq : qx (rs ++ [r]) rs.length = r := by
    unfold qx
    rw [List.getD_eq_getElem?_getD, List.getElem?_append_right (Nat.le_refl _)]
    simp
  have hy : W0.ownsRow lo 50 3 qv rs.length xs := h.row.own
  have hyW := ownsRow_below hy hb
  have hl : xs.length = rs.length * 3 := hy.1
  have hp := PartQ.of_own h (Nat.le_refl lo) [r]
  have hpa := hp.add (w2 := w') (xs2 := xs ++ [c, d, .string r.out]) (c := c) (d := d) (ys := zs) (zs := us) (fun b _ hb' => by
      by_cases e : qv.ownBlock = some b
      · exact Or.inr ⟨rs.length, xs, lo, qv, hy, e⟩
      · left
        rw [hg.block b (by have := hb.size; omega) (fun e' => e e'.symm), hb.block b hb']) hlo (by rw [hq]; exact grown_own hc hyW (by decide) hg) (by rw [hq]; exact hz) (by rw [hq]; exact grown_own hd hyW (by decide) hg) (by rw [hq]; exact hu) (by rw [hq]; exact hds)
    (fun j hj => List.getElem?_append_left (by omega)) (by rw [List.getElem?_append_right (by omega), hl, Nat.sub_self]; rfl) (by rw [List.getElem?_append_right (by omega), hl, show rs.length * 3 + 1 - rs.length * 3 = 1 by omega]; rfl) (by rw [hq, List.getElem?_append_right (by omega), hl, show rs.length * 3 + 2 - rs.length * 3 = 2 by omega]; rfl)
  have e : (rs ++ [r]).length = rs.length + 1 := by simp
  rw [← e] at hpa hn
  exact hpa.own hn (Nat.le_refl _) (Nat.le_refl _)

/-- Where Merge stands between two new records. -/
structure IMg (lo m1 m2 mc bp Bl Bs R po g n : Nat) (sv tv : Value) (ss ts : List ByteArray) (ra rb : List T3) (w₀ w1 : World) (pre : List (At rb.length)) (W : World) : Prop where
  bel : Below lo w₀ W
  size : w1.heap.size ≤ W.heap.size
  R : W.heap[R]? = some (.cells #[.int .i64 0, .int .i64 0, .slice none 0 0, .slice none 0 0, .string ⟨#[]⟩, .string ⟨#[]⟩] 31 (0, 0))
  po : W.heap[po]? = some (.cells #[.pointer (some ⟨g, 0, none⟩)] 54 (0, 0))
  sh : ∃ qv, ShG W g lo W.heap.size n sv tv qv ss ts (ra ++ pre.map fun i => qx rb i.1)
  m1 : IsMap W m1
  m2 : IsMap W m2
  fx : ∀ k, k = mc ∨ k = bp ∨ k = Bl ∨ k = Bs → W.heap[k]? = w1.heap[k]?
theorem IMg.same {lo m1 m2 mc bp Bl Bs R po g n : Nat} {sv tv : Value} {ss ts : List ByteArray} {ra rb : List T3} {w₀ w1 : World} {pre : List (At rb.length)} {W W' : World} (h : IMg lo m1 m2 mc bp Bl Bs R po g n sv tv ss ts ra rb w₀ w1 pre W)
    (hb : Below lo W W') (hk : CellsSame W W') (h1 : IsMap W' m1) (h2 : IsMap W' m2) (hf : ∀ k, k = mc ∨ k = bp ∨ k = Bl ∨ k = Bs → W'.heap[k]? = W.heap[k]?) : IMg lo m1 m2 mc bp Bl Bs R po g n sv tv ss ts ra rb w₀ w1 pre W' := by
  obtain ⟨qv, hs⟩ := h.sh
  exact ⟨h.bel.trans hb, Nat.le_trans h.size hb.size, (hk _ _ _ _ h.R).trans h.R, (hk _ _ _ _ h.po).trans h.po, ⟨qv, ((hs.cellsSame hk).wide (Nat.le_refl _) hb.size)⟩, h1, h2, fun k q => (hf k q).trans (h.fx k q)⟩
theorem IMg.tx {lo m1 m2 mc bp Bl Bs R po g n : Nat} {sv tv : Value} {ss ts : List ByteArray} {ra rb : List T3} {w₀ w1 : World} {pre : List (At rb.length)} {W W' : World} (h : IMg lo m1 m2 mc bp Bl Bs R po g n sv tv ss ts ra rb w₀ w1 pre W) (ht : TX m1 m2 W W') (d1 : ¬ fixB lo mc bp Bl Bs m1) (d2 : ¬ fixB lo mc bp Bl Bs m2)
    (hx : ∀ k, k = mc ∨ k = bp ∨ k = Bl ∨ k = Bs → k < w1.heap.size) : IMg lo m1 m2 mc bp Bl Bs R po g n sv tv ss ts ra rb w₀ w1 pre W' := by
  have hloW : lo ≤ W.heap.size := by
    have := h.m1.lt
    have : ¬ m1 < lo := fun q => d1 (Or.inl q)
    omega
  refine h.same ⟨ht.keep.os, ht.keep.tape, ht.keep.output, ht.keep.size, fun k hk => ht.keep.block k (by omega) (fun e => ?_)⟩ (fun b cs T fr hc => ht.keep.block b (Array.getElem?_eq_some_iff.1 hc).1 (fun e => ?_)) (ht.map m1 (Or.inl rfl) h.m1) (ht.map m2 (Or.inr rfl) h.m2) (fun k hk => ht.keep.block k (Nat.lt_of_lt_of_le (hx k hk) h.size) (fun e => ?_))
  · rcases e with rfl | rfl
    · exact d1 (Or.inl hk)
    · exact d2 (Or.inl hk)
  · rcases e with rfl | rfl
    · obtain ⟨es, c, hm⟩ := h.m1; rw [hc] at hm; cases hm
    · obtain ⟨es, c, hm⟩ := h.m2; rw [hc] at hm; cases hm
  · rcases e with rfl | rfl
    · exact d1 (Or.inr hk)
    · exact d2 (Or.inr hk)
theorem IMg.own {lo m1 m2 mc bp Bl Bs R po g n : Nat} {sv tv : Value} {ss ts : List ByteArray} {ra rb : List T3} {w₀ w1 : World} {pre : List (At rb.length)} {W W' : World} {row : Option Nat} (h : IMg lo m1 m2 mc bp Bl Bs R po g n sv tv ss ts ra rb w₀ w1 pre W) (hg : W.grownBy W' row) (hr : ∀ r, row = some r → w1.heap.size ≤ r ∧ ∃ o : Obj, W.heap[r]? = some o ∧ o.isCells = false)
    (hlo : lo ≤ w1.heap.size) (s1 : m1 < w1.heap.size) (s2 : m2 < w1.heap.size) (hx : ∀ k, k = mc ∨ k = bp ∨ k = Bl ∨ k = Bs → k < w1.heap.size) : IMg lo m1 m2 mc bp Bl Bs R po g n sv tv ss ts ra rb w₀ w1 pre W' := by
  have hsz := h.size
  have hlow : ∀ k, k < w1.heap.size → W'.heap[k]? = W.heap[k]? := fun k hk => hg.block k (by omega) (fun e => by have := (hr k e.symm).1; omega)
  refine h.same ⟨hg.os, hg.tape, hg.output, hg.size, fun k hk => hlow k (by omega)⟩ (fun b cs T fr hc => hg.block b (Array.getElem?_eq_some_iff.1 hc).1 (fun e => ?_)) ?_ ?_ (fun k hk => hlow k (hx k hk))
  · obtain ⟨_, o, ho, hoc⟩ := hr b e.symm
    rw [hc] at ho
    cases ho
    simp [Obj.isCells] at hoc
  · obtain ⟨es, c, hm⟩ := h.m1; exact ⟨es, c, (hlow m1 s1).trans hm⟩
  · obtain ⟨es, c, hm⟩ := h.m2; exact ⟨es, c, (hlow m2 s2).trans hm⟩
end Go.Proofs.YtllhbgmadiclcaaGreatDoor
