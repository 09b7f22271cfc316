import Derived.Test.YtbbfboikigmghaaGreatDoorVoG
import Derived.Test.YtbbfboikigmghaaGreatDoorClsA
import Derived.Deep.RegionHeld3
import Derived.Laws.AppendOwnNone
namespace Go.Proofs.YtbbfboikigmghaaGreatDoor
open Go.RowKit
set_option linter.unusedVariables false
set_option maxHeartbeats 32000000
set_option maxRecDepth 100000
theorem Does.left {ss : List S2} {ts : List T2} (hv : SpV ss ts) {ms : Ms} {st : List ByteArray} {j : Job} {ms' : Ms} {a : Ans} (h : Does ss ts ms st j ms' a) : Inv ss ts ms st -> JobOk j -> (match j with | .run is ys ls => ys.length <= 200 | _ => True) -> ∃ st', Inv ss ts ms' st' := by
  induction h with
  | known h1 => intro hi _ _; exact ⟨_, hi⟩
  | circle => intro hi _ _; exact ⟨_, hi⟩
  | source h1 h2 h3 => intro hi hj hl; exact ⟨_, (Does.inv hv (.source h1 h2 h3) hi hj hl _ rfl).1⟩
  | missing h1 h2 => intro hi hj hl; exact ⟨_, (Does.inv hv (.missing h1 h2) hi hj hl _ rfl).1⟩
  | deep h1 h2 h3 h4 => intro hi _ _; exact ⟨_, hi.push h1 h3⟩
  | made h1 h2 h3 h4 h5 h6 _ => intro hi hj hl; exact ⟨_, (Does.inv hv (.made h1 h2 h3 h4 h5 h6) hi hj hl _ rfl).1⟩
  | fell h1 h2 h3 h4 h5 h6 h7 ih => intro hi hj _; exact ih (hi.push h1 (h4 ▸ has_tgt h3)) ⟨hv.pr _ h3, fun i hi => by simp at hi, rfl⟩ (by simp)
  | over h1 => intro hi _ _; exact ⟨_, hi⟩
  | has h1 h2 ih => intro hi hj hl; obtain ⟨k1, k2⟩ := hj.wait h1; exact ih hi (hj.has _ _) (by simp; omega)
  | asked h1 h2 h3 ih1 ih2 =>
    intro hi hj hl
    obtain ⟨k1, k2⟩ := hj.wait h1
    obtain ⟨i1, _, i3⟩ := Does.inv hv h2 hi k2 trivial _ rfl
    exact ih2 i1 (hj.asked (i1.done _ _ i3) _) (by simp; omega)
  | askfell h1 h2 h3 ih => intro hi hj hl; obtain ⟨k1, k2⟩ := hj.wait h1; exact ih hi k2 trivial
theorem Does.small {ss : List S2} {ts : List T2} (hv : SpV ss ts) (hl : ts.length <= 200) {nm : ByteArray} (hn : NameOk nm) {ms' : Ms} {a : Ans} (h : Does ss ts [] [] (.make nm) ms' a) : ∃ st', Inv ss ts ms' st' /\ ms'.length <= 40001 := by
  obtain ⟨st', hi⟩ := h.left hv (Inv.nil ss ts) hn trivial
  refine ⟨st', hi, phi_len hi hl ?_⟩
  have hp := h.phi_le hv hn (Inv.nil ss ts) trivial
  have h0 : phi ts [] = 0 := by simp [phi, tcount, nms]
  rw [h0] at hp
  simpa using hp
/-- The form of what was made. -/
def fo1 (e : ByteArray × Option Md) : List ByteArray :=
  match e.2 with
  | some d => [formB d.c d.t]
  | none => []
def forms (ms : Ms) : List ByteArray := ms.flatMap fo1
theorem forms_snoc (ms : Ms) (k : Nat) (h : k < ms.length) : forms (ms.take (k + 1)) = forms (ms.take k) ++ fo1 (mx ms k) := by
  have e : ms.take (k + 1) = ms.take k ++ [mx ms k] := by
    rw [List.take_add_one, List.getElem?_eq_getElem h]
    simp [mx, List.getD_eq_getElem?_getD, h]
  rw [e]
  simp [forms]
theorem fo1_length (e : ByteArray × Option Md) : (fo1 e).length <= 1 := by
  unfold fo1
  split <;> simp
theorem forms_length (ms : Ms) : (forms ms).length <= ms.length := by
  unfold forms
  induction ms with
  | nil => simp
  | cons e r ih =>
    have := fo1_length e
    simp only [List.flatMap_cons, List.length_append, List.length_cons]
    omega
theorem formB_size (c : Int) (t : ByteArray) : (formB c t).size = 2 + t.size := by
  unfold formB
  rw [ByteArray.size_append, ByteArray.size_append]
  show 1 + 1 + t.size = _
  omega
theorem formB_ne (c : Int) (t : ByteArray) : formB c t ≠ ⟨#[]⟩ := fun e => by
  have := congrArg ByteArray.size e
  rw [formB_size] at this
  have h : 2 + t.size = 0 := this
  omega
theorem mem_forms {ms : Ms} {x : ByteArray} (h : x ∈ forms ms) : ∃ nm d, (nm, some d) ∈ ms /\ x = formB d.c d.t := by
  unfold forms at h
  rw [List.mem_flatMap] at h
  obtain ⟨⟨nm, o⟩, h1, h2⟩ := h
  cases o with
  | none => simp [fo1] at h2
  | some d => simp [fo1] at h2; exact ⟨nm, d, h1, h2⟩
theorem lk_mem {ms : Ms} (hn : (nms ms).Nodup) {nm : ByteArray} {o : Option Md} (h : (nm, o) ∈ ms) : lk ms nm = some o := by
  induction ms with
  | nil => cases h
  | cons e r ih =>
    obtain ⟨a, y⟩ := e
    have hn2 : (a :: nms r).Nodup := hn
    rw [List.nodup_cons] at hn2
    rcases List.mem_cons.mp h with q | q
    · cases q; exact lk_cons_same
    · have ha : a ≠ nm := fun e => hn2.1 (by subst e; exact List.mem_map.mpr ⟨_, q, rfl⟩)
      rw [lk_cons_other ha]
      exact ih hn2.2 q
theorem mx_mem {ms : Ms} {i : Nat} (h : i < ms.length) : mx ms i ∈ ms := by
  have : mx ms i = ms[i] := by simp [mx, List.getD_eq_getElem?_getD, h]
  rw [this]
  exact List.getElem_mem h
theorem lk_mx {ms : Ms} (hn : (nms ms).Nodup) {i : Nat} (h : i < ms.length) : lk ms (mx ms i).1 = some (mx ms i).2 := lk_mem hn (mx_mem h)
theorem nx_nms {ms : Ms} {i : Nat} (h : i < ms.length) : nx (nms ms) i = (mx ms i).1 := by
  unfold nx nms mx
  rw [List.getD_eq_getElem?_getD, List.getD_eq_getElem?_getD, List.getElem?_map, List.getElem?_eq_getElem h]
  rfl
def one1 : ByteArray := ⟨#[49]⟩
def zero1 : ByteArray := ⟨#[48]⟩
def dbT (ts : List ByteArray) (ms : Ms) : List ByteArray := ts ++ [one1, zero1] ++ forms ms
theorem nx_app_left {l r : List ByteArray} {i : Nat} (h : i < l.length) : nx (l ++ r) i = nx l i := by
  unfold nx
  rw [List.getD_eq_getElem?_getD, List.getD_eq_getElem?_getD, List.getElem?_append_left h]
theorem noClash_store {n : Nat} {ts : List ByteArray} (h : TxOk n ts) (r : List ByteArray) : NoClash n (ts ++ r) ts.length := by
  intro j hj i hi he
  rw [nx_app_left hj, nx_app_left (by omega : i < ts.length)] at he
  have := h.2.2.pair (i := i) (j := j) hi (by simpa using hj)
  rw [nx_sums n ts i (by omega), nx_sums n ts j hj] at this
  have he' : sumB n (nx ts i) = sumB n (nx ts j) := he
  rw [he', lessB_irrefl] at this
  cases this
def DoubtP (n : Int) (ts : List ByteArray) (rs : List T3) (ss : List S2) (tp : List T2) (nm A B : ByteArray) (ok : Bool) : Prop :=
  (WdOk n ts rs /\ chk ss tp = 0 /\ NameOk nm /\ ∃ ms a, Does ss tp [] [] (.make nm) ms a /\ ClashOut n.toNat (dbT ts ms) A B ok) \/ (¬ (WdOk n ts rs /\ chk ss tp = 0 /\ NameOk nm) /\ A = ⟨#[]⟩ /\ B = ⟨#[]⟩ /\ ok = false)
theorem DoubtP.unique {n : Int} {ts : List ByteArray} {rs : List T3} {ss : List S2} {tp : List T2} {nm A B A' B' : ByteArray} {ok ok' : Bool} (hv : chk ss tp = 0 -> SpV ss tp) (h : DoubtP n ts rs ss tp nm A B ok) (h' : DoubtP n ts rs ss tp nm A' B' ok') : A = A' /\ B = B' /\ ok = ok' := by
  rcases h with ⟨h1, h2, h3, ms, a, h4, h5⟩ | ⟨h1, rfl, rfl, rfl⟩ <;> rcases h' with ⟨k1, k2, k3, ms', a', k4, k5⟩ | ⟨k1, rfl, rfl, rfl⟩
  · obtain ⟨rfl, _⟩ := Does.unique (hv h2).ascS (hv h2).ascT h4 k4
    exact h5.unique k5
  · exact absurd ⟨h1, h2, h3⟩ k1
  · exact absurd ⟨k1, k2, k3⟩ h1
  · exact ⟨rfl, rfl, rfl⟩
theorem dbT_small {ss : List S2} {tp : List T2} {ms : Ms} {st : List ByteArray} {n : Nat} {ts : List ByteArray} (h : TxOk n ts) (hi : Inv ss tp ms st) : ∀ j, (nx (dbT ts ms) j).size <= 2002 := by
  intro j
  rcases Nat.lt_or_ge j (dbT ts ms).length with hj | hj
  · have hm : nx (dbT ts ms) j ∈ dbT ts ms := by
      have : nx (dbT ts ms) j = (dbT ts ms)[j] := by simp [nx, List.getD_eq_getElem?_getD, hj]
      rw [this]; exact List.getElem_mem hj
    generalize nx (dbT ts ms) j = x at hm
    unfold dbT at hm
    rcases List.mem_append.mp hm with q | q
    · rcases List.mem_append.mp q with q | q
      · obtain ⟨i, hi', rfl⟩ := List.getElem_of_mem q
        have := h.2.1 i hi'
        simpa [nx, List.getD_eq_getElem?_getD, hi'] using this
      · simp [one1, zero1] at q
        rcases q with rfl | rfl <;> simp [ByteArray.size]
    · obtain ⟨nm, d, q1, rfl⟩ := mem_forms q
      have := (hi.done nm d (lk_mem hi.nd q1)).t2
      rw [formB_size]; omega
  · have : nx (dbT ts ms) j = ByteArray.empty := by simp [nx, List.getD_eq_getElem?_getD, hj]
    rw [this]; simp [ByteArray.size]
section
open Go.Deep
theorem step_call1 {f : Nat} {xi : Nat} {ty : TypeId} {W : World} {ops : Array Oper} {o : Oper} {a : Act} {K : Act -> World -> Prop} {Q : Exit -> Act -> World -> Prop} {E : Prop} (hgd : o.guard = none)
    (ho : o.op = .call { callee := .value (.func f), args := #[.tmp xi], argTypes := #[ty] }) (v1 : Value) (hx : a.eval (.tmp xi) = v1) {P : Value -> World -> Prop} (hc : Calls Tryz.prog f #[v1] W fun e w' => ∃ v, e = .returned v /\ P v w') (hfn : ∀ W : World, (callFunc f #[v1]).run Tryz.prog W = .ok (.enter f #[v1]) W) (h : ∀ v w', P v w' -> K (a.put o.dst v) w') :
    if Region.wanted o (yielded ops a.tmps) = true then Oper.wp Tryz.prog o a W K Q else E := by
  have hw : Region.wanted o (yielded ops a.tmps) = true := by simp [Region.wanted, hgd]
  have hrun : (execOp a.eval o).run Tryz.prog W = .ok (.enter f #[v1]) W := by
    unfold execOp
    rw [ho]
    simp [Act.eval] at hx
    simp [go_sem, Act.eval, hx]
    exact hfn W
  rw [if_pos hw]
  unfold Oper.wp
  rw [hrun, Oper.upon_enter]
  refine hc.mono ?_
  rintro e w' ⟨v, rfl, hp⟩
  exact h v w' hp
theorem step_call2 {f : Nat} {xi yi : Nat} {ty ty' : TypeId} {W : World} {ops : Array Oper} {o : Oper} {a : Act} {K : Act -> World -> Prop} {Q : Exit -> Act -> World -> Prop} {E : Prop} (hgd : o.guard = none)
    (ho : o.op = .call { callee := .value (.func f), args := #[.tmp xi, .tmp yi], argTypes := #[ty, ty'] }) (v1 v2 : Value) (hx : a.eval (.tmp xi) = v1) (hy : a.eval (.tmp yi) = v2) {P : Value -> World -> Prop} (hc : Calls Tryz.prog f #[v1, v2] W fun e w' => ∃ v, e = .returned v /\ P v w') (hfn : ∀ W : World, (callFunc f #[v1, v2]).run Tryz.prog W = .ok (.enter f #[v1, v2]) W) (h : ∀ v w', P v w' -> K (a.put o.dst v) w') :
    if Region.wanted o (yielded ops a.tmps) = true then Oper.wp Tryz.prog o a W K Q else E := by
  have hw : Region.wanted o (yielded ops a.tmps) = true := by simp [Region.wanted, hgd]
  have hrun : (execOp a.eval o).run Tryz.prog W = .ok (.enter f #[v1, v2]) W := by
    unfold execOp
    rw [ho]
    simp [Act.eval] at hx hy
    simp [go_sem, Act.eval, hx, hy]
    exact hfn W
  rw [if_pos hw]
  unfold Oper.wp
  rw [hrun, Oper.upon_enter]
  refine hc.mono ?_
  rintro e w' ⟨v, rfl, hp⟩
  exact h v w' hp
/-- An append of a row of strings at a step of a region. -/
theorem step_appT {s x : Operand} {W : World} {ops : Array Oper} {o : Oper} {a : Act} {K : Act -> World -> Prop} {Q : Exit -> Act -> World -> Prop} {E : Prop} (hgd : o.guard = none)
    (ho : o.op = .call { callee := .builtin .append, args := #[s, x], argTypes := #[22, 22] }) (B B' : Nat) (sa : Option Addr) (nn cap0 : Nat) (ys : List Value) (hs : a.eval s = .slice sa nn cap0) (hown : W.ownsRow B 9 1 (.slice sa nn cap0) nn ys) (d n cap : Nat) (xs : List ByteArray) (hn : 0 < n) (hn2 : n <= 100000) (hn3 : nn <= 100000) (hx : a.eval x = .slice (some ⟨d, 0, none⟩) n cap) (hc : W.ownsRow B' 9 1 (.slice (some ⟨d, 0, none⟩) n cap) n (strV xs)) (hB : B <= W.heap.size)
    (h : ∀ g' cap' w', w'.ownsRow B 9 1 (.slice (some ⟨g', 0, none⟩) (nn + n) cap') (nn + n) (ys ++ strV xs) -> W.grownBy w' (Value.slice sa nn cap0).ownBlock -> K (a.put o.dst (.slice (some ⟨g', 0, none⟩) (nn + n) cap')) w') :
    if Region.wanted o (yielded ops a.tmps) = true then Oper.wp Tryz.prog o a W K Q else E := by
  obtain ⟨i0, hi, hz0, hz1, hz2⟩ := info_parts Tryz.info9b
  refine step_append_lies (w := W) hgd s x 22 ho B 9 i0 (.string ⟨#[]⟩) 1 16 Tryz.underlying22 hi hz0 hz1 hz2 rfl (by decide) _ nn ys hs hown ⟨d, 0, none⟩ n cap (strV xs) hx hc.1
    (fun j u hu => hc.cells (g := d) (by simp [Value.ownBlock]) j u hu) (by intro u hu; obtain ⟨z, _, rfl⟩ := List.mem_map.mp hu; rfl) hn (by unfold maxLen; omega) (by omega) hB W.heap.size rfl ?_
  intro g' cap' w' k1 k2 k3 k4
  exact h g' cap' w' k1 k2
theorem step_appN {s x : Operand} {W : World} {ops : Array Oper} {o : Oper} {a : Act} {K : Act -> World -> Prop} {Q : Exit -> Act -> World -> Prop} {E : Prop} (hgd : o.guard = none)
    (ho : o.op = .call { callee := .builtin .append, args := #[s, x], argTypes := #[22, 22] }) (B : Nat) (v : Value) (n : Nat) (ys : List Value) (hs : a.eval s = v) (hown : W.ownsRow B 9 1 v n ys) (hx : a.eval x = .slice none 0 0) (h : K (a.put o.dst v) W) :
    if Region.wanted o (yielded ops a.tmps) = true then Oper.wp Tryz.prog o a W K Q else E := by
  obtain ⟨i0, hi, hz0, hz1, hz2⟩ := info_parts Tryz.info9b
  have hw : Region.wanted o (yielded ops a.tmps) = true := by simp [Region.wanted, hgd]
  have hrun := run_append_owned_none (P := Tryz.prog) (w := W) B 22 o.type 9 i0 1 Tryz.underlying22 hi v n ys hown
  rw [if_pos hw]
  unfold Oper.wp
  simp [execOp, ho, resolve, invoke, builtin, hs, hx, hrun, Result.andThen]
  exact h
theorem step_app1 {s x : Operand} {W : World} {ops : Array Oper} {o : Oper} {a : Act} {K : Act -> World -> Prop} {Q : Exit -> Act -> World -> Prop} {E : Prop} (hgd : o.guard = none)
    (ho : o.op = .call { callee := .builtin .append, args := #[s, x], argTypes := #[22, 22] }) (B : Nat) (sa : Option Addr) (nn cap : Nat) (xs : List Value)
    (hs : a.eval s = .slice sa nn cap) (hown : W.ownsRow B 9 1 (.slice sa nn cap) nn xs) (d : Nat) (t : ByteArray) (hx : a.eval x = .slice (some ⟨d, 0, none⟩) 1 1) (hc : W.heap[d]? = some (.cells #[.string t] 9 (0, 0))) (hB : B <= W.heap.size) (hn : nn <= 100000)
    (h : ∀ g' cap' w', w'.ownsRow B 9 1 (.slice (some ⟨g', 0, none⟩) (nn + 1) cap') (nn + 1) (xs ++ [.string t]) -> W.grownBy w' (Value.slice sa nn cap).ownBlock -> K (a.put o.dst (.slice (some ⟨g', 0, none⟩) (nn + 1) cap')) w') :
    if Region.wanted o (yielded ops a.tmps) = true then Oper.wp Tryz.prog o a W K Q else E := by
  obtain ⟨i0, hi, hz0, hz1, hz2⟩ := info_parts Tryz.info9b
  refine step_append_lies (w := W) hgd s x 22 ho B 9 i0 (.string ⟨#[]⟩) 1 16 Tryz.underlying22 hi hz0 hz1 hz2 rfl (by decide) _ nn xs hs hown ⟨d, 0, none⟩ 1 1 [.string t] hx rfl
    (World.news_of_block (cs := #[.string t]) (t := 9) (fr := (0, 0)) hc) (by intro u hu; simp at hu; subst hu; rfl) (by omega) (by unfold maxLen; omega) (by omega) hB W.heap.size rfl ?_
  intro g' cap' w' h1 h2 h3 h4
  exact h g' cap' w' h1 h2
theorem SpOk.below {w w' : World} {sa ta : Option Addr} {ss : List S2} {ts : List T2} (h : SpOk w sa ss ta ts) (hb : Below w.heap.size w w') : SpOk w' sa ss ta ts := ⟨h.rs.below hb, h.rt.below hb, h.ls, h.lt, h.ns, h.xs, h.nt, h.lc, h.xt⟩
theorem strV_nx (l : List ByteArray) (i : Nat) (h : i < l.length) : (strV l)[i]? = some (.string (nx l i)) := by
  unfold strV nx
  rw [List.getElem?_map, List.getD_eq_getElem?_getD, List.getElem?_eq_getElem h]
  rfl
theorem row_base {w : World} {B e sz n m cap g : Nat} {xs : List Value} (h : w.ownsRow B e sz (.slice (some ⟨g, 0, none⟩) n cap) m xs) : B <= g := by
  rcases h.2 with ⟨q, _⟩ | ⟨g1, cap1, cur, q, hg, _⟩
  · cases q
  · simp only [Value.slice.injEq, Option.some.injEq, Addr.mk.injEq] at q
    omega
theorem below_grown {B : Nat} {w w' w'' : World} {sa : Option Addr} {n cap : Nat} {xs : List Value} (h : Below B w w') (hr : w'.ownsRow B 9 1 (.slice sa n cap) n xs) (hg : w'.grownBy w'' (Value.slice sa n cap).ownBlock) (hB : B <= w'.heap.size) : Below B w w'' := by
  refine h.grown hg hB ?_
  intro b e
  rcases hr.2 with ⟨q, _⟩ | ⟨g1, cap1, cur, q, hg1, _⟩
  · rw [q] at e; simp [Value.ownBlock] at e
  · rw [q] at e; simp [Value.ownBlock] at e; omega
def L5P (B : Nat) (ts : List ByteArray) (ss : List S2) (tp : List T2) (nm : ByteArray) (e : Ending) (w' : World) : Prop :=
  ∃ (g cap : Nat) (ms : Ms) (a : Ans), e = .returned (.slice (some ⟨g, 0, none⟩) (dbT ts ms).length cap) /\ Does ss tp [] [] (.make nm) ms a /\ (dbT ts ms).length <= 50000 /\ (∀ j, (nx (dbT ts ms) j).size <= 2002) /\ B <= g /\ w'.ownsRow B 9 1 (.slice (some ⟨g, 0, none⟩) (dbT ts ms).length cap) (dbT ts ms).length (strV (dbT ts ms))
end
end Go.Proofs.YtbbfboikigmghaaGreatDoor
