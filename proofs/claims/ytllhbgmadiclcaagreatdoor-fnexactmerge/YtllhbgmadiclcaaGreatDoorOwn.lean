import Derived.Test.YtllhbgmadiclcaaGreatDoorMkO
import Derived.Deep.AppendLies
import Derived.Test.YtllhbgmadiclcaaGreatDoorStLaw
namespace Go.Proofs.YtllhbgmadiclcaaGreatDoor
open Go.RowKit
set_option linter.unusedVariables false

/-- The cells of a row of instructions. -/
def insC (is : List I3) (j : Nat) : Value := if j % 3 = 0 then .int .i64 (ix is (j / 3)).op else if j % 3 = 1 then .string (ix is (j / 3)).text else .int .i64 (ix is (j / 3)).n
def insV (is : List I3) : List Value := (List.range (is.length * 3)).map (insC is)
theorem insV_length (is : List I3) : (insV is).length = is.length * 3 := by simp [insV]
theorem insV_get (is : List I3) (j : Nat) (h : j < is.length * 3) : (insV is)[j]? = some (insC is j) := by
  unfold insV
  rw [List.getElem?_map, List.getElem?_range h]; rfl
theorem insV_filled (is : List I3) : Filled3 is is.length (insV is) := by
  intro i hi
  rw [insV_get is _ (by omega), insV_get is _ (by omega), insV_get is _ (by omega)]
  unfold insC
  rw [if_pos (by omega), if_neg (by omega), if_pos (by omega), if_neg (by omega), if_neg (by omega), show i * 3 / 3 = i by omega, show (i * 3 + 1) / 3 = i by omega, show (i * 3 + 2) / 3 = i by omega]
  exact ⟨rfl, rfl, rfl⟩
theorem insV_one (is : List I3) : ∀ u ∈ insV is, u.oneCell' = true := by
  intro u hu
  obtain ⟨j, _, rfl⟩ := List.mem_map.mp hu
  unfold insC
  split
  · rfl
  · split <;> rfl
theorem insV_news {w : World} {b off : Nat} {is : List I3} (h : Row3 w (some ⟨b, off, none⟩) is) : ∀ j u, (insV is)[j]? = some u → w.cell? ((⟨b, off, none⟩ : Addr).add j) = some u := by
  intro j u hu
  rw [Addr.add_lit]
  have hj : j < is.length * 3 := by
    rcases Nat.lt_or_ge j (is.length * 3) with h | h
    · exact h
    · rw [List.getElem?_eq_none (by rw [insV_length]; exact h)] at hu; cases hu
  rw [insV_get is j hj] at hu
  obtain rfl := Option.some.inj hu
  obtain ⟨b', off', ha, c1, c2, c3⟩ := h (j / 3) (by omega)
  cases ha
  unfold insC
  split
  · rename_i hm
    rw [show off + j = off + j / 3 * 3 by omega]; exact c1
  · split
    · rename_i hm
      rw [show off + j = off + j / 3 * 3 + 1 by omega]; exact c2
    · rw [show off + j = off + j / 3 * 3 + 2 by omega]; exact c3
theorem own_first {w : World} {B e sz n : Nat} {v : Value} {xs : List Value} (h : w.ownsRow B e sz v n xs) (h1 : 1 ≤ n) : ∃ g cp, v = .slice (some ⟨g, 0, none⟩) n cp := by
  rcases own_casesM h with ⟨_, h0⟩ | h
  · omega
  · exact h
theorem Tryz.info165b : (Tryz.prog.info? 98).map (fun i => (i.zero, i.size, i.bytes)) = some (some (.agg #[.int .i64 0, .string ⟨#[]⟩, .int .i64 0]), 3, 32) := by kernel_rfl

set_option maxHeartbeats 1000000 in
set_option maxRecDepth 100000 in
theorem clone_any (a : Option Addr) (cap : Nat) (is : List I3) (w : World) (hc : Row3 w a is) (h1 : 1 ≤ is.length) (hl : is.length ≤ 1048576) :
    Calls Tryz.prog 76 #[.slice a is.length cap] w fun e w' => Below w.heap.size w w' ∧ ∃ g cp, e = .returned (.slice (some ⟨g, 0, none⟩) is.length cp) ∧ w'.ownsRow w.heap.size 98 3 (.slice (some ⟨g, 0, none⟩) is.length cp) is.length (insV is) := by
  obtain ⟨i0, hi, hz0, hz1, hz2⟩ := info_parts Tryz.info165b
  obtain ⟨b, off, rfl, _⟩ := hc 0 (by omega)
  have hown0 : (w.alloc (.cells #[] 98)).ownsRow w.heap.size 98 3 (.slice (some ⟨w.heap.size, 0, none⟩) 0 0) 0 [] := World.ownsRow_lit (base := w.heap.size) (e := 98) (size := 3) w #[] 0 (Nat.le_refl _) (by unfold maxLen; omega) (by simp)
  have hn := insV_news (hc.below ((Below.refl w.heap.size w).alloc (Nat.le_refl _) (.cells #[] 98)))
  have HL : Hid ((insV is).length = is.length * 3) := insV_length is
  have HO : Hid (∀ u ∈ insV is, u.oneCell' = true) := insV_one is
  generalize insV is = xs at *
  clear hc
  have hq : ∀ W : World, (binOp .eql 45 (.slice (some ⟨b, off, none⟩) is.length cap) (.slice none 0 0)).run Tryz.prog W = .ok (.bool false) W := fun W => Lib.run_eql_slice_nil W 45 98 _ _ _ 0 0 Tryz.underlying45
  go_enter Tryz.func76, Tryz.ntmps76
  go_wp2_with (at_builtin; refine wpList_append_own _ rfl (.tmp 5) (.tmp 6) 45 rfl w.heap.size 98 i0 (.agg #[.int .i64 0, .string ⟨#[]⟩, .int .i64 0]) 3 32 Tryz.underlying45 hi hz0 hz1 hz2 rfl (by decide) _ 0 [] rfl hown0 ⟨b, off, none⟩ is.length cap xs rfl HL.out hn HO.out (by unfold maxLen; omega) (by omega) (by simp) ?_; intro v' w2 hown' hgrow hnil; clear hnil)
  have hbB : Below w.heap.size w w2 := ((Below.refl _ _).alloc (Nat.le_refl _) _).grown hgrow (by simp) (fun k hk => (hown0.lt k hk).1)
  rw [Nat.zero_add, List.nil_append] at hown'
  obtain ⟨g, cp, rfl⟩ := own_first hown' h1
  clear hgrow hown0 hn
  go_wp2
  go_ret
  exact ⟨hbB, g, cp, rfl, hown'⟩

set_option maxHeartbeats 1000000 in
theorem copyProgram_any (a : Option Addr) (cap : Nat) (is : List I3) (w : World) (hc : Row3 w a is) (h1 : 1 ≤ is.length) (hl : is.length ≤ 1048576) :
    Calls Tryz.prog 49 #[.agg #[.slice a is.length cap]] w fun e w' => Below w.heap.size w w' ∧ ∃ g cp, e = .returned (.agg #[.slice (some ⟨g, 0, none⟩) is.length cp]) ∧ w'.ownsRow w.heap.size 98 3 (.slice (some ⟨g, 0, none⟩) is.length cp) is.length (insV is) := by
  have hb0 : Below w.heap.size w ((w.alloc (.cells #[.slice a is.length cap] 47)).alloc (.cells #[.slice none 0 0] 47)) := ((Below.refl _ _).alloc (Nat.le_refl _) _).alloc (by simp) _
  go_enter Tryz.func49, Tryz.ntmps49
  go_wp2_with fail
  refine (clone_any a cap is _ (hc.below hb0) h1 hl).mono ?_
  rintro e w1 ⟨hb1, g, cp, rfl, hown⟩
  have hg := (hown.lt g rfl).1
  simp at hg
  have hb := bt hb0 hb1
  have hown2 := own_base hown (B' := w.heap.size) (by simp; omega)
  have c1 : w1.cell? ⟨w.heap.size + 1, 0, none⟩ = some (.slice none 0 0) := cell_below hb1 (by simp [go_sem])
  have f1 : w1.frozen? ⟨w.heap.size + 1, 0, none⟩ = false := by rw [hb1.frozen (p := ⟨w.heap.size + 1, 0, none⟩) (by simp)]; simp [go_sem]
  clear hb0 hb1 hown
  go_wp2
  exact bodyPost_ret (v := .agg #[.slice (some ⟨g, 0, none⟩) is.length cp]) (by simp [results, Tryz.results49, go_sem, c1]) rfl ⟨hb.setCell (p := ⟨w.heap.size + 1, 0, none⟩) (by simp) _, g, cp, rfl, own_set hown2 (by omega) _⟩

set_option maxHeartbeats 1000000 in
theorem l3Program_any (a : Option Addr) (cap : Nat) (is : List I3) (w : World) (hc : Row3 w a is) (h1 : 1 ≤ is.length) (hl : is.length ≤ 1048576) :
    Calls Tryz.prog 39 #[.agg #[.slice a is.length cap]] w fun e w' => Below w.heap.size w w' ∧ ∃ g cp, e = .returned (.agg #[.slice (some ⟨g, 0, none⟩) is.length cp]) ∧ w'.ownsRow w.heap.size 98 3 (.slice (some ⟨g, 0, none⟩) is.length cp) is.length (insV is) := by
  obtain ⟨i0, hi, hz0, hz1, hz2⟩ := info_parts Tryz.info165b
  obtain ⟨b, off, rfl, _⟩ := hc 0 (by omega)
  have hb0 : Below w.heap.size w ((w.alloc (.cells #[.slice (some ⟨b, off, none⟩) is.length cap] 47)).alloc (.cells #[.slice none 0 0] 47)) := ((Below.refl _ _).alloc (Nat.le_refl _) _).alloc (by simp) _
  have hb1 : Below w.heap.size w (((w.alloc (.cells #[.slice (some ⟨b, off, none⟩) is.length cap] 47)).alloc (.cells #[.slice none 0 0] 47)).alloc (.cells #[] 98)) := hb0.alloc (by simp; omega) _
  have hown0 : (((w.alloc (.cells #[.slice (some ⟨b, off, none⟩) is.length cap] 47)).alloc (.cells #[.slice none 0 0] 47)).alloc (.cells #[] 98)).ownsRow (w.heap.size + 1 + 1) 98 3 (.slice (some ⟨w.heap.size + 1 + 1, 0, none⟩) 0 0) 0 [] := by
    have h := World.ownsRow_lit (base := w.heap.size + 1 + 1) (e := 98) (size := 3) ((w.alloc (.cells #[.slice (some ⟨b, off, none⟩) is.length cap] 47)).alloc (.cells #[.slice none 0 0] 47)) #[] 0 (by simp) (by unfold maxLen; omega) (by simp)
    rw [show ((w.alloc (.cells #[.slice (some ⟨b, off, none⟩) is.length cap] 47)).alloc (.cells #[.slice none 0 0] 47)).heap.size = w.heap.size + 1 + 1 from by simp] at h
    exact h
  have hn := insV_news (hc.below hb1)
  have HL : Hid ((insV is).length = is.length * 3) := insV_length is
  have HO : Hid (∀ u ∈ insV is, u.oneCell' = true) := insV_one is
  generalize insV is = xs at *
  clear hc hb0
  go_enter Tryz.func39, Tryz.ntmps39
  go_wp2_with (at_builtin; refine wpList_append_own _ rfl (.tmp 3) (.tmp 5) 45 rfl (w.heap.size + 1 + 1) 98 i0 (.agg #[.int .i64 0, .string ⟨#[]⟩, .int .i64 0]) 3 32 Tryz.underlying45 hi hz0 hz1 hz2 rfl (by decide) _ 0 [] rfl hown0 ⟨b, off, none⟩ is.length cap xs rfl HL.out hn HO.out (by unfold maxLen; omega) (by omega) (by simp) ?_; intro v' w2 hown' hgrow hnil; clear hnil; have hbB : Below (w.heap.size + 1 + 1) (((w.alloc (.cells #[.slice (some ⟨b, off, none⟩) is.length cap] 47)).alloc (.cells #[.slice none 0 0] 47)).alloc (.cells #[] 98)) w2 := (Below.refl _ _).grown hgrow (by simp) (fun k hk => (hown0.lt k hk).1); have c1 : w2.cell? ⟨w.heap.size + 1, 0, none⟩ = some (.slice none 0 0) := (by rw [hbB.cell (p := ⟨w.heap.size + 1, 0, none⟩) (by simp)]; simp [go_sem]); have f1 : w2.frozen? ⟨w.heap.size + 1, 0, none⟩ = false := (by rw [hbB.frozen (p := ⟨w.heap.size + 1, 0, none⟩) (by simp)]; simp [go_sem]); have hB : Below w.heap.size w w2 := hb1.trans (hbB.mono (by omega)); rw [Nat.zero_add, List.nil_append] at hown'; obtain ⟨g, cp, rfl⟩ := own_first hown' h1; have hg := (hown'.lt g rfl).1; have HOW : Hid (w2.ownsRow w.heap.size 98 3 (.slice (some ⟨g, 0, none⟩) is.length cp) is.length xs) := own_base hown' (by omega); clear hgrow hown0 hn hbB hown' hb1)
  exact bodyPost_ret (v := .agg #[.slice (some ⟨g, 0, none⟩) is.length cp]) (by simp [results, Tryz.results39, go_sem, c1]) rfl ⟨hB.setCell (p := ⟨w.heap.size + 1, 0, none⟩) (by simp) _, g, cp, rfl, own_set HOW.out (by omega) _⟩

end Go.Proofs.YtllhbgmadiclcaaGreatDoor
namespace Go.Proofs.YtllhbgmadiclcaaGreatDoor
open Go.RowKit
set_option linter.unusedVariables false

/-- The blocks from lo to hi alone may differ. -/
def KeepR (lo hi : Nat) (w w' : World) : Prop := ∀ b, b < w.heap.size → (b < lo ∨ hi ≤ b) → w'.heap[b]? = w.heap[b]?
theorem KeepR.refl {lo hi : Nat} (w : World) : KeepR lo hi w w := fun _ _ _ => rfl
theorem KeepR.trans {lo hi : Nat} {a b c : World} (h : KeepR lo hi a b) (hs : a.heap.size ≤ b.heap.size) (k : KeepR lo hi b c) : KeepR lo hi a c := fun i hi hr => (k i (by omega) hr).trans (h i hi hr)
theorem KeepR.of_below {lo hi : Nat} {w w' : World} (h : Below w.heap.size w w') : KeepR lo hi w w' := fun b hb _ => h.block b hb
theorem KeepO.keepR {lo hi : Nat} {ob : Option Nat} {w w' : World} (h : KeepO ob w w') (hin : ∀ b, ob = some b → lo ≤ b ∧ b < hi) : KeepR lo hi w w' := fun b hb hr => h b hb (fun e => by have := hin b e.symm; omega)
theorem KeepR.set {lo hi : Nat} {w : World} {g : Nat} (h1 : lo ≤ g) (h2 : g < hi) (j : Nat) (v : Value) : KeepR lo hi w (w.setCell ⟨g, j, none⟩ v) := fun b hb hr => Below.heap_setCell w ⟨g, j, none⟩ v b (by show b ≠ g; omega)

/-- An owned row, its block below hi. -/
structure RowO (w : World) (lo hi e sz : Nat) (v : Value) (n : Nat) (xs : List Value) : Prop where
  own : w.ownsRow lo e sz v n xs
  top : ∀ b, v.ownBlock = some b → b < hi
theorem own_same {w w' : World} {B e sz n : Nat} {v : Value} {xs : List Value} (h : w.ownsRow B e sz v n xs) (hk : ∀ b, v.ownBlock = some b → w'.heap[b]? = w.heap[b]?) : w'.ownsRow B e sz v n xs := by
  refine ⟨h.1, ?_⟩
  rcases h.2 with h2 | ⟨g, cap, cur, hv, hg, hh, r⟩
  · exact Or.inl h2
  · refine Or.inr ⟨g, cap, cur, hv, hg, ?_, r⟩
    subst hv
    rw [hk g rfl]; exact hh
theorem RowO.same {w w' : World} {lo hi e sz n : Nat} {v : Value} {xs : List Value} (h : RowO w lo hi e sz v n xs) (hk : ∀ b, v.ownBlock = some b → w'.heap[b]? = w.heap[b]?) : RowO w' lo hi e sz v n xs := ⟨own_same h.own hk, h.top⟩
theorem RowO.below {w w' : World} {lo hi e sz n : Nat} {v : Value} {xs : List Value} (h : RowO w lo hi e sz v n xs) (hb : Below w.heap.size w w') : RowO w' lo hi e sz v n xs := h.same fun b e => hb.block b (h.own.lt b e).2
theorem RowO.keep {w w' : World} {lo hi lo' hi' e sz n : Nat} {v : Value} {xs : List Value} (h : RowO w lo hi e sz v n xs) (hk : KeepR lo' hi' w w') (hd : hi ≤ lo' ∨ hi' ≤ lo) : RowO w' lo hi e sz v n xs := h.same fun b e => hk b (h.own.lt b e).2 (by have h1 := (h.own.lt b e).1; have h2 := h.top b e; omega)
theorem RowO.wide {w : World} {lo hi lo' hi' e sz n : Nat} {v : Value} {xs : List Value} (h : RowO w lo hi e sz v n xs) (h1 : lo' ≤ lo) (h2 : hi ≤ hi') : RowO w lo' hi' e sz v n xs := ⟨own_base h.own h1, fun b e => by have := h.top b e; omega⟩
theorem RowO.nil (w : World) (lo hi e sz : Nat) : RowO w lo hi e sz (.slice none 0 0) 0 [] := ⟨World.ownsRow_nil _ _ _ _, fun b e => by simp [Value.ownBlock] at e⟩
theorem RowO.new {w : World} {lo e sz n : Nat} {v : Value} {xs : List Value} (h : w.ownsRow lo e sz v n xs) : RowO w lo w.heap.size e sz v n xs := ⟨h, fun b e => (h.lt b e).2⟩
theorem neT {w : World} {B B' e e' sz sz' n n' : Nat} {v v' : Value} {xs xs' : List Value} (h : w.ownsRow B e sz v n xs) (h' : w.ownsRow B' e' sz' v' n' xs') (hne : e ≠ e') : ∀ b, v.ownBlock = some b → v'.ownBlock ≠ some b := by
  intro b hb eb
  rcases h.2 with ⟨rfl, _⟩ | ⟨g, cap, cur, rfl, hg, hh, _⟩
  · simp [Value.ownBlock] at hb
  · rcases h'.2 with ⟨rfl, _⟩ | ⟨g', cap', cur', rfl, hg', hh', _⟩
    · simp [Value.ownBlock] at eb
    · simp only [Value.ownBlock, Option.some.injEq] at hb eb
      subst hb
      rw [eb] at hh'
      rw [hh] at hh'
      simp at hh'
      exact hne hh'.2

theorem row_slice {w : World} {lo hi e sz : Nat} {v : Value} {n : Nat} {ys : List Value} (h : RowO w lo hi e sz v n ys) : ∃ va vc, v = .slice va n vc := by
  rcases own_casesM h.own with ⟨hv, rfl⟩ | ⟨g', c', hv⟩
  · exact ⟨_, _, hv⟩
  · exact ⟨_, _, hv⟩

end Go.Proofs.YtllhbgmadiclcaaGreatDoor
