/-
  The walk of impl's (*question).behind.
-/
import Derived.Test.YtmeojnaoljgieabFPlant
namespace Go.Proofs.Ytmeojnaoljgieab
open Go.RowKit Go.Maps
set_option linter.unusedVariables false

theorem one_same (s : ByteArray) (g : Nat) (z : DataW Unit) : (one s g).atKey (.string s.data.toList) z = .lit (.int .i64 (g : Int)) := atKey_put_same ⟨[], rfl⟩ (by trivial) _ _
theorem one_other {s t : ByteArray} (g : Nat) (h : t ≠ s) (z : DataW Unit) : (one s g).atKey (.string t.data.toList) z = z := by
  unfold one
  rw [atKey_put_other (by intro e; apply h; simp at e; exact WideShapes.bytes_inj (by simpa using e))]
  rfl

theorem zero57 (w : World) : (zeroValue 57).run Try.prog w = .ok (.pointer none) w := by kernel_rfl

set_option maxHeartbeats 1000000 in
theorem behind_zero (g : Nat) (nm : ByteArray) (ask : Bool) (s : ByteArray) (w : World) (hs : s.size ≤ maxLen) (hz : w.heap[g]? = some (.cells zeroQ 74 (0, 0))) :
    Calls Try.prog 22 #[.pointer (some ⟨g, 0, none⟩), .agg #[.string nm, .bool ask], .string s] w fun e w' => Below w.heap.size w w' ∧ e = .returned (.pointer none) := by
  have hg := blk_of hz
  have y0 : w.cell? ⟨g, 0, none⟩ = some (.string ⟨#[]⟩) := by rw [Lib.cell_of_heap hz]; rfl
  have y1 : w.cell? ⟨g, 1, none⟩ = some (.bool false) := by rw [Lib.cell_of_heap hz]; rfl
  have y2 : w.cell? ⟨g, 2, none⟩ = some (.map none) := by rw [Lib.cell_of_heap hz]; rfl
  have z0 : ∀ o, (w.alloc o).cell? ⟨g, 0, none⟩ = some (.string ⟨#[]⟩) := fun o => by rw [World.cell?_alloc_lt _ _ _ hg]; exact y0
  have z1 : ∀ o, (w.alloc o).cell? ⟨g, 1, none⟩ = some (.bool false) := fun o => by rw [World.cell?_alloc_lt _ _ _ hg]; exact y1
  have z2 : ∀ o, (w.alloc o).cell? ⟨g, 2, none⟩ = some (.map none) := fun o => by rw [World.cell?_alloc_lt _ _ _ hg]; exact y2
  have hkey : keyOf Try.prog 9 (.string s) = some (.string s.data.toList) := WideMaps.keyOf_string_mk Try.underlying9 hs
  have hlk := fun W : World => Maps.look_nil (w := W) (P := Try.prog) (t := 72) (e := 57) false (string_keyed Try.underlying9) Try.underlying72 (zero57 W) hkey
  have hb0 : ∀ o, Below w.heap.size w (w.alloc o).drew := fun o => ((Below.refl _ _).alloc (Nat.le_refl _) _).drew
  by_cases h1 : nm.toList = []
  · cases ask with
    | false =>
      go_enter Try.func22, Try.ntmps22
      go_wp2
      go_region
      go_wp2
      go_ret
      exact ⟨hb0 _, rfl⟩
    | true =>
      go_enter Try.func22, Try.ntmps22
      go_wp2
      go_region
      go_wp2
      go_ret
      exact ⟨hb0 _, rfl⟩
  · go_enter Try.func22, Try.ntmps22
    go_wp2
    go_region
    go_wp2
    go_ret
    exact ⟨hb0 _, rfl⟩

set_option maxHeartbeats 1000000 in
theorem behind_node (g mb g' : Nat) (x : G3) (nm : ByteArray) (ask : Bool) (s : ByteArray) (w : World) (hs : s.size ≤ maxLen) (hz : w.heap[g]? = some (.cells #[.string x.name, .bool x.ask, .map (some mb)] 74 (0, 0))) (hm : w.ownsMap Try.prog 9 ptrE mb 1 (one x.sum g')) :
    Calls Try.prog 22 #[.pointer (some ⟨g, 0, none⟩), .agg #[.string nm, .bool ask], .string s] w fun e w' => Below w.heap.size w w' ∧ ((x.name = nm ∧ x.ask = ask ∧ x.sum = s ∧ e = .returned (.pointer (some ⟨g', 0, none⟩))) ∨ (¬ (x.name = nm ∧ x.ask = ask ∧ x.sum = s) ∧ e = .returned (.pointer none))) := by
  have hg := blk_of hz
  have y0 : w.cell? ⟨g, 0, none⟩ = some (.string x.name) := by rw [Lib.cell_of_heap hz]; rfl
  have y1 : w.cell? ⟨g, 1, none⟩ = some (.bool x.ask) := by rw [Lib.cell_of_heap hz]; rfl
  have y2 : w.cell? ⟨g, 2, none⟩ = some (.map (some mb)) := by rw [Lib.cell_of_heap hz]; rfl
  have z0 : ∀ o, (w.alloc o).cell? ⟨g, 0, none⟩ = some (.string x.name) := fun o => by rw [World.cell?_alloc_lt _ _ _ hg]; exact y0
  have z1 : ∀ o, (w.alloc o).cell? ⟨g, 1, none⟩ = some (.bool x.ask) := fun o => by rw [World.cell?_alloc_lt _ _ _ hg]; exact y1
  have z2 : ∀ o, (w.alloc o).cell? ⟨g, 2, none⟩ = some (.map (some mb)) := fun o => by rw [World.cell?_alloc_lt _ _ _ hg]; exact y2
  have hkey : keyOf Try.prog 9 (.string s) = some (.string s.data.toList) := WideMaps.keyOf_string_mk Try.underlying9 hs
  have hb0 : ∀ o, Below w.heap.size w (w.alloc o).drew := fun o => ((Below.refl _ _).alloc (Nat.le_refl _) _).drew
  have HM : Hid (w.ownsMap Try.prog 9 ptrE mb 1 (one x.sum g')) := hm
  clear hm
  obtain ⟨xn, xa, xs⟩ := x
  simp only at *
  by_cases h1 : xn = nm
  · subst h1
    by_cases h2 : xa = ask
    · subst h2
      by_cases h3 : xs = s
      · have hlk : ∀ o, (Instr.lookup 72 (.map (some mb)) (.string s) false).run Try.prog (w.alloc o).drew = .ok (.pointer (some ⟨g', 0, none⟩)) (w.alloc o).drew := fun o => by
          obtain ⟨v, ps, hrun, hv⟩ := ((HM.out.alloc o).drew).lookup (string_keyed Try.underlying9) Try.underlying72 (zero57 _) (zd := .nil) (zp := []) rfl hkey
          rw [← h3, one_same] at hv
          rw [ptrE_some hv] at hrun
          exact hrun
        have H3 : Hid (xs = s) := h3
        clear h3
        go_enter Try.func22, Try.ntmps22
        go_wp2
        go_region
        go_wp2
        go_ret
        exact ⟨hb0 _, Or.inl ⟨trivial, trivial, H3.out, rfl⟩⟩
      · have hlk : ∀ o, (Instr.lookup 72 (.map (some mb)) (.string s) false).run Try.prog (w.alloc o).drew = .ok (.pointer none) (w.alloc o).drew := fun o => by
          obtain ⟨v, ps, hrun, hv⟩ := ((HM.out.alloc o).drew).lookup (string_keyed Try.underlying9) Try.underlying72 (zero57 _) (zd := .nil) (zp := []) rfl hkey
          rw [one_other _ (fun e => h3 e.symm)] at hv
          rw [ptrE_nil hv] at hrun
          exact hrun
        have H3 : Hid (¬ xs = s) := h3
        clear h3
        go_enter Try.func22, Try.ntmps22
        go_wp2
        go_region
        go_wp2
        go_ret
        exact ⟨hb0 _, Or.inr ⟨fun h => H3.out h.2.2, rfl⟩⟩
    · have H2 : Hid (¬ xa = ask) := h2
      go_enter Try.func22, Try.ntmps22
      go_wp2
      go_region
      go_wp2
      go_ret
      exact ⟨hb0 _, Or.inr ⟨fun h => H2.out h.2.1, rfl⟩⟩
  · have h1' : ¬ xn.toList = nm.toList := by have := str_ne h1; simpa using this
    have H1 : Hid (¬ xn = nm) := h1
    clear h1
    go_enter Try.func22, Try.ntmps22
    go_wp2
    go_region
    go_wp2
    go_ret
    exact ⟨hb0 _, Or.inr ⟨fun h => H1.out h.1, rfl⟩⟩

end Go.Proofs.Ytmeojnaoljgieab
