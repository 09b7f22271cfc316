import Derived.Test.YtbbfboikigmghaaGreatDoorShelf
import Derived.Lib.AppendIntMem
import Derived.Lib.SmallJoins
namespace Go.Proofs.YtbbfboikigmghaaGreatDoor
open Go.RowKit
set_option linter.unusedVariables false
set_option maxHeartbeats 32000000
set_option maxRecDepth 100000
theorem c10 {w : World} {b : Nat} {v0 v1 v2 v3 v4 v5 v6 v7 v8 v9 : Value} {T : TypeId} (h : w.heap[b]? = some (.cells #[v0, v1, v2, v3, v4, v5, v6, v7, v8, v9] T (0, 0))) : w.cell? ⟨b, 0, none⟩ = some v0 /\ w.cell? ⟨b, 1, none⟩ = some v1 /\ w.cell? ⟨b, 2, none⟩ = some v2 /\ w.cell? ⟨b, 3, none⟩ = some v3 /\ w.cell? ⟨b, 4, none⟩ = some v4 /\ w.cell? ⟨b, 5, none⟩ = some v5 /\ w.cell? ⟨b, 6, none⟩ = some v6 /\ w.cell? ⟨b, 7, none⟩ = some v7 /\ w.cell? ⟨b, 8, none⟩ = some v8 /\ w.cell? ⟨b, 9, none⟩ = some v9 := by
  refine ⟨?_, ?_, ?_, ?_, ?_, ?_, ?_, ?_, ?_, ?_⟩ <;> rw [Lib.cell_of_heap h] <;> rfl
theorem c10a {w : World} {b : Nat} {v0 v1 v2 v3 v4 v5 v6 v7 v8 v9 : Value} {T : TypeId} (h : w.heap[b]? = some (.cells #[v0, v1, v2, v3, v4, v5, v6, v7, v8, v9] T (0, 0))) : (∀ x, (w.alloc x).cell? ⟨b, 0, none⟩ = some v0) /\ (∀ x, (w.alloc x).cell? ⟨b, 1, none⟩ = some v1) /\ (∀ x, (w.alloc x).cell? ⟨b, 2, none⟩ = some v2) /\ (∀ x, (w.alloc x).cell? ⟨b, 3, none⟩ = some v3) /\ (∀ x, (w.alloc x).cell? ⟨b, 4, none⟩ = some v4) /\ (∀ x, (w.alloc x).cell? ⟨b, 5, none⟩ = some v5) /\ (∀ x, (w.alloc x).cell? ⟨b, 6, none⟩ = some v6) /\ (∀ x, (w.alloc x).cell? ⟨b, 7, none⟩ = some v7) /\ (∀ x, (w.alloc x).cell? ⟨b, 8, none⟩ = some v8) /\ (∀ x, (w.alloc x).cell? ⟨b, 9, none⟩ = some v9) := by
  obtain ⟨h0, h1, h2, h3, h4, h5, h6, h7, h8, h9⟩ := c10 h
  have hal : ∀ (p : Addr) (v : Value) (x : Obj), w.cell? p = some v -> (w.alloc x).cell? p = some v := fun p v x h => by rw [World.cell?_alloc_lt _ _ _ (World.block_lt_of_cell? _ _ h)]; exact h
  exact ⟨fun x => hal _ _ x h0, fun x => hal _ _ x h1, fun x => hal _ _ x h2, fun x => hal _ _ x h3, fun x => hal _ _ x h4, fun x => hal _ _ x h5, fun x => hal _ _ x h6, fun x => hal _ _ x h7, fun x => hal _ _ x h8, fun x => hal _ _ x h9⟩
theorem c6 {w : World} {b : Nat} {v0 v1 v2 v3 v4 v5 : Value} {T : TypeId} (h : w.heap[b]? = some (.cells #[v0, v1, v2, v3, v4, v5] T (0, 0))) : w.cell? ⟨b, 0, none⟩ = some v0 /\ w.cell? ⟨b, 1, none⟩ = some v1 /\ w.cell? ⟨b, 2, none⟩ = some v2 /\ w.cell? ⟨b, 3, none⟩ = some v3 /\ w.cell? ⟨b, 4, none⟩ = some v4 /\ w.cell? ⟨b, 5, none⟩ = some v5 := by
  refine ⟨?_, ?_, ?_, ?_, ?_, ?_⟩ <;> rw [Lib.cell_of_heap h] <;> rfl
def P10 (w : World) : Prop := Lib.TabIs Tryz.prog w "internal/strconv.uint64pow10" .u64 Lib.pow10Tab
theorem P10.below {w w' : World} (h : P10 w) (hb : Below w.heap.size w w') : P10 w' := Lib.tabBelow_of_tabIs h w' hb
def NameOk (s : ByteArray) : Prop := 1 <= s.size /\ s.size <= 60 /\ ∀ j, (h : j < s.size) -> 33 <= s[j].toNat /\ s[j].toNat <= 126
noncomputable def nameB (s : ByteArray) : Bool := @decide (NameOk s) (Classical.propDecidable _)
theorem nameB_true {s : ByteArray} (h : NameOk s) : nameB s = true := by simp [nameB, h]
theorem nameB_false {s : ByteArray} (h : ¬ NameOk s) : nameB s = false := by simp [nameB, h]
def flagB (b : Bool) : ByteArray := if b then ⟨#[49]⟩ else ⟨#[48]⟩
theorem l2NameOk_any (s : ByteArray) (w : World) (hs : s.size <= 9223372036854775807) : Calls Tryz.prog 18 #[.string s] w fun e w' => e = .returned (.bool (nameB s)) /\ w = w' := by
  by_cases h1 : s.size < 1
  · rw [nameB_false (fun h => by have := h.1; omega)]
    have d1 : decide ((s.size : Int) < 1) = true := by simp; omega
    go_enter Tryz.func18, Tryz.ntmps18
    go_wp2
    go_ret
    exact ⟨rfl, rfl⟩
  · have d1 : decide ((s.size : Int) < 1) = false := by simp; omega
    by_cases h2 : 60 < s.size
    · rw [nameB_false (fun h => by have := h.2.1; omega)]
      have d2 : decide ((60 : Int) < s.size) = true := by simp; omega
      go_enter Tryz.func18, Tryz.ntmps18
      go_wp2
      go_ret
      exact ⟨rfl, rfl⟩
    · have d2 : decide ((60 : Int) < s.size) = false := by simp; omega
      go_enter Tryz.func18, Tryz.ntmps18
      go_wp2
      go_loopw [3] (fun i wr => ∃ k : Nat, k <= s.size /\ i = .int .i64 k /\ Hid (∀ j, (h : j < s.size) -> j < k -> 33 <= s[j].toNat /\ s[j].toNat <= 126) /\ w = wr) (fun i _ => s.size - (intOf i).toNat)
      case atStart => exact ⟨0, Nat.zero_le _, rfl, fun j _ hj => by omega, rfl⟩
      case round =>
        obtain ⟨k, hk, rfl, HA, rfl⟩ := hrel
        by_cases hlt : k < s.size
        · by_cases c1 : s[k].toNat < 33
          · have e1 : decide ((s[k].toNat : Int) < 33) = true := by simp; omega
            have HF : Hid (nameB s = false) := nameB_false (fun h => by have := h.2.2 k hlt; omega)
            clear c1
            go_wp2
            go_ret
            exact ⟨by rw [HF.out]; rfl, rfl⟩
          · have e1 : decide ((s[k].toNat : Int) < 33) = false := by simp; omega
            by_cases c2 : 126 < s[k].toNat
            · have e2 : decide ((126 : Int) < s[k].toNat) = true := by simp; omega
              have HF : Hid (nameB s = false) := nameB_false (fun h => by have := h.2.2 k hlt; omega)
              clear c1 c2
              go_wp2
              go_ret
              exact ⟨by rw [HF.out]; rfl, rfl⟩
            · have e2 : decide ((126 : Int) < s[k].toNat) = false := by simp; omega
              have HB : Hid (∀ j, (h : j < s.size) -> j < k + 1 -> 33 <= s[j].toNat /\ s[j].toNat <= 126) := fun j h hj => by
                rcases Nat.lt_or_ge j k with h' | h'
                · exact HA.out j h h'
                · obtain rfl : j = k := by omega
                  omega
              clear c1 c2
              go_wp2
              go_roundw
              case rel => exact ⟨k + 1, by omega, by go_num, HB, by first | trivial | rfl⟩
              case measure => simp [intOf]; omega
        · have HF : Hid (nameB s = true) := nameB_true ⟨by omega, by omega, fun j h => HA.out j h (by omega)⟩
          go_wp2
          go_ret
          exact ⟨by rw [HF.out]; rfl, rfl⟩
theorem validName_any (s : ByteArray) (w : World) (hs : s.size <= 9223372036854775807) : Calls Tryz.prog 27 #[.string s] w fun e w' => e = .returned (.bool (nameB s)) /\ w = w' := by
  by_cases h1 : s.size < 1
  · rw [nameB_false (fun h => by have := h.1; omega)]
    have d1 : decide ((s.size : Int) < 1) = true := by simp; omega
    go_enter Tryz.func27, Tryz.ntmps27
    go_wp2
    go_ret
    exact ⟨rfl, rfl⟩
  · have d1 : decide ((s.size : Int) < 1) = false := by simp; omega
    by_cases h2 : 60 < s.size
    · rw [nameB_false (fun h => by have := h.2.1; omega)]
      have d2 : decide ((60 : Int) < s.size) = true := by simp; omega
      go_enter Tryz.func27, Tryz.ntmps27
      go_wp2
      go_ret
      exact ⟨rfl, rfl⟩
    · have d2 : decide ((60 : Int) < s.size) = false := by simp; omega
      go_enter Tryz.func27, Tryz.ntmps27
      go_wp2
      go_loopw [14] (fun i wr => ∃ k : Nat, k <= s.size /\ i = .int .i64 k /\ Hid (∀ j, (h : j < s.size) -> j < k -> 33 <= s[j].toNat /\ s[j].toNat <= 126) /\ w = wr) (fun i _ => s.size - (intOf i).toNat)
      case atStart => exact ⟨0, Nat.zero_le _, rfl, fun j _ hj => by omega, rfl⟩
      case round =>
        obtain ⟨k, hk, rfl, HA, rfl⟩ := hrel
        by_cases hlt : k < s.size
        · by_cases c1 : s[k].toNat < 33
          · have e1 : decide ((s[k].toNat : Int) < 33) = true := by simp; omega
            have HF : Hid (nameB s = false) := nameB_false (fun h => by have := h.2.2 k hlt; omega)
            clear c1
            go_wp2
            go_ret
            exact ⟨by rw [HF.out]; rfl, rfl⟩
          · have e1 : decide ((s[k].toNat : Int) < 33) = false := by simp; omega
            by_cases c2 : 126 < s[k].toNat
            · have e2 : decide ((126 : Int) < s[k].toNat) = true := by simp; omega
              have HF : Hid (nameB s = false) := nameB_false (fun h => by have := h.2.2 k hlt; omega)
              clear c1 c2
              go_wp2
              go_ret
              exact ⟨by rw [HF.out]; rfl, rfl⟩
            · have e2 : decide ((126 : Int) < s[k].toNat) = false := by simp; omega
              have HB : Hid (∀ j, (h : j < s.size) -> j < k + 1 -> 33 <= s[j].toNat /\ s[j].toNat <= 126) := fun j h hj => by
                rcases Nat.lt_or_ge j k with h' | h'
                · exact HA.out j h h'
                · obtain rfl : j = k := by omega
                  omega
              clear c1 c2
              go_wp2
              go_roundw
              case rel => exact ⟨k + 1, by omega, by go_num, HB, by first | trivial | rfl⟩
              case measure => simp [intOf]; omega
        · have HF : Hid (nameB s = true) := nameB_true ⟨by omega, by omega, fun j h => HA.out j h (by omega)⟩
          go_wp2
          go_ret
          exact ⟨by rw [HF.out]; rfl, rfl⟩
theorem l2Flag_any (b : Bool) (w : World) : Calls Tryz.prog 105 #[.bool b] w fun e w' => e = .returned (.string (flagB b)) /\ w = w' := by
  cases b
  all_goals
    go_enter Tryz.func105, Tryz.ntmps105
    go_wp2
    go_ret
    exact ⟨rfl, rfl⟩
theorem oneIf_any (b : Bool) (w : World) : Calls Tryz.prog 29 #[.bool b] w fun e w' => e = .returned (.string (flagB b)) /\ w = w' := by
  cases b
  all_goals
    go_enter Tryz.func29, Tryz.ntmps29
    go_wp2
    go_ret
    exact ⟨rfl, rfl⟩
def putsOf : List Int := [0, 1, 1, 1, 1, 1, 1, 2, 2, 0, 0, 0, 1, 1, 0, 0]
theorem l2Takes_1 (w : World) : Calls Tryz.prog 133 #[.int .i64 1] w fun e w' => e = .returned (.tuple #[.int .i64 0, .int .i64 1]) /\ w = w' := by
  go_enter Tryz.func133, Tryz.ntmps133
  go_wp2
  go_ret2
  exact ⟨rfl, rfl⟩
theorem l2Takes_2 (w : World) : Calls Tryz.prog 133 #[.int .i64 2] w fun e w' => e = .returned (.tuple #[.int .i64 2, .int .i64 1]) /\ w = w' := by
  go_enter Tryz.func133, Tryz.ntmps133
  go_wp2
  go_ret2
  exact ⟨rfl, rfl⟩
theorem l2Takes_3 (w : World) : Calls Tryz.prog 133 #[.int .i64 3] w fun e w' => e = .returned (.tuple #[.int .i64 1, .int .i64 1]) /\ w = w' := by
  go_enter Tryz.func133, Tryz.ntmps133
  go_wp2
  go_ret2
  exact ⟨rfl, rfl⟩
theorem l2Takes_4 (w : World) : Calls Tryz.prog 133 #[.int .i64 4] w fun e w' => e = .returned (.tuple #[.int .i64 1, .int .i64 1]) /\ w = w' := by
  go_enter Tryz.func133, Tryz.ntmps133
  go_wp2
  go_ret2
  exact ⟨rfl, rfl⟩
theorem l2Takes_5 (w : World) : Calls Tryz.prog 133 #[.int .i64 5] w fun e w' => e = .returned (.tuple #[.int .i64 1, .int .i64 1]) /\ w = w' := by
  go_enter Tryz.func133, Tryz.ntmps133
  go_wp2
  go_ret2
  exact ⟨rfl, rfl⟩
theorem l2Takes_6 (w : World) : Calls Tryz.prog 133 #[.int .i64 6] w fun e w' => e = .returned (.tuple #[.int .i64 2, .int .i64 1]) /\ w = w' := by
  go_enter Tryz.func133, Tryz.ntmps133
  go_wp2
  go_ret2
  exact ⟨rfl, rfl⟩
theorem l2Takes_7 (w : World) : Calls Tryz.prog 133 #[.int .i64 7] w fun e w' => e = .returned (.tuple #[.int .i64 1, .int .i64 2]) /\ w = w' := by
  go_enter Tryz.func133, Tryz.ntmps133
  go_wp2
  go_ret2
  exact ⟨rfl, rfl⟩
theorem l2Takes_8 (w : World) : Calls Tryz.prog 133 #[.int .i64 8] w fun e w' => e = .returned (.tuple #[.int .i64 2, .int .i64 2]) /\ w = w' := by
  go_enter Tryz.func133, Tryz.ntmps133
  go_wp2
  go_ret2
  exact ⟨rfl, rfl⟩
theorem l2Takes_9 (w : World) : Calls Tryz.prog 133 #[.int .i64 9] w fun e w' => e = .returned (.tuple #[.int .i64 1, .int .i64 0]) /\ w = w' := by
  go_enter Tryz.func133, Tryz.ntmps133
  go_wp2
  go_ret2
  exact ⟨rfl, rfl⟩
theorem l2Takes_10 (w : World) : Calls Tryz.prog 133 #[.int .i64 10] w fun e w' => e = .returned (.tuple #[.int .i64 0, .int .i64 0]) /\ w = w' := by
  go_enter Tryz.func133, Tryz.ntmps133
  go_wp2
  go_ret2
  exact ⟨rfl, rfl⟩
theorem l2Takes_11 (w : World) : Calls Tryz.prog 133 #[.int .i64 11] w fun e w' => e = .returned (.tuple #[.int .i64 1, .int .i64 0]) /\ w = w' := by
  go_enter Tryz.func133, Tryz.ntmps133
  go_wp2
  go_ret2
  exact ⟨rfl, rfl⟩
theorem l2Takes_12 (w : World) : Calls Tryz.prog 133 #[.int .i64 12] w fun e w' => e = .returned (.tuple #[.int .i64 1, .int .i64 1]) /\ w = w' := by
  go_enter Tryz.func133, Tryz.ntmps133
  go_wp2
  go_ret2
  exact ⟨rfl, rfl⟩
theorem l2Takes_13 (w : World) : Calls Tryz.prog 133 #[.int .i64 13] w fun e w' => e = .returned (.tuple #[.int .i64 1, .int .i64 1]) /\ w = w' := by
  go_enter Tryz.func133, Tryz.ntmps133
  go_wp2
  go_ret2
  exact ⟨rfl, rfl⟩
theorem l2Takes_14 (w : World) : Calls Tryz.prog 133 #[.int .i64 14] w fun e w' => e = .returned (.tuple #[.int .i64 1, .int .i64 0]) /\ w = w' := by
  go_enter Tryz.func133, Tryz.ntmps133
  go_wp2
  go_ret2
  exact ⟨rfl, rfl⟩
theorem l2Takes_15 (w : World) : Calls Tryz.prog 133 #[.int .i64 15] w fun e w' => e = .returned (.tuple #[.int .i64 1, .int .i64 0]) /\ w = w' := by
  go_enter Tryz.func133, Tryz.ntmps133
  go_wp2
  go_ret2
  exact ⟨rfl, rfl⟩
theorem l2Takes_in (o : Nat) (w : World) (h1 : 1 <= o) (h2 : o <= 15) : Calls Tryz.prog 133 #[.int .i64 o] w fun e w' => e = .returned (.tuple #[.int .i64 (takesOf.getD o 0), .int .i64 (putsOf.getD o 0)]) /\ w = w' := by
  rcases (show o = 1 \/ o = 2 \/ o = 3 \/ o = 4 \/ o = 5 \/ o = 6 \/ o = 7 \/ o = 8 \/ o = 9 \/ o = 10 \/ o = 11 \/ o = 12 \/ o = 13 \/ o = 14 \/ o = 15 from by omega) with rfl | rfl | rfl | rfl | rfl | rfl | rfl | rfl | rfl | rfl | rfl | rfl | rfl | rfl | rfl
  · exact l2Takes_1 w
  · exact l2Takes_2 w
  · exact l2Takes_3 w
  · exact l2Takes_4 w
  · exact l2Takes_5 w
  · exact l2Takes_6 w
  · exact l2Takes_7 w
  · exact l2Takes_8 w
  · exact l2Takes_9 w
  · exact l2Takes_10 w
  · exact l2Takes_11 w
  · exact l2Takes_12 w
  · exact l2Takes_13 w
  · exact l2Takes_14 w
  · exact l2Takes_15 w
def runV (pl : Int) (sk : Value) (st lk : Int) : Value := .agg #[.int .i64 pl, sk, .int .i64 st, .int .i64 lk, .bool false, .int .i64 0, .string ⟨#[]⟩, .bool false, .string ⟨#[]⟩, .bool false]
def overV (pl : Int) (sk : Value) (st lk c : Int) (t : ByteArray) : Value := .agg #[.int .i64 pl, sk, .int .i64 st, .int .i64 lk, .bool true, .int .i64 c, .string t, .bool false, .string ⟨#[]⟩, .bool false]
def waitV (pl : Int) (sk : Value) (st lk : Int) (ask : Bool) (nm : ByteArray) : Value := .agg #[.int .i64 pl, sk, .int .i64 st, .int .i64 lk, .bool false, .int .i64 0, .string ⟨#[]⟩, .bool ask, .string nm, .bool true]
def turnV (ov : Bool) (c : Int) (t : ByteArray) (ask : Bool) (nm : ByteArray) (st : Int) : Value := .agg #[.bool ov, .int .i64 c, .string t, .bool ask, .string nm, .int .i64 st]
theorem l2End_any (pl : Int) (a : Option Addr) (n cap : Nat) (st lk c : Int) (t : ByteArray) (w : World) :
    Calls Tryz.prog 132 #[runV pl (.slice a n cap) st lk, .int .i64 c, .string t] w fun e w' => e = .returned (overV pl (.slice a n cap) st lk c t) /\ Below w.heap.size w w' := by
  unfold runV
  go_enter Tryz.func132, Tryz.ntmps132
  go_wp2
  exact bodyPost_ret (v := overV pl (.slice a n cap) st lk c t) (by simp [results, Tryz.results132, go_sem, overV]) rfl ⟨rfl, ((Below.refl _ _).alloc (Nat.le_refl _) _).alloc (by simp) _⟩
def Mach (w : World) (m : Nat) (tx cd : Value) (pl st lk : Int) : Prop := w.heap[m]? = some (.cells #[tx, cd, .int .i64 pl, .int .i64 st, .int .i64 lk] 191 (0, 0))
def strV (ss : List ByteArray) : List Value := ss.map .string
def MOk (B : Nat) (w : World) (m : Nat) (ss : List ByteArray) (cd : Value) (pl st lk : Int) : Prop :=
  B <= m /\ ∃ v, Mach w m v cd pl st lk /\ w.ownsRow B 9 1 v ss.length (strV ss)
theorem heap_new (w : World) (o : Obj) : (w.alloc o).heap[w.heap.size]? = some o := by unfold World.alloc; simp
theorem Mach.lt {w : World} {m : Nat} {tx cd : Value} {pl st lk : Int} (h : Mach w m tx cd pl st lk) : m < w.heap.size := by
  rcases Nat.lt_or_ge m w.heap.size with h' | h'
  · exact h'
  · unfold Mach at h; rw [Array.getElem?_eq_none h'] at h; cases h
theorem Mach.ne {w : World} {m B g n cap : Nat} {tx cd : Value} {pl st lk : Int} {xs : List Value} (h : Mach w m tx cd pl st lk) (ho : w.ownsRow B 9 1 (.slice (some ⟨g, 0, none⟩) n cap) n xs) : m ≠ g := by
  rintro rfl
  rcases ho.2 with ⟨h0, _⟩ | ⟨g', cap', cur, hv, hg, hh, _⟩
  · simp at h0
  · simp only [Value.slice.injEq, Option.some.injEq, Addr.mk.injEq, and_true, true_and] at hv
    rw [<- hv.1] at hh
    unfold Mach at h
    rw [h] at hh
    simp at hh
theorem MOk.below {B : Nat} {w w' : World} {m : Nat} {ss : List ByteArray} {cd : Value} {pl st lk : Int} (h : MOk B w m ss cd pl st lk) (hb : Below w.heap.size w w') : MOk B w' m ss cd pl st lk := by
  obtain ⟨hB, v, hm, ho⟩ := h
  exact ⟨hB, v, by have := hm.lt; unfold Mach at *; rw [hb.block m this]; exact hm, ownsRow_below ho hb⟩
theorem Mach.cell {w : World} {m : Nat} {tx cd : Value} {pl st lk : Int} (h : Mach w m tx cd pl st lk) : (∀ x, (w.alloc x).cell? ⟨m, 0, none⟩ = some tx) /\ (∀ x, (w.alloc x).cell? ⟨m, 2, none⟩ = some (.int .i64 pl)) /\ (∀ x, (w.alloc x).cell? ⟨m, 3, none⟩ = some (.int .i64 st)) /\ (∀ x, (w.alloc x).cell? ⟨m, 4, none⟩ = some (.int .i64 lk)) := by
  have hl := h.lt
  have e : ∀ j x, (w.alloc x).cell? ⟨m, j, none⟩ = w.cell? ⟨m, j, none⟩ := fun j x => World.cell?_alloc_lt _ _ _ hl
  exact ⟨fun x => by rw [e, Lib.cell_of_heap h]; rfl, fun x => by rw [e, Lib.cell_of_heap h]; rfl, fun x => by rw [e, Lib.cell_of_heap h]; rfl, fun x => by rw [e, Lib.cell_of_heap h]; rfl⟩
theorem over_any (m : Nat) (tx cd : Value) (pl st lk c : Int) (t : ByteArray) (w : World) (hM : Mach w m tx cd pl st lk) :
    Calls Tryz.prog 120 #[.pointer (some ⟨m, 0, none⟩), .int .i64 c, .string t] w fun e w' => e = .returned (turnV true c t false ⟨#[]⟩ st) /\ Below w.heap.size w w' := by
  have c3 := hM.cell.2.2.1
  clear hM
  go_enter Tryz.func120, Tryz.ntmps120
  go_wp2
  exact bodyPost_ret (v := turnV true c t false ⟨#[]⟩ st) (by simp [results, Tryz.results120, go_sem, turnV]) rfl ⟨rfl, (Below.refl _ _).alloc (Nat.le_refl _) _⟩
theorem stuck_any (m : Nat) (tx cd : Value) (pl st lk : Int) (w : World) (hM : Mach w m tx cd pl st lk) (hP : P10 w) (h0 : 0 <= pl) (h1 : pl <= 2000) :
    Calls Tryz.prog 121 #[.pointer (some ⟨m, 0, none⟩)] w fun e w' => e = .returned (turnV true 2 ⟨(Lib.decDigits pl.toNat).toArray⟩ false ⟨#[]⟩ st) /\ Below w.heap.size w w' := by
  have c2 := hM.cell.2.1
  have hi : Lib.itoa pl = Lib.decDigits pl.toNat := by unfold Lib.itoa; rw [if_neg (by omega)]
  rw [<- hi]
  clear hi
  generalize hq : (⟨(Lib.itoa pl).toArray⟩ : ByteArray) = q
  have HQ : Hid ((⟨(Lib.itoa pl).toArray⟩ : ByteArray) = q) := hq
  clear hq
  go_enter Tryz.func121, Tryz.ntmps121
  go_wp2_with fail
  have hb0 : Below w.heap.size w (w.alloc (.cells #[.bool false, .int .i64 0, .string ⟨#[]⟩, .bool false, .string ⟨#[]⟩, .int .i64 0] 165)) := (Below.refl _ _).alloc (Nat.le_refl _) _
  refine (Tryz.strconv_Itoa pl (by omega) (by omega) _ (hP.below hb0)).mono ?_
  rintro e w1 ⟨rfl, k', os', hw1⟩
  have hb1 := Lib.below_grow _ (w.alloc (.cells #[.bool false, .int .i64 0, .string ⟨#[]⟩, .bool false, .string ⟨#[]⟩, .int .i64 0] 165)) (Nat.le_refl _) k' os'
  rw [<- hw1] at hb1
  clear hw1
  rw [HQ.out]
  have hB1 : Below w.heap.size w w1 := hb0.trans (hb1.mono hb0.size)
  have hM1 : Mach w1 m tx cd pl st lk := by have := hM.lt; unfold Mach at *; rw [hB1.block m this]; exact hM
  go_wp2_with fail
  refine (over_any m tx cd pl st lk 2 q w1 hM1).mono ?_
  rintro e w2 ⟨rfl, hb2⟩
  have hB2 : Below w.heap.size w w2 := hB1.trans (hb2.mono hB1.size)
  unfold turnV
  have hs1 : w.heap.size < w1.heap.size := by have := hb1.size; simp at this; omega
  have hblk : w2.heap[w.heap.size]? = some (.cells #[.bool false, .int .i64 0, .string ⟨#[]⟩, .bool false, .string ⟨#[]⟩, .int .i64 0] 165 (0, 0)) := by
    rw [hb2.block _ hs1, hb1.block _ (by simp), heap_new]
  obtain ⟨k0, k1, k2, k3, k4, k5⟩ := c6 hblk
  have f0 : ∀ j, w2.frozen? ⟨w.heap.size, j, none⟩ = false := fun j => Lib.frozen_of_heap hblk j
  clear hb0 hb1 hB1 hM hM1 hb2 hP hblk
  go_wp2
  exact bodyPost_ret (v := turnV true 2 q false ⟨#[]⟩ st) (by simp [results, Tryz.results121, go_sem, turnV, k0, k1, k2, k3, k4, k5]) rfl ⟨rfl, (((((hB2.setCell (Nat.le_refl _) _).setCell (Nat.le_refl _) _).setCell (Nat.le_refl _) _).setCell (Nat.le_refl _) _).setCell (Nat.le_refl _) _).setCell (Nat.le_refl _) _⟩
theorem Tryz.info9b : (Tryz.prog.info? 9).map (fun i => (i.zero, i.size, i.bytes)) = some (some (.string ⟨#[]⟩), 1, 16) := by kernel_rfl
theorem own_lt {w : World} {B n : Nat} {v : Value} {xs : List Value} (h : w.ownsRow B 9 1 v n xs) : ∀ k, v.ownBlock = some k -> B <= k /\ k < w.heap.size := fun k hk => h.lt k hk
theorem Mach.ne' {w : World} {m B n : Nat} {v tx cd : Value} {pl st lk : Int} {xs : List Value} (h : Mach w m tx cd pl st lk) (ho : w.ownsRow B 9 1 v n xs) : some m ≠ v.ownBlock := by
  intro e
  rcases ho.2 with ⟨rfl, _⟩ | ⟨g, cap, cur, rfl, _⟩
  · simp [Value.ownBlock] at e
  · simp [Value.ownBlock] at e
    exact h.ne ho e
theorem MOk.put {B : Nat} {w : World} {m : Nat} {ss : List ByteArray} {tx v cd : Value} {pl st lk : Int} (hB : B <= m) (hm : Mach w m tx cd pl st lk) (ho : w.ownsRow B 9 1 v ss.length (strV ss)) : MOk B (w.setCell ⟨m, 0, none⟩ v) m ss cd pl st lk := by
  refine ⟨hB, v, ?_, ?_⟩
  · unfold Mach at *
    rw [Joins.block_setCell hm]
    rfl
  · have hne := hm.ne' ho
    refine ⟨ho.1, ?_⟩
    rcases ho.2 with h0 | ⟨g, cap, cur, hv, hg, hh, r⟩
    · exact Or.inl h0
    · refine Or.inr ⟨g, cap, cur, hv, hg, ?_, r⟩
      rw [Below.heap_setCell w ⟨m, 0, none⟩ v g (by rintro e; apply hne; rw [hv]; simp [Value.ownBlock, e])]
      exact hh
theorem put_no (B m : Nat) (ss : List ByteArray) (cd : Value) (pl st lk : Int) (t : ByteArray) (w : World) (hM : MOk B w m ss cd pl st lk) (hs : t.size <= 9223372036854775807) (h2 : ss.length <= 50) (h : 2000 < t.size \/ ss.length = 50) :
    Calls Tryz.prog 125 #[.pointer (some ⟨m, 0, none⟩), .string t] w fun e w' => e = .returned (.bool false) /\ w = w' := by
  obtain ⟨hBm, v, hm, hown⟩ := hM
  obtain ⟨ao, cap, rfl⟩ : ∃ ao cap, v = .slice ao ss.length cap := by
    rcases hown.2 with ⟨hv, h0⟩ | ⟨g, cap, cur, hv, _⟩
    · exact ⟨none, 0, by rw [hv, h0]⟩
    · exact ⟨_, _, hv⟩
  have c0 : w.cell? ⟨m, 0, none⟩ = some (.slice ao ss.length cap) := by rw [Lib.cell_of_heap hm]; rfl
  by_cases h1 : 2000 < t.size
  · have d1 : decide ((2000 : Int) < t.size) = true := by simp; omega
    clear h
    go_enter Tryz.func125, Tryz.ntmps125
    go_wp2
    go_ret
    exact ⟨rfl, rfl⟩
  · have d1 : decide ((2000 : Int) < t.size) = false := by simp; omega
    have d2 : ((ss.length : Int) == 50) = true := by simp; omega
    clear h
    go_enter Tryz.func125, Tryz.ntmps125
    go_wp2
    go_ret
    exact ⟨rfl, rfl⟩
theorem own_shrink {w : World} {B g cap : Nat} {ss : List ByteArray} {x : ByteArray} (h : w.ownsRow B 9 1 (.slice (some ⟨g, 0, none⟩) (ss.length + 1) cap) (ss.length + 1) (strV (ss ++ [x]))) : w.ownsRow B 9 1 (.slice (some ⟨g, 0, none⟩) ss.length cap) ss.length (strV ss) := by
  refine ⟨by simp [strV], ?_⟩
  rcases h.2 with ⟨h0, _⟩ | ⟨g', cap', cur, hv, hg, hh, h1, h2, h3, h4⟩
  · simp at h0
  · simp only [Value.slice.injEq, Option.some.injEq, Addr.mk.injEq, and_true, true_and] at hv
    obtain ⟨rfl, rfl⟩ := hv
    refine Or.inr ⟨g, cap, cur, rfl, hg, hh, by omega, h2, h3, ?_⟩
    have := congrArg (List.take ss.length) h4
    rw [List.take_take, Nat.mul_one] at this
    rw [Nat.mul_one]
    rw [show min ss.length (ss.length + 1) = ss.length by omega] at this
    rw [this]
    simp [strV]
end Go.Proofs.YtbbfboikigmghaaGreatDoor
