import Derived.Test.YtmeojnaoljgieaeGreatDoorVStrs
import Derived.Shelf.SlSorted.Search
import Derived.Test.YtmeojnaoljgieaeGreatDoorVGRow
import Derived.Deep.QuietTactic
import Derived.BigQuiet
namespace Go.Proofs.YtmeojnaoljgieaeGreatDoor
open Go.RowKit
set_option linter.unusedVariables false
set_option maxHeartbeats 8000000
set_option maxRecDepth 100000
def lessB (a b : ByteArray) : Bool := Op.bytesLess a.toList b.toList
theorem lessB_trans {a b c : ByteArray} (h : lessB a b = true) (k : lessB b c = true) : lessB a c = true := by
  unfold lessB at *
  rw [bytesLess_eq] at *
  simp only [decide_eq_true_eq] at *
  exact List.lt_trans h k
theorem lessB_irrefl (a : ByteArray) : lessB a a = false := by
  unfold lessB
  rw [bytesLess_eq]
  simp only [decide_eq_false_iff_not]
  exact List.lt_irrefl _
def nx (l : List ByteArray) (i : Nat) : ByteArray := l.getD i ByteArray.empty
def Asc (l : List ByteArray) : Prop := ∀ i, 1 <= i -> i < l.length -> lessB (nx l (i - 1)) (nx l i) = true
theorem Asc.lt {l : List ByteArray} (h : Asc l) : ∀ (d i : Nat), i + d + 1 < l.length -> lessB (nx l i) (nx l (i + d + 1)) = true
  | 0, i, hi => by have := h (i + 0 + 1) (by omega) hi; simpa using this
  | d + 1, i, hi => by
    have h1 := Asc.lt h d i (by omega)
    have h2 := h (i + (d + 1) + 1) (by omega) hi
    exact lessB_trans h1 (by have := h2; rw [Nat.add_sub_cancel] at this; exact this)
theorem Asc.pair {l : List ByteArray} (h : Asc l) {i j : Nat} (hij : i < j) (hj : j < l.length) : lessB (nx l i) (nx l j) = true := by
  have := h.lt (j - i - 1) i (by omega)
  rwa [show i + (j - i - 1) + 1 = j by omega] at this
theorem iff_no {P : Prop} (h : ¬ P) : (false = true ↔ P) := ⟨fun k => absurd k (by decide), fun k => absurd k h⟩
theorem iff_yes {P : Prop} (h : P) : (true = true ↔ P) := ⟨fun _ => h, fun _ => rfl⟩
theorem ascending_step {l : List ByteArray} {m : Nat} (h : ∀ j, 1 <= j -> j < m + 1 -> lessB (nx l (j - 1)) (nx l j) = true) (hk : lessB (nx l m) (nx l (m + 1)) = true) : ∀ j, 1 <= j -> j < m + 1 + 1 -> lessB (nx l (j - 1)) (nx l j) = true := by
  intro j h1 h2
  rcases Nat.lt_or_ge j (m + 1) with h3 | h3
  · exact h j h1 h3
  · obtain rfl : j = m + 1 := by omega
    simpa using hk
theorem ascending_any (a : Option Addr) (cap : Nat) (l : List ByteArray) (w : World) (hc : Strs w a l) (hl : l.length <= 1048576) :
    Calls Tryz.prog 125 #[.slice a l.length cap] w fun e w' => Below w.heap.size w w' /\ ∃ b : Bool, e = .returned (.bool b) /\ (b = true ↔ Asc l) := by
  go_enter Tryz.func125, Tryz.ntmps125
  go_wp2
  go_loopw [3] (fun i wr => ∃ m : Nat, (m = 0 \/ m + 1 <= l.length) /\ i = .int .i64 (m + 1) /\ Hid (∀ j, 1 <= j -> j < m + 1 -> lessB (nx l (j - 1)) (nx l j) = true) /\ Below w.heap.size w wr) (fun i _ => l.length + 1 - (intOf i).toNat)
  case atStart => exact ⟨0, Or.inl rfl, rfl, (fun j h1 h2 => by omega : ∀ j, 1 <= j -> j < 0 + 1 -> lessB (nx l (j - 1)) (nx l j) = true), Below.refl _ _⟩
  case round =>
    obtain ⟨m, hm, rfl, HA, hbel⟩ := hrel
    by_cases hlt : m + 1 < l.length
    · obtain ⟨b, off, rfl, c1⟩ := (hc.below hbel) m (by omega)
      obtain ⟨b', off', e', c2⟩ := (hc.below hbel) (m + 1) hlt
      simp only [Option.some.injEq, Addr.mk.injEq, and_true] at e'
      obtain ⟨rfl, rfl⟩ := e'
      replace c1 : wr.cell? ⟨b, off + m, none⟩ = some (.string (nx l m)) := c1
      replace c2 : wr.cell? ⟨b, off + (m + 1), none⟩ = some (.string (nx l (m + 1))) := c2
      obtain ⟨v, hv⟩ : ∃ v, lessB (nx l m) (nx l (m + 1)) = v := ⟨_, rfl⟩
      have HV : Hid (lessB (nx l m) (nx l (m + 1)) = v) := hv
      unfold lessB at hv
      clear hc
      generalize nx l m = s at c1 hv
      generalize nx l (m + 1) = s' at c2 hv
      have hltI : (m : Int) + 1 < (l.length : Int) := by omega
      cases v
      · go_wp2
        go_region
        all_goals
          go_wp2
          go_ret
          exact ⟨by repeat (first | exact hbel | apply Below.drew), false, rfl, iff_no (fun h => by have := h (m + 1) (by omega) hlt; rw [Nat.add_sub_cancel, HV.out] at this; cases this)⟩
      · go_wp2
        go_region
        all_goals
          go_wp2
          go_roundw
          case rel => exact ⟨m + 1, by omega, by go_num, ascending_step HA.out HV.out, by repeat (first | exact hbel | apply Below.drew)⟩
          case measure => simp [intOf]; omega
    · go_wp2
      go_ret
      exact ⟨hbel, true, rfl, iff_yes (fun j h1 h2 => HA.out j h1 (by omega))⟩
def kindOf (op : Int) : Int := if op = 1 then 1 else if op = 3 \/ op = 4 \/ op = 5 then 2 else if op = 10 \/ op = 11 then 3 else 0
def mostT (k : Int) : Int := if k = 1 then 2000 else 0
def mostN (k : Int) : Int := if k = 2 then 2000 else if k = 3 then 200 else 0
def insOk (i : I3) : Bool := decide (1 <= i.op) && decide (i.op <= 15) && decide ((i.text.size : Int) <= mostT (kindOf i.op)) && decide (0 <= i.n) && decide (i.n <= mostN (kindOf i.op))
def words : List (List UInt8) := [[], [108, 105, 116], [99, 97, 116], [99, 117, 116], [114, 101, 115, 116], [119, 111, 114, 100], [115, 97, 109, 101], [100, 117, 112], [115, 119, 97, 112], [100, 114, 111, 112], [106, 117, 109, 112], [117, 110, 108, 101, 115, 115], [97, 115, 107], [104, 97, 115], [102, 97, 105, 108], [101, 110, 100]]
def takesOf : List Int := [0, 0, 2, 1, 1, 1, 2, 1, 2, 1, 0, 1, 1, 1, 1, 1]
def wordB (o : Nat) : ByteArray := ⟨(words.getD o []).toArray⟩
/-- The table of instructions, as start-up lays it. -/
def Tab (w : World) : Prop := ∀ o : Nat, o < 16 -> w.cell? ⟨0, o * 3, none⟩ = some (.string (wordB o)) /\ w.cell? ⟨0, o * 3 + 1, none⟩ = some (.int .i64 (kindOf o)) /\ w.cell? ⟨0, o * 3 + 2, none⟩ = some (.int .i64 (takesOf.getD o 0))
theorem Tab.below {w w' : World} (h : Tab w) (hb : Below w.heap.size w w') : Tab w' := fun o ho => ⟨cell_below hb (h o ho).1, cell_below hb (h o ho).2.1, cell_below hb (h o ho).2.2⟩
theorem kind_cases (o : Int) : kindOf o = 0 \/ kindOf o = 1 \/ kindOf o = 2 \/ kindOf o = 3 := by
  unfold kindOf
  split
  · simp
  · split
    · simp
    · split <;> simp
theorem mostText_any (k : Int) (w : World) : Calls Tryz.prog 204 #[.int .i64 k] w fun e w' => e = .returned (.int .i64 (mostT k)) /\ w' = w := by
  by_cases h : k = 1
  · subst h
    go_enter Tryz.func204, Tryz.ntmps204
    go_wp2
    go_ret
    exact ⟨rfl, rfl⟩
  · have h1 : (k == 1) = false := by simpa using h
    have e : mostT k = 0 := by simp [mostT, h]
    rw [e]
    clear h e
    go_enter Tryz.func204, Tryz.ntmps204
    go_wp2
    go_ret
    exact ⟨rfl, rfl⟩
theorem mostNumber_any (k : Int) (w : World) : Calls Tryz.prog 205 #[.int .i64 k] w fun e w' => e = .returned (.int .i64 (mostN k)) /\ w' = w := by
  by_cases h : k = 2
  · subst h
    go_enter Tryz.func205, Tryz.ntmps205
    go_wp2
    go_ret
    exact ⟨rfl, rfl⟩
  · by_cases h' : k = 3
    · subst h'
      go_enter Tryz.func205, Tryz.ntmps205
      go_wp2
      go_ret
      exact ⟨rfl, rfl⟩
    · have h1 : (k == 2) = false := by simpa using h
      have h2 : (k == 3) = false := by simpa using h'
      have e : mostN k = 0 := by simp [mostN, h, h']
      rw [e]
      clear h h' e
      go_enter Tryz.func205, Tryz.ntmps205
      go_wp2
      go_ret
      exact ⟨rfl, rfl⟩
theorem validIns_out (i : I3) (w : World) (h : i.op < 1 \/ 15 < i.op) :
    Calls Tryz.prog 176 #[.agg #[.int .i64 i.op, .string i.text, .int .i64 i.n]] w fun e w' => Below w.heap.size w w' /\ e = .returned (.bool false) := by
  rcases h with h | h
  · have h1 : decide (i.op < 1) = true := by simpa using h
    go_enter Tryz.func176, Tryz.ntmps176
    go_wp2
    go_ret
    exact ⟨(Below.refl _ _).alloc (Nat.le_refl _) _, rfl⟩
  · have h1 : decide (i.op < 1) = false := by simp; omega
    have h2 : decide (15 < i.op) = true := by simpa using h
    go_enter Tryz.func176, Tryz.ntmps176
    go_wp2
    go_ret
    exact ⟨(Below.refl _ _).alloc (Nat.le_refl _) _, rfl⟩
theorem validIns_in (o : Nat) (t : ByteArray) (n : Int) (w : World) (k : Int) (h1 : 1 <= o) (h2 : o <= 15) (ht : t.size <= 9223372036854775807) (hk : w.cell? ⟨0, o * 3 + 1, none⟩ = some (.int .i64 k)) :
    Calls Tryz.prog 176 #[.agg #[.int .i64 o, .string t, .int .i64 n]] w fun e w' => Below w.heap.size w w' /\ e = .returned (.bool (decide ((t.size : Int) <= mostT k) && decide (0 <= n) && decide (n <= mostN k))) := by
  have d1 : decide ((o : Int) < 1) = false := by simp; omega
  have d2 : decide (15 < (o : Int)) = false := by simp; omega
  have h0 : 0 < w.heap.size := World.block_lt_of_cell? w _ hk
  have hka : ∀ x, (w.alloc x).cell? ⟨0, o * 3 + 1, none⟩ = some (.int .i64 k) := fun x => by rw [World.cell?_alloc_lt _ _ _ h0]; exact hk
  by_cases c1 : (t.size : Int) <= mostT k
  · have e1 : decide ((t.size : Int) <= mostT k) = true := by simpa using c1
    by_cases c2 : 0 <= n
    · have e2 : decide (0 <= n) = true := by simpa using c2
      go_enter Tryz.func176, Tryz.ntmps176
      go_wp2_with fail
      go_quiet (first | (go_at_call 204; exact Calls.quiet_of_same (mostText_any _ _)) | (go_at_call 205; exact Calls.quiet_of_same (mostNumber_any _ _)))
      go_wp2
      go_ret
      exact ⟨below_drewN ((Below.refl _ _).alloc (Nat.le_refl _) _) _, by simp [e1, e2]; try rfl⟩
    · have e2 : decide (0 <= n) = false := by simpa using c2
      go_enter Tryz.func176, Tryz.ntmps176
      go_wp2_with fail
      go_quiet (first | (go_at_call 204; exact Calls.quiet_of_same (mostText_any _ _)) | (go_at_call 205; exact Calls.quiet_of_same (mostNumber_any _ _)))
      go_wp2
      go_ret
      exact ⟨below_drewN ((Below.refl _ _).alloc (Nat.le_refl _) _) _, by simp [e1, e2]; try rfl⟩
  · have e1 : decide ((t.size : Int) <= mostT k) = false := by simpa using c1
    go_enter Tryz.func176, Tryz.ntmps176
    go_wp2_with fail
    go_quiet (first | (go_at_call 204; exact Calls.quiet_of_same (mostText_any _ _)) | (go_at_call 205; exact Calls.quiet_of_same (mostNumber_any _ _)))
    go_wp2
    go_ret
    exact ⟨below_drewN ((Below.refl _ _).alloc (Nat.le_refl _) _) _, by simp [e1]; try rfl⟩
theorem l2Word_1 (w : World) : Calls Tryz.prog 187 #[.int .i64 1] w fun e w' => e = .returned (.tuple #[.string ⟨#[108, 105, 116]⟩, .int .i64 1]) /\ w = w' := by
  go_enter Tryz.func187, Tryz.ntmps187
  go_wp2
  go_ret2
  exact ⟨rfl, rfl⟩
theorem l2Word_2 (w : World) : Calls Tryz.prog 187 #[.int .i64 2] w fun e w' => e = .returned (.tuple #[.string ⟨#[99, 97, 116]⟩, .int .i64 0]) /\ w = w' := by
  go_enter Tryz.func187, Tryz.ntmps187
  go_wp2
  go_ret2
  exact ⟨rfl, rfl⟩
theorem l2Word_3 (w : World) : Calls Tryz.prog 187 #[.int .i64 3] w fun e w' => e = .returned (.tuple #[.string ⟨#[99, 117, 116]⟩, .int .i64 2]) /\ w = w' := by
  go_enter Tryz.func187, Tryz.ntmps187
  go_wp2
  go_ret2
  exact ⟨rfl, rfl⟩
theorem l2Word_4 (w : World) : Calls Tryz.prog 187 #[.int .i64 4] w fun e w' => e = .returned (.tuple #[.string ⟨#[114, 101, 115, 116]⟩, .int .i64 2]) /\ w = w' := by
  go_enter Tryz.func187, Tryz.ntmps187
  go_wp2
  go_ret2
  exact ⟨rfl, rfl⟩
theorem l2Word_5 (w : World) : Calls Tryz.prog 187 #[.int .i64 5] w fun e w' => e = .returned (.tuple #[.string ⟨#[119, 111, 114, 100]⟩, .int .i64 2]) /\ w = w' := by
  go_enter Tryz.func187, Tryz.ntmps187
  go_wp2
  go_ret2
  exact ⟨rfl, rfl⟩
theorem l2Word_6 (w : World) : Calls Tryz.prog 187 #[.int .i64 6] w fun e w' => e = .returned (.tuple #[.string ⟨#[115, 97, 109, 101]⟩, .int .i64 0]) /\ w = w' := by
  go_enter Tryz.func187, Tryz.ntmps187
  go_wp2
  go_ret2
  exact ⟨rfl, rfl⟩
theorem l2Word_7 (w : World) : Calls Tryz.prog 187 #[.int .i64 7] w fun e w' => e = .returned (.tuple #[.string ⟨#[100, 117, 112]⟩, .int .i64 0]) /\ w = w' := by
  go_enter Tryz.func187, Tryz.ntmps187
  go_wp2
  go_ret2
  exact ⟨rfl, rfl⟩
theorem l2Word_8 (w : World) : Calls Tryz.prog 187 #[.int .i64 8] w fun e w' => e = .returned (.tuple #[.string ⟨#[115, 119, 97, 112]⟩, .int .i64 0]) /\ w = w' := by
  go_enter Tryz.func187, Tryz.ntmps187
  go_wp2
  go_ret2
  exact ⟨rfl, rfl⟩
theorem l2Word_9 (w : World) : Calls Tryz.prog 187 #[.int .i64 9] w fun e w' => e = .returned (.tuple #[.string ⟨#[100, 114, 111, 112]⟩, .int .i64 0]) /\ w = w' := by
  go_enter Tryz.func187, Tryz.ntmps187
  go_wp2
  go_ret2
  exact ⟨rfl, rfl⟩
theorem l2Word_10 (w : World) : Calls Tryz.prog 187 #[.int .i64 10] w fun e w' => e = .returned (.tuple #[.string ⟨#[106, 117, 109, 112]⟩, .int .i64 3]) /\ w = w' := by
  go_enter Tryz.func187, Tryz.ntmps187
  go_wp2
  go_ret2
  exact ⟨rfl, rfl⟩
theorem l2Word_11 (w : World) : Calls Tryz.prog 187 #[.int .i64 11] w fun e w' => e = .returned (.tuple #[.string ⟨#[117, 110, 108, 101, 115, 115]⟩, .int .i64 3]) /\ w = w' := by
  go_enter Tryz.func187, Tryz.ntmps187
  go_wp2
  go_ret2
  exact ⟨rfl, rfl⟩
theorem l2Word_12 (w : World) : Calls Tryz.prog 187 #[.int .i64 12] w fun e w' => e = .returned (.tuple #[.string ⟨#[97, 115, 107]⟩, .int .i64 0]) /\ w = w' := by
  go_enter Tryz.func187, Tryz.ntmps187
  go_wp2
  go_ret2
  exact ⟨rfl, rfl⟩
theorem l2Word_13 (w : World) : Calls Tryz.prog 187 #[.int .i64 13] w fun e w' => e = .returned (.tuple #[.string ⟨#[104, 97, 115]⟩, .int .i64 0]) /\ w = w' := by
  go_enter Tryz.func187, Tryz.ntmps187
  go_wp2
  go_ret2
  exact ⟨rfl, rfl⟩
theorem l2Word_14 (w : World) : Calls Tryz.prog 187 #[.int .i64 14] w fun e w' => e = .returned (.tuple #[.string ⟨#[102, 97, 105, 108]⟩, .int .i64 0]) /\ w = w' := by
  go_enter Tryz.func187, Tryz.ntmps187
  go_wp2
  go_ret2
  exact ⟨rfl, rfl⟩
theorem l2Word_15 (w : World) : Calls Tryz.prog 187 #[.int .i64 15] w fun e w' => e = .returned (.tuple #[.string ⟨#[101, 110, 100]⟩, .int .i64 0]) /\ w = w' := by
  go_enter Tryz.func187, Tryz.ntmps187
  go_wp2
  go_ret2
  exact ⟨rfl, rfl⟩
theorem l2Word_out (op : Int) (w : World) (h : op < 1 \/ 15 < op) : Calls Tryz.prog 187 #[.int .i64 op] w fun e w' => e = .returned (.tuple #[.string ⟨#[]⟩, .int .i64 0]) /\ w = w' := by
  rcases h with h | h
  · go_enter Tryz.func187, Tryz.ntmps187
    go_wp2
    go_ret2
    exact ⟨rfl, rfl⟩
  · go_enter Tryz.func187, Tryz.ntmps187
    go_wp2
    go_ret2
    exact ⟨rfl, rfl⟩
theorem l2Word_in (o : Nat) (w : World) (h1 : 1 <= o) (h2 : o <= 15) : Calls Tryz.prog 187 #[.int .i64 o] w fun e w' => e = .returned (.tuple #[.string (wordB o), .int .i64 (kindOf o)]) /\ w = w' := by
  rcases (show o = 1 \/ o = 2 \/ o = 3 \/ o = 4 \/ o = 5 \/ o = 6 \/ o = 7 \/ o = 8 \/ o = 9 \/ o = 10 \/ o = 11 \/ o = 12 \/ o = 13 \/ o = 14 \/ o = 15 from by omega) with rfl | rfl | rfl | rfl | rfl | rfl | rfl | rfl | rfl | rfl | rfl | rfl | rfl | rfl | rfl
  · exact l2Word_1 w
  · exact l2Word_2 w
  · exact l2Word_3 w
  · exact l2Word_4 w
  · exact l2Word_5 w
  · exact l2Word_6 w
  · exact l2Word_7 w
  · exact l2Word_8 w
  · exact l2Word_9 w
  · exact l2Word_10 w
  · exact l2Word_11 w
  · exact l2Word_12 w
  · exact l2Word_13 w
  · exact l2Word_14 w
  · exact l2Word_15 w
theorem word_nonempty (o : Nat) (h1 : 1 <= o) (h2 : o <= 15) : (wordB o).toList.isEmpty = false := by
  rw [ByteArray.toList_eq]
  rcases (show o = 1 \/ o = 2 \/ o = 3 \/ o = 4 \/ o = 5 \/ o = 6 \/ o = 7 \/ o = 8 \/ o = 9 \/ o = 10 \/ o = 11 \/ o = 12 \/ o = 13 \/ o = 14 \/ o = 15 from by omega) with rfl | rfl | rfl | rfl | rfl | rfl | rfl | rfl | rfl | rfl | rfl | rfl | rfl | rfl | rfl <;> rfl
theorem empty_iff (t : ByteArray) : t.toList.isEmpty = decide (t.size = 0) := by
  rw [ByteArray.toList_eq, Bool.eq_iff_iff]
  simp only [List.isEmpty_iff, decide_eq_true_eq]
  constructor
  · intro h; show t.data.size = 0; rw [<- Array.length_toList, h]; rfl
  · intro h; apply List.eq_nil_of_length_eq_zero; rw [Array.length_toList]; exact h
theorem l2InsOk_out (i : I3) (w : World) (h : i.op < 1 \/ 15 < i.op) :
    Calls Tryz.prog 150 #[.agg #[.int .i64 i.op, .string i.text, .int .i64 i.n]] w fun e w' => Below w.heap.size w w' /\ e = .returned (.bool false) := by
  go_enter Tryz.func150, Tryz.ntmps150
  go_wp2_with (first | (go_at_call 187; refine (l2Word_out _ _ h).mono ?_; rintro e w' ⟨rfl, rfl⟩))
  go_ret
  exact ⟨(Below.refl _ _).alloc (Nat.le_refl _) _, rfl⟩
theorem l2InsOk_0 (o : Nat) (wd t : ByteArray) (n : Int) (w : World) (Hw : Hid (∀ w, Calls Tryz.prog 187 #[.int .i64 o] w fun e w' => e = .returned (.tuple #[.string wd, .int .i64 0]) /\ w = w')) (hwe : wd.toList.isEmpty = false) (ht : t.size <= 9223372036854775807) :
    Calls Tryz.prog 150 #[.agg #[.int .i64 o, .string t, .int .i64 n]] w fun e w' => Below w.heap.size w w' /\ e = .returned (.bool (decide ((t.size : Int) <= 0) && decide (0 <= n) && decide (n <= 0))) := by
  have he := empty_iff t
  by_cases hz : t.size = 0
  · have he1 : t.toList.isEmpty = true := by rw [he, decide_eq_true_eq]; exact hz
    clear he
    have hd0 : decide ((2000 : Int) < t.size) = false := by rw [decide_eq_false_iff_not]; omega
    by_cases hn : n = 0
    · have hd : (n == 0) = true := by simpa using hn
      rw [show (decide ((t.size : Int) <= 0) && decide (0 <= n) && decide (n <= 0)) = true from by simp only [Bool.and_eq_true, decide_eq_true_eq]; omega]
      clear hz
      clear hn
      go_enter Tryz.func150, Tryz.ntmps150
      go_wp2_with (first | (go_at_call 187; refine ((Hw.out) _).mono ?_; rintro e w' ⟨rfl, rfl⟩))
      go_ret
      exact ⟨(Below.refl _ _).alloc (Nat.le_refl _) _, rfl⟩
    · have hd : (n == 0) = false := by simpa using hn
      rw [show (decide ((t.size : Int) <= 0) && decide (0 <= n) && decide (n <= 0)) = false from by rw [Bool.eq_false_iff]; simp only [ne_eq, Bool.and_eq_true, decide_eq_true_eq]; omega]
      clear hz
      go_enter Tryz.func150, Tryz.ntmps150
      go_wp2_with (first | (go_at_call 187; refine ((Hw.out) _).mono ?_; rintro e w' ⟨rfl, rfl⟩))
      go_ret
      exact ⟨(Below.refl _ _).alloc (Nat.le_refl _) _, rfl⟩
  · have he1 : t.toList.isEmpty = false := by rw [he, decide_eq_false_iff_not]; exact hz
    clear he
    rw [show (decide ((t.size : Int) <= 0) && decide (0 <= n) && decide (n <= 0)) = false from by rw [Bool.eq_false_iff]; simp only [ne_eq, Bool.and_eq_true, decide_eq_true_eq]; omega]
    clear hz
    go_enter Tryz.func150, Tryz.ntmps150
    go_wp2_with (first | (go_at_call 187; refine ((Hw.out) _).mono ?_; rintro e w' ⟨rfl, rfl⟩))
    go_ret
    exact ⟨(Below.refl _ _).alloc (Nat.le_refl _) _, rfl⟩
theorem l2InsOk_1 (o : Nat) (wd t : ByteArray) (n : Int) (w : World) (Hw : Hid (∀ w, Calls Tryz.prog 187 #[.int .i64 o] w fun e w' => e = .returned (.tuple #[.string wd, .int .i64 1]) /\ w = w')) (hwe : wd.toList.isEmpty = false) (ht : t.size <= 9223372036854775807) :
    Calls Tryz.prog 150 #[.agg #[.int .i64 o, .string t, .int .i64 n]] w fun e w' => Below w.heap.size w w' /\ e = .returned (.bool (decide ((t.size : Int) <= 2000) && decide (0 <= n) && decide (n <= 0))) := by
  by_cases hz : t.size <= 2000
  · have hd0 : decide ((2000 : Int) < t.size) = false := by simp; omega
    by_cases hn : n = 0
    · have hd : (n == 0) = true := by simpa using hn
      rw [show (decide ((t.size : Int) <= 2000) && decide (0 <= n) && decide (n <= 0)) = true from by simp only [Bool.and_eq_true, decide_eq_true_eq]; omega]
      clear hn
      go_enter Tryz.func150, Tryz.ntmps150
      go_wp2_with (first | (go_at_call 187; refine ((Hw.out) _).mono ?_; rintro e w' ⟨rfl, rfl⟩))
      go_ret
      exact ⟨(Below.refl _ _).alloc (Nat.le_refl _) _, rfl⟩
    · have hd : (n == 0) = false := by simpa using hn
      rw [show (decide ((t.size : Int) <= 2000) && decide (0 <= n) && decide (n <= 0)) = false from by rw [Bool.eq_false_iff]; simp only [ne_eq, Bool.and_eq_true, decide_eq_true_eq]; omega]
      go_enter Tryz.func150, Tryz.ntmps150
      go_wp2_with (first | (go_at_call 187; refine ((Hw.out) _).mono ?_; rintro e w' ⟨rfl, rfl⟩))
      go_ret
      exact ⟨(Below.refl _ _).alloc (Nat.le_refl _) _, rfl⟩
  · have hd0 : decide ((2000 : Int) < t.size) = true := by simp; omega
    rw [show (decide ((t.size : Int) <= 2000) && decide (0 <= n) && decide (n <= 0)) = false from by rw [Bool.eq_false_iff]; simp only [ne_eq, Bool.and_eq_true, decide_eq_true_eq]; omega]
    go_enter Tryz.func150, Tryz.ntmps150
    go_wp2_with (first | (go_at_call 187; refine ((Hw.out) _).mono ?_; rintro e w' ⟨rfl, rfl⟩))
    go_ret
    exact ⟨(Below.refl _ _).alloc (Nat.le_refl _) _, rfl⟩
theorem l2InsOk_2 (o : Nat) (wd t : ByteArray) (n : Int) (w : World) (Hw : Hid (∀ w, Calls Tryz.prog 187 #[.int .i64 o] w fun e w' => e = .returned (.tuple #[.string wd, .int .i64 2]) /\ w = w')) (hwe : wd.toList.isEmpty = false) (ht : t.size <= 9223372036854775807) :
    Calls Tryz.prog 150 #[.agg #[.int .i64 o, .string t, .int .i64 n]] w fun e w' => Below w.heap.size w w' /\ e = .returned (.bool (decide ((t.size : Int) <= 0) && decide (0 <= n) && decide (n <= 2000))) := by
  have he := empty_iff t
  by_cases hz : t.size = 0
  · have he1 : t.toList.isEmpty = true := by rw [he, decide_eq_true_eq]; exact hz
    clear he
    have hd0 : decide ((2000 : Int) < t.size) = false := by rw [decide_eq_false_iff_not]; omega
    by_cases hn : 0 <= n
    · have hd : decide (0 <= n) = true := by simpa using hn
      by_cases hm : n <= 2000
      · have hd2 : decide (n <= 2000) = true := by simpa using hm
        rw [show (decide ((t.size : Int) <= 0) && decide (0 <= n) && decide (n <= 2000)) = true from by simp only [Bool.and_eq_true, decide_eq_true_eq]; omega]
        clear hz
        go_enter Tryz.func150, Tryz.ntmps150
        go_wp2_with (first | (go_at_call 187; refine ((Hw.out) _).mono ?_; rintro e w' ⟨rfl, rfl⟩))
        go_ret
        exact ⟨(Below.refl _ _).alloc (Nat.le_refl _) _, rfl⟩
      · have hd2 : decide (n <= 2000) = false := by simpa using hm
        rw [show (decide ((t.size : Int) <= 0) && decide (0 <= n) && decide (n <= 2000)) = false from by rw [Bool.eq_false_iff]; simp only [ne_eq, Bool.and_eq_true, decide_eq_true_eq]; omega]
        clear hz
        go_enter Tryz.func150, Tryz.ntmps150
        go_wp2_with (first | (go_at_call 187; refine ((Hw.out) _).mono ?_; rintro e w' ⟨rfl, rfl⟩))
        go_ret
        exact ⟨(Below.refl _ _).alloc (Nat.le_refl _) _, rfl⟩
    · have hd : decide (0 <= n) = false := by simpa using hn
      rw [show (decide ((t.size : Int) <= 0) && decide (0 <= n) && decide (n <= 2000)) = false from by rw [Bool.eq_false_iff]; simp only [ne_eq, Bool.and_eq_true, decide_eq_true_eq]; omega]
      clear hz
      go_enter Tryz.func150, Tryz.ntmps150
      go_wp2_with (first | (go_at_call 187; refine ((Hw.out) _).mono ?_; rintro e w' ⟨rfl, rfl⟩))
      go_ret
      exact ⟨(Below.refl _ _).alloc (Nat.le_refl _) _, rfl⟩
  · have he1 : t.toList.isEmpty = false := by rw [he, decide_eq_false_iff_not]; exact hz
    clear he
    rw [show (decide ((t.size : Int) <= 0) && decide (0 <= n) && decide (n <= 2000)) = false from by rw [Bool.eq_false_iff]; simp only [ne_eq, Bool.and_eq_true, decide_eq_true_eq]; omega]
    clear hz
    go_enter Tryz.func150, Tryz.ntmps150
    go_wp2_with (first | (go_at_call 187; refine ((Hw.out) _).mono ?_; rintro e w' ⟨rfl, rfl⟩))
    go_ret
    exact ⟨(Below.refl _ _).alloc (Nat.le_refl _) _, rfl⟩
theorem l2InsOk_3 (o : Nat) (wd t : ByteArray) (n : Int) (w : World) (Hw : Hid (∀ w, Calls Tryz.prog 187 #[.int .i64 o] w fun e w' => e = .returned (.tuple #[.string wd, .int .i64 3]) /\ w = w')) (hwe : wd.toList.isEmpty = false) (ht : t.size <= 9223372036854775807) :
    Calls Tryz.prog 150 #[.agg #[.int .i64 o, .string t, .int .i64 n]] w fun e w' => Below w.heap.size w w' /\ e = .returned (.bool (decide ((t.size : Int) <= 0) && decide (0 <= n) && decide (n <= 200))) := by
  have he := empty_iff t
  by_cases hz : t.size = 0
  · have he1 : t.toList.isEmpty = true := by rw [he, decide_eq_true_eq]; exact hz
    clear he
    have hd0 : decide ((2000 : Int) < t.size) = false := by rw [decide_eq_false_iff_not]; omega
    by_cases hn : 0 <= n
    · have hd : decide (0 <= n) = true := by simpa using hn
      by_cases hm : n <= 200
      · have hd2 : decide (n <= 200) = true := by simpa using hm
        rw [show (decide ((t.size : Int) <= 0) && decide (0 <= n) && decide (n <= 200)) = true from by simp only [Bool.and_eq_true, decide_eq_true_eq]; omega]
        clear hz
        go_enter Tryz.func150, Tryz.ntmps150
        go_wp2_with (first | (go_at_call 187; refine ((Hw.out) _).mono ?_; rintro e w' ⟨rfl, rfl⟩))
        go_ret
        exact ⟨(Below.refl _ _).alloc (Nat.le_refl _) _, rfl⟩
      · have hd2 : decide (n <= 200) = false := by simpa using hm
        rw [show (decide ((t.size : Int) <= 0) && decide (0 <= n) && decide (n <= 200)) = false from by rw [Bool.eq_false_iff]; simp only [ne_eq, Bool.and_eq_true, decide_eq_true_eq]; omega]
        clear hz
        go_enter Tryz.func150, Tryz.ntmps150
        go_wp2_with (first | (go_at_call 187; refine ((Hw.out) _).mono ?_; rintro e w' ⟨rfl, rfl⟩))
        go_ret
        exact ⟨(Below.refl _ _).alloc (Nat.le_refl _) _, rfl⟩
    · have hd : decide (0 <= n) = false := by simpa using hn
      rw [show (decide ((t.size : Int) <= 0) && decide (0 <= n) && decide (n <= 200)) = false from by rw [Bool.eq_false_iff]; simp only [ne_eq, Bool.and_eq_true, decide_eq_true_eq]; omega]
      clear hz
      go_enter Tryz.func150, Tryz.ntmps150
      go_wp2_with (first | (go_at_call 187; refine ((Hw.out) _).mono ?_; rintro e w' ⟨rfl, rfl⟩))
      go_ret
      exact ⟨(Below.refl _ _).alloc (Nat.le_refl _) _, rfl⟩
  · have he1 : t.toList.isEmpty = false := by rw [he, decide_eq_false_iff_not]; exact hz
    clear he
    rw [show (decide ((t.size : Int) <= 0) && decide (0 <= n) && decide (n <= 200)) = false from by rw [Bool.eq_false_iff]; simp only [ne_eq, Bool.and_eq_true, decide_eq_true_eq]; omega]
    clear hz
    go_enter Tryz.func150, Tryz.ntmps150
    go_wp2_with (first | (go_at_call 187; refine ((Hw.out) _).mono ?_; rintro e w' ⟨rfl, rfl⟩))
    go_ret
    exact ⟨(Below.refl _ _).alloc (Nat.le_refl _) _, rfl⟩
theorem l2InsOk_in (o : Nat) (t : ByteArray) (n : Int) (w : World) (h1 : 1 <= o) (h2 : o <= 15) (ht : t.size <= 9223372036854775807) :
    Calls Tryz.prog 150 #[.agg #[.int .i64 o, .string t, .int .i64 n]] w fun e w' => Below w.heap.size w w' /\ e = .returned (.bool (decide ((t.size : Int) <= mostT (kindOf o)) && decide (0 <= n) && decide (n <= mostN (kindOf o)))) := by
  have hwe := word_nonempty o h1 h2
  have hw := fun w => l2Word_in o w h1 h2
  rcases kind_cases o with hk | hk | hk | hk
  · rw [hk] at hw ⊢; exact l2InsOk_0 o _ t n w hw hwe ht
  · rw [hk] at hw ⊢; exact l2InsOk_1 o _ t n w hw hwe ht
  · rw [hk] at hw ⊢; exact l2InsOk_2 o _ t n w hw hwe ht
  · rw [hk] at hw ⊢; exact l2InsOk_3 o _ t n w hw hwe ht
end Go.Proofs.YtmeojnaoljgieaeGreatDoor
