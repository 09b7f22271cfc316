import Derived.Test.YtllhbgmadiclcaaGreatDoorMgE
import Derived.Test.YtllhbgmadiclcaaGreatDoorMgG
import Derived.Carry
namespace Go.Proofs.YtllhbgmadiclcaaGreatDoor
open Go.RowKit
set_option linter.unusedVariables false

section
variable {P : Program} {ops : Array Oper} {Q : Exit → Act → World → Prop} {S : World → Prop} {z : Nat}
/-- Two operations are ready: both ways. -/
theorem Lt.two {i j : Nat} {oi oj : Oper} {n : Nat} {l : Array Bool} {a : Act} {w : World} (hr : Region.ready .any ops l = [i, j]) (hi : ops[i]? = some oi) (hj : ops[j]? = some oj)
    (h1 : ∀ K : Act → World → Prop, Shut (∀ a w, (i ≠ z → S w) → ((i ≠ z → S w) → Lt P ops Q S z n (l.setIfInBounds i true) a w) → K a w) → if Region.wanted oi (yielded ops a.tmps) = true then Oper.wp P oi a w K Q else K (a.put oi.dst undef) w)
    (h2 : ∀ K : Act → World → Prop, Shut (∀ a w, (j ≠ z → S w) → ((j ≠ z → S w) → Lt P ops Q S z n (l.setIfInBounds j true) a w) → K a w) → if Region.wanted oj (yielded ops a.tmps) = true then Oper.wp P oj a w K Q else K (a.put oj.dst undef) w) : Lt P ops Q S z (n + 1) l a w := by
  refine ⟨fun h0 => (by rw [hr] at h0; cases h0), fun m hm => ?_⟩
  rw [hr] at hm
  rcases List.mem_cons.1 hm with q | q
  · subst q
    exact wpOp_step hi (fun K hK => h1 K (fun a w hS hW => hK a w ⟨hS, hW hS⟩))
  · obtain rfl : m = j := by simpa using q
    exact wpOp_step hj (fun K hK => h2 K (fun a w hS hW => hK a w ⟨hS, hW hS⟩))
end

/-- A row of records that can be numbered. -/
def RowL (w : World) (a : Option Addr) (is : List T3) : Prop :=
  ∀ i, i < is.length → ∃ b off, a = some ⟨b, off, none⟩ ∧ ∃ ca cc la lc, w.cell? ⟨b, off + i * 3, none⟩ = some (.slice ca (qx is i).code.length cc) ∧ w.cell? ⟨b, off + i * 3 + 1, none⟩ = some (.slice la (qx is i).looks.length lc) ∧ w.cell? ⟨b, off + i * 3 + 2, none⟩ = some (.string (qx is i).out) ∧
    Lst okI zI w ca cc (cI (qx is i).code) ∧ Lst okG zG w la lc (cG (qx is i).looks) ∧ (qx is i).code.length ≤ 10000 ∧ (qx is i).looks.length ≤ 10000 ∧ (qx is i).out.size ≤ maxLen ∧ (∃ lb lf, la = some ⟨lb, lf, none⟩) ∧ 1 ≤ (qx is i).code.length ∧ Row3 w ca (qx is i).code ∧ RowG w la (qx is i).looks
theorem RowL.below {w w' : World} {a : Option Addr} {is : List T3} (h : RowL w a is) (hb : Below w.heap.size w w') : RowL w' a is := fun i hi => by
  obtain ⟨b, off, ha, ca, cc, la, lc, h1, h2, h3, h4, h5, h6, h7, h8, h9, h10, h11, h12⟩ := h i hi
  have hk : KeepX w.heap.size (fun _ => False) w w' := KeepX.of_below hb
  exact ⟨b, off, ha, ca, cc, la, lc, cell_below hb h1, cell_below hb h2, cell_below hb h3, h4.keepX hk (Nat.le_refl _) (fun _ _ _ _ h => h), h5.keepX hk (Nat.le_refl _) (fun _ _ _ _ h => h), h6, h7, h8, h9, h10, h11.below hb, h12.below hb⟩
theorem take_qx {rs : List T3} {k : Nat} (h : k < rs.length) : rs.take (k + 1) = rs.take k ++ [qx rs k] := by
  rw [List.take_add_one, qx, List.getD_eq_getElem?_getD]
  simp [h]

/-- Where listed's loop stands. -/
structure LInv (w : World) (rs : List T3) (k : Nat) (wr : World) (n1 n2 nc : Nat) (f1 f2 fc : Value → Option Nat) (rep1 rep2 : Nat → List Cel3) : Prop where
  a : Nums zI 124 wr (w.heap.size + 1) n1 f1 rep1
  b : Nums zG 130 wr (w.heap.size + 2) n2 f2 rep2
  c : MapK 69 wr (w.heap.size + 3) nc fc
  i : CntI (rs.take k) n1 n2 rep1 rep2 fc
  l1 : n1 ≤ k * 10000
  l2 : n2 ≤ k * 10000
  lc : nc ≤ k
  lv : ∀ x v, fc x = some v → v ≤ k
  L : wr.heap[w.heap.size + 4]? = some (.cells #[.map (some (w.heap.size + 1)), .map (some (w.heap.size + 2)), .map (some (w.heap.size + 3))] 62 (0, 0))
  R : wr.heap[w.heap.size]? = some (.cells #[.map none, .map none, .map none] 62 (0, 0))
  bel : Below w.heap.size w wr
def ListedO (w : World) (rs : List T3) (e : Ending) (w' : World) : Prop :=
  ∃ m1 m2 mc n1 n2 nc f1 f2 fc rep1 rep2, e = .returned (.agg #[.map (some m1), .map (some m2), .map (some mc)]) ∧ w.heap.size ≤ m1 ∧ m1 < m2 ∧ m2 < mc ∧ Nums zI 124 w' m1 n1 f1 rep1 ∧ Nums zG 130 w' m2 n2 f2 rep2 ∧ MapK 69 w' mc nc fc ∧ CntI rs n1 n2 rep1 rep2 fc ∧ n1 ≤ rs.length * 10000 ∧ n2 ≤ rs.length * 10000 ∧ Below w.heap.size w w'

set_option maxRecDepth 100000 in
set_option maxHeartbeats 4000000 in
theorem listed_any (sa : Option Addr) (cap : Nat) (rs : List T3) (w : World) (hrow : RowL w sa rs) (hl : rs.length ≤ 50000) :
    Calls Tryz.prog 25 #[.slice sa rs.length cap] w fun e w' => ListedO w rs e w' := by
  have HROW := hid hrow
  clear hrow
  have hmm := @run_makeMap Tryz.prog
  go_enter Tryz.func25, Tryz.ntmps25
  go_wp2_with fail
  obtain ⟨W, eW⟩ : ∃ W, ((((w.alloc (.cells #[.map none, .map none, .map none] 62)).alloc (.map #[] 0)).alloc (.map #[] 0)).alloc (.map #[] 0)).alloc (.cells #[.map (some (w.heap.size + 1)), .map (some (w.heap.size + 2)), .map (some (w.heap.size + 3))] 62) = W := ⟨_, rfl⟩
  rw [eW]
  simp only [show w.heap.size + 1 + 1 = w.heap.size + 2 from rfl, show w.heap.size + 2 + 1 = w.heap.size + 3 from rfl, show w.heap.size + 3 + 1 = w.heap.size + 4 from rfl]
  have HI0 : Hid (LInv w rs 0 W 0 0 0 (fun _ => none) (fun _ => none) (fun _ => none) (fun _ => []) (fun _ => [])) := by
    have e3 : ∀ k, k < w.heap.size + 4 → W.heap[k]? = ((((w.alloc (.cells #[.map none, .map none, .map none] 62)).alloc (.map #[] 0)).alloc (.map #[] 0)).alloc (.map #[] 0)).heap[k]? := fun k hk => by rw [← eW]; exact Below.heap_alloc _ _ _ (by simp; omega)
    have e2 : ∀ k, k < w.heap.size + 3 → W.heap[k]? = (((w.alloc (.cells #[.map none, .map none, .map none] 62)).alloc (.map #[] 0)).alloc (.map #[] 0)).heap[k]? := fun k hk => by rw [e3 k (by omega)]; exact Below.heap_alloc _ _ _ (by simp; omega)
    have e1 : ∀ k, k < w.heap.size + 2 → W.heap[k]? = ((w.alloc (.cells #[.map none, .map none, .map none] 62)).alloc (.map #[] 0)).heap[k]? := fun k hk => by rw [e2 k (by omega)]; exact Below.heap_alloc _ _ _ (by simp; omega)
    have e0 : ∀ k, k < w.heap.size + 1 → W.heap[k]? = (w.alloc (.cells #[.map none, .map none, .map none] 62)).heap[k]? := fun k hk => by rw [e1 k (by omega)]; exact Below.heap_alloc _ _ _ (by simp; omega)
    refine ⟨⟨?_, NumS.new zI, fun k v h => (by cases h)⟩, ⟨?_, NumS.new zG, fun k v h => (by cases h)⟩, ?_, CntI.zero, Nat.zero_le _, Nat.zero_le _, Nat.zero_le _, fun _ _ h => (by cases h), ?_, ?_, ?_⟩
    · have h := MapK.made 124 (w.alloc (.cells #[.map none, .map none, .map none] 62))
      rw [World.size_alloc] at h
      exact h.same (e1 _ (by omega))
    · have h := MapK.made 130 ((w.alloc (.cells #[.map none, .map none, .map none] 62)).alloc (.map #[] 0))
      rw [World.size_alloc, World.size_alloc] at h
      exact h.same (e2 _ (by omega))
    · have h := MapK.made 69 (((w.alloc (.cells #[.map none, .map none, .map none] 62)).alloc (.map #[] 0)).alloc (.map #[] 0))
      rw [World.size_alloc, World.size_alloc, World.size_alloc] at h
      exact h.same (e3 _ (by omega))
    · have h := World.alloc_heap_new ((((w.alloc (.cells #[.map none, .map none, .map none] 62)).alloc (.map #[] 0)).alloc (.map #[] 0)).alloc (.map #[] 0)) (.cells #[.map (some (w.heap.size + 1)), .map (some (w.heap.size + 2)), .map (some (w.heap.size + 3))] 62)
      rw [eW] at h
      simpa using h
    · rw [e0 _ (by omega)]
      exact World.alloc_heap_new w _
    · rw [← eW]
      exact (((((Below.refl _ w).alloc (Nat.le_refl _) _).alloc (by simp) _).alloc (by simp; omega) _).alloc (by simp; omega) _).alloc (by simp; omega) _
  clear eW
  go_wp2
  go_loopw [12] (fun i wr => ∃ k n1 n2 nc f1 f2 fc rep1 rep2, k ≤ rs.length ∧ i = .int .i64 (k : Nat) ∧ Hid (LInv w rs k wr n1 n2 nc f1 f2 fc rep1 rep2)) (fun i _ => rs.length - (intOf i).toNat)
  case atStart => exact ⟨0, 0, 0, 0, _, _, _, _, _, Nat.zero_le _, rfl, HI0⟩
  case round =>
    obtain ⟨k, n1, n2, nc, f1, f2, fc, rep1, rep2, hk, rfl, HI⟩ := hrel
    clear HI0
    by_cases hlt : k < rs.length
    · have hbel := HI.out.bel
      obtain ⟨rb, ro, rfl, ca, cc, la, lc, c1, c2, c3, q1, q2, q3, q4, q5, _⟩ := (HROW.out.below hbel) k hlt
      have hkI : (k : Int) < (rs.length : Int) := by omega
      obtain ⟨l0, l1, l2⟩ := blk_c3 HI.out.L
      have hLs := (Array.getElem?_eq_some_iff.1 HI.out.L).1
      have HN1 := hid HI.out.a
      have HN2 := hid HI.out.b
      have HC := hid HI.out.c
      have HCI := hid HI.out.i
      have HL := hid HI.out.L
      have HR := hid HI.out.R
      have HLV := hid HI.out.lv
      have h1' := HI.out.l1
      have h2' := HI.out.l2
      have hc' := HI.out.lc
      obtain ⟨X, eX⟩ : ∃ X, wr.alloc (.cells #[.slice ca (qx rs k).code.length cc, .slice la (qx rs k).looks.length lc, .string (qx rs k).out] 50) = X := ⟨_, rfl⟩
      have hX : Below wr.heap.size wr X := by rw [← eX]; exact (Below.refl _ _).alloc (Nat.le_refl _) _
      have hXs : X.heap.size = wr.heap.size + 1 := by rw [← eX]; simp
      have hrb : X.heap[wr.heap.size]? = some (.cells #[.slice ca (qx rs k).code.length cc, .slice la (qx rs k).looks.length lc, .string (qx rs k).out] 50 (0, 0)) := by rw [← eX]; exact World.alloc_heap_new wr _
      have hLb := (hX.block (w.heap.size + 4) hLs).trans HL.out
      have HBX : Hid (Below w.heap.size w X) := hbel.trans (hX.mono (by omega))
      go_wp2_with fail
      refine Lt.begin 9 (fun w' => w'.cell? ⟨w.heap.size + 4, 0, none⟩ = some (.map (some (w.heap.size + 1))) ∧ w'.cell? ⟨w.heap.size + 4, 1, none⟩ = some (.map (some (w.heap.size + 2))) ∧ w'.cell? ⟨w.heap.size + 4, 2, none⟩ = some (.map (some (w.heap.size + 3))) ∧ w'.cell? ⟨wr.heap.size, 0, none⟩ = some (.slice ca (qx rs k).code.length cc) ∧ w'.cell? ⟨wr.heap.size, 1, none⟩ = some (.slice la (qx rs k).looks.length lc) ∧ w'.cell? ⟨wr.heap.size, 2, none⟩ = some (.string (qx rs k).out)) (by kernel_rfl) ?_
      have hS0 : (fun w' => w'.cell? ⟨w.heap.size + 4, 0, none⟩ = some (.map (some (w.heap.size + 1))) ∧ w'.cell? ⟨w.heap.size + 4, 1, none⟩ = some (.map (some (w.heap.size + 2))) ∧ w'.cell? ⟨w.heap.size + 4, 2, none⟩ = some (.map (some (w.heap.size + 3))) ∧ w'.cell? ⟨wr.heap.size, 0, none⟩ = some (.slice ca (qx rs k).code.length cc) ∧ w'.cell? ⟨wr.heap.size, 1, none⟩ = some (.slice la (qx rs k).looks.length lc) ∧ w'.cell? ⟨wr.heap.size, 2, none⟩ = some (.string (qx rs k).out)) X.drew := ⟨(blk_c3 hLb).1, (blk_c3 hLb).2.1, (blk_c3 hLb).2.2, (blk_c3 hrb).1, (blk_c3 hrb).2.1, (blk_c3 hrb).2.2⟩
      have HK0 : KeepX wr.heap.size (fun _ => False) wr X.drew := KeepX.of_below (show Below wr.heap.size wr X.drew from ⟨hX.os, hX.tape, hX.output, hX.size, hX.block⟩)
      have HCL := hid (fun (_ : Unit) => keyOf61 (w.heap.size + 1) (w.heap.size + 2) (w.heap.size + 3) n1 n2 (qx rs k).code.length (qx rs k).looks.length cc lc f1 f2 rep1 rep2 ca la (qx rs k).out (cI (qx rs k).code) (cG (qx rs k).looks) X.drew (HN1.out.same (hX.block _ (by omega))) (HN2.out.same (hX.block _ (by omega))) (by omega) (by simp [cI]) (by simp [cG]) (q1.keepX HK0 (Nat.le_refl _) (fun _ _ _ _ h => h)) (q2.keepX HK0 (Nat.le_refl _) (fun _ _ _ _ h => h)) (by omega) (by omega))
      have HC1 : Hid (MapK 69 X.drew (w.heap.size + 3) nc fc) := HC.out.same (hX.block _ (by omega))
      have HL1 : Hid (X.heap[w.heap.size + 4]? = some (.cells #[.map (some (w.heap.size + 1)), .map (some (w.heap.size + 2)), .map (some (w.heap.size + 3))] 62 (0, 0))) := hLb
      have HR1 : Hid (X.heap[w.heap.size]? = some (.cells #[.map none, .map none, .map none] 62 (0, 0))) := (hX.block _ (by omega)).trans HR.out
      have HTK := hid (take_qx hlt)
      clear eX HI hrb hLb hX HK0 HN1 HN2 HC HL HR l0 l1 l2 c1 c2 c3 q1 q2 hmm
      generalize qx rs k = s at *
      refine Lt.take (i := 0) (oi := { dst := some 16, op := Op.fieldAddr 62 (Operand.tmp 3) 2, type := 0, pos := "l6_keep.go:94", after := #[], guard := none }) (v := ?_) rfl (by kernel_rfl) (by kernel_rfl) (by kernel_rfl) (by kernel_rfl) (fun _ _ _ h => h) hS0 (Or.inl ⟨by rfl, ?_⟩) ?_
      rotate_left 1
      · rintro w ⟨s1, s2, s3, s4, s5, s6⟩
        go_simp
        first | done | with_reducible rfl
      simp only [Act.put]
      refine Lt.take (i := 1) (oi := { dst := some 17, op := Op.load 60 (Operand.tmp 16), type := 60, pos := "l6_keep.go:94", after := #[{ on := 0, ground := Ground.data }], guard := none }) (v := ?_) rfl (by kernel_rfl) (by kernel_rfl) (by kernel_rfl) (by kernel_rfl) (fun _ _ _ h => h) hS0 (Or.inl ⟨by rfl, ?_⟩) ?_
      rotate_left 1
      · rintro w ⟨s1, s2, s3, s4, s5, s6⟩
        go_simp
        first | done | with_reducible rfl
      simp only [Act.put]
      refine Lt.take (i := 2) (oi := { dst := some 18, op := Op.load 62 (Operand.tmp 3), type := 62, pos := "l6_keep.go:94", after := #[], guard := none }) (v := ?_) rfl (by kernel_rfl) (by kernel_rfl) (by kernel_rfl) (by kernel_rfl) (fun _ _ _ h => h) hS0 (Or.inl ⟨by rfl, ?_⟩) ?_
      rotate_left 1
      · rintro w ⟨s1, s2, s3, s4, s5, s6⟩
        go_simp
        first | done | with_reducible rfl
      simp only [Act.put]
      refine Lt.take (i := 3) (oi := { dst := some 19, op := Op.load 50 (Operand.tmp 5), type := 50, pos := "l6_keep.go:94", after := #[], guard := none }) (v := ?_) rfl (by kernel_rfl) (by kernel_rfl) (by kernel_rfl) (by kernel_rfl) (fun _ _ _ h => h) hS0 (Or.inl ⟨by rfl, ?_⟩) ?_
      rotate_left 1
      · rintro w ⟨s1, s2, s3, s4, s5, s6⟩
        go_simp
        first | done | with_reducible rfl
      simp only [Act.put]
      refine Lt.step (i := 4) (o := { dst := some 20, op := Op.call { callee := Callee.value (Operand.func 28), args := #[Operand.tmp 18, Operand.tmp 19], argTypes := #[62, 50] }, type := 69, pos := "l6_keep.go:94", after := #[{ on := 2, ground := Ground.data }, { on := 3, ground := Ground.data }], guard := none }) (by kernel_rfl) rfl (fun K hK => ?_)
      go_simp
      refine (HCL.out ()).mono ?_
      rintro e w3 ⟨n1', f1', rep1', j, n2', f2', rep2', m, rfl, r1, r2, r3, r4, r5, r6, r7, r8, r9, r10, r11⟩
      have kk : ∀ p : Addr, p.block < X.heap.size → ¬ (p.block = w.heap.size + 1 ∨ p.block = w.heap.size + 2) → w3.cell? p = X.cell? p := fun p hp hpm => (r11.cell (p := p) hp hpm)
      have hS3 : (fun w' => w'.cell? ⟨w.heap.size + 4, 0, none⟩ = some (.map (some (w.heap.size + 1))) ∧ w'.cell? ⟨w.heap.size + 4, 1, none⟩ = some (.map (some (w.heap.size + 2))) ∧ w'.cell? ⟨w.heap.size + 4, 2, none⟩ = some (.map (some (w.heap.size + 3))) ∧ w'.cell? ⟨wr.heap.size, 0, none⟩ = some (.slice ca s.code.length cc) ∧ w'.cell? ⟨wr.heap.size, 1, none⟩ = some (.slice la s.looks.length lc) ∧ w'.cell? ⟨wr.heap.size, 2, none⟩ = some (.string s.out)) w3 := ⟨(kk ⟨w.heap.size + 4, 0, none⟩ (by dsimp only; omega) (by dsimp only; omega)).trans hS0.1, (kk ⟨w.heap.size + 4, 1, none⟩ (by dsimp only; omega) (by dsimp only; omega)).trans hS0.2.1, (kk ⟨w.heap.size + 4, 2, none⟩ (by dsimp only; omega) (by dsimp only; omega)).trans hS0.2.2.1, (kk ⟨wr.heap.size, 0, none⟩ (by dsimp only; omega) (by dsimp only; omega)).trans hS0.2.2.2.1, (kk ⟨wr.heap.size, 1, none⟩ (by dsimp only; omega) (by dsimp only; omega)).trans hS0.2.2.2.2.1, (kk ⟨wr.heap.size, 2, none⟩ (by dsimp only; omega) (by dsimp only; omega)).trans hS0.2.2.2.2.2⟩
      have hs3 : X.heap.size ≤ w3.heap.size := r11.size
      have HC3 : MapK 69 w3 (w.heap.size + 3) nc fc := HC1.out.same (r11.block _ (by show w.heap.size + 3 < X.heap.size; omega) (by omega))
      obtain ⟨l, hl2⟩ := keyR (j := j) (k := m) (s := s.out) (by omega) (by omega) q5
      have hlook := (HC3.look law97 Tryz.underlying60 hl2).2
      obtain ⟨st, w4, hent, hg4, hs4, hlook4, hsto⟩ := HC3.entry law97 Tryz.underlying60 hl2 (by unfold maxLen; omega)
      have hlv : (fc (keyV j m s.out)).getD 0 ≤ k := by
        cases hq : fc (keyV j m s.out) with
        | none => simp
        | some v => simpa using HLV.out _ _ hq
      obtain ⟨w5, hst5, hM5, hg5, hs5⟩ := hsto ((fc (keyV j m s.out)).getD 0 + 1)
      have hS4 : (fun w' => w'.cell? ⟨w.heap.size + 4, 0, none⟩ = some (.map (some (w.heap.size + 1))) ∧ w'.cell? ⟨w.heap.size + 4, 1, none⟩ = some (.map (some (w.heap.size + 2))) ∧ w'.cell? ⟨w.heap.size + 4, 2, none⟩ = some (.map (some (w.heap.size + 3))) ∧ w'.cell? ⟨wr.heap.size, 0, none⟩ = some (.slice ca s.code.length cc) ∧ w'.cell? ⟨wr.heap.size, 1, none⟩ = some (.slice la s.looks.length lc) ∧ w'.cell? ⟨wr.heap.size, 2, none⟩ = some (.string s.out)) w4 := ⟨(hg4.cell_far ⟨w.heap.size + 4, 0, none⟩ (by dsimp only; omega) (by simp)).trans hS3.1, (hg4.cell_far ⟨w.heap.size + 4, 1, none⟩ (by dsimp only; omega) (by simp)).trans hS3.2.1, (hg4.cell_far ⟨w.heap.size + 4, 2, none⟩ (by dsimp only; omega) (by simp)).trans hS3.2.2.1, (hg4.cell_far ⟨wr.heap.size, 0, none⟩ (by dsimp only; omega) (by simp; omega)).trans hS3.2.2.2.1, (hg4.cell_far ⟨wr.heap.size, 1, none⟩ (by dsimp only; omega) (by simp; omega)).trans hS3.2.2.2.2.1, (hg4.cell_far ⟨wr.heap.size, 2, none⟩ (by dsimp only; omega) (by simp; omega)).trans hS3.2.2.2.2.2⟩
      have kb : ∀ i, i < X.heap.size → i ≠ w.heap.size + 1 → i ≠ w.heap.size + 2 → i ≠ w.heap.size + 3 → w5.heap[i]? = X.heap[i]? := fun i hi e1 e2 e3 => (hg5.block i (by omega) (by simp; omega)).trans (r11.block i hi (by omega))
      have HINV : Hid (∃ nc' fc', LInv w rs (k + 1) w5 n1' n2' nc' f1' f2' fc' rep1' rep2') := by
        refine ⟨_, _, ⟨r1.same (hg5.block _ (by omega) (by simp)), r2.same (hg5.block _ (by omega) (by simp)), hM5, ?_, by omega, by omega, ?_, ?_, (kb _ (by omega) (by omega) (by omega) (by omega)).trans HL1.out, (kb _ (by omega) (by omega) (by omega) (by omega)).trans HR1.out, ?_⟩⟩
        · rw [HTK.out]
          exact (HCI.out.ext r3 r4).put s r5 r6 r9 r10
        · split <;> omega
        · intro x v hx
          split at hx
          · cases hx; omega
          · have := HLV.out x v hx; omega
        · refine ⟨?_, ?_, ?_, ?_, fun i hi => ?_⟩
          · exact hg5.os.trans (r11.os.trans HBX.out.os)
          · exact hg5.tape.trans (r11.tape.trans HBX.out.tape)
          · exact hg5.output.trans (r11.output.trans HBX.out.output)
          · have := HBX.out.size; omega
          · exact (kb i (by have := HBX.out.size; omega) (by omega) (by omega) (by omega)).trans (HBX.out.block i hi)
      obtain ⟨av, ea⟩ : ∃ av, (fc (keyV j m s.out)).getD 0 = av := ⟨_, rfl⟩
      rw [ea] at hlook hent hlook4 hst5 hlv
      rw [show (((av + 1 : Nat)) : Int) = (av : Int) + 1 from rfl] at hst5
      have hwr : IntKind.i64.wrap ((av : Int) + 1) = (av : Int) + 1 := by rw [IntKind.wrap_i64]; omega
      rw [← hwr] at hst5
      clear hwr
      refine hK.out _ _ (fun _ => hS3) (fun _ => ?_)
      clear hK K kk kb hsto hM5 hg5 hs5 hg4 hs4 HC3 r1 r2 r3 r4 r9 r10 r11 HC1 HL1 HR1 HCI HLV HTK HBX HCL ea
      refine Lt.two (i := 5) (j := 7) (oi := { dst := some 21, op := Op.lookup 60 (Operand.tmp 17) (Operand.tmp 20) false, type := 3, pos := "l6_keep.go:94", after := #[{ on := 1, ground := Ground.data }, { on := 4, ground := Ground.data }], guard := none }) (oj := { dst := some 23, op := Op.mapEntry 60 (Operand.tmp 17) (Operand.tmp 20), type := 0, pos := "l6_keep.go:94", after := #[{ on := 1, ground := Ground.data }, { on := 4, ground := Ground.data }, { on := 4, ground := Ground.chain }, { on := 0, ground := Ground.phase }, { on := 1, ground := Ground.phase }, { on := 2, ground := Ground.phase }, { on := 3, ground := Ground.phase }, { on := 4, ground := Ground.phase }, { on := 5, ground := Ground.textOnly Departure.mapOpAssignEntry }, { on := 6, ground := Ground.textOnly Departure.mapOpAssignEntry }], guard := none }) (by kernel_rfl) rfl rfl (fun K hK => ?_) (fun K hK => ?_)
      · go_simp
        refine hK.out _ _ (fun _ => hS3) (fun _ => ?_)
        clear hK K
        refine Lt.two (i := 6) (j := 7) (oi := { dst := some 22, op := Op.binOp BinOp.add 3 (Operand.tmp 21) (Operand.const (Value.int IntKind.i64 1)) 3, type := 3, pos := "l6_keep.go:94", after := #[{ on := 5, ground := Ground.data }], guard := none }) (oj := { dst := some 23, op := Op.mapEntry 60 (Operand.tmp 17) (Operand.tmp 20), type := 0, pos := "l6_keep.go:94", after := #[{ on := 1, ground := Ground.data }, { on := 4, ground := Ground.data }, { on := 4, ground := Ground.chain }, { on := 0, ground := Ground.phase }, { on := 1, ground := Ground.phase }, { on := 2, ground := Ground.phase }, { on := 3, ground := Ground.phase }, { on := 4, ground := Ground.phase }, { on := 5, ground := Ground.textOnly Departure.mapOpAssignEntry }, { on := 6, ground := Ground.textOnly Departure.mapOpAssignEntry }], guard := none }) (by kernel_rfl) rfl rfl (fun K hK => ?_) (fun K hK => ?_)
        · go_simp
          refine hK.out _ _ (fun _ => hS3) (fun _ => ?_)
          clear hK K
          refine Lt.step (i := 7) (o := { dst := some 23, op := Op.mapEntry 60 (Operand.tmp 17) (Operand.tmp 20), type := 0, pos := "l6_keep.go:94", after := #[{ on := 1, ground := Ground.data }, { on := 4, ground := Ground.data }, { on := 4, ground := Ground.chain }, { on := 0, ground := Ground.phase }, { on := 1, ground := Ground.phase }, { on := 2, ground := Ground.phase }, { on := 3, ground := Ground.phase }, { on := 4, ground := Ground.phase }, { on := 5, ground := Ground.textOnly Departure.mapOpAssignEntry }, { on := 6, ground := Ground.textOnly Departure.mapOpAssignEntry }], guard := none }) (by kernel_rfl) rfl (fun K hK => ?_)
          go_simp
          refine hK.out _ _ (fun _ => hS4) (fun _ => ?_)
          clear hK K
          refine Lt.step (i := 8) (o := { dst := some 24, op := Op.extract (Operand.tmp 23) 1, type := 3, pos := "l6_keep.go:94", after := #[{ on := 7, ground := Ground.data }], guard := none }) (by kernel_rfl) rfl (fun K hK => ?_)
          go_simp
          refine hK.out _ _ (fun _ => hS4) (fun _ => ?_)
          clear hK K
          refine Lt.step (i := 9) (o := { dst := none, op := Op.entryStore 60 (Operand.tmp 17) (Operand.tmp 24) (Operand.tmp 22), type := 0, pos := "l6_keep.go:94", after := #[{ on := 1, ground := Ground.data }, { on := 8, ground := Ground.data }, { on := 6, ground := Ground.data }, { on := 7, ground := Ground.chain }, { on := 0, ground := Ground.phase }, { on := 1, ground := Ground.phase }, { on := 2, ground := Ground.phase }, { on := 3, ground := Ground.phase }, { on := 4, ground := Ground.phase }, { on := 5, ground := Ground.phase }, { on := 6, ground := Ground.phase }, { on := 7, ground := Ground.phase }, { on := 8, ground := Ground.phase }], guard := none }) (by kernel_rfl) rfl (fun K hK => ?_)
          go_simp
          refine hK.out _ _ (fun h => absurd rfl h) (fun _ => ?_)
          clear hK K
          refine Lt.done (by kernel_rfl) ?_ _
          go_wp2
          go_roundw
          case rel =>
            obtain ⟨nc', fc', hI'⟩ := HINV.out
            exact ⟨k + 1, n1', n2', nc', f1', f2', fc', rep1', rep2', by omega, by go_num, hI'⟩
          case measure => simp [intOf]; omega
        · go_simp
          refine hK.out _ _ (fun _ => hS4) (fun _ => ?_)
          clear hK K
          refine Lt.two (i := 6) (j := 8) (oi := { dst := some 22, op := Op.binOp BinOp.add 3 (Operand.tmp 21) (Operand.const (Value.int IntKind.i64 1)) 3, type := 3, pos := "l6_keep.go:94", after := #[{ on := 5, ground := Ground.data }], guard := none }) (oj := { dst := some 24, op := Op.extract (Operand.tmp 23) 1, type := 3, pos := "l6_keep.go:94", after := #[{ on := 7, ground := Ground.data }], guard := none }) (by kernel_rfl) rfl rfl (fun K hK => ?_) (fun K hK => ?_)
          · go_simp
            refine hK.out _ _ (fun _ => hS4) (fun _ => ?_)
            clear hK K
            refine Lt.step (i := 8) (o := { dst := some 24, op := Op.extract (Operand.tmp 23) 1, type := 3, pos := "l6_keep.go:94", after := #[{ on := 7, ground := Ground.data }], guard := none }) (by kernel_rfl) rfl (fun K hK => ?_)
            go_simp
            refine hK.out _ _ (fun _ => hS4) (fun _ => ?_)
            clear hK K
            refine Lt.step (i := 9) (o := { dst := none, op := Op.entryStore 60 (Operand.tmp 17) (Operand.tmp 24) (Operand.tmp 22), type := 0, pos := "l6_keep.go:94", after := #[{ on := 1, ground := Ground.data }, { on := 8, ground := Ground.data }, { on := 6, ground := Ground.data }, { on := 7, ground := Ground.chain }, { on := 0, ground := Ground.phase }, { on := 1, ground := Ground.phase }, { on := 2, ground := Ground.phase }, { on := 3, ground := Ground.phase }, { on := 4, ground := Ground.phase }, { on := 5, ground := Ground.phase }, { on := 6, ground := Ground.phase }, { on := 7, ground := Ground.phase }, { on := 8, ground := Ground.phase }], guard := none }) (by kernel_rfl) rfl (fun K hK => ?_)
            go_simp
            refine hK.out _ _ (fun h => absurd rfl h) (fun _ => ?_)
            clear hK K
            refine Lt.done (by kernel_rfl) ?_ _
            go_wp2
            go_roundw
            case rel =>
              obtain ⟨nc', fc', hI'⟩ := HINV.out
              exact ⟨k + 1, n1', n2', nc', f1', f2', fc', rep1', rep2', by omega, by go_num, hI'⟩
            case measure => simp [intOf]; omega
          · go_simp
            refine hK.out _ _ (fun _ => hS4) (fun _ => ?_)
            clear hK K
            refine Lt.step (i := 6) (o := { dst := some 22, op := Op.binOp BinOp.add 3 (Operand.tmp 21) (Operand.const (Value.int IntKind.i64 1)) 3, type := 3, pos := "l6_keep.go:94", after := #[{ on := 5, ground := Ground.data }], guard := none }) (by kernel_rfl) rfl (fun K hK => ?_)
            go_simp
            refine hK.out _ _ (fun _ => hS4) (fun _ => ?_)
            clear hK K
            refine Lt.step (i := 9) (o := { dst := none, op := Op.entryStore 60 (Operand.tmp 17) (Operand.tmp 24) (Operand.tmp 22), type := 0, pos := "l6_keep.go:94", after := #[{ on := 1, ground := Ground.data }, { on := 8, ground := Ground.data }, { on := 6, ground := Ground.data }, { on := 7, ground := Ground.chain }, { on := 0, ground := Ground.phase }, { on := 1, ground := Ground.phase }, { on := 2, ground := Ground.phase }, { on := 3, ground := Ground.phase }, { on := 4, ground := Ground.phase }, { on := 5, ground := Ground.phase }, { on := 6, ground := Ground.phase }, { on := 7, ground := Ground.phase }, { on := 8, ground := Ground.phase }], guard := none }) (by kernel_rfl) rfl (fun K hK => ?_)
            go_simp
            refine hK.out _ _ (fun h => absurd rfl h) (fun _ => ?_)
            clear hK K
            refine Lt.done (by kernel_rfl) ?_ _
            go_wp2
            go_roundw
            case rel =>
              obtain ⟨nc', fc', hI'⟩ := HINV.out
              exact ⟨k + 1, n1', n2', nc', f1', f2', fc', rep1', rep2', by omega, by go_num, hI'⟩
            case measure => simp [intOf]; omega
      · go_simp
        refine hK.out _ _ (fun _ => hS4) (fun _ => ?_)
        clear hK K
        refine Lt.two (i := 5) (j := 8) (oi := { dst := some 21, op := Op.lookup 60 (Operand.tmp 17) (Operand.tmp 20) false, type := 3, pos := "l6_keep.go:94", after := #[{ on := 1, ground := Ground.data }, { on := 4, ground := Ground.data }], guard := none }) (oj := { dst := some 24, op := Op.extract (Operand.tmp 23) 1, type := 3, pos := "l6_keep.go:94", after := #[{ on := 7, ground := Ground.data }], guard := none }) (by kernel_rfl) rfl rfl (fun K hK => ?_) (fun K hK => ?_)
        · go_simp
          refine hK.out _ _ (fun _ => hS4) (fun _ => ?_)
          clear hK K
          refine Lt.two (i := 6) (j := 8) (oi := { dst := some 22, op := Op.binOp BinOp.add 3 (Operand.tmp 21) (Operand.const (Value.int IntKind.i64 1)) 3, type := 3, pos := "l6_keep.go:94", after := #[{ on := 5, ground := Ground.data }], guard := none }) (oj := { dst := some 24, op := Op.extract (Operand.tmp 23) 1, type := 3, pos := "l6_keep.go:94", after := #[{ on := 7, ground := Ground.data }], guard := none }) (by kernel_rfl) rfl rfl (fun K hK => ?_) (fun K hK => ?_)
          · go_simp
            refine hK.out _ _ (fun _ => hS4) (fun _ => ?_)
            clear hK K
            refine Lt.step (i := 8) (o := { dst := some 24, op := Op.extract (Operand.tmp 23) 1, type := 3, pos := "l6_keep.go:94", after := #[{ on := 7, ground := Ground.data }], guard := none }) (by kernel_rfl) rfl (fun K hK => ?_)
            go_simp
            refine hK.out _ _ (fun _ => hS4) (fun _ => ?_)
            clear hK K
            refine Lt.step (i := 9) (o := { dst := none, op := Op.entryStore 60 (Operand.tmp 17) (Operand.tmp 24) (Operand.tmp 22), type := 0, pos := "l6_keep.go:94", after := #[{ on := 1, ground := Ground.data }, { on := 8, ground := Ground.data }, { on := 6, ground := Ground.data }, { on := 7, ground := Ground.chain }, { on := 0, ground := Ground.phase }, { on := 1, ground := Ground.phase }, { on := 2, ground := Ground.phase }, { on := 3, ground := Ground.phase }, { on := 4, ground := Ground.phase }, { on := 5, ground := Ground.phase }, { on := 6, ground := Ground.phase }, { on := 7, ground := Ground.phase }, { on := 8, ground := Ground.phase }], guard := none }) (by kernel_rfl) rfl (fun K hK => ?_)
            go_simp
            refine hK.out _ _ (fun h => absurd rfl h) (fun _ => ?_)
            clear hK K
            refine Lt.done (by kernel_rfl) ?_ _
            go_wp2
            go_roundw
            case rel =>
              obtain ⟨nc', fc', hI'⟩ := HINV.out
              exact ⟨k + 1, n1', n2', nc', f1', f2', fc', rep1', rep2', by omega, by go_num, hI'⟩
            case measure => simp [intOf]; omega
          · go_simp
            refine hK.out _ _ (fun _ => hS4) (fun _ => ?_)
            clear hK K
            refine Lt.step (i := 6) (o := { dst := some 22, op := Op.binOp BinOp.add 3 (Operand.tmp 21) (Operand.const (Value.int IntKind.i64 1)) 3, type := 3, pos := "l6_keep.go:94", after := #[{ on := 5, ground := Ground.data }], guard := none }) (by kernel_rfl) rfl (fun K hK => ?_)
            go_simp
            refine hK.out _ _ (fun _ => hS4) (fun _ => ?_)
            clear hK K
            refine Lt.step (i := 9) (o := { dst := none, op := Op.entryStore 60 (Operand.tmp 17) (Operand.tmp 24) (Operand.tmp 22), type := 0, pos := "l6_keep.go:94", after := #[{ on := 1, ground := Ground.data }, { on := 8, ground := Ground.data }, { on := 6, ground := Ground.data }, { on := 7, ground := Ground.chain }, { on := 0, ground := Ground.phase }, { on := 1, ground := Ground.phase }, { on := 2, ground := Ground.phase }, { on := 3, ground := Ground.phase }, { on := 4, ground := Ground.phase }, { on := 5, ground := Ground.phase }, { on := 6, ground := Ground.phase }, { on := 7, ground := Ground.phase }, { on := 8, ground := Ground.phase }], guard := none }) (by kernel_rfl) rfl (fun K hK => ?_)
            go_simp
            refine hK.out _ _ (fun h => absurd rfl h) (fun _ => ?_)
            clear hK K
            refine Lt.done (by kernel_rfl) ?_ _
            go_wp2
            go_roundw
            case rel =>
              obtain ⟨nc', fc', hI'⟩ := HINV.out
              exact ⟨k + 1, n1', n2', nc', f1', f2', fc', rep1', rep2', by omega, by go_num, hI'⟩
            case measure => simp [intOf]; omega
        · go_simp
          refine hK.out _ _ (fun _ => hS4) (fun _ => ?_)
          clear hK K
          refine Lt.step (i := 5) (o := { dst := some 21, op := Op.lookup 60 (Operand.tmp 17) (Operand.tmp 20) false, type := 3, pos := "l6_keep.go:94", after := #[{ on := 1, ground := Ground.data }, { on := 4, ground := Ground.data }], guard := none }) (by kernel_rfl) rfl (fun K hK => ?_)
          go_simp
          refine hK.out _ _ (fun _ => hS4) (fun _ => ?_)
          clear hK K
          refine Lt.step (i := 6) (o := { dst := some 22, op := Op.binOp BinOp.add 3 (Operand.tmp 21) (Operand.const (Value.int IntKind.i64 1)) 3, type := 3, pos := "l6_keep.go:94", after := #[{ on := 5, ground := Ground.data }], guard := none }) (by kernel_rfl) rfl (fun K hK => ?_)
          go_simp
          refine hK.out _ _ (fun _ => hS4) (fun _ => ?_)
          clear hK K
          refine Lt.step (i := 9) (o := { dst := none, op := Op.entryStore 60 (Operand.tmp 17) (Operand.tmp 24) (Operand.tmp 22), type := 0, pos := "l6_keep.go:94", after := #[{ on := 1, ground := Ground.data }, { on := 8, ground := Ground.data }, { on := 6, ground := Ground.data }, { on := 7, ground := Ground.chain }, { on := 0, ground := Ground.phase }, { on := 1, ground := Ground.phase }, { on := 2, ground := Ground.phase }, { on := 3, ground := Ground.phase }, { on := 4, ground := Ground.phase }, { on := 5, ground := Ground.phase }, { on := 6, ground := Ground.phase }, { on := 7, ground := Ground.phase }, { on := 8, ground := Ground.phase }], guard := none }) (by kernel_rfl) rfl (fun K hK => ?_)
          go_simp
          refine hK.out _ _ (fun h => absurd rfl h) (fun _ => ?_)
          clear hK K
          refine Lt.done (by kernel_rfl) ?_ _
          go_wp2
          go_roundw
          case rel =>
            obtain ⟨nc', fc', hI'⟩ := HINV.out
            exact ⟨k + 1, n1', n2', nc', f1', f2', fc', rep1', rep2', by omega, by go_num, hI'⟩
          case measure => simp [intOf]; omega
    · have hkr : k = rs.length := by omega
      subst hkr
      obtain ⟨l0, l1, l2⟩ := blk_c3 HI.out.L
      obtain ⟨z0, z1, z2⟩ := blk_c3 HI.out.R
      have zf := fun j => Lib.frozen_of_heap HI.out.R j
      have hnl : ¬ ((rs.length : Int) < (rs.length : Int)) := by omega
      go_wp2
      have hn3 : ∀ i, i ≠ w.heap.size → ∀ a b c : Value, (((wr.setCell ⟨w.heap.size, 0, none⟩ a).setCell ⟨w.heap.size, 1, none⟩ b).setCell ⟨w.heap.size, 2, none⟩ c).heap[i]? = wr.heap[i]? := fun i hi a b c => by
        rw [Below.heap_setCell _ _ _ _ (by dsimp only; omega), Below.heap_setCell _ _ _ _ (by dsimp only; omega), Below.heap_setCell _ _ _ _ (by dsimp only; omega)]
      have hi := HI.out.i
      rw [List.take_length] at hi
      exact bodyPost_ret (v := .agg #[.map (some (w.heap.size + 1)), .map (some (w.heap.size + 2)), .map (some (w.heap.size + 3))]) (by simp [results, Tryz.results25, go_sem, z0, z1, z2]) rfl ⟨w.heap.size + 1, w.heap.size + 2, w.heap.size + 3, n1, n2, nc, f1, f2, fc, rep1, rep2, rfl, by omega, by omega, by omega, HI.out.a.same (hn3 _ (by omega) _ _ _), HI.out.b.same (hn3 _ (by omega) _ _ _), HI.out.c.same (hn3 _ (by omega) _ _ _), hi, HI.out.l1, HI.out.l2, ((HI.out.bel.setCell (p := ⟨w.heap.size, 0, none⟩) (Nat.le_refl _) _).setCell (p := ⟨w.heap.size, 1, none⟩) (Nat.le_refl _) _).setCell (p := ⟨w.heap.size, 2, none⟩) (Nat.le_refl _) _⟩
end Go.Proofs.YtllhbgmadiclcaaGreatDoor
