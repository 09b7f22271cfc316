import Derived.Test.YtjdjhenijihpfaaGreatDoorDrB
import Derived.Test.YtjdjhenijihpfaaGreatDoorDrF
namespace Go.Proofs.YtjdjhenijihpfaaGreatDoor
open Go.RowKit Go.Deep
set_option linter.unusedVariables false

theorem byte_lt (x : Int) (h0 : 0 ≤ x) (h1 : x < 256) : ∃ u : UInt8, (u.toNat : Int) = x := by
  refine ⟨UInt8.ofNat x.toNat, ?_⟩
  rw [UInt8.toNat_ofNat']
  omega
theorem conv_three (W : World) (g : Nat) (u0 u1 u2 : UInt8) (h0 : W.cell? ⟨g, 0, none⟩ = some (.int .u8 u0.toNat)) (h1 : W.cell? ⟨g, 1, none⟩ = some (.int .u8 u1.toNat)) (h2 : W.cell? ⟨g, 2, none⟩ = some (.int .u8 u2.toNat)) : (convert 22 9 (.slice (some ⟨g, 0, none⟩) 3 3)).run Tryz.prog W = .ok (.string ⟨#[u0, u1, u2]⟩) W :=
  run_convert_bytes_back (P := Tryz.prog) W 22 9 5 ⟨g, 0, none⟩ 3 [u0, u1, u2] Tryz.underlying22 Tryz.underlying5 Tryz.underlying9 (fun t ht => by
    have ht' : t < 3 := by simpa using ht
    rcases (show t = 0 ∨ t = 1 ∨ t = 2 by omega) with rfl | rfl | rfl
    · simpa [Addr.add] using h0
    · simpa [Addr.add] using h1
    · simpa [Addr.add] using h2)
set_option maxRecDepth 100000 in
set_option maxHeartbeats 400000 in
theorem l3Label_any (i : Int) (w : World) (h0 : 0 ≤ i) (h1 : i ≤ 1000) : Calls Tryz.prog 58 #[.int .i64 i] w fun e w' => (∃ s : ByteArray, e = .returned (.string s) ∧ s.size ≤ 10) ∧ Below w.heap.size w w' := by
  obtain ⟨u0, e0⟩ := byte_lt (48 + i / 100) (by omega) (by omega)
  obtain ⟨u1, e1⟩ := byte_lt (48 + i / 10 % 10) (by omega) (by omega)
  obtain ⟨u2, e2⟩ := byte_lt (48 + i % 10) (by omega) (by omega)
  have hcv := conv_three (w.alloc (.cells #[.int .u8 (48 + i / 100), .int .u8 (48 + i / 10 % 10), .int .u8 (48 + i % 10)] 5)) w.heap.size u0 u1 u2 (by rw [e0]; simp [go_sem]) (by rw [e1]; simp [go_sem]) (by rw [e2]; simp [go_sem])
  clear e0 e1 e2
  go_enter Tryz.func58, Tryz.ntmps58
  go_wp2
  go_ret
  exact ⟨⟨_, rfl, by rw [ByteArray.size_append]; show 1 + 3 ≤ 10; omega⟩, (Below.refl _ _).alloc (Nat.le_refl _) _⟩
end Go.Proofs.YtjdjhenijihpfaaGreatDoor
