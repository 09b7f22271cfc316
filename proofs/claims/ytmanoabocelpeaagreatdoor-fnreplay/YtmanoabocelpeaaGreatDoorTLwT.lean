import Derived.Test.YtmanoabocelpeaaGreatDoorTClP
import Derived.Test.YtmanoabocelpeaaGreatDoorTMkT
import Derived.Test.YtmanoabocelpeaaGreatDoorTOrd
import Derived.Test.YtmanoabocelpeaaGreatDoorTClR
namespace Go.Proofs.YtmanoabocelpeaaGreatDoor
open Go.RowKit
set_option linter.unusedVariables false
set_option maxHeartbeats 8000000
set_option maxRecDepth 100000
theorem CleanP.len {ss : List S2} {ts : List T2} {nm : ByteArray} {c : Int} {t : ByteArray} {ch : List ByteArray} (h : CleanP ss ts nm c t ch) : ch.length <= 60 := by
 rcases h with ⟨_, _, _, rfl⟩ | ⟨_, _, ms, a, hd, k⟩
 ·simp
 ·cases a with
  | ok d => obtain ⟨_, _, rfl⟩ := k; simp
  | circle l => obtain ⟨_, _, rfl⟩ := k; exact (hd.circle_len (by simp) _ rfl).2
  | deep x => obtain ⟨_, _, rfl⟩ := k; simp
section
open Go.Deep
theorem TrailP.len {w : World} {sa ta : Option Addr} {ss : List S2} {ts : List T2} (ho : SpOk w sa ss ta ts) {nm : ByteArray} {ls : List G3} {c : Int} {t : ByteArray} {ch : List ByteArray} (h : TrailP ss ts nm ls c t ch) : ls.length <= 200 /\ ch.length <= 60 := by
 refine ⟨?_, h.clean.len⟩
 rcases h with ⟨_, rfl, _⟩ | ⟨hc, hnb, ms, a, hd, k⟩
 ·simp
 ·have hE := env_of ho hc
  have hnk : NameOk nm := by unfold nameB at hnb; simpa using hnb
  cases a with
  | ok d =>
   obtain ⟨rfl, _⟩ := k
   obtain ⟨i1, _, i3⟩ := Does.inv hE.v hd (Inv.nil ss ts) hnk trivial d rfl
   exact (i1.done nm d i3).ls
  | circle l => obtain ⟨rfl, _⟩ := k; simp
  | deep x => obtain ⟨rfl, _⟩ := k; simp
theorem TrailP.uniq {w : World} {sa ta : Option Addr} {ss : List S2} {ts : List T2} (ho : SpOk w sa ss ta ts) {nm : ByteArray} {ls ls' : List G3} {c c' : Int} {t t' : ByteArray} {ch ch' : List ByteArray} (h : TrailP ss ts nm ls c t ch) (h' : TrailP ss ts nm ls' c' t' ch') : ls' = ls /\ c' = c /\ t' = t /\ ch' = ch := by
 by_cases hc : chk ss ts = 0
 ·have hv := (env_of ho hc).v
  exact TrailP.unique hv.ascS hv.ascT h h'
 ·rcases h with ⟨_, rfl, rfl, rfl, rfl⟩ | ⟨q, _⟩
  ·rcases h' with ⟨_, rfl, rfl, rfl, rfl⟩ | ⟨q, _⟩
   ·exact ⟨rfl, rfl, rfl, rfl⟩
   ·exact absurd q hc
  ·exact absurd q hc
end
section
open Go.Deep
end
end Go.Proofs.YtmanoabocelpeaaGreatDoor
