import Derived.Test.YtbkkjodaaijimaaGreatDoorVsC
namespace Go.Proofs.YtbkkjodaaijimaaGreatDoor
open _root_.Go.Proofs.Tryz Go.RowKit
set_option linter.unusedVariables false
set_option maxHeartbeats 8000000
set_option maxRecDepth 100000
set_option linter.unusedSimpArgs false
section
open Go.Deep
end
section
open Go.Deep
theorem Ek.grown{w w':World}{B wb e' P2 n':Nat}{v v':Value}{xs':List Value}{ls:List G3}(h:Ek w B v ls)(ho':w.ownsRow wb e' P2 v' n' xs')(hne:199≠e')(hg:w.grownBy w' v'.ownBlock):Ek w' B v ls:=by
 obtain⟨xs,h1,h2⟩:=h
 exact⟨xs,own_grown h1 ho' hne hg,h2⟩
end
section
open Go.Deep
end
end Go.Proofs.YtbkkjodaaijimaaGreatDoor
