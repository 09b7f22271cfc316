import Derived.Test.YtbkkjodaaijimaaGreatDoorBvK
namespace Go.Proofs.YtbkkjodaaijimaaGreatDoor
open _root_.Go.Proofs.Tryz Go.RowKit Go.Deep
open Go renaming Value->Z
open _root_ renaming List->L,Nat->X
set_option linter.unusedVariables false
set_option linter.unusedSimpArgs false
set_option maxHeartbeats 8000000
set_option maxRecDepth 100000
variable {w:World} {lo:X} {zs:L Z} {kv lv:X→Z} {R:L T3}
theorem BW.base{lo':X}{d:BD}{cv tx qv nv ev:Z}(h:BW w lo d cv tx qv nv ev zs kv lv)(hl:lo'≤lo):BW w lo' d cv tx qv nv ev zs kv lv:=
 ⟨Ah h.ch hl,Ah h.txs hl,⟨Ah h.rq.row hl,h.rq.fil,λi hi=>by obtain⟨ys,a,b⟩:=h.rq.code i hi;exact⟨ys,Ah a hl,b⟩,λi hi=>by obtain⟨ys,a,b⟩:=h.rq.look i hi;exact⟨ys,Ah a hl,b⟩,h.rq.apc,h.rq.apl⟩,Ah h.ran hl,Ah h.held hl⟩
theorem Mf.rows{hi:X}{v:Z}{ts:L T2}{xs:L Z}{cv:X->Z}(h:Mf w lo hi v ts xs cv):Ee w lo hi v ts.length (λi=>(tx ts i).code.length) xs cv:=
 ⟨h.row,λi hi=>(h.fil i hi).2,λi hi=>by obtain⟨ys,h1,_⟩:=h.code i hi;exact⟨ys,h1⟩,λi j hi hj hne b e1 e2=>by
  rcases Nat.lt_or_gt_of_ne hne with h1|h1
  ·exact h.apart i j h1 hj b e1 e2
  ·exact h.apart j i h1 hi b e2 e1⟩
theorem Jd.keptB{w':World}{v:Z}(h:Jd w lo v R zs kv lv)(h1:∀b,v.ownBlock=some b→w'.heap[b]?=w.heap[b]?)(h2:∀i,i<R.length→∀b,(kv i).ownBlock=some b→w'.heap[b]?=w.heap[b]?)(h3:∀i,i<R.length→∀b,(lv i).ownBlock=some b→w'.heap[b]?=w.heap[b]?):Jd w' lo v R zs kv lv:=
 ⟨Al h.row h1,h.fil,λi hi=>by obtain⟨ys,a,b⟩:=h.code i hi;exact⟨ys,Al a (h2 i hi),b⟩,λi hi=>by obtain⟨ys,a,b⟩:=h.look i hi;exact⟨ys,Al a (h3 i hi),b⟩,h.apc,h.apl⟩
theorem kR1_le{T:L By}(hT:T.length≤1048576)(hR:Fk R):kR (λi=>(qx R i).code.length) (λi=>(qx R i).looks.length) (1+T.length) R.length≤100000000000000:=by
 have h1:=kR_bound (λi=>(qx R i).code.length) (λi=>(qx R i).looks.length) (1+T.length) R.length hR.2;have h2:=hR.1;omega
theorem kT1_le{ss:L S2}{tp:L T2}{K:X}(hs:Fj ss tp)(hK:K≤100000000000000):kT (λi=>(tx tp i).code.length) (K+2*ss.length) tp.length≤800000000000000:=by
 have h1:=kT_bound (λi=>(tx tp i).code.length) (K+2*ss.length) tp.length hs.lc;have h2:=hs.ls;have h3:=hs.lt;omega
end Go.Proofs.YtbkkjodaaijimaaGreatDoor
