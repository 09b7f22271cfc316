import Derived.Test.YtbkkjodaaijimaaGreatDoorBvG
namespace Go.Proofs.YtbkkjodaaijimaaGreatDoor
open _root_.Go.Proofs.Tryz Go.RowKit Go.Deep
open Value renaming string->S
open Go renaming Value->Z
open _root_ renaming List->L,Nat->X
set_option linter.unusedVariables false
set_option linter.unusedSimpArgs false
set_option maxHeartbeats 8000000
set_option maxRecDepth 100000
structure BD where
 c:Int
 t:By
 ch:L By
 n:Int
 T:L By
 R:L T3
 ran:L By
 held:L By
 A:By
 B:By
structure BD.Sm (d:BD):Prop where
 ch:d.ch.length≤1048576
 T:d.T.length≤1048576
 R:Fk d.R
 ran:d.ran.length≤1048576
 held:d.held.length≤1048576
structure BO (w:World) (lo:X) (d:BD) (v cv tx qv nv ev:Z) (zs:L Z) (kv lv:X→Z):Prop where
 eq:v=.agg #[I d.c,S d.t,cv,I d.n,tx,qv,nv,ev,S d.A,S d.B]
 ch:w.ownsRow lo 9 1 cv d.ch.length (Aq d.ch)
 txs:w.ownsRow lo 9 1 tx d.T.length (Aq d.T)
 rq:Jd w lo qv d.R zs kv lv
 ran:w.ownsRow lo 9 1 nv d.ran.length (Aq d.ran)
 held:w.ownsRow lo 9 1 ev d.held.length (Aq d.held)
 ap:Hp [cv,tx,nv,ev]
theorem BO.bl{w w':World}{lo:X}{d:BD}{v cv tx qv nv ev:Z}{zs:L Z}{kv lv:X→Z}(h:BO w lo d v cv tx qv nv ev zs kv lv)(hb:Bw w w'):BO w' lo d v cv tx qv nv ev zs kv lv:=⟨h.eq,Ab h.ch hb,Ab h.txs hb,h.rq.bl hb,Ab h.ran hb,Ab h.held hb,h.ap⟩
theorem Jd.rows{w:World}{lo:X}{v:Z}{R:L T3}{zs:L Z}{kv lv:X→Z}(h:Jd w lo v R zs kv lv):Ct w lo w.heap.size v R.length (λi=>(qx R i).code.length) (λi=>(qx R i).looks.length) zs kv lv:=
 ⟨Bg.new h.row,λi hi=>(h.fil i hi).1,λi hi=>(h.fil i hi).2.1,λi hi=>by obtain⟨ys,h1,_⟩:=h.code i hi;exact⟨ys,Bg.new h1⟩,λi hi=>by obtain⟨ys,h1,_⟩:=h.look i hi;exact⟨ys,Bg.new h1⟩,λi j hi hj hne b e1 e2=>by
  rcases Nat.lt_or_gt_of_ne hne with h1|h1
  ·exact h.apc i j h1 hj b e1 e2
  ·exact h.apc j i h1 hi b e2 e1,λi j hi hj hne b e1 e2=>by
  rcases Nat.lt_or_gt_of_ne hne with h1|h1
  ·exact h.apl i j h1 hj b e1 e2
  ·exact h.apl j i h1 hi b e2 e1⟩
def kC(d:BD):X:=1+d.ch.length
def kD(d:BD):X:=kR (λi=>(qx d.R i).code.length) (λi=>(qx d.R i).looks.length) (kC d+d.T.length) d.R.length
end Go.Proofs.YtbkkjodaaijimaaGreatDoor
