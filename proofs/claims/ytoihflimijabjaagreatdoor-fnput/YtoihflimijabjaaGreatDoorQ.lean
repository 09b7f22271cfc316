import Derived.Below
import Derived.BigQuiet
import Derived.Carry
import Derived.ChangeOld
import Derived.Deep.AppendLies
import Derived.Deep.CutBlock
import Derived.Deep.DeepCutAuto
import Derived.Deep.DeepHandedRow
import Derived.Deep.LoopGhost
import Derived.Deep.QuietTactic
import Derived.Deep.RegionHeld
import Derived.Deep.RegionHeld3
import Derived.Deep.RegionLaw
import Derived.Deep.RegionWith
import Derived.Deep.Slices
import Derived.Deep.Strs
import Derived.DeepKeys5
import Derived.Defers
import Derived.Ground.Names2Prog
import Derived.Ground.SlgnProg
import Derived.LaidSub
import Derived.Laws.AppendOwnNone
import Derived.Laws.CopyOwn
import Derived.Laws.CopyRow
import Derived.Lib.AppendIntMem
import Derived.Lib.Builder
import Derived.Lib.ItoaNum
import Derived.Lib.LaidTab
import Derived.Lib.SmallJoins
import Derived.MakeChecks
import Derived.Maps.AppendAt
import Derived.Maps.OwnSet
import Derived.Maps.Views
import Derived.OpenShut
import Derived.OpenVars
import Derived.ProofKit
import Derived.Recover
import Derived.Shelf.LaysM
import Derived.Shelf.SlSorted.Search
import Derived.Shelf.Slices.Clone
import Derived.Shelf.Slices.Turned
import Derived.Shelf.SlicesE.Clone
import Derived.Shelf.Small.Strs
import Derived.Shelf.Spec.SlicesInsertGrow
import Derived.Shelf.Strconv.Itoa0
import Derived.Shelf.Strconv.Itoa1
import Derived.Shelf.Strconv.Itoa2
import Derived.Shelf.Strconv.Itoa3
import Derived.ShutString
import Derived.WalkKit
import Derived.WalkLawsBesides
import Derived.WalkMore
import Derived.WalkSpells
namespace Go.Proofs.YtoihflimijabjaaGreatDoor
open Value renaming slice->J,string->S,agg->G,tuple->Y
open Option renaming some->M,none->N
open Obj renaming cells->O
open Ending renaming returned->H
open _root_ renaming List->L
set_option linter.unusedVariables false
set_option linter.unusedSimpArgs false
variable {P:Prop}
theorem qgf(h:P:=by
 go_wp2_with fail
 refine(HR.o.pick qg 2 qg qg).mono ?_
 rintro e w8 ⟨z,rfl,hz,az,am⟩
 replace HS:=Ad (HS.o.gb am qg)
 replace HQ:=Ad (Az HQ.o am qg)
 replace dh:=Ad (dh.o.gb am df G6)
 replace HR:=Ad az
 clear am az
 rcases Nat.eq_zero_or_pos z with rfl|bm
 ·go_wp2_with fail;refine Lt.begin 10 (λw'=>w'.heap[P]?=M (O #[v1,J (p_ g2) l2.length ki] 44 (0,0))/\w'.ownsRow w.heap.size 113 2 (J (p_ g2) l2.length ki) l2.length (Jc l2)) qk ?_;obtain⟨wD,eD⟩:=Aj w8.drew;rw[eD];have ao:Bw w8 wD:=qbb;clear eD;replace HS:=Ad (HS.o.bl ao);replace HR:=Ad (HR.o.bl aj ao);replace HQ:=Ad (Ac HQ.o ao);replace dh:=Ad (dh.o.bl ao);have aw:(λw'=>w'.heap[P]?=M (O #[v1,J (p_ g2) l2.length ki] 44 (0,0))/\w'.ownsRow w.heap.size 113 2 (J (p_ g2) l2.length ki) l2.length (Jc l2)) wD:=⟨HS.o.blk,HS.o.dw.t⟩;change K 0 _
  iterate 6
   refine Lt.ti (v:=?_) aw ?_ ?_;rotate_left 1
   ·rintro w ⟨gm,fl⟩;obtain⟨c0,c1⟩:=Bg gm;go_simp;first|done|with_reducible rfl
   simp only[gX]
  refine Lt.sp (i:=6) (λK hK=>?_);go_simp;refine(HR.o.pick qg (l2.length:Int) qg qg).mono ?_;rintro e wA ⟨j,rfl,hj,Z6,up⟩;replace hj:j<l2.length:=qg;replace HS:=Ad (HS.o.gb up qg);replace HR:=Ad Z6;replace HQ:=Ad (Az HQ.o up qg);replace dh:=Ad (dh.o.gb up df G6);have bj:(λw'=>w'.heap[P]?=M (O #[v1,J (p_ g2) l2.length ki] 44 (0,0))/\w'.ownsRow w.heap.size 113 2 (J (p_ g2) l2.length ki) l2.length (Jc l2)) wA:=⟨HS.o.blk,HS.o.dw.t⟩;refine hK.out _ _ (λ_=>bj) (λ_=>?_);clear hK K up Z6
  try simp only[gX]
  have hjI:(j:Int)<(l2.length:Int):=qg;change K 7 _
  iterate 3
   refine Lt.ti (v:=?_) bj ?_ ?_;rotate_left 1
   ·rintro w ⟨gm,fl⟩;obtain⟨c0,c1⟩:=Bg gm;obtain⟨c2,c3⟩:=Vb fl j hj rfl;go_simp;first|done|with_reducible rfl
   simp only[gX]
  refine Lt.sp (i:=10) (λK hK=>?_);go_simp;refine hK.out _ _ (λh=>absurd rfl h) (λ_=>?_);clear hK K;refine Lt.done qk ?_ _;obtain⟨nm,enm,iw⟩:∃y:By,(cx l2 j).t.name=y/\y.size<=50000:=⟨_,rfl,(HS.o.bd.t _ (Kl hj)).1⟩;rw[enm];clear enm
  try simp only[gX]
  go_wp2_with fail;refine(Cm _ _).mono ?_;rintro e y1 ⟨rfl,ah⟩;replace HS:=Ad (HS.o.bl ah);replace HR:=Ad (HR.o.bl aj ah);replace HQ:=Ad (Ac HQ.o ah);replace dh:=Ad (dh.o.bl ah);clear ah;go_wp2_with fail;refine(Bu _ _).mono ?_;rintro e y2 ⟨rfl,ah⟩;replace HS:=Ad (HS.o.bl ah);replace HR:=Ad (HR.o.bl aj ah);replace HQ:=Ad (Ac HQ.o ah);replace dh:=Ad (dh.o.bl ah);clear ah;go_wp2_with fail;refine(HR.o.text aj qg).mono ?_;rintro e y3 ⟨t3,rfl,ht3,az,am⟩;replace HS:=Ad (HS.o.gb am qg);replace HQ:=Ad (Az HQ.o am qg);replace dh:=Ad (dh.o.gb am df G6);replace HR:=Ad az;clear am az;go_wp2_with fail;refine(Cm _ _).mono ?_;rintro e y4 ⟨rfl,ah⟩;replace HS:=Ad (HS.o.bl ah);replace HR:=Ad (HR.o.bl aj ah);replace HQ:=Ad (Ac HQ.o ah);replace dh:=Ad (dh.o.bl ah);clear ah;go_wp2_with fail;refine(Bu _ _).mono ?_;rintro e y5 ⟨rfl,ah⟩;replace HS:=Ad (HS.o.bl ah);replace HR:=Ad (HR.o.bl aj ah);replace HQ:=Ad (Ac HQ.o ah);replace dh:=Ad (dh.o.bl ah);clear ah;go_wp2_with fail;refine(HR.o.pick qg 9 qg qg).mono ?_;rintro e y6 ⟨q9,rfl,hq9,az,am⟩;replace HS:=Ad (HS.o.gb am qg);replace HQ:=Ad (Az HQ.o am qg);replace dh:=Ad (dh.o.gb am df G6);replace HR:=Ad az;clear am az;go_wp2_with fail;refine(Er _ _ _).mono ?_;rintro e y7 ⟨rfl,ah⟩;replace HS:=Ad (HS.o.bl ah);replace HR:=Ad (HR.o.bl aj ah);replace HQ:=Ad (Ac HQ.o ah);replace dh:=Ad (dh.o.bl ah);clear ah;go_wp2_with fail;refine(Bu _ _).mono ?_;rintro e y8 ⟨rfl,ah⟩;replace HS:=Ad (HS.o.bl ah);replace HR:=Ad (HR.o.bl aj ah);replace HQ:=Ad (Ac HQ.o ah);replace dh:=Ad (dh.o.bl ah);clear ah;obtain⟨cb,mh⟩:=dh.o.t;have hs8:=HR.o.size;have dy:=An mh;obtain⟨y9,e9⟩:=Aj (y8.alloc (O #[I 1,S nm,I 0,I 12,ze,I 0,I 1,S t3,I 0,I 2,ze,I 0,I 3,ze,I (1+(q9:Int)),I 15,ze,I 0] 103));have py:Bw y8 y9:=by rw[<- e9];exact aN _ _
  have h9:y9.heap[y8.heap.size]?=M (O #[I 1,S nm,I 0,I 12,ze,I 0,I 1,S t3,I 0,I 2,ze,I 0,I 3,ze,I (1+(q9:Int)),I 15,ze,I 0] 103 (0,0)):=by rw[<- e9];exact Am _ _
  replace mh:=Ac mh py;replace HS:=Ad (HS.o.bl py);replace HR:=Ad (HR.o.bl aj py);replace HQ:=Ad (Ac HQ.o py);replace dh:=Ad (dh.o.bl py);clear py;have hc31:∃c3,y9.heap[w5.heap.size]?=M (O #[c3] 53 (0,0)):=by obtain⟨c3,_,h3,_⟩:=dh.o;exact⟨c3,h3⟩
  obtain⟨c3,xv⟩:=hc31;have d31:=Dx xv;have f31:=λj=>fH xv j;have lm:=Ad (dh.o.put (is:=[⟨1,nm,0⟩,⟨12,⟨#[]⟩,0⟩,⟨1,t3,0⟩,⟨2,⟨#[]⟩,0⟩,⟨3,⟨#[]⟩,1+(q9:Int)⟩,⟨15,⟨#[]⟩,0⟩]) (own_lit (n:=6) h9 hs8 rfl rfl qg) qi qi (short6 iw (Nat.zero_le _) (by show t3.size<=50000;omega) (Nat.zero_le _) (Nat.zero_le _) (Nat.zero_le _)));have fa:=Ad (HS.o.set (j:=0) ⟨_,xv⟩ qh qh qh qg (J (p_ y8.heap.size) 6 6));have t6:=Ad (Af HQ.o (c:=w5.heap.size) (j:=0) qg (J (p_ y8.heap.size) 6 6));have HR9:=Ad (HR.o.set (b:=w5.heap.size) (j:=0) aj G6 (J (p_ y8.heap.size) 6 6));clear HS HQ HR dh mh h9 xv hs8 dy;have HS:=fa;have HQ:=t6;have HR:=HR9;have dh:=lm;clear fa t6 HR9 lm;go_wp2_with fail;clear e9;obtain⟨yz,ez⟩:=Aj (y9.setCell ⟨w5.heap.size,0,N⟩ (J (p_ y8.heap.size) 6 6));rw[ez]at HS HQ HR dh ⊢;clear ez;obtain⟨cc,ci,mh,jx,si,hc4,K2⟩:=dh.o;have iu:=Ad mh;have fb:=Ad jx;have ug:=Ad K2;clear mh jx K2 dh;obtain⟨ca,cp,rfl,_⟩:=Iq rfl fb.o;refine Lt.begin 10 (λw'=>w'.heap[P]?=M (O #[v1,(J (p_ g2) l2.length ki)] 44 (0,0))/\w'.heap[w5.heap.size]?=M (O #[J ca ci.length cp] 53 (0,0))) qk ?_;obtain⟨wD,eD⟩:=Aj yz.drew;rw[eD];have ao:Bw yz wD:=qbb;clear eD;replace HS:=Ad (HS.o.bl ao);replace HR:=Ad (HR.o.bl aj ao);replace HQ:=Ad (Ac HQ.o ao);replace iu:=Ad (Ac iu.o ao);replace fb:=Ad (Ce fb.o ao);have aw:(λw'=>w'.heap[P]?=M (O #[v1,(J (p_ g2) l2.length ki)] 44 (0,0))/\w'.heap[w5.heap.size]?=M (O #[J ca ci.length cp] 53 (0,0))) wD:=⟨HS.o.blk,iu.o⟩;change K 0 _
  iterate 3
   refine Lt.ti (v:=?_) aw ?_ ?_;rotate_left 1
   ·rintro w ⟨gm,fl⟩;obtain⟨c0,c1⟩:=Bg gm;have c2:=Dx fl;go_simp;first|done|with_reducible rfl
   simp only[gX]
  refine Lt.ti (i:=5) (v:=?_) aw ?_ ?_;rotate_left 1
  ·rintro w ⟨gm,fl⟩;obtain⟨c0,c1⟩:=Bg gm;have c2:=Dx fl;go_simp;first|done|with_reducible rfl
  simp only[gX];refine Lt.sp (i:=3) (λK hK=>?_);go_simp;refine(Gz l2.length _ qg).mono ?_;rintro e wA ⟨rfl,ce⟩;obtain⟨q,eq,hq⟩:∃q,(⟨(Lib.decDigits l2.length).toArray⟩:By)=q/\q.size<=10:=⟨_,rfl,by have:=En 2 l2.length qg;show(Lib.decDigits l2.length).toArray.size<=10;rw[List.size_toArray];omega⟩;rw[eq];clear eq;have hqm:¬ 9223372036854775807<1+q.size:=qg;replace HS:=Ad (HS.o.bl ce);replace HR:=Ad (HR.o.bl aj ce);replace HQ:=Ad (Ac HQ.o ce);replace iu:=Ad (Ac iu.o ce);replace fb:=Ad (Ce fb.o ce);have bj:(λw'=>w'.heap[P]?=M (O #[v1,(J (p_ g2) l2.length ki)] 44 (0,0))/\w'.heap[w5.heap.size]?=M (O #[J ca ci.length cp] 53 (0,0))) wA:=⟨HS.o.blk,iu.o⟩;refine hK.out _ _ (λ_=>bj) (λ_=>?_);clear hK K ce
  try simp only[gX]
  refine Lt.ti (i:=4) (v:=?_) bj ?_ ?_;rotate_left 1
  ·rintro w ⟨gm,fl⟩;obtain⟨c0,c1⟩:=Bg gm;have c2:=Dx fl;go_simp;first|done|with_reducible rfl
  simp only[gX];refine Lt.ti (i:=6) (v:=?_) bj ?_ ?_;rotate_left 1
  ·rintro w ⟨gm,fl⟩;obtain⟨c0,c1⟩:=Bg gm;have c2:=Dx fl;go_simp;first|done|with_reducible rfl
  simp only[gX];refine Lt.sp (i:=7) (λK hK=>?_);go_simp;refine Bm (Q:=λx=>K _ x) ?_;intro wG f6 HG
  try dsimp only
  replace HS:=Ad (HS.o.bl f6);replace HR:=Ad (HR.o.bl aj f6);replace HQ:=Ad (Ac HQ.o f6);replace iu:=Ad (Ac iu.o f6);replace fb:=Ad (Ce fb.o f6);have cz:(λw'=>w'.heap[P]?=M (O #[v1,(J (p_ g2) l2.length ki)] 44 (0,0))/\w'.heap[w5.heap.size]?=M (O #[J ca ci.length cp] 53 (0,0))) wG:=⟨HS.o.blk,iu.o⟩;refine hK.out _ _ (λ_=>cz) (λ_=>?_);clear hK K f6
  try simp only[gX]
  refine Lt.sp (i:=8) (λK hK=>?_);refine Ls rfl qo w.heap.size (J (p_ g2) l2.length ki) _ (Jc l2) qo HS.o.dw.t wA.heap.size _ _ rfl qo HG.o HR.o.size qg ?_;intro g' ai w7 bw ae;have HN:=Ad (HS.o.putT (s:=⟨_,ci⟩) (fb.o) ae bw qg ⟨by show(_++_:By).size<=50000;rw[ByteArray.size_append];show 1+q.size<=50000;omega,hc4,ug.o⟩);have io:∀j,Value.ownBlock (J (p_ g2) l2.length ki)=M j->w.heap.size<=j:=λj hj=>(HS.o.dw.t.lt j hj).1;have zl:=Ad (HS.o.app ae (Or.inr rfl));have L6:=Ad ((HR.o.grow aj ae io).set (b:=P) (j:=1) aj hPw (J (p_ g') (l2.length+1) ai));have Q7:=Ad (Af (Ao HQ.o ae (Ai.ne ⟨_,HQ.o⟩ HS.o.dw.t qh)) qg (c:=P) (j:=1) (J (p_ g') (l2.length+1) ai));obtain⟨c0,c1⟩:=Bg zl.o;have fz:=λj=>fH zl.o j;have li:(λw'=>w'.heap[P]?=M (O #[v1,(J (p_ g2) l2.length ki)] 44 (0,0))/\w'.heap[w5.heap.size]?=M (O #[J ca ci.length cp] 53 (0,0))) w7:=⟨zl.o,Ao iu.o ae (Ai.ne ⟨_,iu.o⟩ HS.o.dw.t qh)⟩;refine hK.out _ _ (λ_=>li) (λ_=>?_);clear hK K ae bw io;simp only[gX];refine Lt.ti (i:=9) (v:=?_) li ?_ ?_;rotate_left 1
  ·rintro w ⟨gm,fl⟩;obtain⟨c0,c1⟩:=Bg gm;have c2:=Dx fl;go_simp;first|done|with_reducible rfl
  simp only[gX];refine Lt.sp (i:=10) (λK hK=>?_);go_simp;refine hK.out _ _ (λh=>absurd rfl h) (λ_=>?_);clear hK K;refine Lt.done qk ?_ _;go_wp2;go_roundw
  case rel=>exact⟨l2.length+1,_,_,qg,qp,qi,HN,Ad (L6.o.more qg),Q7,Ad (Si HC.o si)⟩
  case measure=>simp[intOf];omega
 ·have hz0I:¬ ((z:Int)=0):=qg;go_wp2_with fail;obtain⟨cc,ci,mh,jx,si,hc4,K2⟩:=dh.o;have iu:=Ad mh;have fb:=Ad jx;have ug:=Ad K2;clear mh jx K2 dh;obtain⟨ca,cp,rfl,_⟩:=Iq rfl fb.o;refine Lt.begin 10 (λw'=>w'.heap[P]?=M (O #[v1,(J (p_ g2) l2.length ki)] 44 (0,0))/\w'.heap[w5.heap.size]?=M (O #[J ca ci.length cp] 53 (0,0))) qk ?_;obtain⟨wD,eD⟩:=Aj w8.drew;rw[eD];have ao:Bw w8 wD:=qbb;clear eD;replace HS:=Ad (HS.o.bl ao);replace HR:=Ad (HR.o.bl aj ao);replace HQ:=Ad (Ac HQ.o ao);replace iu:=Ad (Ac iu.o ao);replace fb:=Ad (Ce fb.o ao);have aw:(λw'=>w'.heap[P]?=M (O #[v1,(J (p_ g2) l2.length ki)] 44 (0,0))/\w'.heap[w5.heap.size]?=M (O #[J ca ci.length cp] 53 (0,0))) wD:=⟨HS.o.blk,iu.o⟩;change K 0 _
  iterate 3
   refine Lt.ti (v:=?_) aw ?_ ?_;rotate_left 1
   ·rintro w ⟨gm,fl⟩;obtain⟨c0,c1⟩:=Bg gm;have c2:=Dx fl;go_simp;first|done|with_reducible rfl
   simp only[gX]
  refine Lt.ti (i:=5) (v:=?_) aw ?_ ?_;rotate_left 1
  ·rintro w ⟨gm,fl⟩;obtain⟨c0,c1⟩:=Bg gm;have c2:=Dx fl;go_simp;first|done|with_reducible rfl
  simp only[gX];refine Lt.sp (i:=3) (λK hK=>?_);go_simp;refine(Gz l2.length _ qg).mono ?_;rintro e wA ⟨rfl,ce⟩;obtain⟨q,eq,hq⟩:∃q,(⟨(Lib.decDigits l2.length).toArray⟩:By)=q/\q.size<=10:=⟨_,rfl,by have:=En 2 l2.length qg;show(Lib.decDigits l2.length).toArray.size<=10;rw[List.size_toArray];omega⟩;rw[eq];clear eq;have hqm:¬ 9223372036854775807<1+q.size:=qg;replace HS:=Ad (HS.o.bl ce);replace HR:=Ad (HR.o.bl aj ce);replace HQ:=Ad (Ac HQ.o ce);replace iu:=Ad (Ac iu.o ce);replace fb:=Ad (Ce fb.o ce);have bj:(λw'=>w'.heap[P]?=M (O #[v1,(J (p_ g2) l2.length ki)] 44 (0,0))/\w'.heap[w5.heap.size]?=M (O #[J ca ci.length cp] 53 (0,0))) wA:=⟨HS.o.blk,iu.o⟩;refine hK.out _ _ (λ_=>bj) (λ_=>?_);clear hK K ce
  try simp only[gX]
  refine Lt.ti (i:=4) (v:=?_) bj ?_ ?_;rotate_left 1
  ·rintro w ⟨gm,fl⟩;obtain⟨c0,c1⟩:=Bg gm;have c2:=Dx fl;go_simp;first|done|with_reducible rfl
  simp only[gX];refine Lt.ti (i:=6) (v:=?_) bj ?_ ?_;rotate_left 1
  ·rintro w ⟨gm,fl⟩;obtain⟨c0,c1⟩:=Bg gm;have c2:=Dx fl;go_simp;first|done|with_reducible rfl
  simp only[gX];refine Lt.sp (i:=7) (λK hK=>?_);go_simp;refine Bm (Q:=λx=>K _ x) ?_;intro wG f6 HG
  try dsimp only
  replace HS:=Ad (HS.o.bl f6);replace HR:=Ad (HR.o.bl aj f6);replace HQ:=Ad (Ac HQ.o f6);replace iu:=Ad (Ac iu.o f6);replace fb:=Ad (Ce fb.o f6);have cz:(λw'=>w'.heap[P]?=M (O #[v1,(J (p_ g2) l2.length ki)] 44 (0,0))/\w'.heap[w5.heap.size]?=M (O #[J ca ci.length cp] 53 (0,0))) wG:=⟨HS.o.blk,iu.o⟩;refine hK.out _ _ (λ_=>cz) (λ_=>?_);clear hK K f6
  try simp only[gX]
  refine Lt.sp (i:=8) (λK hK=>?_);refine Ls rfl qo w.heap.size (J (p_ g2) l2.length ki) _ (Jc l2) qo HS.o.dw.t wA.heap.size _ _ rfl qo HG.o HR.o.size qg ?_;intro g' ai w7 bw ae;have HN:=Ad (HS.o.putT (s:=⟨_,ci⟩) (fb.o) ae bw qg ⟨by show(_++_:By).size<=50000;rw[ByteArray.size_append];show 1+q.size<=50000;omega,hc4,ug.o⟩);have io:∀j,Value.ownBlock (J (p_ g2) l2.length ki)=M j->w.heap.size<=j:=λj hj=>(HS.o.dw.t.lt j hj).1;have zl:=Ad (HS.o.app ae (Or.inr rfl));have L6:=Ad ((HR.o.grow aj ae io).set (b:=P) (j:=1) aj hPw (J (p_ g') (l2.length+1) ai));have Q7:=Ad (Af (Ao HQ.o ae (Ai.ne ⟨_,HQ.o⟩ HS.o.dw.t qh)) qg (c:=P) (j:=1) (J (p_ g') (l2.length+1) ai));obtain⟨c0,c1⟩:=Bg zl.o;have fz:=λj=>fH zl.o j;have li:(λw'=>w'.heap[P]?=M (O #[v1,(J (p_ g2) l2.length ki)] 44 (0,0))/\w'.heap[w5.heap.size]?=M (O #[J ca ci.length cp] 53 (0,0))) w7:=⟨zl.o,Ao iu.o ae (Ai.ne ⟨_,iu.o⟩ HS.o.dw.t qh)⟩;refine hK.out _ _ (λ_=>li) (λ_=>?_);clear hK K ae bw io;simp only[gX];refine Lt.ti (i:=9) (v:=?_) li ?_ ?_;rotate_left 1
  ·rintro w ⟨gm,fl⟩;obtain⟨c0,c1⟩:=Bg gm;have c2:=Dx fl;go_simp;first|done|with_reducible rfl
  simp only[gX];refine Lt.sp (i:=10) (λK hK=>?_);go_simp;refine hK.out _ _ (λh=>absurd rfl h) (λ_=>?_);clear hK K;refine Lt.done qk ?_ _;go_wp2;go_roundw
  case rel=>exact⟨l2.length+1,_,_,qg,qp,qi,HN,Ad (L6.o.more qg),Q7,Ad (Si HC.o si)⟩
  case measure=>simp[intOf];omega):P:=h
theorem qgg(h:P:=by
 have dp:=Ad (HF.o.s6 n6.o hg13 (I cd1) (I wd1) (J a11 Z1 c11) (J a21 Z0 wt) (S A1) (S E1))
 rw[dg]at dp
 have ry:=Ad (jf.o.s6 n6.o (I cd1) (I wd1) (J a11 Z1 c11) (J a21 Z0 wt) (S A1) (S E1))
 rw[dg]at ry
 have dz:Hd (wK1.heap[ol]?=M (O #[I cd1,I wd1,J a11 Z1 c11,J a21 Z0 wt,S A1,S E1] 31 (0,0))):=dg▸Pe f8.o _ _ _ _ _ _
 obtain⟨k0,k1,k2,k3,k4,k5⟩:=Bx f8.o
 have kf:=(λj=>fH f8.o j)
 clear n6 f8 HF jf 
 refine Lt.sp (i:=7) (λK hK=>?_)
 go_simp
 try rw[dg]
 refine hK.out _ _ (λh=>absurd h qh) (λ_=>?_)
 clear hK K dg k0 k1 k2 k3 k4 k5 kf
 try simp only[gX]
 refine Lt.done qk ?_ _
 have HF:=Ad dp.o
 have jf:=Ad ry.o
 clear dp ry
 have hg13l:ol<wK1.heap.size:=An dz.o
 go_wp2_with fail
 refine Lt.begin 7 (λw'=>w'.cell? ⟨g5,0,N⟩=M (I (n:Int))∧w'.cell? ⟨g5,1,N⟩=M (J ua T1.length uc)∧w'.cell? ⟨g5,2,N⟩=M (J va R1.length vc)∧w'.cell? ⟨gt,iN,N⟩=M (S (nx TX iN))) qk ?_
 obtain⟨wD,eD⟩:=Aj wK1.drew
 rw[eD]
 have ao:Bw wK1 wD:=qq
 clear eD
 replace HF:=Ad (HF.o.bl ao)
 replace dz:=Ad (Ac dz.o ao)
 replace jf:=Ad (jf.o.bl ao)
 clear ao
 have bj:wD.cell? ⟨g5,0,N⟩=M (I (n:Int))∧wD.cell? ⟨g5,1,N⟩=M (J ua T1.length uc)∧wD.cell? ⟨g5,2,N⟩=M (J va R1.length vc)∧wD.cell? ⟨gt,iN,N⟩=M (S (nx TX iN)):=⟨(Ab HF.o.k5).1,(Ab HF.o.k5).2.1,(Ab HF.o.k5).2.2,HF.o.tx au⟩
 change K 0 _
 iterate 5
  refine Lt.ti (v:=?_) bj ?_ ?_;rotate_left 1
  ·rintro w ⟨sA,sB,sC,sD⟩
   go_simp
   first|done|with_reducible rfl
  simp only[gX]
 refine Lt.two (i:=5) (j:=6) (oi:={ dst:=M 73,op:=Op.call { callee:=Callee.value (Operand.func 7),args:=#[Operand.tmp 68,Operand.tmp 72],argTypes:=#[26,9] },type:=31,pos := "laws.go:713",after:=#[{ on:=0,ground:=Ground.data },{ on:=4,ground:=Ground.data }],guard:=N }) (oj:={ dst:=M 14,op:=Op.alloc 31,type:=0,pos := "laws.go:713",after:=#[],guard:=N }) qk rfl rfl (λK hK=>?_) (λK hK=>?_)
 ·skip
  go_simp;refine(HF.o.spec hx).mono ?_;rintro e w5 ⟨cw,s8,vu,T2k,R2k,A2,E2,F0,C6,E9,Fn,C5,uz,rfl,hk,hd,aq⟩;replace HF:=Ad (HF.o.bl cw);replace dz:=Ad (Ac dz.o cw);replace jf:=Ad (jf.o.bl cw);have M7:=Ad hk;have ko:=Ad hd;have HNE2:=Ad aq;have cz:w5.cell? ⟨g5,0,N⟩=M (I (n:Int))∧w5.cell? ⟨g5,1,N⟩=M (J ua T1.length uc)∧w5.cell? ⟨g5,2,N⟩=M (J va R1.length vc)∧w5.cell? ⟨gt,iN,N⟩=M (S (nx TX iN)):=⟨(Ab HF.o.k5).1,(Ab HF.o.k5).2.1,(Ab HF.o.k5).2.2,HF.o.tx au⟩;refine hK.out _ _ (λ_=>cz) (λ_=>?_);clear hK K cw hk hd aq
  try simp only[gX]
  refine Lt.sp (i:=6) (λK hK=>?_);go_simp;obtain⟨oh,nu⟩:=Aj w5.heap.size;obtain⟨ku,eV⟩:=Aj (w5.alloc (O #[I 0,I 0,nS,nS,ze,ze] 31));have cr:Bw w5 ku:=eV▸aN _ _;have f8:Hd (ku.heap[oh]?=M (O #[I 0,I 0,nS,nS,ze,ze] 31 (0,0))):=qau;have hg14:w0.heap.size≤oh:=zo HF.o.bel.size;have hne13:ol<oh:=zo (An dz.o);replace HF:=Ad (HF.o.bl cr);replace dz:=Ad (Ac dz.o cr);replace jf:=Ad (jf.o.bl cr);replace ko:=Ad (ko.o.bl cr)
  try rw[eV]
  have o9:ku.cell? ⟨g5,0,N⟩=M (I (n:Int))∧ku.cell? ⟨g5,1,N⟩=M (J ua T1.length uc)∧ku.cell? ⟨g5,2,N⟩=M (J va R1.length vc)∧ku.cell? ⟨gt,iN,N⟩=M (S (nx TX iN)):=⟨(Ab HF.o.k5).1,(Ab HF.o.k5).2.1,(Ab HF.o.k5).2.2,HF.o.tx au⟩;refine hK.out _ _ (λ_=>o9) (λ_=>?_)
  try rw[nu]
  clear hK K eV nu cr
  try simp only[gX]
  have n6:Hd (Ai ku oh 31):=⟨_,f8.o⟩;obtain⟨wK2,dg⟩:=Aj (((((((ku.setCell ⟨oh,0,N⟩ (I s8)).setCell ⟨oh,1,N⟩ (I vu)).setCell ⟨oh,2,N⟩ (J F0 C6 E9)).setCell ⟨oh,3,N⟩ (J Fn C5 uz)).setCell ⟨oh,4,N⟩ (S A2)).setCell ⟨oh,5,N⟩ (S E2)));have dp:=Ad (HF.o.s6 n6.o hg14 (I s8) (I vu) (J F0 C6 E9) (J Fn C5 uz) (S A2) (S E2));rw[dg]at dp;have rv:=Ad (blk_n6 dz.o (by omega:ol≠oh) (I s8) (I vu) (J F0 C6 E9) (J Fn C5 uz) (S A2) (S E2));rw[dg]at rv;have ry:=Ad (jf.o.s6 n6.o (I s8) (I vu) (J F0 C6 E9) (J Fn C5 uz) (S A2) (S E2));rw[dg]at ry;have zt:=Ad (ko.o.s6 n6.o (I s8) (I vu) (J F0 C6 E9) (J Fn C5 uz) (S A2) (S E2));rw[dg]at zt;have M8:Hd (wK2.heap[oh]?=M (O #[I s8,I vu,J F0 C6 E9,J Fn C5 uz,S A2,S E2] 31 (0,0))):=dg▸Pe f8.o _ _ _ _ _ _;obtain⟨k0,k1,k2,k3,k4,k5⟩:=Bx f8.o;have kf:=(λj=>fH f8.o j);clear n6 f8 HF ko dz jf;refine Lt.sp (i:=7) (λK hK=>?_);go_simp
  try rw[dg]
  refine hK.out _ _ (λh=>absurd h qh) (λ_=>?_);clear hK K dg k0 k1 k2 k3 k4 k5 kf
  try simp only[gX]
  refine Lt.done qk ?_ _;have HF:=Ad dp.o;have ko:=Ad zt.o;clear dp zt;have dz:=Ad rv.o;clear rv;have jf:=Ad ry.o;clear ry;obtain⟨rfl,rfl,rfl,rfl,rfl,rfl⟩:=ru.o.unique M7.o;clear M7 HNE2;have ft:=Ad (kp_rbd ru.o);have hAA:=Ti (rfl:A2=A2);have hEE:=Ti (rfl:E2=E2);obtain⟨d0,d1,d2,d3,d4,d5⟩:=Bx dz.o;obtain⟨f0,f1,f2,f3,f4,f5⟩:=Bx M8.o;go_wp2_with fail;refine(wSt vu jf.o ko.o ft.o.1).mono ?_;rintro e w7 ⟨rfl,bv⟩;replace HF:=Ad (HF.o.bl bv);replace dz:=Ad (Ac dz.o bv);replace jf:=Ad (jf.o.bl bv);clear bv ko M8 d0 d1 d2 d3 d4 d5 f0 f1 f2 f3 f4 f5 hAA hEE;obtain⟨d0,d1,d2,d3,d4,d5⟩:=Bx dz.o
  by_cases A6:s8=2
  ·subst A6
   obtain⟨s0,s1,s2'⟩:=Ab HF.o.k5;have HCL:=Ad (Xj ru.o);go_wp2_with fail;refine(wEvid_n A2 E2 n w7 pp ul (zo ft.o.2.1) (zo ft.o.2.2) HCL.o.1 (by have:=HCL.o.2.1;rwa [Int.toNat_natCast]at this)).mono ?_;rintro e w8 ⟨rfl,fi⟩;replace HF:=Ad (HF.o.bl fi);replace dz:=Ad (Ac dz.o fi);clear fi d0 d1 d2 d3 d4 d5 s0 s1 s2';obtain⟨d0,d1,d2,d3,d4,d5⟩:=Bx dz.o;go_wp2;go_roundw
   case rel=>exact⟨iN+1,gp,cp,P,_,_,T1,R1,qg,Nat.le_trans pe.o (Nat.le_succ _),rfl,qp,HF⟩
   case measure=>simp[intOf];omega
  ·have hc2B:(s8 == 2)=false:=by simpa using A6
   by_cases si:s8=0
   ·subst si
    obtain⟨s0,s1,s2'⟩:=Ab HF.o.k5;have sf:=(λj=>fH HF.o.k5 j);obtain⟨wE,eE⟩:=Aj (((w7.setCell ⟨g5,0,N⟩ (I vu)).setCell ⟨g5,1,N⟩ (J a11 Z1 c11)).setCell ⟨g5,2,N⟩ (J a21 Z0 wt));have Y3:=Ad (HF.o.next O6 ru.o jf.o HNE1.o);rw[eE]at Y3;have hxm:nx TX iN∈T2k:=(Vk ru.o).2.2.1;have cE:=Y3.o.tx au;clear HF;obtain⟨V9,eV9⟩:=Aj (wE.alloc (O #[S (nx TX iN)] 9));(have HN9:Hd (V9.heap[wE.heap.size]?=M (O #[S (nx TX iN)] 9 (0,0))):=by show _=_;rw[←eV9];exact Am _ _);have F9:=Ad (Y3.o.bl (eV9▸aN _ _:Bw wE V9));have dy:P.length≤8:=Nat.le_trans pe.o qg;obtain⟨i9,xr,uj,ui,uh⟩:=info_parts Tryz.info9b;clear Y3
    go_wp2_with (first|(at_builtin;refine wpList_append_lies _ rfl (.tmp 119) (.tmp 124) 23 rfl w0.heap.size 9 i9 ze 1 16 underlying23 xr uj ui uh rfl qh (J (p_ gp) P.length cp) P.length (Ar P) rfl F9.o.put ⟨wE.heap.size,0,N⟩ 1 1 [S (nx TX iN)] rfl rfl (World.news_of_block (cs:=#[S (nx TX iN)]) (t:=9) (fr:=(0,0)) HN9.o) qao qg qn qg F9.o.bel.size _ rfl ?_;intro g' cp' wF af ae br mo;have N0:=Ad (F9.o.app hxm af ae (by rcases br with q|q;exact Or.inl qcr;exact Or.inr q));clear af ae br mo))
    go_roundw
    case rel=>exact⟨iN+1,g',cp',P++[nx TX iN],_,_,T2k,R2k,qg,(show(P++[nx TX iN]).length≤iN+1 by have:=pe.o;rw[List.length_append];exact Nat.succ_le_succ this),qch,qp,N0⟩
    case measure=>simp[intOf];omega
   ·have hc0B:(s8 == 0)=false:=by simpa using si
    go_wp2;go_roundw
    case rel=>exact⟨iN+1,gp,cp,P,_,_,T1,R1,qg,Nat.le_trans pe.o (Nat.le_succ _),rfl,qp,HF⟩
    case measure=>simp[intOf];omega
 ·skip
  go_simp;obtain⟨oh,nu⟩:=Aj wD.heap.size;obtain⟨ku,eV⟩:=Aj (wD.alloc (O #[I 0,I 0,nS,nS,ze,ze] 31));have cr:Bw wD ku:=eV▸aN _ _;have f8:Hd (ku.heap[oh]?=M (O #[I 0,I 0,nS,nS,ze,ze] 31 (0,0))):=qau;have hg14:w0.heap.size≤oh:=zo HF.o.bel.size;have hne13:ol<oh:=zo (An dz.o);replace HF:=Ad (HF.o.bl cr);replace dz:=Ad (Ac dz.o cr);replace jf:=Ad (jf.o.bl cr)
  try rw[eV]
  have gj:ku.cell? ⟨g5,0,N⟩=M (I (n:Int))∧ku.cell? ⟨g5,1,N⟩=M (J ua T1.length uc)∧ku.cell? ⟨g5,2,N⟩=M (J va R1.length vc)∧ku.cell? ⟨gt,iN,N⟩=M (S (nx TX iN)):=⟨(Ab HF.o.k5).1,(Ab HF.o.k5).2.1,(Ab HF.o.k5).2.2,HF.o.tx au⟩;refine hK.out _ _ (λ_=>gj) (λ_=>?_)
  try rw[nu]
  clear hK K eV nu cr
  try simp only[gX]
  refine Lt.sp (i:=5) (λK hK=>?_);go_simp;refine(HF.o.spec hx).mono ?_;rintro e w5 ⟨cw,s8,vu,T2k,R2k,A2,E2,F0,C6,E9,Fn,C5,uz,rfl,hk,hd,aq⟩;replace HF:=Ad (HF.o.bl cw);replace dz:=Ad (Ac dz.o cw);replace jf:=Ad (jf.o.bl cw);replace f8:=Ad (Ac f8.o cw);have M7:=Ad hk;have ko:=Ad hd;have HNE2:=Ad aq;have hS5:w5.cell? ⟨g5,0,N⟩=M (I (n:Int))∧w5.cell? ⟨g5,1,N⟩=M (J ua T1.length uc)∧w5.cell? ⟨g5,2,N⟩=M (J va R1.length vc)∧w5.cell? ⟨gt,iN,N⟩=M (S (nx TX iN)):=⟨(Ab HF.o.k5).1,(Ab HF.o.k5).2.1,(Ab HF.o.k5).2.2,HF.o.tx au⟩;refine hK.out _ _ (λ_=>hS5) (λ_=>?_);clear hK K cw hk hd aq
  try simp only[gX]
  have n6:Hd (Ai w5 oh 31):=⟨_,f8.o⟩;obtain⟨wK2,dg⟩:=Aj (((((((w5.setCell ⟨oh,0,N⟩ (I s8)).setCell ⟨oh,1,N⟩ (I vu)).setCell ⟨oh,2,N⟩ (J F0 C6 E9)).setCell ⟨oh,3,N⟩ (J Fn C5 uz)).setCell ⟨oh,4,N⟩ (S A2)).setCell ⟨oh,5,N⟩ (S E2)));have dp:=Ad (HF.o.s6 n6.o hg14 (I s8) (I vu) (J F0 C6 E9) (J Fn C5 uz) (S A2) (S E2));rw[dg]at dp;have rv:=Ad (blk_n6 dz.o (by omega:ol≠oh) (I s8) (I vu) (J F0 C6 E9) (J Fn C5 uz) (S A2) (S E2));rw[dg]at rv;have ry:=Ad (jf.o.s6 n6.o (I s8) (I vu) (J F0 C6 E9) (J Fn C5 uz) (S A2) (S E2));rw[dg]at ry;have zt:=Ad (ko.o.s6 n6.o (I s8) (I vu) (J F0 C6 E9) (J Fn C5 uz) (S A2) (S E2));rw[dg]at zt;have M8:Hd (wK2.heap[oh]?=M (O #[I s8,I vu,J F0 C6 E9,J Fn C5 uz,S A2,S E2] 31 (0,0))):=dg▸Pe f8.o _ _ _ _ _ _;obtain⟨k0,k1,k2,k3,k4,k5⟩:=Bx f8.o;have kf:=(λj=>fH f8.o j);clear n6 f8 HF ko dz jf;refine Lt.sp (i:=7) (λK hK=>?_);go_simp
  try rw[dg]
  refine hK.out _ _ (λh=>absurd h qh) (λ_=>?_);clear hK K dg k0 k1 k2 k3 k4 k5 kf
  try simp only[gX]
  refine Lt.done qk ?_ _;have HF:=Ad dp.o;have ko:=Ad zt.o;clear dp zt;have dz:=Ad rv.o;clear rv;have jf:=Ad ry.o;clear ry;obtain⟨rfl,rfl,rfl,rfl,rfl,rfl⟩:=ru.o.unique M7.o;clear M7 HNE2;have ft:=Ad (kp_rbd ru.o);have hAA:=Ti (rfl:A2=A2);have hEE:=Ti (rfl:E2=E2);obtain⟨d0,d1,d2,d3,d4,d5⟩:=Bx dz.o;obtain⟨f0,f1,f2,f3,f4,f5⟩:=Bx M8.o;go_wp2_with fail;refine(wSt vu jf.o ko.o ft.o.1).mono ?_;rintro e w7 ⟨rfl,bv⟩;replace HF:=Ad (HF.o.bl bv);replace dz:=Ad (Ac dz.o bv);replace jf:=Ad (jf.o.bl bv);clear bv ko M8 d0 d1 d2 d3 d4 d5 f0 f1 f2 f3 f4 f5 hAA hEE;obtain⟨d0,d1,d2,d3,d4,d5⟩:=Bx dz.o
  by_cases A6:s8=2
  ·subst A6
   obtain⟨s0,s1,s2'⟩:=Ab HF.o.k5;have HCL:=Ad (Xj ru.o);go_wp2_with fail;refine(wEvid_n A2 E2 n w7 pp ul (zo ft.o.2.1) (zo ft.o.2.2) HCL.o.1 (by have:=HCL.o.2.1;rwa [Int.toNat_natCast]at this)).mono ?_;rintro e w8 ⟨rfl,fi⟩;replace HF:=Ad (HF.o.bl fi);replace dz:=Ad (Ac dz.o fi);clear fi d0 d1 d2 d3 d4 d5 s0 s1 s2';obtain⟨d0,d1,d2,d3,d4,d5⟩:=Bx dz.o;go_wp2;go_roundw
   case rel=>exact⟨iN+1,gp,cp,P,_,_,T1,R1,qg,Nat.le_trans pe.o (Nat.le_succ _),rfl,qp,HF⟩
   case measure=>simp[intOf];omega
  ·have hc2B:(s8 == 2)=false:=by simpa using A6
   by_cases si:s8=0
   ·subst si
    obtain⟨s0,s1,s2'⟩:=Ab HF.o.k5;have sf:=(λj=>fH HF.o.k5 j);obtain⟨wE,eE⟩:=Aj (((w7.setCell ⟨g5,0,N⟩ (I vu)).setCell ⟨g5,1,N⟩ (J a11 Z1 c11)).setCell ⟨g5,2,N⟩ (J a21 Z0 wt));have Y3:=Ad (HF.o.next O6 ru.o jf.o HNE1.o);rw[eE]at Y3;have hxm:nx TX iN∈T2k:=(Vk ru.o).2.2.1;have cE:=Y3.o.tx au;clear HF;obtain⟨V9,eV9⟩:=Aj (wE.alloc (O #[S (nx TX iN)] 9));(have HN9:Hd (V9.heap[wE.heap.size]?=M (O #[S (nx TX iN)] 9 (0,0))):=by show _=_;rw[←eV9];exact Am _ _);have F9:=Ad (Y3.o.bl (eV9▸aN _ _:Bw wE V9));have dy:P.length≤8:=Nat.le_trans pe.o qg;obtain⟨i9,xr,uj,ui,uh⟩:=info_parts Tryz.info9b;clear Y3
    go_wp2_with (first|(at_builtin;refine wpList_append_lies _ rfl (.tmp 119) (.tmp 124) 23 rfl w0.heap.size 9 i9 ze 1 16 underlying23 xr uj ui uh rfl qh (J (p_ gp) P.length cp) P.length (Ar P) rfl F9.o.put ⟨wE.heap.size,0,N⟩ 1 1 [S (nx TX iN)] rfl rfl (World.news_of_block (cs:=#[S (nx TX iN)]) (t:=9) (fr:=(0,0)) HN9.o) qao qg qn qg F9.o.bel.size _ rfl ?_;intro g' cp' wF af ae br mo;have N0:=Ad (F9.o.app hxm af ae (by rcases br with q|q;exact Or.inl qcr;exact Or.inr q));clear af ae br mo))
    go_roundw
    case rel=>exact⟨iN+1,g',cp',P++[nx TX iN],_,_,T2k,R2k,qg,(show(P++[nx TX iN]).length≤iN+1 by have:=pe.o;rw[List.length_append];exact Nat.succ_le_succ this),qch,qp,N0⟩
    case measure=>simp[intOf];omega
   ·have hc0B:(s8 == 0)=false:=by simpa using si
    go_wp2;go_roundw
    case rel=>exact⟨iN+1,gp,cp,P,_,_,T1,R1,qg,Nat.le_trans pe.o (Nat.le_succ _),rfl,qp,HF⟩
    case measure=>simp[intOf];omega):P:=h
theorem qgh(h:P:=by
 refine(HP.o.rd.pick qg 12 qg qg).mono ?_
 rintro e w4 ⟨y2,rfl,I7,az,am⟩
 replace HP:=Ad (HP.o.gb qg qg az am)
 clear az am
 by_cases hy3:y2=0
 ·subst hy3
  go_wp2_with fail;refine Lt.begin 99 (λw'=>w'.cell? ⟨g5,0,N⟩=M (I m)∧w'.cell? ⟨g5,1,N⟩=M (J xa t1 t2)∧w'.cell? ⟨g5,2,N⟩=M (J qa q1 q2)) qk ?_;obtain⟨wD,eD⟩:=Aj w4.drew;rw[eD];have ao:Bw w4 wD:=qq;clear eD;replace HP:=Ad (HP.o.bl E4 ao);clear ao;have aw:wD.cell? ⟨g5,0,N⟩=M (I m)∧wD.cell? ⟨g5,1,N⟩=M (J xa t1 t2)∧wD.cell? ⟨g5,2,N⟩=M (J qa q1 q2):=Ab HP.o.k5;change K 0 _
  iterate 2
   refine Lt.ti (v:=?_) aw ?_ ?_;rotate_left 1
   ·rintro w ⟨sA,sB,sC⟩
    go_simp
    first|done|with_reducible rfl
   simp only[gX]
  refine Lt.sp (i:=2) (λK hK=>?_);go_simp;refine(HP.o.rd.pick qg 2 qg qg).mono ?_;rintro e w5 ⟨z,rfl,hz,az,am⟩;replace HP:=Ad (HP.o.gb qg qg az am);have bj:w5.cell? ⟨g5,0,N⟩=M (I m)∧w5.cell? ⟨g5,1,N⟩=M (J xa t1 t2)∧w5.cell? ⟨g5,2,N⟩=M (J qa q1 q2):=Ab HP.o.k5;refine hK.out _ _ (λ_=>bj) (λ_=>?_);clear hK K az am
  try simp only[gX]
  obtain⟨k5,ek5⟩:∃k:Nat,k=2002+z:=⟨_,rfl⟩;have jt:k5≤2003:=qg;have D7:(2002:Int)+(z:Int)=(k5:Int):=qg;have we:IntKind.wrap .i64 (k5:Int)=(k5:Int):=Pj qg;clear ek5;refine Lt.ti (i:=3) (v:=?_) bj ?_ ?_;rotate_left 1
  ·rintro w ⟨sA,sB,sC⟩
   go_simp
   first|done|with_reducible rfl
  simp only[gX];refine Lt.sp (i:=4) (λK hK=>?_);go_simp;refine(Ha ⟨#[120]⟩ k5 _ qh qg).mono ?_;rintro e wM ⟨r,rfl,hr,rfl⟩;refine hK.out _ _ (λ_=>bj) (λ_=>?_);clear hK K 
  try simp only[gX]
  have T5:r.size≤60000:=by have e1:(⟨#[120]⟩:By).size=1:=rfl;rw[e1]at hr;omega
  obtain⟨AL,eY⟩:=Aj (((wM.setCell ⟨w.heap.size,0,N⟩ (I m)).setCell ⟨w.heap.size,1,N⟩ (J xa t1 t2)).setCell ⟨w.heap.size,2,N⟩ (J qa q1 q2));have HF:=Ad (HP.o.fin qg ir.o qg AL eY);obtain⟨u0,u1,u2⟩:=Ab HP.o.k2;have uf:=(λj=>fH HP.o.k2 j);have P6:AL.cell? ⟨g5,0,N⟩=M (I m)∧AL.cell? ⟨g5,1,N⟩=M (J xa t1 t2)∧AL.cell? ⟨g5,2,N⟩=M (J qa q1 q2):=Ab HF.o.2.1;refine Lt.sp (i:=5) (λK hK=>?_);go_simp
  try rw[eY]
  refine hK.out _ _ (λ_=>P6) (λ_=>?_);clear hK K
  try simp only[gX]
  refine Lt.ti (i:=6) (v:=?_) P6 ?_ ?_;rotate_left 1
  ·rintro w ⟨sA,sB,sC⟩
   go_simp
   first|done|with_reducible rfl
  simp only[gX];refine Lt.done qk ?_ _;obtain⟨a0,a1,a2⟩:=Ab HF.o.1;go_wp2;exact bR (v:=Y #[G #[I m,J xa t1 t2,J qa q1 q2],S r]) qfk rfl (by first|exact⟨_,_,_,_,_,_,_,T,Rr,_,rfl,HF.o.2.2.1,ft.o,T5,HF.o.2.2.2.2⟩|exact⟨_,_,_,_,_,_,_,T,Rr,rfl,HF.o.2.2.1,ft.o,T5,HF.o.2.2.2.2⟩|exact⟨_,_,_,_,_,_,_,rfl,T,Rr,HF.o.2.2.1,ft.o,T5,HF.o.2.2.2.2⟩)
 ·have hy3I:((y2:Int) == 0)=false:=qj
  go_wp2_with fail;refine Lt.begin 99 (λw'=>w'.cell? ⟨g5,0,N⟩=M (I m)∧w'.cell? ⟨g5,1,N⟩=M (J xa t1 t2)∧w'.cell? ⟨g5,2,N⟩=M (J qa q1 q2)) qk ?_;obtain⟨wD,eD⟩:=Aj w4.drew;rw[eD];have ao:Bw w4 wD:=qq;clear eD;replace HP:=Ad (HP.o.bl E4 ao);clear ao;have aw:wD.cell? ⟨g5,0,N⟩=M (I m)∧wD.cell? ⟨g5,1,N⟩=M (J xa t1 t2)∧wD.cell? ⟨g5,2,N⟩=M (J qa q1 q2):=Ab HP.o.k5;change K 0 _
  iterate 2
   refine Lt.ti (v:=?_) aw ?_ ?_;rotate_left 1
   ·rintro w ⟨sA,sB,sC⟩
    go_simp
    first|done|with_reducible rfl
   simp only[gX]
  refine Lt.ti (i:=3) (v:=?_) aw ?_ ?_;rotate_left 1
  ·rintro w ⟨sA,sB,sC⟩
   go_simp
   first|done|with_reducible rfl
  simp only[gX];refine Lt.sp (i:=2) (λK hK=>?_);go_simp;refine(HP.o.rd.text E4 qg).mono ?_;rintro e w5 ⟨x1,rfl,hx1,az,am⟩;replace HP:=Ad (HP.o.gb qg qg az am);have bj:w5.cell? ⟨g5,0,N⟩=M (I m)∧w5.cell? ⟨g5,1,N⟩=M (J xa t1 t2)∧w5.cell? ⟨g5,2,N⟩=M (J qa q1 q2):=Ab HP.o.k5;refine hK.out _ _ (λ_=>bj) (λ_=>?_);clear hK K az am
  try simp only[gX]
  refine Lt.sp (i:=4) (λK hK=>?_);go_simp;refine(HP.o.rd.text E4 qg).mono ?_;rintro e w6 ⟨x2,rfl,hx2,az,am⟩;replace HP:=Ad (HP.o.gb qg qg az am);have cz:w6.cell? ⟨g5,0,N⟩=M (I m)∧w6.cell? ⟨g5,1,N⟩=M (J xa t1 t2)∧w6.cell? ⟨g5,2,N⟩=M (J qa q1 q2):=Ab HP.o.k5;refine hK.out _ _ (λ_=>cz) (λ_=>?_);clear hK K az am
  try simp only[gX]
  have hx9:¬ 9223372036854775807<x1.size+x2.size:=qg;have hxx:(x1++x2).size≤60000:=qdk;refine Lt.ti (i:=5) (v:=?_) cz ?_ ?_;rotate_left 1
  ·rintro w ⟨sA,sB,sC⟩
   go_simp
   first|done|with_reducible rfl
  simp only[gX];generalize x1++x2=xx at hxx ⊢;obtain⟨AL,eY⟩:=Aj (((w6.setCell ⟨w.heap.size,0,N⟩ (I m)).setCell ⟨w.heap.size,1,N⟩ (J xa t1 t2)).setCell ⟨w.heap.size,2,N⟩ (J qa q1 q2));have HF:=Ad (HP.o.fin qg ir.o qg AL eY);obtain⟨u0,u1,u2⟩:=Ab HP.o.k2;have uf:=(λj=>fH HP.o.k2 j);have P6:AL.cell? ⟨g5,0,N⟩=M (I m)∧AL.cell? ⟨g5,1,N⟩=M (J xa t1 t2)∧AL.cell? ⟨g5,2,N⟩=M (J qa q1 q2):=Ab HF.o.2.1;refine Lt.sp (i:=6) (λK hK=>?_);go_simp
  try rw[eY]
  refine hK.out _ _ (λ_=>P6) (λ_=>?_);clear hK K
  try simp only[gX]
  refine Lt.ti (i:=7) (v:=?_) P6 ?_ ?_;rotate_left 1
  ·rintro w ⟨sA,sB,sC⟩
   go_simp
   first|done|with_reducible rfl
  simp only[gX];refine Lt.done qk ?_ _;obtain⟨a0,a1,a2⟩:=Ab HF.o.1;go_wp2;exact bR (v:=Y #[G #[I m,J xa t1 t2,J qa q1 q2],S xx]) qfk rfl (by first|exact⟨_,_,_,_,_,_,_,T,Rr,_,rfl,HF.o.2.2.1,ft.o,hxx,HF.o.2.2.2.2⟩|exact⟨_,_,_,_,_,_,_,T,Rr,rfl,HF.o.2.2.1,ft.o,hxx,HF.o.2.2.2.2⟩|exact⟨_,_,_,_,_,_,_,rfl,T,Rr,HF.o.2.2.1,ft.o,hxx,HF.o.2.2.2.2⟩)):P:=h
theorem qgi(h:P:=by
 go_wp2_with fail
 clear z0 z1 z2
 refine Lt.begin 99 (λw'=>w'.cell? ⟨g7,0,N⟩=M (I (n:Int))∧w'.cell? ⟨g7,1,N⟩=M (J xa t1 t2)∧w'.cell? ⟨g7,2,N⟩=M (J qa q1 q2)∧w'.cell? ⟨g6,0,N⟩=M (J sa n1 c1)∧w'.cell? ⟨g6,1,N⟩=M (J ta n2 c2)) qk ?_
 obtain⟨wD,eD⟩:=Aj w3.drew
 rw[eD]
 have ao:Bw w3 wD:=qq
 clear eD
 replace HU:=Ad (HU.o.bl aj ao)
 clear ao
 have aw:wD.cell? ⟨g7,0,N⟩=M (I (n:Int))∧wD.cell? ⟨g7,1,N⟩=M (J xa t1 t2)∧wD.cell? ⟨g7,2,N⟩=M (J qa q1 q2)∧wD.cell? ⟨g6,0,N⟩=M (J sa n1 c1)∧wD.cell? ⟨g6,1,N⟩=M (J ta n2 c2):=⟨(Ab HU.o.k7).1,(Ab HU.o.k7).2.1,(Ab HU.o.k7).2.2,(Ag HU.o.k6).1,(Ag HU.o.k6).2.1⟩
 obtain⟨T',R',ii,ja⟩:=HU.o.st
 have fx:=Ad ja
 have ft:=Ad ii.rbd
 clear ii ja
 obtain⟨W2,e2⟩:=Aj (((wD.setCell ⟨w.heap.size,0,N⟩ (I (n:Int))).setCell ⟨w.heap.size,1,N⟩ (J xa t1 t2)).setCell ⟨w.heap.size,2,N⟩ (J qa q1 q2))
 obtain⟨W3,e3⟩:=Aj ((W2.setCell ⟨w.heap.size+1,0,N⟩ (J sa n1 c1)).setCell ⟨w.heap.size+1,1,N⟩ (J ta n2 c2))
 have HF:=Ad (HU.o.fin2 aj qg qg (n:Int) fx.o W2 W3 e2 e3)
 have A8:W2.cell? ⟨g7,0,N⟩=M (I (n:Int))∧W2.cell? ⟨g7,1,N⟩=M (J xa t1 t2)∧W2.cell? ⟨g7,2,N⟩=M (J qa q1 q2)∧W2.cell? ⟨g6,0,N⟩=M (J sa n1 c1)∧W2.cell? ⟨g6,1,N⟩=M (J ta n2 c2):=⟨(Ab HF.o.1.2.1).1,(Ab HF.o.1.2.1).2.1,(Ab HF.o.1.2.1).2.2,(Ag HF.o.1.1).1,(Ag HF.o.1.1).2.1⟩
 have A7:W3.cell? ⟨g7,0,N⟩=M (I (n:Int))∧W3.cell? ⟨g7,1,N⟩=M (J xa t1 t2)∧W3.cell? ⟨g7,2,N⟩=M (J qa q1 q2)∧W3.cell? ⟨g6,0,N⟩=M (J sa n1 c1)∧W3.cell? ⟨g6,1,N⟩=M (J ta n2 c2):=⟨(Ab HF.o.2.1.2.1).1,(Ab HF.o.2.1.2.1).2.1,(Ab HF.o.2.1.2.1).2.2,(Ag HF.o.2.1.1).1,(Ag HF.o.2.1.1).2.1⟩
 obtain⟨x0,x1,x2⟩:=Ab HU.o.k4
 have xf:=(λj=>fH HU.o.k4 j)
 obtain⟨y0,y1,yf⟩:=Ag HF.o.1.2.2
 obtain⟨p0,p1,p2,p3,p4⟩:=A8
 obtain⟨l0,l1,l2,l3,l4⟩:=(⟨(Ab HU.o.k7).1,(Ab HU.o.k7).2.1,(Ab HU.o.k7).2.2,(Ag HU.o.k6).1,(Ag HU.o.k6).2.1⟩:wD.cell? ⟨g7,0,N⟩=M (I (n:Int))∧wD.cell? ⟨g7,1,N⟩=M (J xa t1 t2)∧wD.cell? ⟨g7,2,N⟩=M (J qa q1 q2)∧wD.cell? ⟨g6,0,N⟩=M (J sa n1 c1)∧wD.cell? ⟨g6,1,N⟩=M (J ta n2 c2))
 refine Lt.ti (i:=0) (v:=?_) aw ?_ ?_
 rotate_left 1
 ·rintro w ⟨s0,s1,s2,s3,s4⟩
  go_simp
  first|done|with_reducible rfl
 simp only[gX]
 refine Lt.two (i:=1) (j:=2) (oi:={ dst:=M 47,op:=Op.load 44 (Operand.tmp 5),type:=44,pos := "l4_draw.go:210",after:=#[{ on:=2,ground:=Ground.gcOnly Departure.lateStores }],guard:=N }) (oj:={ dst:=N,op:=Op.store 26 (Operand.tmp 2) (Operand.tmp 46),type:=0,pos := "l4_draw.go:210",after:=#[{ on:=0,ground:=Ground.data },{ on:=0,ground:=Ground.phase },{ on:=1,ground:=Ground.textOnly Departure.lateStores }],guard:=N }) qk rfl rfl (λK hK=>?_) (λK hK=>?_)
 ·skip
  go_simp;refine hK.out _ _ (λ_=>aw) (λ_=>?_);clear hK K
  try simp only[gX]
  refine Lt.sp (i:=2) (λK hK=>?_);go_simp
  try rw[e2]
  refine hK.out _ _ (λ_=>⟨p0,p1,p2,p3,p4⟩) (λ_=>?_);clear hK K
  try simp only[gX]
  refine Lt.sp (i:=3) (λK hK=>?_);go_simp
  try rw[e3]
  refine hK.out _ _ (λ_=>A7) (λ_=>?_);clear hK K
  try simp only[gX]
  refine Lt.done qk ?_ _;obtain⟨a0,a1,a2⟩:=Ab HF.o.2.1.2.2.1;obtain⟨b0,b1,bf⟩:=Ag HF.o.2.1.2.2.2;go_wp2;exact bR (v:=Y #[G #[I (n:Int),J xa t1 t2,J qa q1 q2],G #[J sa n1 c1,J ta n2 c2]]) qaz rfl ⟨_,_,_,_,_,_,_,_,_,_,_,rfl,HF.o.2.2.2.1,ft.o,HF.o.2.2.1,HF.o.2.2.2.2.more qg⟩
 ·skip
  go_simp
  try rw[e2]
  refine hK.out _ _ (λ_=>⟨p0,p1,p2,p3,p4⟩) (λ_=>?_);clear hK K
  try simp only[gX]
  refine Lt.sp (i:=1) (λK hK=>?_);go_simp;refine hK.out _ _ (λ_=>⟨p0,p1,p2,p3,p4⟩) (λ_=>?_);clear hK K
  try simp only[gX]
  refine Lt.sp (i:=3) (λK hK=>?_);go_simp
  try rw[e3]
  refine hK.out _ _ (λ_=>A7) (λ_=>?_);clear hK K
  try simp only[gX]
  refine Lt.done qk ?_ _;obtain⟨a0,a1,a2⟩:=Ab HF.o.2.1.2.2.1;obtain⟨b0,b1,bf⟩:=Ag HF.o.2.1.2.2.2;go_wp2;exact bR (v:=Y #[G #[I (n:Int),J xa t1 t2,J qa q1 q2],G #[J sa n1 c1,J ta n2 c2]]) qaz rfl ⟨_,_,_,_,_,_,_,_,_,_,_,rfl,HF.o.2.2.2.1,ft.o,HF.o.2.2.1,HF.o.2.2.2.2.more qg⟩):P:=h
theorem qds(h:P:=by
 clear hK K fi elim
 try simp only[gX]
 have n6:Hd (Ai w8 g9 31):=⟨_,f8.o⟩
 obtain⟨V2,dg⟩:=Aj ((((((w8.setCell ⟨g9,0,N⟩ (I cd)).setCell ⟨g9,1,N⟩ (I wd)).setCell ⟨g9,2,N⟩ (J a1 n1 c1)).setCell ⟨g9,3,N⟩ (J a2 n2 c2)).setCell ⟨g9,4,N⟩ (S A)).setCell ⟨g9,5,N⟩ (S AG))
 have ip:=Ad (HL.o.s6 aj n6.o hg9 (I cd) (I wd) (J a1 n1 c1) (J a2 n2 c2) (S A) (S AG))
 rw[dg]at ip
 have lm:Hd (cd=0→PX V2 w.heap.size nr n wd a1 n1 c1 a2 n2 c2 lim):=λq=>dg▸(ll.o q).s6 n6.o _ _ _ _ _ _
 have th:Hd (V2.heap[g9]?=M (O #[I cd,I wd,J a1 n1 c1,J a2 n2 c2,S A,S AG] 31 (0,0))):=dg▸Pe f8.o _ _ _ _ _ _
 obtain⟨k0,k1,k2,k3,k4,k5⟩:=Bx f8.o
 have kf:=(λj=>fH f8.o j)
 clear n6 f8 ll HL
 refine Lt.sp (i:=7) (λK hK=>?_)
 go_simp
 try rw[dg]
 refine hK.out _ _ (λh=>absurd h qh) (λ_=>?_)
 clear hK K dg k0 k1 k2 k3 k4 k5 kf
 try simp only[gX]
 refine Lt.done qk ?_ _
 have HL:=Ad ip.o
 clear ip
 by_cases pw:cd=0
 ·subst pw
  have ll:=Ad (lm.o rfl)
  obtain⟨V6,hq⟩:n2=nr∧∃b c,Value.slice a2 n2 c2=J (p_ b) nr c:=by
   obtain⟨_,q2,_,_,xs,cvs,lvs,os,q6⟩:=ll.o;exact⟨q2,by obtain⟨b,c,q,_⟩:=q6.rcd hi;exact⟨b,c,q⟩⟩
  obtain⟨b3,c3,hq⟩:=hq;cases hq;clear lm V6;obtain⟨s0,s1,s2⟩:=Ab HL.o.k5;have sf:=(λj=>fH HL.o.k5 j);obtain⟨m0,m1,m2,m3,m4,m5⟩:=Bx th.o;obtain⟨wE,eE⟩:=Aj (((V2.setCell ⟨g5,0,N⟩ (I wd)).setCell ⟨g5,1,N⟩ (J a1 n1 c1)).setCell ⟨g5,2,N⟩ (J (p_ b3) nr c2));have ye:=Ad (HL.o.pX aj qg qg oa ll.o);rw[eE]at ye;have cE:=ye.o.c3
  go_upto_region 39 with fail
  clear s0 s1 s2 sf m0 m1 m2 m3 m4 m5 eE cE;replace HL:=Ad ye.o;clear ye ll th;obtain⟨b9,c9,x0,x1,x2,re,bx,cw,f0,f1,f2,ff,d6⟩:=HL.o.fin aj df qg qg hi;cases re;obtain⟨AN,eX⟩:=Aj (((wE.setCell ⟨b3,i*3,N⟩ (J (p_ cg) cn cc)).setCell ⟨b3,i*3+1,N⟩ (J la ln lc)).setCell ⟨b3,i*3+2,N⟩ (S o));obtain⟨AL,eY⟩:=Aj (((AN.setCell ⟨w.heap.size+1,0,N⟩ (I (n:Int))).setCell ⟨w.heap.size+1,1,N⟩ (J a1 n1 c1)).setCell ⟨w.heap.size+1,2,N⟩ (J (p_ b3) nr c2));obtain⟨j5,j4,jY,dm,dr⟩:=d6 AN AL eX eY;have fx:=Ad dm;have fg:=Ad dr;have xi:=Ad jY;obtain⟨u0,u1,u2⟩:=Ab HL.o.k5;obtain⟨v0,v1,v2⟩:=Ab HL.o.k7;obtain⟨y0,y1,y2⟩:=Ab j5;obtain⟨z0,z1,z2⟩:=Ab j4;have zf:=(λj=>fH j4 j);clear d6 dm dr jY j5 j4 bx cw;go_wp2;obtain⟨T',R',e1,e2⟩:=fx.o;obtain⟨q0,q1,q2⟩:=Ab xi.o;exact bR (v:=G #[I (n:Int),J a1 n1 c1,J (p_ b3) nr c2]) qat rfl (by first|exact⟨(n:Int),_,_,_,_,_,_,T',R',rfl,e1,e2,fg.o.more qg⟩|exact⟨(n:Int),_,_,_,_,_,_,rfl,T',R',e1,e2,fg.o.more qg⟩)
 ·have hcdB:(cd == 0)=false:=by simpa using pw
  obtain⟨m0,m1,m2,m3,m4,m5⟩:=Bx th.o;replace HL:=Ad HL.o.loose;obtain⟨b9,c9,x0,x1,x2,re,bx,cw,f0,f1,f2,ff,d6⟩:=HL.o.fin aj df qg qg hi;cases re;obtain⟨AN,eX⟩:=Aj (((V2.setCell ⟨b,i*3,N⟩ (J (p_ cg) cn cc)).setCell ⟨b,i*3+1,N⟩ (J la ln lc)).setCell ⟨b,i*3+2,N⟩ (S o));obtain⟨AL,eY⟩:=Aj (((AN.setCell ⟨w.heap.size+1,0,N⟩ (I (n:Int))).setCell ⟨w.heap.size+1,1,N⟩ (J (p_ g1) nt t2)).setCell ⟨w.heap.size+1,2,N⟩ (J (p_ b) nr rc));obtain⟨j5,j4,jY,dm,dr⟩:=d6 AN AL eX eY;have fx:=Ad dm;have fg:=Ad dr;have xi:=Ad jY;obtain⟨u0,u1,u2⟩:=Ab HL.o.k5;obtain⟨v0,v1,v2⟩:=Ab HL.o.k7;obtain⟨y0,y1,y2⟩:=Ab j5;obtain⟨z0,z1,z2⟩:=Ab j4;have zf:=(λj=>fH j4 j);clear d6 dm dr jY j5 j4 bx cw;go_wp2;obtain⟨T',R',e1,e2⟩:=fx.o;obtain⟨q0,q1,q2⟩:=Ab xi.o;exact bR (v:=G #[I (n:Int),J (p_ g1) nt t2,J (p_ b) nr rc]) qat rfl (by first|exact⟨(n:Int),_,_,_,_,_,_,T',R',rfl,e1,e2,fg.o.more qg⟩|exact⟨(n:Int),_,_,_,_,_,_,rfl,T',R',e1,e2,fg.o.more qg⟩)):P:=h
theorem qgj(h:P:=by
 clear eD
 replace HS:=Ad (HS.o.bl ao)
 replace HR:=Ad (HR.o.bl aj ao)
 replace HQ:=Ad (Ac HQ.o ao)
 replace iu:=Ad (Ac iu.o ao)
 replace fb:=Ad (Ce fb.o ao)
 have aw:(λw'=>w'.heap[P]?=M (O #[v1,v2] 44 (0,0))/\w'.heap[w5.heap.size]?=M (O #[J ca ci.length cp] 53 (0,0))) wD:=⟨HS.o.blk,iu.o⟩
 change K 0 _
 iterate 3
  refine Lt.ti (v:=?_) aw ?_ ?_;rotate_left 1
  ·rintro w ⟨gm,fl⟩;obtain⟨c0,c1⟩:=Bg gm;have c2:=Dx fl;go_simp;first|done|with_reducible rfl
  simp only[gX]
 refine Lt.ti (i:=5) (v:=?_) aw ?_ ?_
 rotate_left 1
 ·rintro w ⟨gm,fl⟩;obtain⟨c0,c1⟩:=Bg gm;have c2:=Dx fl;go_simp;first|done|with_reducible rfl
 simp only[gX]
 refine Lt.sp (i:=3) (λK hK=>?_)
 go_simp
 refine(Gz l2.length _ qg).mono ?_
 rintro e wA ⟨rfl,ce⟩
 obtain⟨q,eq,hq⟩:∃q,(⟨(Lib.decDigits l2.length).toArray⟩:By)=q/\q.size<=10:=⟨_,rfl,by have:=En 2 l2.length qg;show(Lib.decDigits l2.length).toArray.size<=10;rw[List.size_toArray];omega⟩
 rw[eq]
 clear eq
 have hqm:¬ 9223372036854775807<1+q.size:=qg
 replace HS:=Ad (HS.o.bl ce)
 replace HR:=Ad (HR.o.bl aj ce)
 replace HQ:=Ad (Ac HQ.o ce)
 replace iu:=Ad (Ac iu.o ce)
 replace fb:=Ad (Ce fb.o ce)
 have bj:(λw'=>w'.heap[P]?=M (O #[v1,v2] 44 (0,0))/\w'.heap[w5.heap.size]?=M (O #[J ca ci.length cp] 53 (0,0))) wA:=⟨HS.o.blk,iu.o⟩
 refine hK.out _ _ (λ_=>bj) (λ_=>?_)
 clear hK K ce
 try simp only[gX]
 refine Lt.ti (i:=4) (v:=?_) bj ?_ ?_
 rotate_left 1
 ·rintro w ⟨gm,fl⟩;obtain⟨c0,c1⟩:=Bg gm;have c2:=Dx fl;go_simp;first|done|with_reducible rfl
 simp only[gX]
 refine Lt.ti (i:=6) (v:=?_) bj ?_ ?_
 rotate_left 1
 ·rintro w ⟨gm,fl⟩;obtain⟨c0,c1⟩:=Bg gm;have c2:=Dx fl;go_simp;first|done|with_reducible rfl
 simp only[gX]
 refine Lt.sp (i:=7) (λK hK=>?_)
 go_simp
 refine Bm (Q:=λx=>K _ x) ?_
 intro wG f6 HG
 try dsimp only
 replace HS:=Ad (HS.o.bl f6)
 replace HR:=Ad (HR.o.bl aj f6)
 replace HQ:=Ad (Ac HQ.o f6)
 replace iu:=Ad (Ac iu.o f6)
 replace fb:=Ad (Ce fb.o f6)
 have cz:(λw'=>w'.heap[P]?=M (O #[v1,v2] 44 (0,0))/\w'.heap[w5.heap.size]?=M (O #[J ca ci.length cp] 53 (0,0))) wG:=⟨HS.o.blk,iu.o⟩
 refine hK.out _ _ (λ_=>cz) (λ_=>?_)
 clear hK K f6
 try simp only[gX]
 refine Lt.sp (i:=8) (λK hK=>?_)
 refine Ls rfl qo w.heap.size v2 _ (Jc l2) qo HS.o.dw.t wA.heap.size _ _ rfl qo HG.o HR.o.size qg ?_
 intro g' ai w7 bw ae
 have HN:=Ad (HS.o.putT (s:=⟨_,ci⟩) (fb.o) ae bw qg ⟨by show(_++_:By).size<=50000;rw[ByteArray.size_append];show 1+q.size<=50000;omega,hc4,ug.o⟩)
 have io:∀j,Value.ownBlock v2=M j->w.heap.size<=j:=λj hj=>(HS.o.dw.t.lt j hj).1
 have zl:=Ad (HS.o.app ae (Or.inr rfl))
 have L6:=Ad ((HR.o.grow aj ae io).set (b:=P) (j:=1) aj hPw (J (p_ g') (l2.length+1) ai))
 have Q7:=Ad (Af (Ao HQ.o ae (Ai.ne ⟨_,HQ.o⟩ HS.o.dw.t qh)) qg (c:=P) (j:=1) (J (p_ g') (l2.length+1) ai))
 obtain⟨c0,c1⟩:=Bg zl.o
 have fz:=λj=>fH zl.o j
 have li:(λw'=>w'.heap[P]?=M (O #[v1,v2] 44 (0,0))/\w'.heap[w5.heap.size]?=M (O #[J ca ci.length cp] 53 (0,0))) w7:=⟨zl.o,Ao iu.o ae (Ai.ne ⟨_,iu.o⟩ HS.o.dw.t qh)⟩
 refine hK.out _ _ (λ_=>li) (λ_=>?_)
 clear hK K ae bw io
 simp only[gX]
 refine Lt.ti (i:=9) (v:=?_) li ?_ ?_
 rotate_left 1
 ·rintro w ⟨gm,fl⟩;obtain⟨c0,c1⟩:=Bg gm;have c2:=Dx fl;go_simp;first|done|with_reducible rfl
 simp only[gX]
 refine Lt.sp (i:=10) (λK hK=>?_)
 go_simp
 refine hK.out _ _ (λh=>absurd rfl h) (λ_=>?_)
 clear hK K
 refine Lt.done qk ?_ _
 go_wp2
 go_roundw
 case rel=>exact⟨l2.length+1,_,_,qg,qp,qi,HN,Ad (L6.o.more qg),Q7,Ad (Si HC.o si)⟩
 case measure=>simp[intOf];omega):P:=h
theorem qgk(h:P:=by
 try simp only[gX]
 refine Lt.sp (i:=5) (λK hK=>?_)
 go_simp
 refine(HU.o.build s hs).mono ?_
 rintro e w6 ⟨cj,cc,tt,AA,BB,wd,ca,Of,sd,na,ea,c3,c4,t3,t4,q3,q4,n3,n4,e3,e4,rfl,J2⟩
 have ri:Hd (cc≤5→wd=(n:Int)∧∃T Rr,Cz (n:Int) T Rr∧Di w6 (R+1) (J Of t3 t4) (J sd q3 q4) T Rr):=λhc=>by obtain⟨h1,T,Rr,h2,h3⟩:=J2 hc;exact⟨h1,T,Rr,h2,h3.base (zo HU.o.rd.size)⟩
 replace HU:=Ad (HU.o.bl aj cj)
 replace j9:=Ad (Ac j9.o cj)
 have o9:w6.cell? ⟨g7,0,N⟩=M (I (n:Int))∧w6.cell? ⟨g7,1,N⟩=M (J xa t1 t2)∧w6.cell? ⟨g7,2,N⟩=M (J qa q1 q2)∧w6.cell? ⟨g6,0,N⟩=M (J sa n1 c1)∧w6.cell? ⟨g6,1,N⟩=M (J ta n2 c2):=⟨(Ab HU.o.k7).1,(Ab HU.o.k7).2.1,(Ab HU.o.k7).2.2,(Ag HU.o.k6).1,(Ag HU.o.k6).2.1⟩
 refine hK.out _ _ (λ_=>o9) (λ_=>?_)
 clear hK K cj J2
 try simp only[gX]
 obtain⟨y0,y1,y2,y3,y4,y5,y6,y7,y8,y9,yf⟩:=Qr j9.o
 have zk:Hd (Ai w6 kh 92):=⟨_,j9.o⟩
 obtain⟨w9,e9⟩:=Aj (((((((((((w6.setCell ⟨kh,0,N⟩ (I cc)).setCell ⟨kh,1,N⟩ (S tt)).setCell ⟨kh,2,N⟩ (J ca c3 c4)).setCell ⟨kh,3,N⟩ (I wd)).setCell ⟨kh,4,N⟩ (J Of t3 t4)).setCell ⟨kh,5,N⟩ (J sd q3 q4)).setCell ⟨kh,6,N⟩ (J na n3 n4)).setCell ⟨kh,7,N⟩ (J ea e3 e4)).setCell ⟨kh,8,N⟩ (S AA)).setCell ⟨kh,9,N⟩ (S BB)))
 replace HU:Hd (Ja w B R a len cap p n g6 g7 (11001+(4-k)*5040+1+(3-(j-1))*10) w9 (J sa n1 c1) (J ta n2 c2) (J xa t1 t2) (J qa q1 q2)):=(e9▸HU.o.s10 aj qg qg qg zk.o _ _ _ _ _ _ _ _ _ _:Ja w B R a len cap p n g6 g7 _ w9 (J sa n1 c1) (J ta n2 c2) (J xa t1 t2) (J qa q1 q2)).more qg
 replace ri:Hd (cc≤5→wd=(n:Int)∧∃T Rr,Cz (n:Int) T Rr∧Di w9 (R+1) (J Of t3 t4) (J sd q3 q4) T Rr):=λhc=>by obtain⟨h1,T,Rr,h2,h3⟩:=ri.o hc;exact⟨h1,T,Rr,h2,e9▸h3.s10 zk.o _ _ _ _ _ _ _ _ _ _⟩
 replace j9:Hd (w9.heap[kh]?=M (O #[I cc,S tt,J ca c3 c4,I wd,J Of t3 t4,J sd q3 q4,J na n3 n4,J ea e3 e4,S AA,S BB] 92 (0,0))):=e9▸blk_s10 j9.o _ _ _ _ _ _ _ _ _ _
 refine Lt.sp (i:=7) (λK hK=>?_)
 go_simp
 try rw[e9]
 have gj:w9.cell? ⟨g7,0,N⟩=M (I (n:Int))∧w9.cell? ⟨g7,1,N⟩=M (J xa t1 t2)∧w9.cell? ⟨g7,2,N⟩=M (J qa q1 q2)∧w9.cell? ⟨g6,0,N⟩=M (J sa n1 c1)∧w9.cell? ⟨g6,1,N⟩=M (J ta n2 c2):=⟨(Ab HU.o.k7).1,(Ab HU.o.k7).2.1,(Ab HU.o.k7).2.2,(Ag HU.o.k6).1,(Ag HU.o.k6).2.1⟩
 refine hK.out _ _ (λ_=>gj) (λ_=>?_)
 clear hK K e9 y0 y1 y2 y3 y4 y5 y6 y7 y8 y9 yf zk
 try simp only[gX]
 refine Lt.done qk ?_ _
 obtain⟨y0,y1,y2,y3,y4,y5,y6,y7,y8,y9,yf⟩:=Qr j9.o
 obtain⟨z0,z1,z2⟩:=Ab HU.o.k7
 have zf:=(λj=>fH HU.o.k7 j)
 by_cases hc:cc≤5
 ·obtain⟨rfl,T,Rr,cm,dm⟩:=ri.o hc
  have im:=Ad cm;have fx:=Ad dm;clear cm dm ri;go_wp2;go_roundw
  case rel=>exact⟨j-1,_,_,_,_,qg,qp,Ad (HU.o.put7 aj qg qg im.o fx.o)⟩
  case measure=>simp[intOf];omega
 ·go_wp2
  go_roundw
  case rel=>exact⟨j-1,_,_,_,_,qg,qp,HU⟩
  case measure=>simp[intOf];omega):P:=h
theorem qgl(h:P:=by
 clear ii ja
 rintro e w5 ⟨m,xb,s1,s2,qb,s3,s4,T',R',rfl,dm,i5,az,am⟩
 replace HU:=Ad (HU.o.gb df qg qg az am)
 have fx:=Ad dm
 have ft:=Ad i5
 clear az am dm i5
 have cz:w5.cell? ⟨g7,0,N⟩=M (I (n:Int))∧w5.cell? ⟨g7,1,N⟩=M (J xa t1 t2)∧w5.cell? ⟨g7,2,N⟩=M (J qa q1 q2)∧w5.cell? ⟨g6,0,N⟩=M (J sa n1 c1)∧w5.cell? ⟨g6,1,N⟩=M (J ta n2 c2):=⟨(Ab HU.o.k7).1,(Ab HU.o.k7).2.1,(Ab HU.o.k7).2.2,(Ag HU.o.k6).1,(Ag HU.o.k6).2.1⟩
 refine hK.out _ _ (λ_=>cz) (λ_=>?_)
 clear hK K
 try simp only[gX]
 obtain⟨W2,e2⟩:=Aj (((w5.setCell ⟨w.heap.size,0,N⟩ (I m)).setCell ⟨w.heap.size,1,N⟩ (J xb s1 s2)).setCell ⟨w.heap.size,2,N⟩ (J qb s3 s4))
 obtain⟨W3,e3⟩:=Aj ((W2.setCell ⟨w.heap.size+1,0,N⟩ (J sa n1 c1)).setCell ⟨w.heap.size+1,1,N⟩ (J ta n2 c2))
 have HF:=Ad (HU.o.fin2 aj qg qg m fx.o W2 W3 e2 e3)
 have A8:W2.cell? ⟨g7,0,N⟩=M (I (n:Int))∧W2.cell? ⟨g7,1,N⟩=M (J xa t1 t2)∧W2.cell? ⟨g7,2,N⟩=M (J qa q1 q2)∧W2.cell? ⟨g6,0,N⟩=M (J sa n1 c1)∧W2.cell? ⟨g6,1,N⟩=M (J ta n2 c2):=⟨(Ab HF.o.1.2.1).1,(Ab HF.o.1.2.1).2.1,(Ab HF.o.1.2.1).2.2,(Ag HF.o.1.1).1,(Ag HF.o.1.1).2.1⟩
 have A7:W3.cell? ⟨g7,0,N⟩=M (I (n:Int))∧W3.cell? ⟨g7,1,N⟩=M (J xa t1 t2)∧W3.cell? ⟨g7,2,N⟩=M (J qa q1 q2)∧W3.cell? ⟨g6,0,N⟩=M (J sa n1 c1)∧W3.cell? ⟨g6,1,N⟩=M (J ta n2 c2):=⟨(Ab HF.o.2.1.2.1).1,(Ab HF.o.2.1.2.1).2.1,(Ab HF.o.2.1.2.1).2.2,(Ag HF.o.2.1.1).1,(Ag HF.o.2.1.1).2.1⟩
 obtain⟨x0,x1,x2⟩:=Ab HU.o.k4
 have xf:=(λj=>fH HU.o.k4 j)
 obtain⟨y0,y1,yf⟩:=Ag HF.o.1.2.2
 obtain⟨p0,p1,p2,p3,p4⟩:=A8
 obtain⟨l0,l1,l2,l3,l4⟩:=(⟨(Ab HU.o.k7).1,(Ab HU.o.k7).2.1,(Ab HU.o.k7).2.2,(Ag HU.o.k6).1,(Ag HU.o.k6).2.1⟩:w5.cell? ⟨g7,0,N⟩=M (I (n:Int))∧w5.cell? ⟨g7,1,N⟩=M (J xa t1 t2)∧w5.cell? ⟨g7,2,N⟩=M (J qa q1 q2)∧w5.cell? ⟨g6,0,N⟩=M (J sa n1 c1)∧w5.cell? ⟨g6,1,N⟩=M (J ta n2 c2))
 refine Lt.sp (i:=4) (λK hK=>?_)
 go_simp
 try rw[e2]
 refine hK.out _ _ (λ_=>⟨p0,p1,p2,p3,p4⟩) (λ_=>?_)
 clear hK K
 try simp only[gX]
 refine Lt.sp (i:=5) (λK hK=>?_)
 go_simp
 try rw[e3]
 refine hK.out _ _ (λ_=>A7) (λ_=>?_)
 clear hK K
 try simp only[gX]
 refine Lt.done qk ?_ _
 obtain⟨a0,a1,a2⟩:=Ab HF.o.2.1.2.2.1
 obtain⟨b0,b1,bf⟩:=Ag HF.o.2.1.2.2.2
 go_wp2
 exact bR (v:=Y #[G #[I m,J xb s1 s2,J qb s3 s4],G #[J sa n1 c1,J ta n2 c2]]) qaz rfl ⟨_,_,_,_,_,_,_,_,_,_,_,rfl,HF.o.2.2.2.1,ft.o,HF.o.2.2.1,HF.o.2.2.2.2.more qg⟩):P:=h
theorem qgm(h:P:=by
 go_wp2_with fail
 refine Lt.begin 9 (λw'=>w'.cell? ⟨g7,1,N⟩=M (J (p_ g) m cp)∧w'.cell? ⟨b1,o1+iN,N⟩=M (S x)) qk ?_
 obtain⟨wD,eD⟩:=Aj wx.drew
 rw[eD]
 have ao:Bw wx wD:=qq
 clear eD
 replace HJ:=Ad (HJ.o.bl ao)
 replace jr:=Ad (Aa ao jr.o)
 clear ao
 have aw:wD.cell? ⟨g7,1,N⟩=M (J (p_ g) m cp)∧wD.cell? ⟨b1,o1+iN,N⟩=M (S x):=⟨(Ab HJ.o.k7).2.1,jr.o⟩
 change K 0 _
 iterate 6
  refine Lt.ti (v:=?_) aw ?_ ?_;rotate_left 1
  ·rintro w ⟨sA,sB⟩
   go_simp
   first|done|with_reducible rfl
  simp only[gX]
 refine Lt.sp (i:=6) (λK hK=>?_)
 go_simp
 refine Bm (Q:=λx=>K _ x) ?_
 intro wL bz gl
 try dsimp only
 obtain⟨dL,edL⟩:=Aj wD.heap.size
 rw[edL]at gl ⊢
 replace HJ:=Ad (HJ.o.bl bz)
 replace jr:=Ad (Aa bz jr.o)
 have bj:wL.cell? ⟨g7,1,N⟩=M (J (p_ g) m cp)∧wL.cell? ⟨b1,o1+iN,N⟩=M (S x):=⟨(Ab HJ.o.k7).2.1,jr.o⟩
 refine hK.out _ _ (λ_=>bj) (λ_=>?_)
 clear hK K bz aw edL
 try simp only[gX]
 refine Lt.sp (i:=7) (λK hK=>?_)
 refine Lu rfl qo w4.heap.size _ m (Ar AE) qo HJ.o.o.own dL x qo gl.o HJ.o.o.bel.size qg ?_
 intro g' ai w8 ak ae _
 obtain⟨w9,e9⟩:=Aj (w8.setCell ⟨g7,1,N⟩ (J (p_ g') (m+1) ai))
 have HJ9:Hd (FlJ w4 w9 n g7 (J ra Rr.length rc) g' ai (m+1) (AE++[x])):=e9▸HJ.o.app qg G2 ak ae
 have V0:w8.heap[g7]?=M (O #[I (n:Int),J (p_ g) m cp,J ra Rr.length rc] 26 (0,0)):=Ao HJ.o.k7 ae (λq=>Ah HJ.o.o.own qh HJ.o.k7 q)
 have cz:w8.cell? ⟨g7,1,N⟩=M (J (p_ g) m cp)∧w8.cell? ⟨b1,o1+iN,N⟩=M (S x):=⟨(Ab V0).2.1,by have hh:Bw w4 w8:=HJ.o.o.bel.grown ae HJ.o.o.bel.size (λj hj=>by cases hj;exact HJ.o.o.lo);exact(hh.cell (p:=⟨b1,o1+iN,N⟩) pg.o).trans yi.o⟩
 have f78:=(λj=>fH V0 j)
 refine hK.out _ _ (λ_=>cz) (λ_=>?_)
 clear hK K ae ak gl bj
 try simp only[gX]
 refine Lt.ti (i:=8) (v:=?_) cz ?_ ?_
 rotate_left 1
 ·rintro w ⟨sA,sB⟩
  go_simp
  first|done|with_reducible rfl
 simp only[gX]
 obtain⟨t0,t1,t2⟩:=Ab V0
 refine Lt.sp (i:=9) (λK hK=>?_)
 go_simp
 try rw[e9]
 refine hK.out _ _ (λh=>absurd h qh) (λ_=>?_)
 clear hK K cz V0 f78 t0 t1 t2 e9
 try simp only[gX]
 refine Lt.done qk ?_ _
 go_wp2
 go_roundw
 case rel=>exact⟨iN+1,m+1,g',ai,sx,AE++[x],qg,qg,rfl,qp,HJ9⟩
 case measure=>simp[intOf];omega):P:=h
theorem qgn(h:P:=by
 go_wp2_with fail
 refine Lt.begin 9 (λw'=>w'.cell? ⟨g7,1,N⟩=M (J (p_ g) m cp)∧w'.cell? ⟨b1,o1+iN,N⟩=M (S x)) qk ?_
 obtain⟨wD,eD⟩:=Aj w7.drew
 rw[eD]
 have ao:Bw w7 wD:=qq
 clear eD
 replace HJ:=Ad (HJ.o.bl ao)
 replace jr:=Ad (Aa ao jr.o)
 clear ao
 have aw:wD.cell? ⟨g7,1,N⟩=M (J (p_ g) m cp)∧wD.cell? ⟨b1,o1+iN,N⟩=M (S x):=⟨(Ab HJ.o.k7).2.1,jr.o⟩
 change K 0 _
 iterate 6
  refine Lt.ti (v:=?_) aw ?_ ?_;rotate_left 1
  ·rintro w ⟨sA,sB⟩
   go_simp
   first|done|with_reducible rfl
  simp only[gX]
 refine Lt.sp (i:=6) (λK hK=>?_)
 go_simp
 refine Bm (Q:=λx=>K _ x) ?_
 intro wL bz gl
 try dsimp only
 obtain⟨dL,edL⟩:=Aj wD.heap.size
 rw[edL]at gl ⊢
 replace HJ:=Ad (HJ.o.bl bz)
 replace jr:=Ad (Aa bz jr.o)
 have bj:wL.cell? ⟨g7,1,N⟩=M (J (p_ g) m cp)∧wL.cell? ⟨b1,o1+iN,N⟩=M (S x):=⟨(Ab HJ.o.k7).2.1,jr.o⟩
 refine hK.out _ _ (λ_=>bj) (λ_=>?_)
 clear hK K bz aw edL
 try simp only[gX]
 refine Lt.sp (i:=7) (λK hK=>?_)
 refine Lu rfl qo w4.heap.size _ m (Ar AE) qo HJ.o.o.own dL x qo gl.o HJ.o.o.bel.size qg ?_
 intro g' ai w8 ak ae _
 obtain⟨w9,e9⟩:=Aj (w8.setCell ⟨g7,1,N⟩ (J (p_ g') (m+1) ai))
 have HJ9:Hd (FlJ w4 w9 n g7 (J ra Rr.length rc) g' ai (m+1) (AE++[x])):=e9▸HJ.o.app qg G2 ak ae
 have V0:w8.heap[g7]?=M (O #[I (n:Int),J (p_ g) m cp,J ra Rr.length rc] 26 (0,0)):=Ao HJ.o.k7 ae (λq=>Ah HJ.o.o.own qh HJ.o.k7 q)
 have cz:w8.cell? ⟨g7,1,N⟩=M (J (p_ g) m cp)∧w8.cell? ⟨b1,o1+iN,N⟩=M (S x):=⟨(Ab V0).2.1,by have hh:Bw w4 w8:=HJ.o.o.bel.grown ae HJ.o.o.bel.size (λj hj=>by cases hj;exact HJ.o.o.lo);exact(hh.cell (p:=⟨b1,o1+iN,N⟩) pg.o).trans yi.o⟩
 have f78:=(λj=>fH V0 j)
 refine hK.out _ _ (λ_=>cz) (λ_=>?_)
 clear hK K ae ak gl bj
 try simp only[gX]
 refine Lt.ti (i:=8) (v:=?_) cz ?_ ?_
 rotate_left 1
 ·rintro w ⟨sA,sB⟩
  go_simp
  first|done|with_reducible rfl
 simp only[gX]
 obtain⟨t0,t1,t2⟩:=Ab V0
 refine Lt.sp (i:=9) (λK hK=>?_)
 go_simp
 try rw[e9]
 refine hK.out _ _ (λh=>absurd h qh) (λ_=>?_)
 clear hK K cz V0 f78 t0 t1 t2 e9
 try simp only[gX]
 refine Lt.done qk ?_ _
 go_wp2
 go_roundw
 case rel=>exact⟨iN+1,m+1,g',ai,sx,AE++[x],qg,qg,rfl,qp,HJ9⟩
 case measure=>simp[intOf];omega):P:=h
theorem qgo(h:P:=by
 go_wp2_with (first|(go_at_call 57;refine(HK.o.name hB qg).mono ?_;rintro e wn ⟨s,rfl,hs,hk,hg⟩;have HO:Hd (Ow w wn _ _ _ _):=HO.o.gb hg qg;have HK:Hd (Ba B R a len cap p _ w wn):=hk;clear hk hg)|(go_at_call 69;refine(Cm _ _).mono ?_;rintro e wn ⟨rfl,hb⟩;have HO:Hd (Ow w wn _ _ _ _):=HO.o.bl hb;have HK:Hd (Ba B R a len cap p _ w wn):=HK.o.bl hB hb;clear hb)|(go_at_call 70;refine(Bu _ _).mono ?_;rintro e wn ⟨rfl,hb⟩;have HO:Hd (Ow w wn _ _ _ _):=HO.o.bl hb;have HK:Hd (Ba B R a len cap p _ w wn):=HK.o.bl hB hb;clear hb)|(go_at_call 14;refine(HK.o.pick qg _ qg qg).mono ?_;rintro e wn ⟨y,rfl,hy,hk,hg⟩;have HO:Hd (Ow w wn _ _ _ _):=HO.o.gb hg qg;have HK:Hd (Ba B R a len cap p _ w wn):=hk;clear hk hg)|(go_at_call 71;refine(Er _ _ _).mono ?_;rintro e wn ⟨rfl,hb⟩;have HO:Hd (Ow w wn _ _ _ _):=HO.o.bl hb;have HK:Hd (Ba B R a len cap p _ w wn):=HK.o.bl hB hb;clear hb)|(at_builtin;refine wpList_append_own _ rfl _ _ 51 rfl w.heap.size 103 i0 (G #[I 0,ze,I 0]) 3 32 underlying51 hi bm bg bi rfl qh _ _ _ ?_ (HO.o.row.alloc _) ⟨wn.heap.size,0,N⟩ 4 4 [I 1,S s,I 0,I 12,ze,I 0,I 5,ze,I y,I 12,ze,I 0] ?_ rfl (World.news_of_block (cs:=#[I 1,S s,I 0,I 12,ze,I 0,I 5,ze,I y,I 12,ze,I 0]) (t:=103) (fr:=(0,0)) (Bf _ _)) (λu hu=>Bk ([⟨1,s,0⟩,⟨12,⟨#[]⟩,0⟩,⟨5,⟨#[]⟩,y⟩,⟨12,⟨#[]⟩,0⟩]:L I3) u hu) qn qg (by have:=HK.o.1.size;simp;omega) ?_;(focus(first|rfl|(simp[Act.eval];done)));(focus(first|rfl|(simp[Act.eval];done)));intro v8 w8 an ag be;obtain⟨g8,c8,rfl,co,cl⟩:=Ow.app (aN _ _) HO.o HK.o hB qg (js:=[⟨1,s,0⟩,⟨12,⟨#[]⟩,0⟩,⟨5,⟨#[]⟩,y⟩,⟨12,⟨#[]⟩,0⟩]) (k:=4) rfl rfl qi (by intro x hx;simp at hx;rcases hx with rfl|rfl|rfl|rfl<;>first|(simp only;omega)|(show 0<=50000;omega)) an ag;have HO:Hd (Ow w w8 _ _ _ _):=co;have HK:Hd (Ba B R a len cap p _ w w8):=cl;clear co cl an ag be))
 exact bR (v:=J (p_ g8) _ c8) qbc rfl (Je HO.o HK.o (by first|omega|(simp;done)|(simp;omega)) (by first|omega|(simp;done)|(simp;omega)) (by first|omega|(simp;done)|(simp;omega)))):P:=h
theorem qgp(h:P:=by
 clear hK K
 try simp only[gX]
 obtain⟨W2,e2⟩:=Aj (((w5.setCell ⟨w.heap.size,0,N⟩ (I m)).setCell ⟨w.heap.size,1,N⟩ (J xb s1 s2)).setCell ⟨w.heap.size,2,N⟩ (J qb s3 s4))
 obtain⟨W3,e3⟩:=Aj ((W2.setCell ⟨w.heap.size+1,0,N⟩ (J sa n1 c1)).setCell ⟨w.heap.size+1,1,N⟩ (J ta n2 c2))
 have HF:=Ad (HU.o.fin2 aj qg qg m fx.o W2 W3 e2 e3)
 have A8:W2.cell? ⟨g7,0,N⟩=M (I (n:Int))∧W2.cell? ⟨g7,1,N⟩=M (J xa t1 t2)∧W2.cell? ⟨g7,2,N⟩=M (J qa q1 q2)∧W2.cell? ⟨g6,0,N⟩=M (J sa n1 c1)∧W2.cell? ⟨g6,1,N⟩=M (J ta n2 c2):=⟨(Ab HF.o.1.2.1).1,(Ab HF.o.1.2.1).2.1,(Ab HF.o.1.2.1).2.2,(Ag HF.o.1.1).1,(Ag HF.o.1.1).2.1⟩
 have A7:W3.cell? ⟨g7,0,N⟩=M (I (n:Int))∧W3.cell? ⟨g7,1,N⟩=M (J xa t1 t2)∧W3.cell? ⟨g7,2,N⟩=M (J qa q1 q2)∧W3.cell? ⟨g6,0,N⟩=M (J sa n1 c1)∧W3.cell? ⟨g6,1,N⟩=M (J ta n2 c2):=⟨(Ab HF.o.2.1.2.1).1,(Ab HF.o.2.1.2.1).2.1,(Ab HF.o.2.1.2.1).2.2,(Ag HF.o.2.1.1).1,(Ag HF.o.2.1.1).2.1⟩
 obtain⟨x0,x1,x2⟩:=Ab HU.o.k4
 have xf:=(λj=>fH HU.o.k4 j)
 obtain⟨y0,y1,yf⟩:=Ag HF.o.1.2.2
 obtain⟨p0,p1,p2,p3,p4⟩:=A8
 obtain⟨l0,l1,l2,l3,l4⟩:=(⟨(Ab HU.o.k7).1,(Ab HU.o.k7).2.1,(Ab HU.o.k7).2.2,(Ag HU.o.k6).1,(Ag HU.o.k6).2.1⟩:w5.cell? ⟨g7,0,N⟩=M (I (n:Int))∧w5.cell? ⟨g7,1,N⟩=M (J xa t1 t2)∧w5.cell? ⟨g7,2,N⟩=M (J qa q1 q2)∧w5.cell? ⟨g6,0,N⟩=M (J sa n1 c1)∧w5.cell? ⟨g6,1,N⟩=M (J ta n2 c2))
 refine Lt.sp (i:=6) (λK hK=>?_)
 go_simp
 try rw[e2]
 refine hK.out _ _ (λ_=>⟨p0,p1,p2,p3,p4⟩) (λ_=>?_)
 clear hK K
 try simp only[gX]
 refine Lt.sp (i:=7) (λK hK=>?_)
 go_simp
 try rw[e3]
 refine hK.out _ _ (λ_=>A7) (λ_=>?_)
 clear hK K
 try simp only[gX]
 refine Lt.done qk ?_ _
 obtain⟨a0,a1,a2⟩:=Ab HF.o.2.1.2.2.1
 obtain⟨b0,b1,bf⟩:=Ag HF.o.2.1.2.2.2
 go_wp2
 exact bR (v:=Y #[G #[I m,J xb s1 s2,J qb s3 s4],G #[J sa n1 c1,J ta n2 c2]]) qaz rfl ⟨_,_,_,_,_,_,_,_,_,_,_,rfl,HF.o.2.2.2.1,ft.o,HF.o.2.2.1,HF.o.2.2.2.2.more qg⟩):P:=h
theorem qgq(h:P:=by
 obtain⟨x0,x1,x2,xf⟩:=Jp HQ.o
 go_wp2_with fail
 clear x0 x1 x2 xf
 refine(I0.o w2 ke.o).mono ?_
 rintro e w9 ⟨py,g1,p1,v2,rfl,o1,o2⟩
 obtain⟨a2,p2,rfl,_⟩:=o2.sl
 have V8:=Ad (Hq py HZ.o)
 have HB9:=Ad (bt ke.o py)
 have fa:=Ad (show Hb w9 w.heap.size (J (p_ g1) T.length p1) (J a2 R.length p2) T R from ⟨Al o1.own (zo ke.o.size),⟨g1,p1,rfl⟩,o2.recO.base (zo ke.o.size)⟩)
 have yr:=py.size
 clear py o1 o2 HQ HP HZ I0 ke
 obtain⟨zc0,zc1,zc2,zc3,zc4,zc5,zc6,zc7,zc8,zc9⟩:=Km V8.o
 have zcf:=fZ V8.o
 obtain⟨l,el⟩:∃l:L (Nat×Nat×Value),l=[((w.heap.size+1+1),0,I 9),((w.heap.size+1+1),1,ze),((w.heap.size+1+1),2,nS),((w.heap.size+1+1),3,I n),((w.heap.size+1+1),4,J (p_ g1) T.length p1),((w.heap.size+1+1),5,J a2 R.length p2),((w.heap.size+1+1),6,nS),((w.heap.size+1+1),7,nS),((w.heap.size+1+1),8,ze),((w.heap.size+1+1),9,ze)]:=⟨_,rfl⟩
 have jw:∀x∈l,x.1=(w.heap.size+1+1):=qbv
 have jk:=Jg l w9 _ jw V8.o
 have hS:=fa.o.setU jw V8.o
 have o8:Bw w (Ef w9 l):=Ek l w9 HB9.o (λx hx=>by rw[jw x hx];omega)
 obtain⟨V,eV⟩:=Aj (Ef w9 l)
 rw[eV]at jk o8 hS
 rw[el]at jk eV
 simp only[Ef,List.foldl]at eV
 simp only[List.foldl,List.setIfInBounds_toArray,List.set_cons_zero,List.set_cons_succ]at jk
 have HV:=Ad jk
 have Q5:=Ad o8
 have H_hS:=Ad hS
 clear jk o8 el jw hS
 go_wp2_with fail
 try rw[eV]
 obtain⟨y0,y1,y2,y3,y4,y5,y6,y7,y8,y9⟩:=Km HV.o
 exact bR (v:=G #[I 9,ze,nS,I n,J (p_ g1) T.length p1,J a2 R.length p2,nS,nS,ze,ze]) qey rfl ⟨Q5.o,_,rfl,_,_,rfl,H_hS.o⟩):P:=h
theorem qgr(h:P:=by
 rw[enB]
 clear enB
 have lq:=Ad (HL.o.p1 aj qg qg vr.o)
 obtain⟨w9,e9⟩:=Aj (wB.setCell ⟨g5,1,N⟩ (J (p_ gB) nB cB))
 rw[e9]at lq
 obtain⟨v0,v1,v2⟩:=Ab HL.o.k5
 have vf:=(λj=>fH HL.o.k5 j)
 refine hK.out _ _ (λ_=>v1) (λ_=>?_)
 clear hK K ho3 hgy B9 Q6 ce il cz gu aw
 try simp only[gX]
 refine Lt.ti (i:=12) (v:=?_) v1 ?_ ?_
 rotate_left 1
 ·rintro w sA
  go_simp
  first|done|with_reducible rfl
 simp only[gX]
 refine Lt.sp (i:=13) (λK hK=>?_)
 go_simp
 try rw[e9]
 refine hK.out _ _ (λh=>absurd h qh) (λ_=>?_)
 clear hK K e9 v0 v1 v2 vf
 try simp only[gX]
 refine Lt.done qk ?_ _
 replace HL:=Ad lq.o.loose
 clear lq
 obtain⟨b9,c9,x0,x1,x2,re,bx,cw,f0,f1,f2,ff,d6⟩:=HL.o.fin aj df qg qg hi
 cases re
 obtain⟨AN,eX⟩:=Aj (((w9.setCell ⟨b,i*3,N⟩ (J (p_ cg) cn cc)).setCell ⟨b,i*3+1,N⟩ (J la ln lc)).setCell ⟨b,i*3+2,N⟩ (S o))
 obtain⟨AL,eY⟩:=Aj (((AN.setCell ⟨w.heap.size+1,0,N⟩ (I (n:Int))).setCell ⟨w.heap.size+1,1,N⟩ (J (p_ gB) nB cB)).setCell ⟨w.heap.size+1,2,N⟩ (J (p_ b) nr rc))
 obtain⟨j5,j4,jY,dm,dr⟩:=d6 AN AL eX eY
 have fx:=Ad dm
 have fg:=Ad dr
 have xi:=Ad jY
 obtain⟨u0,u1,u2⟩:=Ab HL.o.k5
 obtain⟨v0,v1,v2⟩:=Ab HL.o.k7
 obtain⟨y0,y1,y2⟩:=Ab j5
 obtain⟨z0,z1,z2⟩:=Ab j4
 have zf:=(λj=>fH j4 j)
 clear d6 dm dr jY j5 j4 bx cw
 go_wp2
 obtain⟨T',R',e1,e2⟩:=fx.o
 obtain⟨q0,q1,q2⟩:=Ab xi.o
 exact bR (v:=G #[I (n:Int),J (p_ gB) nB cB,J (p_ b) nr rc]) qat rfl (by first|exact⟨(n:Int),_,_,_,_,_,_,T',R',rfl,e1,e2,fg.o.more qg⟩|exact⟨(n:Int),_,_,_,_,_,_,rfl,T',R',e1,e2,fg.o.more qg⟩)):P:=h
theorem qgs(h:P:=by
 go_wp2_with (first|(go_at_call 57;refine(HK.o.name hB qg).mono ?_;rintro e wn ⟨s,rfl,hs,hk,hg⟩;have HO:Hd (Ow w wn _ _ _ _):=HO.o.gb hg qg;have HK:Hd (Ba B R a len cap p _ w wn):=hk;clear hk hg)|(go_at_call 69;refine(Cm _ _).mono ?_;rintro e wn ⟨rfl,hb⟩;have HO:Hd (Ow w wn _ _ _ _):=HO.o.bl hb;have HK:Hd (Ba B R a len cap p _ w wn):=HK.o.bl hB hb;clear hb)|(go_at_call 70;refine(Bu _ _).mono ?_;rintro e wn ⟨rfl,hb⟩;have HO:Hd (Ow w wn _ _ _ _):=HO.o.bl hb;have HK:Hd (Ba B R a len cap p _ w wn):=HK.o.bl hB hb;clear hb)|(at_builtin;refine wpList_append_own _ rfl _ _ 51 rfl w.heap.size 103 i0 (G #[I 0,ze,I 0]) 3 32 underlying51 hi bm bg bi rfl qh _ _ _ ?_ (HO.o.row.alloc _) ⟨wn.heap.size,0,N⟩ 2 2 [I 1,S s,I 0,I 13,ze,I 0] ?_ rfl (World.news_of_block (cs:=#[I 1,S s,I 0,I 13,ze,I 0]) (t:=103) (fr:=(0,0)) (Bf _ _)) (λu hu=>Bk ([⟨1,s,0⟩,⟨13,⟨#[]⟩,0⟩]:L I3) u hu) qn qg (by have:=HK.o.1.size;simp;omega) ?_;(focus(first|rfl|(simp[Act.eval];done)));(focus(first|rfl|(simp[Act.eval];done)));intro v8 w8 an ag be;obtain⟨g8,c8,rfl,co,cl⟩:=Ow.app (aN _ _) HO.o HK.o hB qg (js:=[⟨1,s,0⟩,⟨13,⟨#[]⟩,0⟩]) (k:=2) rfl rfl qi (by intro x hx;simp at hx;rcases hx with rfl|rfl<;>first|(simp only;omega)|(show 0<=50000;omega)) an ag;have HO:Hd (Ow w w8 _ _ _ _):=co;have HK:Hd (Ba B R a len cap p _ w w8):=cl;clear co cl an ag be))
 exact bR (v:=J (p_ g8) _ c8) qbc rfl (Je HO.o HK.o (by first|omega|(simp;done)|(simp;omega)) (by first|omega|(simp;done)|(simp;omega)) (by first|omega|(simp;done)|(simp;omega)))):P:=h
theorem qgt(h:P:=by
 go_wp2_with (first|(go_at_call 57;refine(HK.o.name hB qg).mono ?_;rintro e wn ⟨s,rfl,hs,hk,hg⟩;have HO:Hd (Ow w wn _ _ _ _):=HO.o.gb hg qg;have HK:Hd (Ba B R a len cap p _ w wn):=hk;clear hk hg)|(go_at_call 69;refine(Cm _ _).mono ?_;rintro e wn ⟨rfl,hb⟩;have HO:Hd (Ow w wn _ _ _ _):=HO.o.bl hb;have HK:Hd (Ba B R a len cap p _ w wn):=HK.o.bl hB hb;clear hb)|(go_at_call 70;refine(Bu _ _).mono ?_;rintro e wn ⟨rfl,hb⟩;have HO:Hd (Ow w wn _ _ _ _):=HO.o.bl hb;have HK:Hd (Ba B R a len cap p _ w wn):=HK.o.bl hB hb;clear hb)|(at_builtin;refine wpList_append_own _ rfl _ _ 51 rfl w.heap.size 103 i0 (G #[I 0,ze,I 0]) 3 32 underlying51 hi bm bg bi rfl qh _ _ _ ?_ (HO.o.row.alloc _) ⟨wn.heap.size,0,N⟩ 2 2 [I 1,S s,I 0,I 12,ze,I 0] ?_ rfl (World.news_of_block (cs:=#[I 1,S s,I 0,I 12,ze,I 0]) (t:=103) (fr:=(0,0)) (Bf _ _)) (λu hu=>Bk ([⟨1,s,0⟩,⟨12,⟨#[]⟩,0⟩]:L I3) u hu) qn qg (by have:=HK.o.1.size;simp;omega) ?_;(focus(first|rfl|(simp[Act.eval];done)));(focus(first|rfl|(simp[Act.eval];done)));intro v8 w8 an ag be;obtain⟨g8,c8,rfl,co,cl⟩:=Ow.app (aN _ _) HO.o HK.o hB qg (js:=[⟨1,s,0⟩,⟨12,⟨#[]⟩,0⟩]) (k:=2) rfl rfl qi (by intro x hx;simp at hx;rcases hx with rfl|rfl<;>first|(simp only;omega)|(show 0<=50000;omega)) an ag;have HO:Hd (Ow w w8 _ _ _ _):=co;have HK:Hd (Ba B R a len cap p _ w w8):=cl;clear co cl an ag be))
 exact bR (v:=J (p_ g8) _ c8) qbc rfl (Je HO.o HK.o (by first|omega|(simp;done)|(simp;omega)) (by first|omega|(simp;done)|(simp;omega)) (by first|omega|(simp;done)|(simp;omega)))):P:=h
theorem qdt(h:P:=by
 rw[ejs]at HO
 have gz:=HO.o.ln
 have B5:Hd (Calls Tryz.prog 35 #[.agg #[.slice (M ⟨g8,0,N⟩) (n+1+1) c8]] w8 λe w'=>Below w8.heap.size w8 w'/\e=H (.bool (Aq js))):=by
  have q:=Ci (M ⟨g8,0,N⟩) c8 js w8 HO.o.row3 qg (λi=>by have:=HO.o.short i;omega);rw[<- gz]at q;exact q
 clear gz ejs
 go_wp2_with fail
 refine B5.o.mono ?_
 rintro e wn ⟨hb,rfl⟩
 have HO:Hd (Ow w wn _ _ _ _):=HO.o.bl hb
 have HK:Hd (Ba B R a len cap p _ w wn):=HK.o.bl hB hb
 clear hb
 obtain⟨bc,bf,bs⟩:=vk.o wn HK.o.1
 cases Aq js with
 | true=>
  go_wp2_with fail;exact bR (v:=.agg #[.slice (M ⟨g8,0,N⟩) (n+1+1) c8]) qav rfl (Gi EW.o zh HO.o HK.o qg qg qg _)
 | false=>
  go_wp2_with (first|(go_at_call 69;refine(Cm _ _).mono ?_;rintro e wn ⟨rfl,hb⟩;have HO:Hd (Ow w wn _ _ _ _):=HO.o.bl hb;have HK:Hd (Ba B R a len cap p _ w wn):=HK.o.bl hB hb;clear hb)|(go_at_call 70;refine(Bu _ _).mono ?_;rintro e wn ⟨rfl,hb⟩;have HO:Hd (Ow w wn _ _ _ _):=HO.o.bl hb;have HK:Hd (Ba B R a len cap p _ w wn):=HK.o.bl hB hb;clear hb;obtain⟨bc,bf,bs⟩:=vk.o (wn.alloc (.cells #[.int .i64 1,.string ⟨#[120]⟩,.int .i64 0,.int .i64 15,.string ⟨#[]⟩,.int .i64 0] 103)) (Fr HK.o.1 (aN _ _))))
  exact bR (v:=.agg #[.slice (M ⟨wn.heap.size,0,N⟩) 2 2]) qav rfl (Gi EW.o zh (Ow.lit (n:=2) (is:=[⟨1,⟨#[120]⟩,0⟩,⟨15,⟨#[]⟩,0⟩]) HK.o.1.size rfl rfl qg (by intro x hx;simp at hx;rcases hx with rfl|rfl<;>first|(simp only;omega)|(show 0<=50000;omega)|(simp only;decide))) (HK.o.bl hB (aN _ _)) qg qg qg _)):P:=h
theorem qgu(h:P:=by
 rw[ejs]at HO
 have gz:=HO.o.ln
 have B5:Hd (Calls Tryz.prog 35 #[.agg #[.slice (M ⟨g8,0,N⟩) (4) 4]] w8 λe w'=>Below w8.heap.size w8 w'/\e=H (.bool (Aq js))):=by
  have q:=Ci (M ⟨g8,0,N⟩) 4 js w8 HO.o.row3 qg (λi=>by have:=HO.o.short i;omega);rw[<- gz]at q;exact q
 clear gz ejs
 go_wp2_with fail
 refine B5.o.mono ?_
 rintro e wn ⟨hb,rfl⟩
 have HO:Hd (Ow w wn _ _ _ _):=HO.o.bl hb
 have HK:Hd (Ba B R a len cap p _ w wn):=HK.o.bl hB hb
 clear hb
 obtain⟨bc,bf,bs⟩:=vk.o wn HK.o.1
 cases Aq js with
 | true=>
  go_wp2_with fail;exact bR (v:=.agg #[.slice (M ⟨g8,0,N⟩) (4) 4]) qav rfl (Gi EW.o zh HO.o HK.o qg qg qg _)
 | false=>
  go_wp2_with (first|(go_at_call 69;refine(Cm _ _).mono ?_;rintro e wn ⟨rfl,hb⟩;have HO:Hd (Ow w wn _ _ _ _):=HO.o.bl hb;have HK:Hd (Ba B R a len cap p _ w wn):=HK.o.bl hB hb;clear hb)|(go_at_call 70;refine(Bu _ _).mono ?_;rintro e wn ⟨rfl,hb⟩;have HO:Hd (Ow w wn _ _ _ _):=HO.o.bl hb;have HK:Hd (Ba B R a len cap p _ w wn):=HK.o.bl hB hb;clear hb;obtain⟨bc,bf,bs⟩:=vk.o (wn.alloc (.cells #[.int .i64 1,.string ⟨#[120]⟩,.int .i64 0,.int .i64 15,.string ⟨#[]⟩,.int .i64 0] 103)) (Fr HK.o.1 (aN _ _))))
  exact bR (v:=.agg #[.slice (M ⟨wn.heap.size,0,N⟩) 2 2]) qav rfl (Gi EW.o zh (Ow.lit (n:=2) (is:=[⟨1,⟨#[120]⟩,0⟩,⟨15,⟨#[]⟩,0⟩]) HK.o.1.size rfl rfl qg (by intro x hx;simp at hx;rcases hx with rfl|rfl<;>first|(simp only;omega)|(show 0<=50000;omega)|(simp only;decide))) (HK.o.bl hB (aN _ _)) qg qg qg _)):P:=h
theorem qgv(h:P:=by
 go_wp2_with (first|(go_at_call 16;refine(HK.o.text hB qg).mono ?_;rintro e wn ⟨s,rfl,hs,hk,hg⟩;have HO:Hd (Ow w wn _ _ _ _):=HO.o.gb hg qg;have HK:Hd (Ba B R a len cap p _ w wn):=hk;clear hk hg)|(go_at_call 69;refine(Cm _ _).mono ?_;rintro e wn ⟨rfl,hb⟩;have HO:Hd (Ow w wn _ _ _ _):=HO.o.bl hb;have HK:Hd (Ba B R a len cap p _ w wn):=HK.o.bl hB hb;clear hb)|(at_builtin;refine wpList_append_own _ rfl _ _ 51 rfl w.heap.size 103 i0 (G #[I 0,ze,I 0]) 3 32 underlying51 hi bm bg bi rfl qh _ _ _ ?_ (HO.o.row.alloc _) ⟨wn.heap.size,0,N⟩ 1 1 [I 1,S s,I 0] ?_ rfl (World.news_of_block (cs:=#[I 1,S s,I 0]) (t:=103) (fr:=(0,0)) (Bf _ _)) (λu hu=>Bk ([⟨1,s,0⟩]:L I3) u hu) qn qg (by have:=HK.o.1.size;simp;omega) ?_;(focus(first|rfl|(simp[Act.eval];done)));(focus(first|rfl|(simp[Act.eval];done)));intro v8 w8 an ag be;obtain⟨g8,c8,rfl,co,cl⟩:=Ow.app (aN _ _) HO.o HK.o hB qg (js:=[⟨1,s,0⟩]) (k:=1) rfl rfl qi (by intro x hx;simp at hx;subst hx;first|(simp only;omega)|(show 0<=50000;omega)) an ag;have HO:Hd (Ow w w8 _ _ _ _):=co;have HK:Hd (Ba B R a len cap p _ w w8):=cl;clear co cl an ag be))
 exact bR (v:=J (p_ g8) _ c8) qbc rfl (Je HO.o HK.o (by first|omega|(simp;done)|(simp;omega)) (by first|omega|(simp;done)|(simp;omega)) (by first|omega|(simp;done)|(simp;omega)))):P:=h
theorem qgw(h:P:=by
 go_simp
 try rw[e9]
 refine hK.out _ _ (λh=>absurd h qh) (λ_=>?_)
 clear hK K e9 gf d0 d1 d2
 try simp only[gX]
 refine Lt.done qk ?_ _
 replace HL:=Ad lq.o.loose
 clear lq
 obtain⟨b9,c9,x0,x1,x2,re,bx,cw,f0,f1,f2,ff,d6⟩:=HL.o.fin aj df qg qg hi
 cases re
 obtain⟨AN,eX⟩:=Aj (((w9.setCell ⟨b,i*3,N⟩ (J (p_ cg) cn cc)).setCell ⟨b,i*3+1,N⟩ (J (p_ g) ln lc)).setCell ⟨b,i*3+2,N⟩ (S o))
 obtain⟨AL,eY⟩:=Aj (((AN.setCell ⟨w.heap.size+1,0,N⟩ (I (n:Int))).setCell ⟨w.heap.size+1,1,N⟩ (J (p_ g1) nt t2)).setCell ⟨w.heap.size+1,2,N⟩ (J (p_ b) nr rc))
 obtain⟨j5,j4,jY,dm,dr⟩:=d6 AN AL eX eY
 have fx:=Ad dm
 have fg:=Ad dr
 have xi:=Ad jY
 obtain⟨u0,u1,u2⟩:=Ab HL.o.k5
 obtain⟨v0,v1,v2⟩:=Ab HL.o.k7
 obtain⟨y0,y1,y2⟩:=Ab j5
 obtain⟨z0,z1,z2⟩:=Ab j4
 have zf:=(λj=>fH j4 j)
 clear d6 dm dr jY j5 j4 bx cw
 go_wp2
 obtain⟨T',R',e1,e2⟩:=fx.o
 obtain⟨q0,q1,q2⟩:=Ab xi.o
 exact bR (v:=G #[I (n:Int),J (p_ g1) nt t2,J (p_ b) nr rc]) qat rfl (by first|exact⟨(n:Int),_,_,_,_,_,_,T',R',rfl,e1,e2,fg.o.more qg⟩|exact⟨(n:Int),_,_,_,_,_,_,rfl,T',R',e1,e2,fg.o.more qg⟩)):P:=h
theorem qgx(h:P:=by
 clear gz ejs
 go_wp2_with fail
 refine B5.o.mono ?_
 rintro e wn ⟨hb,rfl⟩
 have HO:Hd (Ow w wn _ _ _ _):=HO.o.bl hb
 have HK:Hd (Ba B R a len cap p _ w wn):=HK.o.bl hB hb
 clear hb
 obtain⟨bc,bf,bs⟩:=vk.o wn HK.o.1
 cases Aq js with
 | true=>
  go_wp2_with fail;exact bR (v:=.agg #[.slice (M ⟨g8,0,N⟩) (n+1) c8]) qav rfl (Gi EW.o zh HO.o HK.o qg qg qg _)
 | false=>
  go_wp2_with (first|(go_at_call 69;refine(Cm _ _).mono ?_;rintro e wn ⟨rfl,hb⟩;have HO:Hd (Ow w wn _ _ _ _):=HO.o.bl hb;have HK:Hd (Ba B R a len cap p _ w wn):=HK.o.bl hB hb;clear hb)|(go_at_call 70;refine(Bu _ _).mono ?_;rintro e wn ⟨rfl,hb⟩;have HO:Hd (Ow w wn _ _ _ _):=HO.o.bl hb;have HK:Hd (Ba B R a len cap p _ w wn):=HK.o.bl hB hb;clear hb;obtain⟨bc,bf,bs⟩:=vk.o (wn.alloc (.cells #[.int .i64 1,.string ⟨#[120]⟩,.int .i64 0,.int .i64 15,.string ⟨#[]⟩,.int .i64 0] 103)) (Fr HK.o.1 (aN _ _))))
  exact bR (v:=.agg #[.slice (M ⟨wn.heap.size,0,N⟩) 2 2]) qav rfl (Gi EW.o zh (Ow.lit (n:=2) (is:=[⟨1,⟨#[120]⟩,0⟩,⟨15,⟨#[]⟩,0⟩]) HK.o.1.size rfl rfl qg (by intro x hx;simp at hx;rcases hx with rfl|rfl<;>first|(simp only;omega)|(show 0<=50000;omega)|(simp only;decide))) (HK.o.bl hB (aN _ _)) qg qg qg _)):P:=h
theorem qgy(h:P:=by
 obtain⟨w9,e9⟩:=Aj (wA.setCell ⟨g5,1,N⟩ (J (p_ g') (nt+1) ai))
 rw[e9]at yr
 have fa:=Ad yr
 have vf:=(λj=>fH jt j)
 obtain⟨v0,v1,v2⟩:=Ab jt
 refine hK.out _ _ (λ_=>v1) (λ_=>?_)
 clear hK K ak ae gl yr hT1 hT2 hT3 P5 pc jt HS
 try simp only[gX]
 refine Lt.ti (i:=8) (v:=?_) v1 ?_ ?_
 rotate_left 1
 ·rintro w sA
  go_simp
  first|done|with_reducible rfl
 simp only[gX]
 refine Lt.sp (i:=9) (λK hK=>?_)
 go_simp
 try rw[e9]
 refine hK.out _ _ (λh=>absurd h qh) (λ_=>?_)
 clear hK K e9 v0 v1 v2 vf
 try simp only[gX]
 refine Lt.done qk ?_ _
 have HS:=Ad fa.o
 clear fa
 obtain⟨AL,eY⟩:=Aj (((w9.setCell ⟨w.heap.size+1,0,N⟩ (I (n:Int))).setCell ⟨w.heap.size+1,1,N⟩ (J (p_ g') (nt+1) ai)).setCell ⟨w.heap.size+1,2,N⟩ (J ra nr rc))
 have jq:=Ad (HS.o.fin aj df qg AL eY)
 obtain⟨u0,u1,u2⟩:=Ab HS.o.k5
 obtain⟨z0,z1,z2⟩:=Ab HS.o.k4
 have zf:=(λj=>fH HS.o.k4 j)
 go_wp2
 obtain⟨jY,⟨T',R',e1,e2⟩,dr⟩:=jq.o
 obtain⟨q0,q1,q2⟩:=Ab jY
 exact bR (v:=G #[I (n:Int),J (p_ g') (nt+1) ai,J ra nr rc]) qaf rfl (by first|exact⟨_,_,_,_,_,_,_,T',R',rfl,e1,e2,dr.more qg⟩|exact⟨_,_,_,_,_,_,_,rfl,T',R',e1,e2,dr.more qg⟩)):P:=h
theorem qgz(h:P:=by
 have hcdB:(cd == 0)=false:=by simpa using pw
 obtain⟨m0,m1,m2,m3,m4,m5⟩:=Bx th.o
 replace HL:=Ad HL.o.loose
 obtain⟨b9,c9,x0,x1,x2,re,bx,cw,f0,f1,f2,ff,d6⟩:=HL.o.fin aj df qg qg hi
 cases re
 obtain⟨AN,eX⟩:=Aj (((V2.setCell ⟨b,i*3,N⟩ (J (p_ cg) cn cc)).setCell ⟨b,i*3+1,N⟩ (J la ln lc)).setCell ⟨b,i*3+2,N⟩ (S o))
 obtain⟨AL,eY⟩:=Aj (((AN.setCell ⟨w.heap.size+1,0,N⟩ (I (n:Int))).setCell ⟨w.heap.size+1,1,N⟩ (J (p_ g1) nt t2)).setCell ⟨w.heap.size+1,2,N⟩ (J (p_ b) nr rc))
 obtain⟨j5,j4,jY,dm,dr⟩:=d6 AN AL eX eY
 have fx:=Ad dm
 have fg:=Ad dr
 have xi:=Ad jY
 obtain⟨u0,u1,u2⟩:=Ab HL.o.k5
 obtain⟨v0,v1,v2⟩:=Ab HL.o.k7
 obtain⟨y0,y1,y2⟩:=Ab j5
 obtain⟨z0,z1,z2⟩:=Ab j4
 have zf:=(λj=>fH j4 j)
 clear d6 dm dr jY j5 j4 bx cw
 go_wp2
 obtain⟨T',R',e1,e2⟩:=fx.o
 obtain⟨q0,q1,q2⟩:=Ab xi.o
 exact bR (v:=G #[I (n:Int),J (p_ g1) nt t2,J (p_ b) nr rc]) qat rfl (by first|exact⟨(n:Int),_,_,_,_,_,_,T',R',rfl,e1,e2,fg.o.more qg⟩|exact⟨(n:Int),_,_,_,_,_,_,rfl,T',R',e1,e2,fg.o.more qg⟩)):P:=h
theorem qha(h:P:=by
 replace HL:=Ad lq.o.loose
 clear lq
 obtain⟨b9,c9,x0,x1,x2,re,bx,cw,f0,f1,f2,ff,d6⟩:=HL.o.fin aj df qg qg hi
 cases re
 obtain⟨AN,eX⟩:=Aj (((w9.setCell ⟨b,i*3,N⟩ (J (p_ cg) cn cc)).setCell ⟨b,i*3+1,N⟩ (J la ln lc)).setCell ⟨b,i*3+2,N⟩ (S so))
 obtain⟨AL,eY⟩:=Aj (((AN.setCell ⟨w.heap.size+1,0,N⟩ (I (n:Int))).setCell ⟨w.heap.size+1,1,N⟩ (J (p_ g1) nt t2)).setCell ⟨w.heap.size+1,2,N⟩ (J (p_ b) nr rc))
 obtain⟨j5,j4,jY,dm,dr⟩:=d6 AN AL eX eY
 have fx:=Ad dm
 have fg:=Ad dr
 have xi:=Ad jY
 obtain⟨u0,u1,u2⟩:=Ab HL.o.k5
 obtain⟨v0,v1,v2⟩:=Ab HL.o.k7
 obtain⟨y0,y1,y2⟩:=Ab j5
 obtain⟨z0,z1,z2⟩:=Ab j4
 have zf:=(λj=>fH j4 j)
 clear d6 dm dr jY j5 j4 bx cw
 go_wp2
 obtain⟨T',R',e1,e2⟩:=fx.o
 obtain⟨q0,q1,q2⟩:=Ab xi.o
 exact bR (v:=G #[I (n:Int),J (p_ g1) nt t2,J (p_ b) nr rc]) qat rfl (by first|exact⟨(n:Int),_,_,_,_,_,_,T',R',rfl,e1,e2,fg.o.more qg⟩|exact⟨(n:Int),_,_,_,_,_,_,rfl,T',R',e1,e2,fg.o.more qg⟩)):P:=h
theorem qby(h:P:=by
 replace HL:=Ad HL.o.loose
 obtain⟨b9,c9,x0,x1,x2,re,bx,cw,f0,f1,f2,ff,d6⟩:=HL.o.fin aj df qg qg hi
 cases re
 obtain⟨AN,eX⟩:=Aj (((w7.setCell ⟨b,i*3,N⟩ (J (p_ cg) cn cc)).setCell ⟨b,i*3+1,N⟩ (J la ln lc)).setCell ⟨b,i*3+2,N⟩ (S o))
 obtain⟨AL,eY⟩:=Aj (((AN.setCell ⟨w.heap.size+1,0,N⟩ (I (n:Int))).setCell ⟨w.heap.size+1,1,N⟩ (J (p_ g1) nt t2)).setCell ⟨w.heap.size+1,2,N⟩ (J (p_ b) nr rc))
 obtain⟨j5,j4,jY,dm,dr⟩:=d6 AN AL eX eY
 have fx:=Ad dm
 have fg:=Ad dr
 have xi:=Ad jY
 obtain⟨u0,u1,u2⟩:=Ab HL.o.k5
 obtain⟨v0,v1,v2⟩:=Ab HL.o.k7
 obtain⟨y0,y1,y2⟩:=Ab j5
 obtain⟨z0,z1,z2⟩:=Ab j4
 have zf:=(λj=>fH j4 j)
 clear d6 dm dr jY j5 j4 bx cw
 go_wp2
 obtain⟨T',R',e1,e2⟩:=fx.o
 obtain⟨q0,q1,q2⟩:=Ab xi.o
 exact bR (v:=G #[I (n:Int),J (p_ g1) nt t2,J (p_ b) nr rc]) qat rfl (by first|exact⟨(n:Int),_,_,_,_,_,_,T',R',rfl,e1,e2,fg.o.more qg⟩|exact⟨(n:Int),_,_,_,_,_,_,rfl,T',R',e1,e2,fg.o.more qg⟩)):P:=h
theorem qhb(h:P:=by
 have fa:=Ad (HS.o.sl aj zj.o uo (j:=0) (u:=S ⟨#[120,32,121]⟩) (λv q=>by have:=q.set0 (b:=g) (i:=0) (s:=⟨#[120,32,121]⟩) qh;simpa using this))
 rw[e9]at fa
 refine Lt.sp (i:=13) (λK hK=>?_)
 go_simp
 try rw[e9]
 refine hK.out _ _ (λh=>absurd h qh) (λ_=>?_)
 clear hK K e9 gf d0 d1 d2 y0 y1 y2
 try simp only[gX]
 refine Lt.done qk ?_ _
 replace HS:=Ad fa.o
 clear fa
 obtain⟨AL,eY⟩:=Aj (((w9.setCell ⟨w.heap.size+1,0,N⟩ (I (n:Int))).setCell ⟨w.heap.size+1,1,N⟩ (J (p_ g1) nt t2)).setCell ⟨w.heap.size+1,2,N⟩ (J (p_ b) nr rc))
 have jq:=Ad (HS.o.fin aj df qg AL eY)
 obtain⟨u0,u1,u2⟩:=Ab HS.o.k5
 obtain⟨z0,z1,z2⟩:=Ab HS.o.k4
 have zf:=(λj=>fH HS.o.k4 j)
 go_wp2
 obtain⟨jY,⟨T',R',e1,e2⟩,dr⟩:=jq.o
 obtain⟨q0,q1,q2⟩:=Ab jY
 exact bR (v:=G #[I (n:Int),J (p_ g1) nt t2,J (p_ b) nr rc]) qaf rfl (by first|exact⟨_,_,_,_,_,_,_,T',R',rfl,e1,e2,dr.more qg⟩|exact⟨_,_,_,_,_,_,_,rfl,T',R',e1,e2,dr.more qg⟩)):P:=h
theorem qhc(h:P:=by
 have fa:=Ad (HS.o.sl aj zj.o uo (j:=0) (u:=ze) (λv q=>by have:=q.set0 (b:=g) (i:=0) (s:=⟨#[]⟩) qh;simpa using this))
 rw[e9]at fa
 refine Lt.sp (i:=13) (λK hK=>?_)
 go_simp
 try rw[e9]
 refine hK.out _ _ (λh=>absurd h qh) (λ_=>?_)
 clear hK K e9 gf d0 d1 d2 y0 y1 y2
 try simp only[gX]
 refine Lt.done qk ?_ _
 replace HS:=Ad fa.o
 clear fa
 obtain⟨AL,eY⟩:=Aj (((w9.setCell ⟨w.heap.size+1,0,N⟩ (I (n:Int))).setCell ⟨w.heap.size+1,1,N⟩ (J (p_ g1) nt t2)).setCell ⟨w.heap.size+1,2,N⟩ (J (p_ b) nr rc))
 have jq:=Ad (HS.o.fin aj df qg AL eY)
 obtain⟨u0,u1,u2⟩:=Ab HS.o.k5
 obtain⟨z0,z1,z2⟩:=Ab HS.o.k4
 have zf:=(λj=>fH HS.o.k4 j)
 go_wp2
 obtain⟨jY,⟨T',R',e1,e2⟩,dr⟩:=jq.o
 obtain⟨q0,q1,q2⟩:=Ab jY
 exact bR (v:=G #[I (n:Int),J (p_ g1) nt t2,J (p_ b) nr rc]) qaf rfl (by first|exact⟨_,_,_,_,_,_,_,T',R',rfl,e1,e2,dr.more qg⟩|exact⟨_,_,_,_,_,_,_,rfl,T',R',e1,e2,dr.more qg⟩)):P:=h
theorem qhd(h:P:=by
 have fa:=Ad (HS.o.sl aj zj.o uo (j:=0) (u:=S r) (λv q=>by have:=q.set0 (b:=g) (i:=0) (s:=r) T5;simpa using this))
 rw[e9]at fa
 refine Lt.sp (i:=13) (λK hK=>?_)
 go_simp
 try rw[e9]
 refine hK.out _ _ (λh=>absurd h qh) (λ_=>?_)
 clear hK K e9 gf d0 d1 d2 y0 y1 y2
 try simp only[gX]
 refine Lt.done qk ?_ _
 replace HS:=Ad fa.o
 clear fa
 obtain⟨AL,eY⟩:=Aj (((w9.setCell ⟨w.heap.size+1,0,N⟩ (I (n:Int))).setCell ⟨w.heap.size+1,1,N⟩ (J (p_ g1) nt t2)).setCell ⟨w.heap.size+1,2,N⟩ (J (p_ b) nr rc))
 have jq:=Ad (HS.o.fin aj df qg AL eY)
 obtain⟨u0,u1,u2⟩:=Ab HS.o.k5
 obtain⟨z0,z1,z2⟩:=Ab HS.o.k4
 have zf:=(λj=>fH HS.o.k4 j)
 go_wp2
 obtain⟨jY,⟨T',R',e1,e2⟩,dr⟩:=jq.o
 obtain⟨q0,q1,q2⟩:=Ab jY
 exact bR (v:=G #[I (n:Int),J (p_ g1) nt t2,J (p_ b) nr rc]) qaf rfl (by first|exact⟨_,_,_,_,_,_,_,T',R',rfl,e1,e2,dr.more qg⟩|exact⟨_,_,_,_,_,_,_,rfl,T',R',e1,e2,dr.more qg⟩)):P:=h
theorem qhe(h:P:=by
 obtain⟨k,hk,rfl,HA,rfl⟩:=hrel
 by_cases au:k<s.size
 ·by_cases c1:s[k].toNat<33
  ·have e1:decide ((s[k].toNat:Int)<33)=true:=qj;have HF:Hd (Fo s=false):=Cg (λh=>by have:=h.2.2 k au;omega);clear c1;go_wp2;go_ret;exact⟨qcw,rfl⟩
  ·have e1:decide ((s[k].toNat:Int)<33)=false:=qj
   by_cases c2:126<s[k].toNat
   ·have e2:decide ((126:Int)<s[k].toNat)=true:=qj;have HF:Hd (Fo s=false):=Cg (λh=>by have:=h.2.2 k au;omega);clear c1 c2;go_wp2;go_ret;exact⟨qcw,rfl⟩
   ·have e2:decide ((126:Int)<s[k].toNat)=false:=qj
    have HB:Hd (∀j,(h:j<s.size)->j<k+1->33<=s[j].toNat/\s[j].toNat<=126):=λj h hj=>by
     rcases Nat.lt_or_ge j k with h'|h'
     ·exact HA.o j h h'
     ·obtain rfl:j=k:=qg;omega
    clear c1 c2;go_wp2;go_roundw
    case rel=>exact⟨k+1,qg,qp,HB,by first|trivial|rfl⟩
    case measure=>simp[intOf];omega
 ·have HF:Hd (Fo s=true):=Cr ⟨qg,qg,λj h=>HA.o j h qg⟩;go_wp2;go_ret;exact⟨qcw,rfl⟩):P:=h
theorem qhf(h:P:=by
 go_wp2_with (first|(go_at_call 69;refine(Cm _ _).mono ?_;rintro e wn ⟨rfl,hb⟩;have HO:Hd (Ow w wn _ _ _ _):=HO.o.bl hb;have HK:Hd (Ba B R a len cap p _ w wn):=HK.o.bl hB hb;clear hb)|(go_at_call 70;refine(Bu _ _).mono ?_;rintro e wn ⟨rfl,hb⟩;have HO:Hd (Ow w wn _ _ _ _):=HO.o.bl hb;have HK:Hd (Ba B R a len cap p _ w wn):=HK.o.bl hB hb;clear hb;obtain⟨bc,bf,bs⟩:=vk.o (wn.alloc (.cells #[.int .i64 1,.string ⟨#[120]⟩,.int .i64 0,.int .i64 15,.string ⟨#[]⟩,.int .i64 0] 103)) (Fr HK.o.1 (aN _ _))))
 exact bR (v:=.agg #[.slice (M ⟨wn.heap.size,0,N⟩) 2 2]) qav rfl (Gi EW.o zh (Ow.lit (n:=2) (is:=[⟨1,⟨#[120]⟩,0⟩,⟨15,⟨#[]⟩,0⟩]) HK.o.1.size rfl rfl qg (by intro x hx;simp at hx;rcases hx with rfl|rfl<;>first|(simp only;omega)|(show 0<=50000;omega)|(simp only;decide))) (HK.o.bl hB (aN _ _)) qg qg qg _)):P:=h
theorem qhg(h:P:=by
 obtain⟨m,e1,U2,hm2⟩:∃m:Nat,((lo:Int)+(hi:Int)) / 2=(m:Int)∧lo≤m∧m<hi:=⟨(lo+hi) / 2,qg,qg,qg⟩
 obtain⟨b,off,rfl,c1⟩:=hc m qg
 obtain⟨v,hv⟩:=Aj (Aw (nx l m) t)
 have HV:Hd (Aw (nx l m) t=v):=hv
 have HN:Hd (∀W:World,Calls prog 62 #[S (nx l m),S t] W λe w'=>e=H (.bool v)∧W=w'):=λW=>by rw[←hv];exact Ya _ _ W
 clear hc hv
 generalize nx l m=s at c1 HN
 have hmI:(m:Int)<(l.length:Int):=qg
 cases v
 ·go_wp2_with (go_at_call 62;refine(HN.o _).mono ?_;rintro e w' ⟨rfl,rfl⟩)
  go_roundw
  case rel=>exact⟨lo,m,rfl,rfl,U2,qg,HL.o,Vn rz.o HV.o,trivial⟩
  case measure=>simp[intOf];omega
 ·go_wp2_with (go_at_call 62;refine(HN.o _).mono ?_;rintro e w' ⟨rfl,rfl⟩)
  go_roundw
  case rel=>exact⟨m+1,hi,qp,rfl,qg,qg,lo_step rz.o qg HV.o,HH.o,trivial⟩
  case measure=>simp[intOf];omega):P:=h
theorem qdu(h:P:=by
 obtain⟨AL,eY⟩:=Aj (((AN.setCell ⟨w.heap.size+1,0,N⟩ (I (n:Int))).setCell ⟨w.heap.size+1,1,N⟩ (J (p_ g1) nt t2)).setCell ⟨w.heap.size+1,2,N⟩ (J (p_ b) nr rc))
 obtain⟨j5,j4,jY,dm,dr⟩:=d6 AN AL eX eY
 have fx:=Ad dm
 have fg:=Ad dr
 have xi:=Ad jY
 obtain⟨u0,u1,u2⟩:=Ab HL.o.k5
 obtain⟨v0,v1,v2⟩:=Ab HL.o.k7
 obtain⟨y0,y1,y2⟩:=Ab j5
 obtain⟨z0,z1,z2⟩:=Ab j4
 have zf:=(λj=>fH j4 j)
 clear d6 dm dr jY j5 j4 bx cw
 go_wp2
 obtain⟨T',R',e1,e2⟩:=fx.o
 obtain⟨q0,q1,q2⟩:=Ab xi.o
 exact bR (v:=G #[I (n:Int),J (p_ g1) nt t2,J (p_ b) nr rc]) qat rfl (by first|exact⟨(n:Int),_,_,_,_,_,_,T',R',rfl,e1,e2,fg.o.more qg⟩|exact⟨(n:Int),_,_,_,_,_,_,rfl,T',R',e1,e2,fg.o.more qg⟩)):P:=h
theorem qhh(h:P:=by
 obtain⟨AL,eY⟩:=Aj (((AN.setCell ⟨w.heap.size+1,0,N⟩ (I (n:Int))).setCell ⟨w.heap.size+1,1,N⟩ (J a1 n1 c1)).setCell ⟨w.heap.size+1,2,N⟩ (J (p_ b3) nr c2))
 obtain⟨j5,j4,jY,dm,dr⟩:=d6 AN AL eX eY
 have fx:=Ad dm
 have fg:=Ad dr
 have xi:=Ad jY
 obtain⟨u0,u1,u2⟩:=Ab HL.o.k5
 obtain⟨v0,v1,v2⟩:=Ab HL.o.k7
 obtain⟨y0,y1,y2⟩:=Ab j5
 obtain⟨z0,z1,z2⟩:=Ab j4
 have zf:=(λj=>fH j4 j)
 clear d6 dm dr jY j5 j4 bx cw
 go_wp2
 obtain⟨T',R',e1,e2⟩:=fx.o
 obtain⟨q0,q1,q2⟩:=Ab xi.o
 exact bR (v:=G #[I (n:Int),J a1 n1 c1,J (p_ b3) nr c2]) qat rfl (by first|exact⟨(n:Int),_,_,_,_,_,_,T',R',rfl,e1,e2,fg.o.more qg⟩|exact⟨(n:Int),_,_,_,_,_,_,rfl,T',R',e1,e2,fg.o.more qg⟩)):P:=h
theorem qhi(h:P:=by
 try simp only[gX]
 refine Lt.done qk ?_ _
 replace HS:=Ad fa.o
 clear fa
 obtain⟨AL,eY⟩:=Aj (((w9.setCell ⟨w.heap.size+1,0,N⟩ (I (n:Int))).setCell ⟨w.heap.size+1,1,N⟩ (J (p_ g1) nt t2)).setCell ⟨w.heap.size+1,2,N⟩ (J (p_ b) nr rc))
 have jq:=Ad (HS.o.fin aj df qg AL eY)
 obtain⟨u0,u1,u2⟩:=Ab HS.o.k5
 obtain⟨z0,z1,z2⟩:=Ab HS.o.k4
 have zf:=(λj=>fH HS.o.k4 j)
 go_wp2
 obtain⟨jY,⟨T',R',e1,e2⟩,dr⟩:=jq.o
 obtain⟨q0,q1,q2⟩:=Ab jY
 exact bR (v:=G #[I (n:Int),J (p_ g1) nt t2,J (p_ b) nr rc]) qaf rfl (by first|exact⟨_,_,_,_,_,_,_,T',R',rfl,e1,e2,dr.more qg⟩|exact⟨_,_,_,_,_,_,_,rfl,T',R',e1,e2,dr.more qg⟩)):P:=h
theorem qhj(h:P:=by
 have uq:Bw W w7:=((hbP.trans (bv.mono qg)).alloc qg _).grown ae qj (λm hm=>by have:=(mw.o.lt m hm).1;omega)
 have fz:w7.frozen? ⟨P,2,N⟩=false:=by rw[ae.frozen_far ⟨P,2,N⟩ qj vd.o];exact fH (by rw[Lib.alloc_old _ _ _ qg];exact(F2.o.bl bv).blk) 2
 refine hK.out _ _ (λ_=>⟨x0,x1,x2,x3,x4⟩) (λiy=>?_)
 replace iy:=iy qh
 clear hK K fw ae bw
 simp only[gX]
 refine Lt.ti (i:=10) (v:=?_) iy ?_ ?_
 rotate_left 1
 ·intro w hSw
  try dsimp only at hSw
  go_simp
  first|done|with_reducible rfl
 simp only[gX]
 refine Lt.sp (i:=11) (λK hK=>?_)
 go_simp
 refine hK.out _ _ (λh=>absurd rfl h) (λ_=>?_)
 clear hK K iy
 refine Lt.done qk ?_ _
 go_wp2
 go_roundw
 case rel=>exact⟨k+1,_,qg,qp,ou.o,uq.setCell (p:=⟨P,2,N⟩) U8 _⟩
 case measure=>simp[intOf];omega):P:=h
theorem qhk(h:P:=by
 by_cases c1:st<k
 ·rw[if_pos c1]
  by_cases c2:n'=0
  ·subst c2;have HR:Hd (s.extract st k=q):=by show _=_;rw[<- pf_gap0 au hg c1];exact HI.o
   clear hg HI;go_wp2;go_ret;exact⟨by rw[<- HR.o];rfl,rfl⟩
  ·have HR:Hd (Br s (n'-1) (k+1) (k+1)=q):=by show _=_;rw[<- pf_gapS au hg c1 c2];exact HI.o
   clear hg HI;go_wp2;go_roundw
   case rel=>exact Or.inl ⟨n'-1,k+1,k+1,qg,qg,Nat.le_refl _,qp,by rw[if_neg (Nat.lt_irrefl _)],qp,HR,by first|trivial|rfl⟩
   case measure=>simp[intOf];omega
 ·rw[if_neg c1];have HR:Hd (Br s n' (k+1) (k+1)=q):=by show _=_;rw[<- pf_none au hg c1];exact HI.o
  clear hg HI;go_wp2;go_roundw
  case rel=>exact Or.inl ⟨n',k+1,k+1,qg,qg,Nat.le_refl _,qp,by rw[if_neg (Nat.lt_irrefl _)],qp,HR,by first|trivial|rfl⟩
  case measure=>simp[intOf];omega):P:=h
theorem qhl(h:P:=by
 first
  | exact⟨W.heap.size,g1,p1,rfl,Cv z2 _ _ _,Ak (Ak (Ak fc.o ⟨_,z2⟩ qh _) (Ai.set ⟨_,z2⟩ _) qh _) (Ai.set (Ai.set ⟨_,z2⟩ _) _) qh _,Nat.le_refl _,((bp.setCell (p:=⟨W.heap.size,0,N⟩) (Nat.le_refl _) _).setCell (p:=⟨W.heap.size,1,N⟩) (Nat.le_refl _) _).setCell (p:=⟨W.heap.size,2,N⟩) (Nat.le_refl _) _⟩
  | exact⟨W.heap.size+1,g1,p1,rfl,Cv z2 _ _ _,Ak (Ak (Ak fc.o ⟨_,z2⟩ qh _) (Ai.set ⟨_,z2⟩ _) qh _) (Ai.set (Ai.set ⟨_,z2⟩ _) _) qh _,Nat.le_succ _,((bp.setCell (p:=⟨W.heap.size+1,0,N⟩) (Nat.le_succ _) _).setCell (p:=⟨W.heap.size+1,1,N⟩) (Nat.le_succ _) _).setCell (p:=⟨W.heap.size+1,2,N⟩) (Nat.le_succ _) _⟩
  | exact⟨x.heap.size,g1,p1,rfl,Am _ _,fc.o.alloc _,bp.size,bp.alloc bp.size _⟩):P:=h
theorem qhm(h:P:=by
 have HL:=Ad hl
 obtain⟨c0,c1,c2,c3,c4,c5,c6,c7,c8,c9⟩:=c10 J3
 obtain⟨k1,k2,k3⟩:=xw.o.c
 clear hl bw Z9 J3 hz7 hi7 h e1
 go_wp2_with fail
 refine HL.o.mono ?_
 rintro e w4 ⟨bx,x0,ax,nx,cx,x2,x3,x4,x5,x6,x7,x8,x9,rfl,wg⟩
 have bp:Bw w w4:=hB7.trans (bx.mono Z3)
 have bi:w4.heap[w.heap.size+1+1]?=M zR:=by rw[bx.block _ hz1s];exact xw.o.z
 have HPO:=Ad wg
 have HZ2:=Ad bi
 have ke:=Ad bp
 obtain⟨z0,z1,z2,z3,z4,z5,z6,z7,z8,z9⟩:=c10 bi
 have fz:=fZ HZ2.o
 clear bi bx HL wg To bp hB7 xw
 unfold r10
 go_wp2_with fail
 exact bR (v:=r10 x0 ax nx cx x2 x3 x4 x5 x6 x7 x8 x9) (by simp[results,results107,go_sem,r10,z0,z1,z2,z3,z4,z5,z6,z7,z8,z9]) rfl ⟨b10 ke.o og,(Rk HPO.o ⟨_,HZ2.o⟩ _ _ _ _ _ _ _ _ _ _).mono Z3⟩):P:=h
theorem qbm(h:P:=by
 obtain⟨AL,eY⟩:=Aj (((w7.setCell ⟨w.heap.size+1,0,N⟩ (I (n:Int))).setCell ⟨w.heap.size+1,1,N⟩ (J (p_ g1) nt t2)).setCell ⟨w.heap.size+1,2,N⟩ (J ra nr rc))
 have jq:=Ad (HS.o.fin aj df qg AL eY)
 obtain⟨u0,u1,u2⟩:=Ab HS.o.k5
 obtain⟨z0,z1,z2⟩:=Ab HS.o.k4
 have zf:=(λj=>fH HS.o.k4 j)
 go_wp2
 obtain⟨jY,⟨T',R',e1,e2⟩,dr⟩:=jq.o
 obtain⟨q0,q1,q2⟩:=Ab jY
 exact bR (v:=G #[I (n:Int),J (p_ g1) nt t2,J ra nr rc]) qaf rfl (by first|exact⟨_,_,_,_,_,_,_,T',R',rfl,e1,e2,dr.more qg⟩|exact⟨_,_,_,_,_,_,_,rfl,T',R',e1,e2,dr.more qg⟩)):P:=h
theorem qhn(h:P:=by
 go_simp
 try rw[e2]
 refine hK.out _ _ (λ_=>⟨p0,p1,p2,p3,p4⟩) (λ_=>?_)
 clear hK K
 try simp only[gX]
 refine Lt.sp (i:=3) (λK hK=>?_)
 go_simp
 refine hK.out _ _ (λ_=>⟨p0,p1,p2,p3,p4⟩) (λ_=>?_)
 clear hK K
 try simp only[gX]
 refine Lt.sp (i:=5) (λK hK=>?_)
 go_simp
 try rw[e3]
 refine hK.out _ _ (λ_=>A7) (λ_=>?_)
 clear hK K
 try simp only[gX]
 refine Lt.done qk ?_ _
 obtain⟨a0,a1,a2⟩:=Ab HF.o.2.1.2.2.1
 obtain⟨b0,b1,bf⟩:=Ag HF.o.2.1.2.2.2
 go_wp2
 exact bR (v:=Y #[G #[I m,J xb s1 s2,J qb s3 s4],G #[J sa n1 c1,J ta n2 c2]]) qaz rfl ⟨_,_,_,_,_,_,_,_,_,_,_,rfl,HF.o.2.2.2.1,ft.o,HF.o.2.2.1,HF.o.2.2.2.2.more qg⟩):P:=h
theorem qho(h:P:=by
 go_simp
 refine hK.out _ _ (λ_=>⟨l0,l1,l2,l3,l4⟩) (λ_=>?_)
 clear hK K
 try simp only[gX]
 refine Lt.sp (i:=4) (λK hK=>?_)
 go_simp
 try rw[e2]
 refine hK.out _ _ (λ_=>⟨p0,p1,p2,p3,p4⟩) (λ_=>?_)
 clear hK K
 try simp only[gX]
 refine Lt.sp (i:=5) (λK hK=>?_)
 go_simp
 try rw[e3]
 refine hK.out _ _ (λ_=>A7) (λ_=>?_)
 clear hK K
 try simp only[gX]
 refine Lt.done qk ?_ _
 obtain⟨a0,a1,a2⟩:=Ab HF.o.2.1.2.2.1
 obtain⟨b0,b1,bf⟩:=Ag HF.o.2.1.2.2.2
 go_wp2
 exact bR (v:=Y #[G #[I m,J xb s1 s2,J qb s3 s4],G #[J sa n1 c1,J ta n2 c2]]) qaz rfl ⟨_,_,_,_,_,_,_,_,_,_,_,rfl,HF.o.2.2.2.1,ft.o,HF.o.2.2.1,HF.o.2.2.2.2.more qg⟩):P:=h
theorem qhp(h:P:=by
 try simp only[gX]
 refine Lt.ti (i:=11) (v:=?_) P6 ?_ ?_
 rotate_left 1
 ·rintro w ⟨sA,sB,sC⟩
  go_simp
  first|done|with_reducible rfl
 simp only[gX]
 refine Lt.done qk ?_ _
 obtain⟨a0,a1,a2⟩:=Ab HF.o.1
 go_wp2
 exact bR (v:=Y #[G #[I m,J (p_ b1) t1 t2,J qa q1 q2],S tz]) qfk rfl (by first|exact⟨_,_,_,_,_,_,_,T,Rr,_,rfl,HF.o.2.2.1,ft.o,htz,HF.o.2.2.2.2⟩|exact⟨_,_,_,_,_,_,_,T,Rr,rfl,HF.o.2.2.1,ft.o,htz,HF.o.2.2.2.2⟩|exact⟨_,_,_,_,_,_,_,rfl,T,Rr,HF.o.2.2.1,ft.o,htz,HF.o.2.2.2.2⟩)):P:=h
theorem qhq(h:P:=by
 refine hK.out _ _ (λ_=>⟨p0,p1,p2,p3,p4⟩) (λ_=>?_)
 clear hK K
 try simp only[gX]
 refine Lt.sp (i:=3) (λK hK=>?_)
 go_simp
 try rw[e3]
 refine hK.out _ _ (λ_=>o9) (λ_=>?_)
 clear hK K
 try simp only[gX]
 refine Lt.done qk ?_ _
 obtain⟨a0,a1,a2⟩:=Ab HF.o.2.1.2.2.1
 obtain⟨b0,b1,bf⟩:=Ag HF.o.2.1.2.2.2
 go_wp2
 obtain⟨T,Rr,cm,dm⟩:=HF.o.2.2.2.1
 exact bR (v:=Y #[G #[I (n:Int),J xa t1 t2,J qa q1 q2],G #[J sa n1 c1,J ta n2 c2]]) (by simp[results,results30,go_sem,a0,a1,a2,b0,b1]) rfl ⟨_,_,_,_,T,Rr,rfl,cm,dm,HF.o.2.2.1,HF.o.2.2.2.2.more qg⟩):P:=h
theorem qhr(h:P:=by
 refine hK.out _ _ (λ_=>⟨p0,p1,p2,p3,p4⟩) (λ_=>?_)
 clear hK K
 try simp only[gX]
 refine Lt.sp (i:=3) (λK hK=>?_)
 go_simp
 try rw[e3]
 refine hK.out _ _ (λ_=>A7) (λ_=>?_)
 clear hK K
 try simp only[gX]
 refine Lt.done qk ?_ _
 obtain⟨a0,a1,a2⟩:=Ab HF.o.2.1.2.2.1
 obtain⟨b0,b1,bf⟩:=Ag HF.o.2.1.2.2.2
 go_wp2
 exact bR (v:=Y #[G #[I (n:Int),J xa t1 t2,J qa q1 q2],G #[J sa n1 c1,J ta n2 c2]]) qaz rfl ⟨_,_,_,_,_,_,_,_,_,_,_,rfl,HF.o.2.2.2.1,ft.o,HF.o.2.2.1,HF.o.2.2.2.2.more qg⟩):P:=h
theorem qhs(h:P:=by
 refine hK.out _ _ (λ_=>⟨p0,p1,p2,p3,p4⟩) (λ_=>?_)
 clear hK K
 try simp only[gX]
 refine Lt.sp (i:=7) (λK hK=>?_)
 go_simp
 try rw[e3]
 refine hK.out _ _ (λ_=>A7) (λ_=>?_)
 clear hK K
 try simp only[gX]
 refine Lt.done qk ?_ _
 obtain⟨a0,a1,a2⟩:=Ab HF.o.2.1.2.2.1
 obtain⟨b0,b1,bf⟩:=Ag HF.o.2.1.2.2.2
 go_wp2
 exact bR (v:=Y #[G #[I m,J xb s1 s2,J qb s3 s4],G #[J sa n1 c1,J ta n2 c2]]) qaz rfl ⟨_,_,_,_,_,_,_,_,_,_,_,rfl,HF.o.2.2.2.1,ft.o,HF.o.2.2.1,HF.o.2.2.2.2.more qg⟩):P:=h
theorem qht(h:P:=by
 obtain⟨a1,q1,rfl,_⟩:=o1.sl
 obtain⟨a2,q2,rfl,_⟩:=o2.sl
 clear o1 o2 R9 cw p0 p1 r0 r1 fr
 go_wp2
 refine bR (v:=Y #[G #[J a1 (Bl t ss).length q1,J a2 (Bj t ts).length q2],I 0]) (by simp[results,results74,go_sem,s0,s1]) rfl ⟨(mj.setCell (p:=⟨w.heap.size+1,0,N⟩) hR _).setCell (p:=⟨w.heap.size+1,1,N⟩) hR _,_,_,by rw[HD.o],?_,?_⟩
 ·rw[(Nz HD.o).1];exact((fc.o.set qg _).set qg _).wide qg qi
 ·rw[(Nz HD.o).2];exact((oq.o.set qg _).set qg _).wide qg qi):P:=h
theorem qhu(h:P:=by
 have hg6:wc.heap.size≤g6:=(HO6.o.lt g6 rfl).1
 have aj:=bt E5 wm
 clear HA6 HO6
 go_wp2
 refine bR (v:=G #[I 0,I (m:Int),J (p_ g6) (ts.length+1) p6,J a2 rn p2,ze,ze]) qde rfl ⟨Dh (aj.setCell (p:=⟨w.heap.size,1,N⟩) qi _) (Nat.le_succ _) _ _ _ _ _ _,KpS.yes (R:=w.heap.size+1) pe.o HK.o (Hm _ _ _ pq).symm (Ak HX6.o HTA.o qh _) (Or.inr (zo E5.size)) (Ai.set ⟨_,HR6.o⟩ _) _ _ _ _ _ _⟩):P:=h
theorem qhv(h:P:=by
 have jq:=Ad (HS.o.fin aj df qg AL eY)
 obtain⟨u0,u1,u2⟩:=Ab HS.o.k5
 obtain⟨z0,z1,z2⟩:=Ab HS.o.k4
 have zf:=(λj=>fH HS.o.k4 j)
 go_wp2
 obtain⟨jY,⟨T',R',e1,e2⟩,dr⟩:=jq.o
 obtain⟨q0,q1,q2⟩:=Ab jY
 exact bR (v:=G #[I (n:Int),J (p_ g1) nt t2,J (p_ b) nr rc]) qaf rfl (by first|exact⟨_,_,_,_,_,_,_,T',R',rfl,e1,e2,dr.more qg⟩|exact⟨_,_,_,_,_,_,_,rfl,T',R',e1,e2,dr.more qg⟩)):P:=h
theorem qhw(h:P:=by
 go_wp2_with fail
 have hl:=Es (s.pl:Int) sa s.stack.length cp ((s.steps:Int)+1) s.looks 2 q
 unfold Df at hl
 refine(hl _).mono ?_
 rintro e w4 ⟨rfl,bx⟩
 have i8:=Ad (fo.o.bl bx)
 obtain⟨z0,z1,z2,z3,z4,z5,z6,z7,z8,z9⟩:=c10 i8.o.z
 have fz:=fZ i8.o.z
 clear hl bx
 unfold Dq
 go_wp2_with fail
 exact bR (v:=Dq (s.pl:Int) (J sa s.stack.length cp) ((s.steps:Int)+1) s.looks 2 q) qcc rfl ⟨b10 i8.o.b og,Or.inl ⟨2,q,s.steps+1,gu.o,_,_,_,_,_,rfl⟩⟩):P:=h
theorem qdv(h:P:=by
 go_enter func39,ntmps39
 go_wp2_with (first|(at_builtin;refine wpList_append_lies _ rfl (.tmp 23) (.tmp 24) 23 rfl B 9 i0 ze 1 16 underlying23 hi bm bg bi rfl qh _ _ _ rfl HO.o ⟨vb,0,N⟩ 1 1 [y] rfl rfl HN.o K8 qg qn qg hB _ rfl ?_;intro g' cp w2 k1 ae br mo;obtain⟨k2,k3⟩:=HB.o g' cp w2 k1 ae;have HLIE:Hd _:=br;clear ae mo br))
 go_ret
 exact⟨g',cp,rfl,k1,k2,k3,HLIE.o⟩):P:=h
theorem qhx(h:P:=by
 replace HR:=Ad (HR.o.bl aj bz)
 clear bz
 go_wp2_with fail
 try rw[eL]
 clear eL
 refine(HR.o.pick qg 5 qg qg).mono ?_
 rintro e wM ⟨j,rfl,hj,az,am⟩
 replace HL:=Ad (Az HL.o am qg)
 clear am HR
 have HR:=Ad az
 clear az
 obtain⟨k0,k1,k2,k3,k4⟩:=ck5 HL.o
 rcases(show j=0\/j=1\/j=2\/j=3\/j=4 from qg)with rfl|rfl|rfl|rfl|rfl
 all_goals
  go_wp2;go_ret;exact⟨_,rfl,qh,HR.o.more qg⟩):P:=h
theorem qhy(h:P:=by
 obtain⟨z0,z1,z2,zf⟩:=Jp fj.o
 go_wp2_with fail
 obtain⟨y0,y1,y2,_⟩:=Jp (Cx fj.o (I 0) ze nS)
 exact bR (v:=Y #[G #[I 0,ze,nS],I (-1)]) (by simp[results,results97,go_sem,y0,y1,y2]) rfl ⟨_,_,_,jg.o,Or.inr ⟨bb,nb,rfl,rfl,(ue.o.trans dp.o).set3 qg qg _ _ _,ko.o.set3 ⟨_,fj.o⟩ qh qh _ _ _⟩⟩):P:=h
theorem qhz(h:P:=by
 simp only[gX]
 refine Lt.done qk ?_ _
 by_cases hc:c=0
 ·subst hc
  obtain⟨r0,r1,rf⟩:=Ag d8.o;obtain⟨t0,t1,tf⟩:=Ag I1.o.k3;go_wp2;go_roundw
  case rel=>exact⟨k-1,_,_,qg,qp,I1.o.put aj HD5.o⟩
  case measure=>simp[intOf];omega
 ·have mh:(c == 0)=false:=qbj
  go_wp2;go_roundw
  case rel=>exact⟨k-1,_,_,qg,qp,I1.o⟩
  case measure=>simp[intOf];omega):P:=h
theorem qia(h:P:=by
 obtain⟨z0,z1,z2,zf⟩:=Jp ky.o
 go_wp2_with fail
 obtain⟨y0,y1,y2,_⟩:=Jp (Cx ky.o (I 0) ze nS)
 exact bR (v:=Y #[G #[I 0,ze,nS],I (-1)]) (by simp[results,results104,go_sem,y0,y1,y2]) rfl (Or.inr ⟨_,_,_,.bad dh.o,rfl,(ue.o.trans dp.o).set3 qg qg _ _ _,ko.o.set3 ⟨_,ky.o⟩ qh qh _ _ _⟩)):P:=h
theorem qdw(h:P:=by
 have h:=World.ownsRow_lit (base:=w.heap.size+1+1) (e:=103) (size:=3) ((w.alloc (O #[J (M ⟨b,off,N⟩) is.length cap] 53)).alloc (O #[nS] 53)) #[] 0 qi qn qi
 rw[show((w.alloc (O #[J (M ⟨b,off,N⟩) is.length cap] 53)).alloc (O #[nS] 53)).heap.size=w.heap.size+1+1 from qi]at h
 exact h):P:=h
theorem qib(h:P:=by
 clear hn hc
 go_wp2_with (go_at_call 59;refine(Bb t _ ht).mono ?_;rintro e w9 ⟨rfl,rfl⟩;rw[gy])
 exact bR (v:=Y #[G #[nS,nS],I 2]) (by simp[results,results76,go_sem,r0,r1]) rfl ⟨(db.setCell (p:=⟨w.heap.size+1,0,N⟩) hR _).setCell (p:=⟨w.heap.size+1,1,N⟩) hR _,Ug.no HD.o qh⟩):P:=h
theorem qic(h:P:=by
 by_cases he:nm=s
 ·have jj:=Eu he;have HE:Hd (nm=s):=he;clear he;go_wp2;go_ret;exact⟨ba,Or.inl ⟨k,rfl,au,by rw[EN.o];exact HE.o⟩⟩
 ·have jj:=Fx he;have HE:Hd (nm≠s):=he;clear he;go_wp2;go_roundw
  case rel=>exact⟨k+1,qg,qp,Ds HA.o (by rw[EN.o];exact HE.o),trivial⟩
  case measure=>simp[intOf];omega):P:=h
theorem qdx(h:P:=by
 rw[show(decide ((t.size:Int)<=0)&&decide (0<=n)&&decide (n<=2000))=false from qdd]
 clear hz
 go_enter func58,ntmps58
 go_wp2_with (first|(go_at_call 77;refine((Hw.o) _).mono ?_;rintro e w' ⟨rfl,rfl⟩))
 go_ret
 exact⟨aN _ _,rfl⟩):P:=h
theorem qdy(h:P:=by
 rw[show(decide ((t.size:Int)<=0)&&decide (0<=n)&&decide (n<=200))=false from qdd]
 clear hz
 go_enter func58,ntmps58
 go_wp2_with (first|(go_at_call 77;refine((Hw.o) _).mono ?_;rintro e w' ⟨rfl,rfl⟩))
 go_ret
 exact⟨aN _ _,rfl⟩):P:=h
theorem qid(h:P:=by
 rw[show(decide ((t.size:Int)<=0)&&decide (0<=n)&&decide (n<=0))=false from qdd]
 clear hz
 go_enter func58,ntmps58
 go_wp2_with (first|(go_at_call 77;refine((Hw.o) _).mono ?_;rintro e w' ⟨rfl,rfl⟩))
 go_ret
 exact⟨aN _ _,rfl⟩):P:=h
theorem qie(h:P:=by
 rw[show(decide ((t.size:Int)<=2000)&&decide (0<=n)&&decide (n<=0))=false from qdd]
 go_enter func58,ntmps58
 go_wp2_with (first|(go_at_call 77;refine((Hw.o) _).mono ?_;rintro e w' ⟨rfl,rfl⟩))
 go_ret
 exact⟨aN _ _,rfl⟩):P:=h
theorem qif(h:P:=by
 intro i hi
 obtain⟨b',off,ha,h1,h2,h3⟩:=h i hi
 cases ha
 have e:∀o,(w.setCell ⟨b,j,N⟩ v).cell? ⟨g,o,N⟩=w.cell? ⟨g,o,N⟩:=λo=>World.cell?_of_block (w:=w) (hC w ⟨b,j,N⟩ v g (λe=>hb e.symm))
 exact⟨g,0,rfl,by rw[e];exact h1,by rw[e];exact h2,by rw[e];exact h3⟩):P:=h
theorem qdz(h:P:=by
 have il:Bw w w2:=(aN _ _).grown ae qi (λk hk=>(de.lt k hk).1)
 rw[Nat.zero_add,List.nil_append]at af
 obtain⟨g,cp,rfl⟩:=Jv af (λe=>by have:=(bn.1 e).1;cases this)
 clear ae de hn bn
 go_wp2
 go_ret
 exact⟨il,g,cp,rfl,af⟩):P:=h
theorem qig(h:P:=by
 have:=Ma (w.alloc (O #[I n,J xa T.length tc,J qa R.length qc] 26)) (O #[J sa ss.length c1,J ta ts.length c2] 44)
 rw[show(w.alloc (O #[I n,J xa T.length tc,J qa R.length qc] 26)).heap.size=w.heap.size+1 from qi]at this
 exact Rm this):P:=h
theorem qih(h:P:=by
 go_enter func92,ntmps92
 go_wp2_with fail
 go_quiet (first|(go_at_call 98;exact Calls.quiet_of_same (Ng _ _))|(go_at_call 99;exact Calls.quiet_of_same (Lh _ _)))
 go_wp2
 go_ret
 exact⟨below_drewN (aN _ _) _,by simp[e1,e2];try rfl⟩):P:=h
theorem qii(h:P:=by
 clear cm hv HI wy
 go_wp2
 refine bR (v:=G #[I 1,I 0,nS,nS,ze,ze]) (by simp[results,results7,go_sem,r0,r1,r2,r3,r4,r5]) rfl ⟨Dh db (Nat.le_succ _) _ _ _ _ _ _,Hr.zero Q9.o⟩):P:=h
theorem qij(h:P:=by
 have s1:=HS.o.bl hV
 have hb:=n7.o.trans (hV.mono bo)
 exact has_any h sa ta c1 c2 ss ts nm V (by rw[cH s1.blk];rfl) (by rw[cH s1.blk];rfl) (HE.o.rs.bl hb) (HE.o.rt.bl hb) (zo HE.o.l1) (zo HE.o.l2)):P:=h
theorem qik(h:P:=by rcases(show o=0\/o=1\/o=2\/o=3\/o=4\/o=5\/o=6\/o=7\/o=8\/o=9\/o=10\/o=11\/o=12\/o=13\/o=14\/o=15 from qg)with rfl|rfl|rfl|rfl|rfl|rfl|rfl|rfl|rfl|rfl|rfl|rfl|rfl|rfl|rfl|rfl<;>rfl):P:=h
theorem qil(h:P:=by
 go_wp2
 refine bR (v:=G #[I 1,I 0,nS,nS,ze,ze]) qfb rfl ⟨Dh db (Nat.le_succ _) _ _ _ _ _ _,Hr.zero Q9.o⟩):P:=h
theorem qim(h:P:=by
 have h:=Am (w.alloc (O #[J sa ss.length c1,J ta ts.length c2] 44)) (O #[nS,nS] 44)
 rw[show(w.alloc (O #[J sa ss.length c1,J ta ts.length c2] 44)).heap.size=w.heap.size+1 from qi]at h
 exact h):P:=h
theorem qar(h:P:=by
 have HS:Hd (Cd (s.data.toList.take (k+1))=hstep (Cd (s.data.toList.take k)) s[k].toNat):=by rw[Yq s k au];exact hash_snoc _ _
 go_wp2
 go_round
 case rel=>exact⟨k+1,qg,qp,by rw[HS.o];rfl⟩
 case measure=>simp[intOf];omega):P:=h
theorem qin(h:P:=by
 show _=_
 rw[←eW,←eQ]
 have:=Ma (w.alloc (O #[J a is.length ac] 53)) (O #[I 0,ze,nS] 134)
 rwa [show(w.alloc (O #[J a is.length ac] 53)).heap.size=w.heap.size+1 from qi]at this):P:=h
theorem qio(h:P:=by
 have h:=Gk (W.drew.alloc (O #[I 0,nS,nS] 26)) W.heap.size 9 1 qi
 rw[show(W.drew.alloc (O #[I 0,nS,nS] 26)).heap.size=W.heap.size+1 from qi]at h
 exact h):P:=h
theorem qip(h:P:=by
 clear he HI
 go_wp2
 go_roundw
 case rel=>exact Or.inr ⟨by first|trivial|rfl,by subst ek;go_num,HR,by first|trivial|rfl,by first|exact⟨_,rfl⟩|trivial,by first|exact⟨_,rfl⟩|trivial⟩
 case measure=>simp[intOf];omega):P:=h
theorem qiq(h:P:=by
 subst hn
 intro i hi
 obtain⟨h1,h2,h3⟩:=hf i hi
 refine⟨g,0,rfl,?_,?_,?_⟩
 ·rw[Nat.zero_add,h.cellAt _ qg];exact h1
 ·rw[Nat.zero_add,h.cellAt _ qg];exact h2
 ·rw[Nat.zero_add,h.cellAt _ qg];exact h3):P:=h
theorem qir(h:P:=by
 have HD:Hd (Kp w _ _ wr.drew):=HK.o.bl (Below.refl _ _).drew
 go_wp2
 go_region
 all_goals
  go_wp2;go_roundw
  case rel=>exact⟨m+1,qg,qp,Lq HA.o HV.o,HD.o⟩
  case measure=>simp[intOf];omega):P:=h
theorem qea(h:P:=by exact bR (v:=G #[J (p_ g) is.length cp]) (by simp[results,results66,go_sem,c1]) rfl ⟨hB.setCell (p:=⟨w.heap.size+1,0,N⟩) qi _,g,cp,rfl,Ld lp.o qg _⟩):P:=h
theorem qal(h:P:=by
 obtain⟨bc,bf,bs⟩:=vk.o _ cl.1
 go_wp2_with fail
 exact bR (v:=G #[J (p_ g8) n c8]) qfq rfl (Ox EW.o zh co cl qg qg _)):P:=h
theorem qis(h:P:=by exact⟨⟨iN+1,jN,g',cp',AE++[xA],qg,hjN,qp,rfl,by rw[show iN+1+jN=iN+jN+1 from qg],by rw[show iN+1+jN=iN+jN+1 from qg];exact C0.o⟩,Yj⟩):P:=h
theorem qit(h:P:=by
 rw[if_pos qg,if_neg qg,if_pos qg,if_neg qg,if_neg qg,show i*3 / 3=i from qg,show(i*3+1) / 3=i from qg,show(i*3+2) / 3=i from qg]
 exact⟨rfl,rfl,rfl⟩):P:=h
theorem qiu(h:P:=by
 have jj:=Fx he
 have HE:Hd (nm≠s):=he
 clear he
 go_wp2
 go_roundw
 case rel=>exact⟨k+1,qg,qp,Ds HA.o (by rw[EN.o];exact HE.o),trivial⟩
 case measure=>simp[intOf];omega):P:=h
theorem qiv(h:P:=by rwa [show((w.alloc (O #[I n,J xa T.length tc,J qa R.length qc] 26)).alloc (O #[J sa ss.length c1,J ta ts.length c2] 44)).heap.size=w.heap.size+2 from qi]at this):P:=h
theorem qiw(h:P:=by
 go_wp2_with fail
 go_roundw
 case rel=>exact⟨k+1,q,qg,qp,rfl,Or.inr (by rw[Nat.add_sub_cancel];exact HQ.o.symm),iq.o,N9.o,z0,z1,z2,bp⟩
 case measure=>simp[intOf];omega):P:=h
theorem qix(h:P:=by
 unfold Oi
 rw[e,List.length_append,List.length_singleton]
 exact((Gb (Gb (Gb (Gb (Gb (Gb (Gb (Gb (Gb (Gb ⟨h1.1,h2⟩ 0 _) 1 _) 2 _) 3 _) 4 _) 5 _) 6 _) 7 _) 8 _) 9 _)).1):P:=h
theorem qiy(h:P:=by
 have h:=Am (W.drew.alloc (O #[] 9)) (O #[I 0,nS,nS] 26)
 rw[show(W.drew.alloc (O #[] 9)).heap.size=W.heap.size+1 from qi]at h
 exact h):P:=h
theorem qiz(h:P:=by
 clear hz
 go_enter func58,ntmps58
 go_wp2_with (first|(go_at_call 77;refine((Hw.o) _).mono ?_;rintro e w' ⟨rfl,rfl⟩))
 go_ret
 exact⟨aN _ _,rfl⟩):P:=h
theorem qja(h:P:=by
 clear hn
 go_enter func58,ntmps58
 go_wp2_with (first|(go_at_call 77;refine((Hw.o) _).mono ?_;rintro e w' ⟨rfl,rfl⟩))
 go_ret
 exact⟨aN _ _,rfl⟩):P:=h
theorem qeb(h:P:=by rcases(show o=1\/o=2\/o=3\/o=4\/o=5\/o=6\/o=7\/o=8\/o=9\/o=10\/o=11 from qg)with rfl|rfl|rfl|rfl|rfl|rfl|rfl|rfl|rfl|rfl|rfl<;>rfl):P:=h
theorem qjb(h:P:=by
 go_enter func36,ntmps36
 go_wp2_with (first|(go_at_call 59;refine(Bb g.name _ hn).mono ?_;rintro e w9 ⟨rfl,rfl⟩;rw[e1]))
 go_ret
 exact⟨ba,false,rfl,Fh HH.o⟩):P:=h
theorem qjc(h:P:=by
 rcases List.mem_append.1 h with q|q
 ·rcases List.mem_append.1 q with q|q
  ·exact Or.inr (List.mem_of_mem_take q)
  ·exact Or.inl (List.mem_singleton.1 q)
 ·exact Or.inr (List.mem_of_mem_drop q)):P:=h
theorem qjd(h:P:=by
 by_cases hn:Ay (Ea s.stack)
 ·by_cases hk:s.looks=200
  ·rw[Jx hf ho hn hk]at h;cases h
  ·rw[Lj hf ho hn hk]at h;cases h
 ·rw[Nn hf ho hn]at h;cases h):P:=h
theorem qje(h:P:=by
 generalize nx ts k=x at *
 have d3:decide ((2002:Int)<(x.size:Int))=true:=qj
 unfold maxLen at jb
 go_wp2_with fail
 go_ret
 exact⟨bu,false,rfl,Fh HN.o⟩):P:=h
theorem qjf(h:P:=by
 obtain rfl:j=k:=qg
 simp only[if_neg (show ¬ i=j from qg),if_true]
 intro b e1 e2
 obtain⟨zs,k1,_⟩:=h.code i l7
 have:=(k1.lt b e1).2
 have:=(ho.lt b e2).1
 omega):P:=h
theorem qjg(h:P:=by
 go_wp2_with (first|(go_at_call 83;refine(Mc g.name _ G7).mono ?_;rintro e w9 ⟨rfl,rfl⟩;rw[e1]))
 go_ret
 exact⟨bu.alloc bu.size _,false,rfl,Fh HO.o⟩):P:=h
theorem qec(h:P:=by exact((hB.setCell (p:=⟨w.heap.size+1,0,N⟩) qi _).setCell (p:=⟨w.heap.size+1,1,N⟩) qi _).setCell (p:=⟨w.heap.size+1,2,N⟩) qi _):P:=h
theorem qjh(h:P:=by
 go_enter func5,ntmps5
 go_wp2_with (first|(go_at_call 17;refine(Jk _ _ qg qg).mono ?_;rintro e w9 ⟨rfl,rfl⟩))
 go_ret
 exact⟨ba,rfl⟩):P:=h
theorem qji(h:P:=by
 have d3:decide ((200:Int)<(gs.length:Int))=true:=qj
 go_wp2
 go_ret
 exact⟨db,false,rfl,Fh (λk=>by have:=k.2.2.1;simp only at this;omega)⟩):P:=h
theorem qcx(h:P:=by
 have hb:=World.block_lt_of_cell? _ _ h
 rw[World.cell?_alloc_lt _ _ _ qj,World.cell?_alloc_lt _ _ _ qj,World.cell?_alloc_lt _ _ _ hb];exact h):P:=h
theorem qjj(h:P:=by exact nx_bd (λx hx=>by rcases List.mem_append.mp hx with q|q;exact Wv W6.o.2 (List.mem_of_mem_take q);exact Wv W6.o.2 (List.mem_of_mem_drop q)) j):P:=h
theorem qjk(h:P:=by
 rintro w ⟨s1,s2⟩
 obtain⟨-,-,u2,u3,u4,-,-,u7,u8⟩:=ck9 s1
 obtain⟨x0,x1,x2⟩:=Ab s2
 go_simp
 first|done|with_reducible rfl):P:=h
theorem qjl(h:P:=by
 rw[HPY.o.2]
 exact(Ec.setT (Ec.setT (Ec.setT HO2r.o L1.o _) (ju.o.set _) _) ((ju.o.set _).set _) _).wide qg qj):P:=h
theorem qjm(h:P:=by
 rw[HPY.o.1]
 refine(Dm.setT (Dm.setT (Dm.setT HO1r.o L1.o _) (ju.o.set _) _) ((ju.o.set _).set _) _).wide qg ?_
 simp
 omega):P:=h
theorem qed(h:P:=by
 rcases h.row.2 with⟨q,_⟩|⟨g1,V7,cur,q,hg,_⟩
 ·cases q
 ·simp only[Value.slice.injEq,Option.some.injEq,Addr.mk.injEq]at q;omega):P:=h
theorem qjn(h:P:=by
 subst hq
 go_wp2
 go_roundw
 case rel=>exact⟨iN+1,m,g,cp,sx,AE,qg,qg,rfl,qp,HJ⟩
 case measure=>simp[intOf];omega):P:=h
theorem qjo(h:P:=by
 rintro w ⟨s1,s2⟩
 obtain⟨q0,q1,q2,q3,q4,q5⟩:=Bx s1
 obtain⟨r0,r1,r2⟩:=Ab s2
 go_simp
 first|done|with_reducible rfl):P:=h
theorem qjp(h:P:=by
 go_wp2
 go_roundw
 case rel=>exact⟨k+1,_,qg,qp,(by rw[dp.o];exact HW.o),bu,iz⟩
 case measure=>simp[intOf];omega):P:=h
theorem qjq(h:P:=by
 refine⟨h.1,?_⟩
 rcases h.2 with h|⟨g,cap,cur,hv,hg,r⟩
 ·exact Or.inl h
 ·exact Or.inr ⟨g,cap,cur,hv,Nat.le_trans hB hg,r⟩):P:=h
theorem qee(h:P:=by
 simp only[Jd,List.cons.injEq,and_true,true_and]at h
 obtain⟨rfl,rfl,rfl,rfl,rfl⟩:=h
 exact⟨rfl,rfl,Pp _ _,rfl,rfl⟩):P:=h
theorem qjr(h:P:=by exact⟨by rw[cH e];rfl,fH e 0,λy=>by rw[cH (jB e y (i:=0))];rfl⟩):P:=h
theorem qjs(h:P:=by
 rw[eT.out]at hk
 rw[el]at b1
 have hlI:(l:Int)+1<=50:=qg
 clear el
 go_wp2_with fail
 go_meet
 case rel=>exact⟨rfl,rfl⟩):P:=h
theorem qjt(h:P:=by
 have:nx T i=ByteArray.empty:=by simp[nx,gG,List.getElem?_eq_none (Nat.le_of_not_lt hi)]
 rw[this];exact e0):P:=h
theorem qju(h:P:=by
 have d2:((out.size:Int) != (n:Int))=true:=qj
 go_wp2
 go_ret
 exact⟨db,false,rfl,Fh (λk=>h2 k.2.1)⟩):P:=h
theorem qef(h:P:=by
 obtain⟨a',n',c',e,_,q⟩:=HL.o.lx.sl
 cases e
 rcases q with⟨q,_⟩|⟨g',q,_,q2⟩
 ·cases q
 ·cases q;exact q2):P:=h
theorem qjv(h:P:=by
 obtain⟨_,q2,_,_,xs,cvs,lvs,os,q6⟩:=ll.o
 exact⟨q2,by obtain⟨b,c,q,_⟩:=q6.rcd hi;exact⟨b,c,q⟩⟩):P:=h
theorem qeg(h:P:=by
 intro i hi
 obtain⟨b,off,ha,h1,h2,h3⟩:=h i hi
 exact⟨b,off,ha,Aa hb h1,Aa hb h2,Aa hb h3⟩):P:=h
theorem qjw(h:P:=by
 rintro w ⟨s1,s2⟩
 obtain⟨x0,x1,x2⟩:=Ab s1
 obtain⟨y0,y1⟩:=Bg s2
 go_simp
 first|done|with_reducible rfl):P:=h
theorem qjx(h:P:=by
 obtain⟨a',n',c',e,_,q⟩:=ig.o.sl
 cases e
 rcases q with⟨q,_⟩|⟨g',q,_,q2⟩
 ·cases q
 ·cases q;exact q2):P:=h
theorem qjy(h:P:=by
 obtain⟨ys,a1,a2⟩:=h.look i hi
 obtain⟨a',c',e'⟩:=Ax a1.own
 rw[e]at e'
 cases e'
 exact(hw.2.2.2.2 i hi).2.2.1):P:=h
theorem qeh(h:P:=by
 obtain⟨ys,a1,a2⟩:=h.code i hi
 obtain⟨g,c,e⟩:=h.som i hi
 exact⟨_,ys,g,c,e,a1.own,a2,hb.cn i,hb.ct i⟩):P:=h
theorem qjz(h:P:=by
 go_wp2_with fail
 go_roundw
 case rel=>exact⟨k+1,qg,qp,qaj,M2⟩
 case measure=>simp[intOf];omega):P:=h
theorem qka(h:P:=by
 rintro w ⟨s1,s2,s3,s4⟩
 have p0:=Dx s3
 obtain⟨x0,x1,x2⟩:=Ab s4
 go_simp
 first|done|with_reducible rfl):P:=h
theorem qkb(h:P:=by
 go_wp2_with (go_at_call 59;refine(HN.o _).mono ?_;rintro e w' ⟨rfl,rfl⟩)
 go_ret
 exact⟨dj,qci⟩):P:=h
theorem qkc(h:P:=by
 go_wp2
 go_region
 all_goals
  go_wp2;go_ret;exact⟨by repeat (first|exact dj|apply Below.drew),qci⟩):P:=h
theorem qkd(h:P:=by
 have:=tc_push (ts:=ts) (ms:=ms) (st:=st) h3 (by rw[h4];exact h1) (by rw[h4];exact h0)
 rw[h4]at this;exact this):P:=h
theorem qei(h:P:=by
 have AG:Hd _:=e
 clear e h
 go_wp2_with fail
 go_meet
 case rel=>exact⟨rfl,po,by rw[AG.o];exact jn,F3⟩):P:=h
theorem qke(h:P:=by
 have HA0:Hd _:=hA0
 clear hA0
 go_wp2_with fail
 go_meet
 case rel=>exact⟨congrArg Value.string HA0.o,rfl⟩):P:=h
theorem qkf(h:P:=by rw[ae.cell_far p (World.block_lt_of_cell? _ _ h) (λe=>by have:=(mw.o.lt _ e.symm).1;omega)];exact h):P:=h
theorem qkg(h:P:=by
 rcases Nat.lt_or_ge i' k with h|h
 ·exact HK.o i' h
 ·obtain rfl:i'=k:=qg;rw[<- HI.o];exact hb):P:=h
theorem qej(h:P:=by
 rcases Nat.lt_or_ge i j with q|q
 ·exact h.apl i j q hj b hb
 ·exact λe=>h.apl j i qg hi b e hb):P:=h
theorem qek(h:P:=by
 rcases lh with r|r
 ·left;rw[EXV.o,←r];exact q
 ·right;rw[r]at q;cases q;exact Nat.le_refl _):P:=h
theorem qkh(h:P:=by
 rw[gG,gG,List.getElem?_map,gQ h]
 rfl):P:=h
theorem qki(h:P:=by
 rintro e w' ⟨s,rfl,hs,hg,q,hq,hr⟩
 exact⟨s,rfl,hs,⟨Dr h1 hg,q,qg,hr⟩,hg⟩):P:=h
theorem qkj(h:P:=by
 rintro w ⟨s1,s2,s3,s4⟩
 obtain⟨q0,q1,q2⟩:=Ab s4
 go_simp
 first|done|with_reducible rfl):P:=h
theorem qel(h:P:=by
 obtain⟨T0,R0,ii,ja⟩:=HU.o.st
 exact hF w4 (R+1) n k5 _ _ T0 R0 pp ul ii ja qg):P:=h
theorem qkk(h:P:=by
 go_wp2
 go_ret
 exact⟨db,false,rfl,Fh (λk=>by have:=k.1;rw[EV.o]at this;cases this)⟩):P:=h
theorem qkl(h:P:=by
 rcases h with⟨_,_,h⟩|⟨h1,rfl,_⟩
 ·cases h
 ·rw[List.take_of_length_le (Nat.le_refl _)];rfl):P:=h
theorem qkm(h:P:=by
 go_enter func92,ntmps92
 go_wp2
 go_ret
 exact⟨aN _ _,rfl⟩):P:=h
theorem qkn(h:P:=by
 go_enter func51,ntmps51
 go_wp2
 go_ret
 exact⟨rfl,aN _ _⟩):P:=h
theorem qko(h:P:=by exact Jw (Jw (Jw (Al vh.o qg) qg _) qg _) qg _):P:=h
theorem qkp(h:P:=by exact Jw (Jw (Jw (Al oq.o qg) qg _) qg _) qg _):P:=h
theorem qax(h:P:=by
 rintro w ⟨s1,s2,s3⟩
 obtain⟨q0,q1,q2⟩:=Ab s3
 go_simp
 first|done|with_reducible rfl):P:=h
theorem qkq(h:P:=by
 rcases Nat.lt_or_ge b w.heap.size with h'|h'
 ·exact h'
 ·rw[Array.getElem?_eq_none h']at h;cases h):P:=h
theorem qkr(h:P:=by
 rintro w s1
 obtain⟨q0,q1,q2,q3,q4,q5⟩:=Bx s1
 go_simp
 first|done|with_reducible rfl):P:=h
theorem qks(h:P:=by rintro w ⟨gm,fl⟩;obtain⟨c0,c1⟩:=Bg gm;go_simp;first|done|with_reducible rfl):P:=h
theorem qkt(h:P:=by
 rw[Mk h]at *
 unfold Bj
 rw[List.take_succ_eq_append_getElem h,List.filter_append]
 simp[hn]):P:=h
theorem qku(h:P:=by
 rw[Ol h]at *
 unfold Bl
 rw[List.take_succ_eq_append_getElem h,List.filter_append]
 simp[hn]):P:=h
theorem qkv(h:P:=by
 rintro w ⟨s1,s2⟩
 obtain⟨q0,q1,q2⟩:=Ab s2
 go_simp
 first|done|with_reducible rfl):P:=h
theorem qkw(h:P:=by
 rcases h.2 with h|⟨g,cap,cur,hv,hg,r⟩
 ·exact Or.inl h
 ·exact Or.inr ⟨g,cap,hv⟩):P:=h
theorem qem(h:P:=by exact(((oq.o.set qg _).set qg _).set qg _).wide qg qi):P:=h
theorem qen(h:P:=by exact(((fc.o.set qg _).set qg _).set qg _).wide qg qi):P:=h
theorem qkx(h:P:=by
 clear bh o7 kt
 go_wp2_with fail
 go_ret
 exact Or.inr ⟨rfl,_,_,HF.o,fk.o,HD.o⟩):P:=h
theorem qky(h:P:=by
 rcases h with⟨h1,rfl,_⟩|⟨h1,rfl,_⟩
 ·rw[List.length_take];omega
 ·simp;omega):P:=h
theorem qkz(h:P:=by exact⟨rfl,(((Below.refl _ _).drew.alloc (Nat.le_refl _) _).trans (ah.mono qi))⟩):P:=h
theorem qla(h:P:=by
 rcases tq.2 with⟨e,h0⟩|⟨g,cap,cur,e,_⟩
 ·omega
 ·exact⟨g,cap,e⟩):P:=h
theorem qlb(h:P:=by rintro w hSw;obtain⟨c0,c1⟩:=Bg hSw;go_simp;first|done|with_reducible rfl):P:=h
theorem qlc(h:P:=by
 go_wp2_with fail
 go_meet
 case rel=>exact⟨rfl,po,by rw[AG.o];exact km,vq⟩):P:=h
theorem qld(h:P:=by rw[←e3];exact s _ 1 44 _ (Or.inr rfl) (Do.set _) (s _ 0 44 _ (Or.inr rfl) Do sp2)):P:=h
theorem qle(h:P:=by rw[←e3];exact d _ 1 44 _ (Or.inr rfl) (Do.set _) (d _ 0 44 _ (Or.inr rfl) Do st2)):P:=h
theorem qlf(h:P:=by rw[gG,gG,List.getElem?_append_left h]):P:=h
theorem qlg(h:P:=by
 rw[if_pos k,qx_lt k]
 exact⟨ys,Cw a hg (ne a qh) hb qh,b⟩):P:=h
theorem qlh(h:P:=by
 rintro w ⟨s0,s1,s2,s3,s4,s5,s6,s7⟩
 go_simp
 first|done|with_reducible rfl):P:=h
theorem qli(h:P:=by
 rcases HM.o with⟨h1,_,_⟩|⟨_,_,h1⟩
 ·exact h1
 ·rw[hd]at h1;cases h1):P:=h
theorem qlj(h:P:=by
 unfold Aq at hp
 simp only[Bool.and_eq_true,decide_eq_true_eq]at hp
 exact hp.1.1):P:=h
theorem qeo(h:P:=by
 obtain⟨ys,a1,a2⟩:=h.look i hi
 exact⟨_,ys,a1.own,a2,hb.ln i,hb.lx i⟩):P:=h
theorem qlk(h:P:=by exact⟨⟨k+1,qg,qp,c1,c2,hB.drew⟩,Yj⟩):P:=h
theorem qll(h:P:=by
 simp only[if_neg (show ¬ i=k from qg)]
 exact⟨zs,hsame k1 qh,k2⟩):P:=h
theorem qlm(h:P:=by
 refine Va ((Vt h).sublist ?_)
 exact(List.filter_sublist).map _):P:=h
theorem qln(h:P:=by obtain⟨is,ys,g,c,e,a,b⟩:=h;exact⟨is,ys,g,c,e,hk _ _ a,b⟩):P:=h
theorem qcl(h:P:=by intro w hSw;(try dsimp only at hSw);go_simp;first|done|with_reducible rfl):P:=h
theorem qay(h:P:=by
 rintro w ⟨s0,s1,s2,s3,s4⟩
 go_simp
 first|done|with_reducible rfl):P:=h
theorem qbn(h:P:=by
 intro w hSw
 try dsimp only at hSw
 go_simp
 first|done|with_reducible rfl):P:=h
theorem Zm(h:P:=by
 go_enter func111,ntmps111
 go_wp2
 go_ret2
 exact⟨rfl,rfl⟩):P:=h
theorem qbo(h:P:=by subst q;obtain⟨B4,q⟩:=ht;rw[hh]at q;cases q;exact hT rfl):P:=h
theorem qcm(h:P:=by
 rintro w ⟨sA,sB,sC,sD⟩
 go_simp
 first|done|with_reducible rfl):P:=h
theorem Wq(h:P:=by
 go_enter func77,ntmps77
 go_wp2
 go_ret2
 exact⟨rfl,rfl⟩):P:=h
theorem qep(h:P:=by
 go_enter func99,ntmps99
 go_wp2
 go_ret
 exact⟨rfl,rfl⟩):P:=h
theorem qeq(h:P:=by
 go_enter func28,ntmps28
 go_wp2
 go_ret
 exact⟨rfl,rfl⟩):P:=h
theorem qer(h:P:=by
 go_enter func17,ntmps17
 go_wp2
 go_ret
 exact⟨rfl,rfl⟩):P:=h
theorem qbp(h:P:=by
 rintro w ⟨sA,sB,sC⟩
 go_simp
 first|done|with_reducible rfl):P:=h
theorem qbz(h:P:=by
 rintro w ⟨sB,sA⟩
 go_simp
 first|done|with_reducible rfl):P:=h
theorem qy(h:P:=by
 rintro w ⟨sA,sB⟩
 go_simp
 first|done|with_reducible rfl):P:=h
theorem qes(h:P:=by exact Or.inl (Or.inr (Or.inr (Or.inr (Or.inr (Or.inr q)))))):P:=h
theorem qet(h:P:=by exact Or.inl (Or.inr (Or.inr (Or.inr (Or.inr (Or.inl q)))))):P:=h
theorem qcy(h:P:=by
 intro g' ai w' h1 h2 h3 h4
 exact h g' ai w' h1 h2 h3):P:=h
theorem qam(h:P:=by
 rintro w sA
 go_simp
 first|done|with_reducible rfl):P:=h
theorem qcz(h:P:=by
 rintro w s1
 go_simp
 first|done|with_reducible rfl):P:=h
theorem qca(h:P:=by
 intro g' ai w' h1 h2 h3 h4
 exact h g' ai w' h1 h2):P:=h
theorem qcb(h:P:=by exact⟨N,0,by rw[h0],λi hi=>qg⟩):P:=h
theorem qeu(h:P:=by subst e;rw[if_pos rfl,if_pos qg,Gw]):P:=h
theorem qev(h:P:=by exact Or.inl (Or.inr (Or.inr (Or.inr (Or.inl q))))):P:=h
theorem qew(h:P:=by
 go_ret
 exact⟨bu,true,rfl,Lx HO.o⟩):P:=h
theorem qex(h:P:=by
 go_ret
 exact⟨hB.drew,false,rfl,F6.o⟩):P:=h
theorem qda(h:P:=by
 subst ek
 go_wp2
 go_ret
 exact⟨rfl,hB⟩):P:=h
theorem qan(h:P:=by
 go_wp2
 go_ret
 exact⟨rfl,rfl⟩):P:=h
theorem qdb(h:P:=by rw[hq i hi];exact Nat.zero_le _):P:=h
theorem qdc(h:P:=by simp[results,results112,go_sem,Dq,k0,k1,k2,k3,k4,k5,k6,k7,k8,k9]):P:=h
theorem qcc(h:P:=by simp[results,results107,go_sem,Dq,z0,z1,z2,z3,z4,z5,z6,z7,z8,z9]):P:=h
theorem qdd(h:P:=by rw[Bool.eq_false_iff];simp only[ne_eq,Bool.and_eq_true,decide_eq_true_eq];omega):P:=h
theorem qey(h:P:=by simp[results,results48,go_sem,y0,y1,y2,y3,y4,y5,y6,y7,y8,y9]):P:=h
theorem qez(h:P:=by simp only[Jh,Bool.and_eq_true,decide_eq_true_eq]at cm;simp;omega):P:=h
theorem qfa(h:P:=by rw[World.cell?_alloc_lt _ _ _ (World.block_lt_of_cell? _ _ h)];exact h):P:=h
theorem qde(h:P:=by simp[results,results22,go_sem,r0,r1,r2,r3,r4,r5]):P:=h
theorem qdf(h:P:=by simp[results,results21,go_sem,r0,r1,r2,r3,r4,r5]):P:=h
theorem qfb(h:P:=by simp[results,results6,go_sem,r0,r1,r2,r3,r4,r5]):P:=h
theorem qfc(h:P:=by rw[<- e6];exact aN _ _):P:=h
theorem qaz(h:P:=by simp[results,results13,go_sem,a0,a1,a2,b0,b1]):P:=h
theorem qcn(h:P:=by rw[←e3];exact aN _ _):P:=h
theorem qba(h:P:=by rw[←e6];exact aN _ _):P:=h
theorem qdg(h:P:=by simp only[Bool.and_eq_true,decide_eq_true_eq];omega):P:=h
theorem qco(h:P:=by rw[List.length_append,List.length_singleton];omega):P:=h
theorem qcp(h:P:=by rw[Nat.zero_add,List.nil_append]at ik;exact ik):P:=h
theorem qfd(h:P:=by show _=_;rw[←om,←ux];exact Am _ _):P:=h
theorem qfe(h:P:=by simp[results,results101,go_sem,resV,resA]):P:=h
theorem qff(h:P:=by show _=_;rw[←eW,←eQ];exact Rm (Ma _ _)):P:=h
theorem qfg(h:P:=by simp[results,results96,go_sem,y0,y1,y2]):P:=h
theorem qas(h:P:=by simp[results,results87,go_sem,y0,y1,y2]):P:=h
theorem qaf(h:P:=by simp[results,results33,go_sem,q0,q1,q2]):P:=h
theorem qat(h:P:=by simp[results,results34,go_sem,q0,q1,q2]):P:=h
theorem qfh(h:P:=by rw[cH fo.o.blk,←EQV.o];rfl):P:=h
theorem qfi(h:P:=by show _=_;rw[←eV,←E6];exact Am _ _):P:=h
theorem qfj(h:P:=by show _=_;rw[←eV,←Q3];exact Am _ _):P:=h
theorem qau(h:P:=by show _=_;rw[←eV,←nu];exact Am _ _):P:=h
theorem qfk(h:P:=by simp[results,results4,go_sem,a0,a1,a2]):P:=h
theorem qbq(h:P:=by rw[Lib.alloc_old _ _ _ (Bq nk)];exact nk):P:=h
theorem qdh(h:P:=by rw[List.length_append,List.length_singleton]):P:=h
theorem qfl(h:P:=by intro k hk;simp[Value.ownBlock]at hk;omega):P:=h
theorem qfm(h:P:=by simp[results,results74,go_sem,r0,r1]):P:=h
theorem qfn(h:P:=by simp[results,results75,go_sem,r0,r1]):P:=h
theorem qfo(h:P:=by rw[<- eq];exact Cl x n W I8 h1 h8):P:=h
theorem qbr(h:P:=by show _=_;rw[←eW];exact Kj _ _ _):P:=h
theorem qbs(h:P:=by show _=_;rw[←eW];exact Kk _ _ _):P:=h
theorem qcd(h:P:=by show _=_;rw[←e6,←eRR];exact Ma _ _):P:=h
theorem qdi(h:P:=by show _=_;rw[←sj];exact Am _ _):P:=h
theorem qfp(h:P:=by show _=_;rw[<- eA];exact Am _ _):P:=h
theorem qdj(h:P:=by show _=_;rw[<- eC];exact Am _ _):P:=h
theorem qav(h:P:=by simp[results,results68,go_sem,bs]):P:=h
theorem qfq(h:P:=by simp[results,results55,go_sem,bs]):P:=h
theorem qfr(h:P:=by rw[he,decide_eq_false_iff_not];exact hz):P:=h
theorem qce(h:P:=by simp[ix,gG,q]):P:=h
theorem qfs(h:P:=by simp only[Nat.min_def];split<;>omega):P:=h
theorem qbb(h:P:=by rw[<- eD];exact(Below.refl _ _).drew):P:=h
theorem qq(h:P:=by rw[←eD];exact(Below.refl _ _).drew):P:=h
theorem qbt(h:P:=by rw[cH fo.o.blk];rfl):P:=h
theorem qcf(h:P:=by rw[cH B7.o.blk];rfl):P:=h
theorem qbc(h:P:=by simp[results,results84,go_sem]):P:=h
theorem qft(h:P:=by show w.heap.size≤w2.heap.size;omega):P:=h
theorem qbd(h:P:=by simp[results,results29,go_sem]):P:=h
theorem qbe(h:P:=by intro u hu;simp at hu;subst hu;rfl):P:=h
theorem qao(h:P:=by intro u hu;simp at hu;rw[hu];rfl):P:=h
theorem qfu(h:P:=by rw[he,decide_eq_true_eq];exact hz):P:=h
theorem qfv(h:P:=by rw[bu.block _ hwP];exact KB5.o):P:=h
theorem qfw(h:P:=by rw[decide_eq_false_iff_not];omega):P:=h
theorem qfx(h:P:=by rw[jB h.k5];rfl):P:=h
theorem qfy(h:P:=by rw[jB hbk];rfl):P:=h
theorem qap(h:P:=by rw[←eW];exact Kj _ _ _):P:=h
theorem qaq(h:P:=by rw[←eW];exact Kk _ _ _):P:=h
theorem qfz(h:P:=by rw[←eRR];exact HF.o.bel.size):P:=h
theorem qdk(h:P:=by rw[ByteArray.size_append];omega):P:=h
theorem qcq(h:P:=by rw[cH h.blk];rfl):P:=h
theorem qdl(h:P:=by rw[jB h1];rfl):P:=h
theorem qga(h:P:=by rw[jB h7];rfl):P:=h
theorem qcg(h:P:=by rw[cH yw];rfl):P:=h
theorem qgb(h:P:=by rw[List.length_append];omega):P:=h
theorem qcr(h:P:=by simpa [Value.ownBlock] using q):P:=h
theorem qgc(h:P:=by rw[cH D3];rfl):P:=h
theorem qgd(h:P:=by rw[←eX,←eq];simp[go_sem]):P:=h
theorem qge(h:P:=by rw[←edt];exact HMD.o.t2):P:=h
theorem qag(h:P:=by rw[List.length_take];omega):P:=h
theorem qah(h:P:=by rw[cH h];rfl):P:=h
theorem qcs(h:P:=by rw[IntKind.wrap_i64];omega):P:=h
theorem qch(h:P:=by rw[List.length_append];rfl):P:=h
theorem qdm(h:P:=by simp only[Tm]at k;omega):P:=h
theorem qdn(h:P:=by intro b hb;cases hb;omega):P:=h
theorem qbu(h:P:=by injection e with e;omega):P:=h
theorem qbf(h:P:=by rw[←eW];simp[go_sem]):P:=h
theorem qct(h:P:=by unfold World.alloc;simp):P:=h
theorem qdo(h:P:=by simp[Act.eval,Act.put]):P:=h
theorem qdp(h:P:=by rw[Ch];omega):P:=h
theorem qdq(h:P:=by rw[EM.o];exact au):P:=h
theorem qdr(h:P:=by rw[ESM.o];exact hq):P:=h
theorem qcu(h:P:=by simp[Value.oneCell']):P:=h
theorem qn(h:P:=by unfold maxLen;omega):P:=h
theorem Yj(h:P:=by simp[intOf];omega):P:=h
theorem qbg(h:P:=by simp[Gl];omega):P:=h
theorem qbh(h:P:=by simp at hk;omega):P:=h
theorem qbi(h:P:=by unfold Ar;simp):P:=h
theorem qcv(h:P:=by rw[<- ew];simp):P:=h
theorem qci(h:P:=by rw[HC.o];rfl):P:=h
theorem qcj(h:P:=by simp at h;omega):P:=h
theorem qcw(h:P:=by rw[HF.o];rfl):P:=h
theorem qai(h:P:=by rw[←eW];simp):P:=h
theorem qaw(h:P:=by simp;try omega):P:=h
theorem qck(h:P:=by simpa using hj):P:=h
theorem qbj(h:P:=by simpa using hc):P:=h
theorem qbk(h:P:=by simpa using hn):P:=h
theorem qbv(h:P:=by rw[el];simp):P:=h
theorem qr(h:P:=by simp[go_sem]):P:=h
theorem Zl(h:P:=by simpa using h):P:=h
theorem qj(h:P:=by simp;omega):P:=h
theorem qbw(h:P:=by simp[Ar]):P:=h
theorem qk(h:P:=by kernel_rfl):P:=h
theorem Zk(h:P:=by simp at hi):P:=h
theorem qbx(h:P:=by simp[Vu]):P:=h
theorem qak(h:P:=by simp at h):P:=h
theorem qu(h:P:=by simp[*]):P:=h
theorem qbl(h:P:=by cases hx):P:=h
theorem qz(h:P:=by cases q):P:=h
theorem qt(h:P:=by cases e):P:=h
theorem qaj(h:P:=by trivial):P:=h
theorem qh(h:P:=by decide):P:=h
theorem qp(h:P:=by go_num):P:=h
theorem qg(h:P:=by omega):P:=h
theorem qi(h:P:=by simp):P:=h
theorem qo(h:P:=by rfl):P:=h
end Go.Proofs.YtoihflimijabjaaGreatDoor
