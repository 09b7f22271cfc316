import Derived.Below
import Derived.BigQuiet
import Derived.Carry
import Derived.ChangeOld
import Derived.Deep.AppendLies
import Derived.Deep.CutBlock
import Derived.Deep.DeepCutAuto
import Derived.Deep.DeepHandedRow
import Derived.Deep.LoopGhost
import Derived.Deep.QuietTactic
import Derived.Deep.RegionHeld
import Derived.Deep.RegionHeld3
import Derived.Deep.RegionLaw
import Derived.Deep.RegionWith
import Derived.Deep.Slices
import Derived.Deep.Strs
import Derived.DeepKeys5
import Derived.Defers
import Derived.Ground.Names2Prog
import Derived.Ground.SlgnProg
import Derived.LaidSub
import Derived.Laws.AppendOwnNone
import Derived.Laws.CopyOwn
import Derived.Laws.CopyRow
import Derived.Lib.AppendIntMem
import Derived.Lib.Builder
import Derived.Lib.ItoaNum
import Derived.Lib.LaidTab
import Derived.Lib.SmallJoins
import Derived.LoopIn
import Derived.LoopNIn
import Derived.MakeChecks
import Derived.Maps.AppendAt
import Derived.Maps.OwnSet
import Derived.Maps.Views
import Derived.OpenShut
import Derived.OpenVars
import Derived.OwnWalkIn
import Derived.ProofKit
import Derived.RangeFuncBound
import Derived.RangeFuncCalls
import Derived.RangeFuncLeaves
import Derived.RangeFuncNested
import Derived.Recover
import Derived.Shelf.Abstract
import Derived.Shelf.LaysM
import Derived.Shelf.RegionOpen
import Derived.Shelf.SlSorted.Search
import Derived.Shelf.Slices.Clone
import Derived.Shelf.Slices.Turned
import Derived.Shelf.SlicesE.Clone
import Derived.Shelf.Small.Strs
import Derived.Shelf.Spec.SlicesInsertGrow
import Derived.Shelf.Strconv.Itoa0
import Derived.Shelf.Strconv.Itoa1
import Derived.Shelf.Strconv.Itoa2
import Derived.Shelf.Strconv.Itoa3
import Derived.SliceStrings
import Derived.TacticsInMore
import Derived.WalkKit
import Derived.WalkLawsBesides
import Derived.WalkMore
import Derived.WalkSpells
namespace Go.Proofs.YtnflkpmmfpfhlaaGreatDoor
open Value renaming slice->J,string->S,bool->F,agg->G,tuple->Y
open Option renaming some->M,none->N
open Obj renaming cells->O
open Go renaming Value->Z
open _root_ renaming Nat->X
set_option linter.unusedVariables false
set_option linter.unusedSimpArgs false
variable {P:Prop}
theorem qht(h:P:=by
 have lq:xs.length=R.length*3:=r.row.1
 have ne:∀ {e sz n:X} {u:Z} {ys:List Z},w.ownsRow B e sz u n ys->e≠73->∀b,u.ownBlock=M b->v.ownBlock≠M b:=λq he=>apart q r.row he
 refine⟨_,λi=>if i<R.length then cv i else c,λi=>if i<R.length then lv i else d,by rw[List.length_append];exact Ak ho ht qh x,λi hi=>?_,λi hi=>?_,λi hi=>?_,λi j n9 hj b e=>?_,λi j n9 hj b e=>?_⟩
 ·rw[List.length_append,List.length_singleton]at hi
  rcases Nat.lt_or_ge i R.length with k|k
  ·obtain⟨a,b,e⟩:=r.fil i k
   rw[if_pos k,if_pos k,Yh k];refine⟨?_,?_,?_⟩<;>rw[List.getElem?_append_left qg]<;>assumption
  ·obtain rfl:i=R.length:=qg
   rw[if_neg qg,if_neg qg,Yi];refine⟨?_,?_,?_⟩
   ·rw[List.getElem?_append_right qg,show R.length*3-xs.length=0 from qg];rfl
   ·rw[List.getElem?_append_right qg,show R.length*3+1-xs.length=1 from qg];rfl
   ·rw[List.getElem?_append_right qg,show R.length*3+2-xs.length=2 from qg];rfl
 ·rw[List.length_append,List.length_singleton]at hi
  rcases Nat.lt_or_ge i R.length with k|k
  ·obtain⟨ys,a,b⟩:=r.code i k
   show ∃ys,World.ownsRow _ _ _ _ (if i<R.length then cv i else c) _ _/\_;rw[if_pos k,Yh k];exact⟨ys,Dk a hg (ne a qh) hb qh,b⟩
  ·obtain rfl:i=R.length:=qg
   show ∃ys,World.ownsRow _ _ _ _ (if R.length<R.length then cv R.length else c) _ _/\_;rw[if_neg qg,Yi];exact⟨zs,Dk h1 hg (ne h1 qh) hb qh,h2⟩
 ·rw[List.length_append,List.length_singleton]at hi
  rcases Nat.lt_or_ge i R.length with k|k
  ·obtain⟨ys,a,b⟩:=r.look i k
   show ∃ys,World.ownsRow _ _ _ _ (if i<R.length then lv i else d) _ _/\_;rw[if_pos k,Yh k];exact⟨ys,Dk a hg (ne a qh) hb qh,b⟩
  ·obtain rfl:i=R.length:=qg
   show ∃ys,World.ownsRow _ _ _ _ (if R.length<R.length then lv R.length else d) _ _/\_;rw[if_neg qg,Yi];exact⟨us,Dk h3 hg (ne h3 qh) hb qh,h4⟩
 ·rw[List.length_append,List.length_singleton]at hj
  have hi:i<R.length:=qg;simp only[if_pos hi]at e
  rcases Nat.lt_or_ge j R.length with k|k
  ·simp only[if_pos k];exact r.apc i j n9 k b e
  ·simp only[if_neg (show ¬ j<R.length from qg)];exact hc i hi b e
 ·rw[List.length_append,List.length_singleton]at hj
  have hi:i<R.length:=qg;simp only[if_pos hi]at e
  rcases Nat.lt_or_ge j R.length with k|k
  ·simp only[if_pos k];exact r.apl i j n9 k b e
  ·simp only[if_neg (show ¬ j<R.length from qg)];exact hd i hi b e):P:=h
theorem qhu(h:P:=by
 obtain⟨x0,x1,x2,xf⟩:=Ci HQ.o
 go_wp2_with fail
 clear x0 x1 x2 xf
 refine(vh.o w2 dy.o).mono ?_
 rintro e w9 ⟨yu,g1,p1,v2,rfl,o1,o2⟩
 obtain⟨a2,p2,rfl,_⟩:=o2.sl
 have yd:=Ab (Ac yu HZ.o)
 have Y7:=Ab (bt dy.o yu)
 have mw:=Ab (show Dz w9 w.heap.size (J (p_ g1) T.length p1) (J a2 R.length p2) T R from ⟨Ah o1.own (zo dy.o.size),⟨g1,p1,rfl⟩,o2.recO.base (zo dy.o.size)⟩)
 clear yu o1 o2 HQ HP HZ vh dy
 obtain⟨K7,K6,K5,K4,J9,J8,J7,J6,J5,J4⟩:=Et yd.o
 have zcf:=fZ yd.o
 obtain⟨l,el⟩:∃l:List (X×X×Z),l=[((w.heap.size+1+1),0,I 9),((w.heap.size+1+1),1,ze),((w.heap.size+1+1),2,nS),((w.heap.size+1+1),3,I n),((w.heap.size+1+1),4,J (p_ g1) T.length p1),((w.heap.size+1+1),5,J a2 R.length p2),((w.heap.size+1+1),6,nS),((w.heap.size+1+1),7,nS),((w.heap.size+1+1),8,ze),((w.heap.size+1+1),9,ze)]:=⟨_,rfl⟩
 have bu:∀x∈l,x.1=(w.heap.size+1+1):=Xg
 have bn:=De l w9 _ bu yd.o
 have hS:=mw.o.setU bu yd.o
 have fa:Bw w (Bo w9 l):=Bg l w9 Y7.o (λx hx=>qac)
 obtain⟨V,eV⟩:=Aj (Bo w9 l)
 rw[eV]at bn fa hS
 rw[el]at bn eV
 simp only[Bo,List.foldl]at eV
 simp only[List.foldl,List.setIfInBounds_toArray,List.set_cons_zero,List.set_cons_succ]at bn
 have HV:=Ab bn
 have gj:=Ab fa
 have im:=Ab hS
 clear bn fa el bu hS
 go_wp2_with fail
 try rw[eV]
 obtain⟨y0,y1,y2,y3,y4,y5,y6,y7,y8,y9⟩:=Et HV.o
 exact bR (v:=G #[I 9,ze,nS,I n,J (p_ g1) T.length p1,J a2 R.length p2,nS,nS,ze,ze]) qee rfl (by obtain⟨zs,kv,lv,rr⟩:=im.o.rcs;exact⟨gj.o,⟨9,⟨#[]⟩,[],n,T,R,[],[],⟨#[]⟩,⟨#[]⟩⟩,_,_,_,_,_,zs,kv,lv,rfl,HSY.o,Ff _ _,im.o.txt,rr,Ff _ _,Ff _ _⟩)):P:=h
theorem qhv(h:P:=by
 refine Lt.sp (i:=3) (λK hK=>?_)
 go_simp
 refine(Do.o _ (bt HB.o bA)).mono ?_
 rintro e wB ⟨gy,u1,u2,rfl,kt,ks⟩
 obtain⟨a3,p3,rfl,-⟩:=kt.sl
 obtain⟨a4,p4,rfl,-⟩:=ks.sl
 have bB:=bt bA gy
 replace i6:=i6.bl gy
 replace ii:=ii.bl gy
 replace zP:=Ac gy zP
 refine hK.out _ _ (λ_=>bh.o _ bB) (λ_=>?_)
 clear hK K
 try simp only[gX]
 refine Lt.sp (i:=5) (λK hK=>?_)
 go_simp
 refine(HTC.o _ (bt HB.o bB)).mono ?_
 rintro e wZ ⟨li,g3,rfl,oz⟩
 have bZ:=bt bB li
 replace i6:=i6.bl li
 replace ii:=ii.bl li
 replace kt:=kt.bl li
 replace ks:=ks.bl li
 replace zP:=Ac li zP
 refine hK.out _ _ (λ_=>bh.o _ bZ) (λ_=>?_)
 clear hK K
 try simp only[gX]
 refine Lt.sp (i:=6) (λK hK=>?_)
 go_simp
 refine(Uj (n:=n) HL.o (HT.o.bl (bt HB.o bZ)) (HP.o.bl (bt HB.o bZ)) i6 ii kt ks oz).mono ?_
 rintro e wC ⟨jo,v,rfl,wd,T',R',cc,tx,qv,zs,kv,lv,rfl,ww,ow⟩
 have rd:=Ab ww
 clear ww
 obtain⟨t1,t2,rfl⟩:=Al ow.txs
 obtain⟨q1,q2,rfl⟩:=Al ow.rq.row
 replace ow:=ow.base (show K8.heap.size≤_ from bZ.size)
 have bC:=bt bZ jo
 replace zP:=Ac jo zP
 refine hK.out _ _ (λ_=>bh.o _ bC) (λ_=>?_)
 clear hK K
 try simp only[gX]
 clear i6 ii kt ks oz
 change K 7 _
 iterate 3
  refine Lt.ti (v:=?_) (bh.o _ bC) ?_ ?_;rotate_left 1
  ·rintro w ⟨r1,r2⟩
   obtain⟨p0,p1,p2,-⟩:=Ci r1;obtain⟨s0,s1⟩:=En r2;go_simp
   first|done|with_reducible rfl
  simp only[gX]
 obtain⟨z0,z1,z2,zf⟩:=Ci zP
 have HV:=Ab (Ba zP (I wd) (J t1 T'.length t2) (J q1 R'.length q2))
 have gj:=Ab (Co bC pe (I wd) (J t1 T'.length t2) (J q1 R'.length q2))
 have yg:=Ab (ow.set3 ⟨_,zP⟩ (I wd) (J t1 T'.length t2) (J q1 R'.length q2))
 refine Lt.sp (i:=11) (λK hK=>?_)
 go_simp
 refine hK.out _ _ (λ_=>bh.o _ gj.o) (λ_=>?_)
 clear hK K
 clear z0 z1 z2 zf
 try simp only[gX]
 refine Lt.sp (i:=12) (λK hK=>?_)
 go_simp
 refine hK.out _ _ (λ_=>bh.o _ gj.o) (λ_=>?_)
 clear hK K
 try simp only[gX]
 refine Lt.done qk ?_ _
 go_wp2_with fail
 go_meet
 exact⟨P,wd,T',R',cc,t1,t2,q1,q2,zs,kv,lv,rfl,rfl,HV.o,rd.o,yg.o,gj.o⟩):P:=h
theorem qhw(h:P:=by
 refine Lt.sp (i:=3) (λK hK=>?_)
 go_simp
 refine(Do.o _ (bt HB.o bA)).mono ?_
 rintro e wB ⟨gy,u1,u2,rfl,kt,ks⟩
 obtain⟨a3,p3,rfl,-⟩:=kt.sl
 obtain⟨a4,p4,rfl,-⟩:=ks.sl
 have bB:=bt bA gy
 replace i6:=i6.bl gy
 replace ii:=ii.bl gy
 replace zP:=Ac gy zP
 refine hK.out _ _ (λ_=>bh.o _ bB) (λ_=>?_)
 clear hK K
 try simp only[gX]
 refine Lt.sp (i:=5) (λK hK=>?_)
 go_simp
 refine(HTC.o _ (bt HB.o bB)).mono ?_
 rintro e wZ ⟨li,g3,rfl,oz⟩
 have bZ:=bt bB li
 replace i6:=i6.bl li
 replace ii:=ii.bl li
 replace kt:=kt.bl li
 replace ks:=ks.bl li
 replace zP:=Ac li zP
 refine hK.out _ _ (λ_=>bh.o _ bZ) (λ_=>?_)
 clear hK K
 try simp only[gX]
 refine Lt.sp (i:=6) (λK hK=>?_)
 go_simp
 refine(Qaa (n:=n) HL.o i6 ii kt ks oz).mono ?_
 rintro e wC ⟨jo,v,rfl,wd,T',R',cc,tx,qv,zs,kv,lv,rfl,ww,ow⟩
 have rd:=Ab ww
 clear ww
 obtain⟨t1,t2,rfl⟩:=Al ow.txs
 obtain⟨q1,q2,rfl⟩:=Al ow.rq.row
 replace ow:=ow.base (show w2.heap.size≤_ from bZ.size)
 have bC:=bt bZ jo
 replace zP:=Ac jo zP
 refine hK.out _ _ (λ_=>bh.o _ bC) (λ_=>?_)
 clear hK K
 try simp only[gX]
 clear i6 ii kt ks oz
 change K 7 _
 iterate 3
  refine Lt.ti (v:=?_) (bh.o _ bC) ?_ ?_;rotate_left 1
  ·rintro w ⟨r1,r2⟩
   obtain⟨p0,p1,p2,-⟩:=Ci r1;obtain⟨s0,s1⟩:=En r2;go_simp
   first|done|with_reducible rfl
  simp only[gX]
 obtain⟨z0,z1,z2,zf⟩:=Ci zP
 have HV:=Ab (Ba zP (I wd) (J t1 T'.length t2) (J q1 R'.length q2))
 have gj:=Ab (Co bC pe (I wd) (J t1 T'.length t2) (J q1 R'.length q2))
 have yg:=Ab (ow.set3 ⟨_,zP⟩ (I wd) (J t1 T'.length t2) (J q1 R'.length q2))
 refine Lt.sp (i:=11) (λK hK=>?_)
 go_simp
 refine hK.out _ _ (λ_=>bh.o _ gj.o) (λ_=>?_)
 clear hK K
 clear z0 z1 z2 zf
 try simp only[gX]
 refine Lt.sp (i:=12) (λK hK=>?_)
 go_simp
 refine hK.out _ _ (λ_=>bh.o _ gj.o) (λ_=>?_)
 clear hK K
 try simp only[gX]
 refine Lt.done qk ?_ _
 go_wp2_with fail
 go_meet
 exact⟨P,wd,T',R',cc,t1,t2,q1,q2,zs,kv,lv,rfl,rfl,HV.o,rd.o,yg.o,gj.o⟩):P:=h
theorem qhx(h:P:=by
 obtain⟨x0,x1,x2,xf⟩:=Ci HQ.o
 go_wp2_with fail
 clear x0 x1 x2 xf
 refine(vh.o w2 dy.o).mono ?_
 rintro e w9 ⟨yu,g1,p1,v2,rfl,o1,o2⟩
 obtain⟨a2,p2,rfl,_⟩:=o2.sl
 have yd:=Ab (Ac yu HZ.o)
 have Y7:=Ab (bt dy.o yu)
 have mw:=Ab (show Dz w9 w.heap.size (J (p_ g1) T.length p1) (J a2 R.length p2) T R from ⟨Ah o1.own (zo dy.o.size),⟨g1,p1,rfl⟩,o2.recO.base (zo dy.o.size)⟩)
 clear yu o1 o2 HQ HP HZ vh dy
 obtain⟨K7,K6,K5,K4,J9,J8,J7,J6,J5,J4⟩:=Et yd.o
 have zcf:=fZ yd.o
 obtain⟨l,el⟩:∃l:List (X×X×Z),l=[((w.heap.size+1+1),0,I 9),((w.heap.size+1+1),1,ze),((w.heap.size+1+1),2,nS),((w.heap.size+1+1),3,I n),((w.heap.size+1+1),4,J (p_ g1) T.length p1),((w.heap.size+1+1),5,J a2 R.length p2),((w.heap.size+1+1),6,nS),((w.heap.size+1+1),7,nS),((w.heap.size+1+1),8,ze),((w.heap.size+1+1),9,ze)]:=⟨_,rfl⟩
 have bu:∀x∈l,x.1=(w.heap.size+1+1):=Xg
 have bn:=De l w9 _ bu yd.o
 have hS:=mw.o.setU bu yd.o
 have fa:Bw w (Bo w9 l):=Bg l w9 Y7.o (λx hx=>qac)
 obtain⟨V,eV⟩:=Aj (Bo w9 l)
 rw[eV]at bn fa hS
 rw[el]at bn eV
 simp only[Bo,List.foldl]at eV
 simp only[List.foldl,List.setIfInBounds_toArray,List.set_cons_zero,List.set_cons_succ]at bn
 have HV:=Ab bn
 have gj:=Ab fa
 have im:=Ab hS
 clear bn fa el bu hS
 go_wp2_with fail
 try rw[eV]
 obtain⟨y0,y1,y2,y3,y4,y5,y6,y7,y8,y9⟩:=Et HV.o
 exact bR (v:=G #[I 9,ze,nS,I n,J (p_ g1) T.length p1,J a2 R.length p2,nS,nS,ze,ze]) qgm rfl ⟨gj.o,_,rfl,_,_,rfl,im.o⟩):P:=h
theorem qhy(h:P:=by
 go_wp2_with fail
 clear x0 x1 x2 xf
 refine(vh.o w1b d6.o).mono ?_
 rintro e w2 ⟨af,g1,p1,v2,rfl,o1,o2⟩
 obtain⟨a2,p2,rfl,_⟩:=o2.sl
 have pg:=Ab (Ac af sq.o)
 have dy:=Ab (bt d6.o af)
 have ct:=Ab (show Dz w2 w.heap.size (J (p_ g1) T.length p1) (J a2 R.length p2) T R from ⟨Ah o1.own (zo d6.o.size),⟨g1,p1,rfl⟩,o2.recO.base (zo d6.o.size)⟩)
 clear af o1 o2 d6 sq j9
 obtain⟨K7,K6,K5,K4,J9,J8,J7,J6,J5,J4⟩:=Et pg.o
 have zcf:=fZ pg.o
 obtain⟨l,el⟩:∃l:List (X×X×Z),l=[((w.heap.size+1+1),0,I 9),((w.heap.size+1+1),1,ze),((w.heap.size+1+1),2,nS),((w.heap.size+1+1),3,I n),((w.heap.size+1+1),4,J (p_ g1) T.length p1),((w.heap.size+1+1),5,J a2 R.length p2),((w.heap.size+1+1),6,nS),((w.heap.size+1+1),7,nS),((w.heap.size+1+1),8,ze),((w.heap.size+1+1),9,ze)]:=⟨_,rfl⟩
 have bu:∀x∈l,x.1=(w.heap.size+1+1):=Xg
 have bn:=De l w2 _ bu pg.o
 have hS:=ct.o.setU bu pg.o
 have fa:Bw w (Bo w2 l):=Bg l w2 dy.o (λx hx=>qac)
 obtain⟨V,eV⟩:=Aj (Bo w2 l)
 rw[eV]at bn fa hS
 rw[el]at bn eV
 simp only[Bo,List.foldl]at eV
 simp only[List.foldl,List.setIfInBounds_toArray,List.set_cons_zero,List.set_cons_succ]at bn
 have HV:=Ab bn
 have gj:=Ab fa
 have im:=Ab hS
 clear bn fa el bu hS
 go_wp2_with fail
 try rw[eV]
 obtain⟨y0,y1,y2,y3,y4,y5,y6,y7,y8,y9⟩:=Et HV.o
 exact bR (v:=Y #[G #[I 9,ze,nS,I n,J (p_ g1) T.length p1,J a2 R.length p2,nS,nS,ze,ze],nS]) qcr rfl (⟨gj.o,_,_,rfl,_,_,rfl,im.o⟩)):P:=h
theorem qhz(h:P:=by
 refine Lt.sp (i:=6) (λK hK=>?_)
 go_simp
 refine(Uj (n:=n) HL.o (HT.o.bl (bt HB.o bZ)) (HP.o.bl (bt HB.o bZ)) i6 ii kt ks oz).mono ?_
 rintro e wC ⟨jo,v,rfl,wd,T',R',cc,tx,qv,zs,kv,lv,rfl,ww,ow⟩
 have rd:=Ab ww
 clear ww
 obtain⟨t1,t2,rfl⟩:=Al ow.txs
 obtain⟨q1,q2,rfl⟩:=Al ow.rq.row
 replace ow:=ow.base (show K8.heap.size≤_ from bZ.size)
 have bC:=bt bZ jo
 replace zP:=Ac jo zP
 refine hK.out _ _ (λ_=>bh.o _ bC) (λ_=>?_)
 clear hK K
 try simp only[gX]
 clear i6 ii kt ks oz
 change K 7 _
 iterate 3
  refine Lt.ti (v:=?_) (bh.o _ bC) ?_ ?_;rotate_left 1
  ·rintro w ⟨r1,r2⟩
   obtain⟨p0,p1,p2,-⟩:=Ci r1;obtain⟨s0,s1⟩:=En r2;go_simp
   first|done|with_reducible rfl
  simp only[gX]
 obtain⟨z0,z1,z2,zf⟩:=Ci zP
 have HV:=Ab (Ba zP (I wd) (J t1 T'.length t2) (J q1 R'.length q2))
 have gj:=Ab (Co bC pe (I wd) (J t1 T'.length t2) (J q1 R'.length q2))
 have yg:=Ab (ow.set3 ⟨_,zP⟩ (I wd) (J t1 T'.length t2) (J q1 R'.length q2))
 refine Lt.sp (i:=11) (λK hK=>?_)
 go_simp
 refine hK.out _ _ (λ_=>bh.o _ gj.o) (λ_=>?_)
 clear hK K
 clear z0 z1 z2 zf
 try simp only[gX]
 refine Lt.sp (i:=12) (λK hK=>?_)
 go_simp
 refine hK.out _ _ (λ_=>bh.o _ gj.o) (λ_=>?_)
 clear hK K
 try simp only[gX]
 refine Lt.done qk ?_ _
 go_wp2_with fail
 go_meet
 exact⟨P,wd,T',R',cc,t1,t2,q1,q2,zs,kv,lv,rfl,rfl,HV.o,rd.o,yg.o,gj.o⟩):P:=h
theorem qia(h:P:=by
 refine Lt.sp (i:=6) (λK hK=>?_)
 go_simp
 refine(Qaa (n:=n) HL.o i6 ii kt ks oz).mono ?_
 rintro e wC ⟨jo,v,rfl,wd,T',R',cc,tx,qv,zs,kv,lv,rfl,ww,ow⟩
 have rd:=Ab ww
 clear ww
 obtain⟨t1,t2,rfl⟩:=Al ow.txs
 obtain⟨q1,q2,rfl⟩:=Al ow.rq.row
 replace ow:=ow.base (show w2.heap.size≤_ from bZ.size)
 have bC:=bt bZ jo
 replace zP:=Ac jo zP
 refine hK.out _ _ (λ_=>bh.o _ bC) (λ_=>?_)
 clear hK K
 try simp only[gX]
 clear i6 ii kt ks oz
 change K 7 _
 iterate 3
  refine Lt.ti (v:=?_) (bh.o _ bC) ?_ ?_;rotate_left 1
  ·rintro w ⟨r1,r2⟩
   obtain⟨p0,p1,p2,-⟩:=Ci r1;obtain⟨s0,s1⟩:=En r2;go_simp
   first|done|with_reducible rfl
  simp only[gX]
 obtain⟨z0,z1,z2,zf⟩:=Ci zP
 have HV:=Ab (Ba zP (I wd) (J t1 T'.length t2) (J q1 R'.length q2))
 have gj:=Ab (Co bC pe (I wd) (J t1 T'.length t2) (J q1 R'.length q2))
 have yg:=Ab (ow.set3 ⟨_,zP⟩ (I wd) (J t1 T'.length t2) (J q1 R'.length q2))
 refine Lt.sp (i:=11) (λK hK=>?_)
 go_simp
 refine hK.out _ _ (λ_=>bh.o _ gj.o) (λ_=>?_)
 clear hK K
 clear z0 z1 z2 zf
 try simp only[gX]
 refine Lt.sp (i:=12) (λK hK=>?_)
 go_simp
 refine hK.out _ _ (λ_=>bh.o _ gj.o) (λ_=>?_)
 clear hK K
 try simp only[gX]
 refine Lt.done qk ?_ _
 go_wp2_with fail
 go_meet
 exact⟨P,wd,T',R',cc,t1,t2,q1,q2,zs,kv,lv,rfl,rfl,HV.o,rd.o,yg.o,gj.o⟩):P:=h
theorem qib(h:P:=by
 obtain⟨k,hk,rfl,HA,rfl⟩:=hrel
 by_cases ai:k<s.size
 ·by_cases c1:s[k].toNat<33
  ·have e1:decide ((s[k].toNat:Int)<33)=true:=qj;have HF:Hd (Gg s=false):=Ct (λh=>by have:=h.2.2 k ai;omega);clear c1;go_wp2;go_ret;exact⟨qde,rfl⟩
  ·have e1:decide ((s[k].toNat:Int)<33)=false:=qj
   by_cases c2:126<s[k].toNat
   ·have e2:decide ((126:Int)<s[k].toNat)=true:=qj;have HF:Hd (Gg s=false):=Ct (λh=>by have:=h.2.2 k ai;omega);clear c1 c2;go_wp2;go_ret;exact⟨qde,rfl⟩
   ·have e2:decide ((126:Int)<s[k].toNat)=false:=qj
    have HB:Hd (∀j,(h:j<s.size)->j<k+1->33<=s[j].toNat/\s[j].toNat<=126):=λj h hj=>by
     rcases Nat.lt_or_ge j k with h'|h'
     ·exact HA.o j h h'
     ·obtain rfl:j=k:=qg;omega
    clear c1 c2;go_wp2;go_roundw
    case rel=>exact⟨k+1,qg,qm,HB,by first|trivial|rfl⟩
    case measure=>simp[intOf];omega
 ·have HF:Hd (Gg s=true):=Dc ⟨qg,qg,λj h=>HA.o j h qg⟩;go_wp2;go_ret;exact⟨qde,rfl⟩):P:=h
theorem qic(h:P:=by
 obtain⟨m,e1,sd,td⟩:∃m:X,((lo:Int)+(hi:Int)) / 2=(m:Int)∧lo≤m∧m<hi:=⟨(lo+hi) / 2,qg,qg,qg⟩
 obtain⟨b,off,rfl,c1⟩:=hc m qg
 obtain⟨v,hv⟩:=Aj (Ax (nx l m) t)
 have HV:Hd (Ax (nx l m) t=v):=hv
 have HN:Hd (∀W:World,Calls prog 140 #[S (nx l m),S t] W λe w'=>e=.returned (F v)∧W=w'):=λW=>by rw[←hv];exact Su _ _ W
 clear hc hv
 generalize nx l m=s at c1 HN
 have E4:(m:Int)<(l.length:Int):=qg
 cases v
 ·go_wp2_with (go_at_call 140;refine(HN.o _).mono ?_;rintro e w' ⟨rfl,rfl⟩)
  go_roundw
  case rel=>exact⟨lo,m,rfl,rfl,sd,qg,HL.o,Uk jt.o HV.o,trivial⟩
  case measure=>simp[intOf];omega
 ·go_wp2_with (go_at_call 140;refine(HN.o _).mono ?_;rintro e w' ⟨rfl,rfl⟩)
  go_roundw
  case rel=>exact⟨m+1,hi,qm,rfl,qg,qg,lo_step jt.o qg HV.o,HH.o,trivial⟩
  case measure=>simp[intOf];omega):P:=h
theorem qid(h:P:=by
 go_simp
 refine Cb (Q:=λx=>K _ x) ?_
 intro wC f9 zP
 try dsimp only
 rw[eP]at zP
 replace zP:=zP.out
 have bC:=bt bC f9
 replace ow:=ow.bl f9
 refine hK.out _ _ (λ_=>bh.o _ bC) (λ_=>?_)
 clear hK K
 try simp only[gX]
 clear f9 eP
 obtain⟨z0,z1,z2,zf⟩:=Ci zP
 have HV:=Ab (Ba zP (I wd) (J t1 T'.length t2) (J q1 R'.length q2))
 have gj:=Ab (Co bC pe (I wd) (J t1 T'.length t2) (J q1 R'.length q2))
 have yg:=Ab (ow.set3 ⟨_,zP⟩ (I wd) (J t1 T'.length t2) (J q1 R'.length q2))
 refine Lt.sp (i:=11) (λK hK=>?_)
 go_simp
 refine hK.out _ _ (λ_=>bh.o _ gj.o) (λ_=>?_)
 clear hK K
 clear z0 z1 z2 zf
 try simp only[gX]
 refine Lt.sp (i:=12) (λK hK=>?_)
 go_simp
 refine hK.out _ _ (λ_=>bh.o _ gj.o) (λ_=>?_)
 clear hK K
 try simp only[gX]
 refine Lt.done qk ?_ _
 go_wp2_with fail
 go_meet
 exact⟨P,wd,T',R',cc,t1,t2,q1,q2,zs,kv,lv,rfl,rfl,HV.o,rd.o,yg.o,gj.o⟩):P:=h
theorem qie(h:P:=by
 by_cases c1:st<k
 ·rw[if_pos c1]
  by_cases c2:n'=0
  ·subst c2;have HR:Hd (s.extract st k=q):=by show _=_;rw[<- pf_gap0 ai hg c1];exact HI.o
   clear hg HI;go_wp2;go_ret;exact⟨by rw[<- HR.o];rfl,rfl⟩
  ·have HR:Hd (Bn s (n'-1) (k+1) (k+1)=q):=by show _=_;rw[<- pf_gapS ai hg c1 c2];exact HI.o
   clear hg HI;go_wp2;go_roundw
   case rel=>exact Or.inl ⟨n'-1,k+1,k+1,qg,qg,Nat.le_refl _,qm,by rw[if_neg (Nat.lt_irrefl _)],qm,HR,by first|trivial|rfl⟩
   case measure=>simp[intOf];omega
 ·rw[if_neg c1];have HR:Hd (Bn s n' (k+1) (k+1)=q):=by show _=_;rw[<- pf_none ai hg c1];exact HI.o
  clear hg HI;go_wp2;go_roundw
  case rel=>exact Or.inl ⟨n',k+1,k+1,qg,qg,Nat.le_refl _,qm,by rw[if_neg (Nat.lt_irrefl _)],qm,HR,by first|trivial|rfl⟩
  case measure=>simp[intOf];omega):P:=h
theorem qfa(h:P:=by
 have fh:Bw w (w.alloc (O #[I 11,S t,I n] 174)):=aN _ _
 have Id:=hM.cell2.2.2.1
 have ff:=hM.bl fh
 obtain⟨c2,f2,zq,jz⟩:=ff.cell2
 have fg:B<=(w.alloc (O #[I 11,S t,I n] 174)).heap.size:=qj
 go_enter func179,ntmps179
 go_wp2_with (first|(go_at_call 178;refine(Cm B m (r) x cd pl st lk _ ?_ ?_ ?_).mono ?_;(focus(exact ff));(focus(exact fg));(focus(first|omega|(simp;omega)));rintro e w1 ⟨rfl,ag,kj,cu⟩;have ir:B<=w1.heap.size:=(Nat.le_trans fg ag.size);obtain⟨dd1,ee1,_,_⟩:=kj.cell2;have cn:w1.cell? ⟨w.heap.size,2,N⟩=M (I (n:Int)):=(by rw[World.cell?_of_block (cu w.heap.size qg)];simp[go_sem]);clear cu))
 go_ret
 exact⟨rfl,((KB.old fh hB).trans ag).setM 2 jz _,kj.place _⟩):P:=h
theorem qif(h:P:=by
 have HL:=Ab hl
 obtain⟨c0,c1,c2,c3,c4,c5,c6,c7,c8,c9⟩:=Oh hrW7
 obtain⟨k1,k2,k3⟩:=my.o.c
 clear hl d9 ho7 hrW7 hz7 hi7 h e1
 go_wp2_with fail
 refine HL.o.mono ?_
 rintro e w4 ⟨bp,x0,ax,nx,cx,x2,x3,x4,x5,x6,x7,x8,x9,rfl,gv⟩
 have bg:Bw w w4:=xj.trans (bp.mono Q1)
 have ci:w4.heap[w.heap.size+1+1]?=M zR:=by rw[bp.block _ hz1s];exact my.o.z
 have HPO:=Ab gv
 have pg:=Ab ci
 have dy:=Ab bg
 obtain⟨z0,z1,z2,z3,z4,z5,z6,z7,z8,z9⟩:=Oh ci
 have fz:=fZ pg.o
 clear ci bp HL gv hsz7 bg xj my
 unfold r10
 go_wp2_with fail
 exact bR (v:=r10 x0 ax nx cx x2 x3 x4 x5 x6 x7 x8 x9) (by simp[results,results134,go_sem,r10,z0,z1,z2,z3,z4,z5,z6,z7,z8,z9]) rfl ⟨Sw dy.o ve,(Vf HPO.o ⟨_,pg.o⟩ _ _ _ _ _ _ _ _ _ _).mono Q1⟩):P:=h
theorem qig(h:P:=by
 have R9:Hd (Ek is s'):=hso
 have lz:Hd (Cl B w2 m s'.stack (J a is.length cap) s'.pl s'.steps s'.looks):=kj
 clear hru hso kj
 have ba:w2.heap[w.heap.size+1+1]?=M (O #[F false,I 0,ze,F false,ze,I 0] 187 (0,0)):=pj.o
 obtain⟨k0,k1,k2,k3,k4,k5⟩:=Zc ba
 have f0:=fZ ba
 clear ba
 unfold Bc
 go_wp2
 exact bR (v:=Bc false 0 ⟨#[]⟩ jp nm' s'.steps) qef rfl ⟨((((((ft.o).setB 0 uy uz _).setB 1 uy uz _).setB 2 uy uz _).setB 3 uy uz _).setB 4 uy uz _).setB 5 uy uz _,Or.inr ⟨_,HG.o,Or.inr ⟨jp,nm',s',nh.o,rfl,R9.o,(Cl.turn (Cl.turn (Cl.turn (Cl.turn (Cl.turn (Cl.turn ⟨lz.o,_,pj.o⟩ 0 _) 1 _) 2 _) 3 _) 4 _) 5 _).1⟩⟩⟩):P:=h
theorem qih(h:P:=by
 by_cases c1:st<k
 ·by_cases c2:n'=0
  ·subst c2;have HR:Hd (s.extract st k=q):=by show _=_;rw[<- pf_gap0 ai hg c1];exact HI.o
   clear hg HI;go_wp2;go_ret;exact⟨by rw[<- HR.o];rfl,rfl⟩
  ·have HR:Hd (Bn s (n'-1) (k+1) (k+1)=q):=by show _=_;rw[<- pf_gapS ai hg c1 c2];exact HI.o
   clear hg HI;go_wp2;go_roundw
   case rel=>exact⟨n'-1,k+1,k+1,qg,Nat.le_refl _,qg,qm,qm,qm,HR,by first|trivial|rfl⟩
   case measure=>simp[intOf];omega
 ·have HR:Hd (Bn s n' (k+1) (k+1)=q):=by show _=_;rw[<- pf_none ai hg c1];exact HI.o
  clear hg HI;go_wp2;go_roundw
  case rel=>exact⟨n',k+1,k+1,qg,Nat.le_refl _,qg,qm,qm,qm,HR,by first|trivial|rfl⟩
  case measure=>simp[intOf];omega):P:=h
theorem qii(h:P:=by
 rintro e w2 ⟨rfl,af⟩
 have zc:Hd (KB B m w w2):=ft.o.trans af
 have ba:w2.heap[w.heap.size]?=M (O #[F false,I 0,ze,F false,ze,I 0] 187 (0,0)):=(af.keep _ _ 187 qh qg dy.o)
 obtain⟨k0,k1,k2,k3,k4,k5⟩:=Zc ba
 have f0:=fZ ba
 clear ba x0 x1 x2
 unfold Bc
 go_wp2
 exact bR (v:=Bc true 2 (Fw s.pl) false ⟨#[]⟩ ((s.steps:Int)+1)) qgn rfl ⟨((((((zc.o).setN 0 hB _).setN 1 hB _).setN 2 hB _).setN 3 hB _).setN 4 hB _).setN 5 hB _,Or.inl ⟨2,(Fw s.pl),s.steps+1,HR.o _ (.over di.o),rfl⟩⟩):P:=h
theorem qij(h:P:=by
 rintro e w2 ⟨rfl,af⟩
 have zc:Hd (KB B m w w2):=ft.o.trans af
 have ba:w2.heap[w.heap.size]?=M (O #[F false,I 0,ze,F false,ze,I 0] 187 (0,0)):=(af.keep _ _ 187 qh qg dy.o)
 obtain⟨k0,k1,k2,k3,k4,k5⟩:=Zc ba
 have f0:=fZ ba
 clear ba x0 x1 x2
 unfold Bc
 go_wp2
 exact bR (v:=Bc true 3 ⟨#[]⟩ false ⟨#[]⟩ ((s.steps:Int)+1)) qbx rfl ⟨((((((zc.o).setN 0 hB _).setN 1 hB _).setN 2 hB _).setN 3 hB _).setN 4 hB _).setN 5 hB _,Or.inl ⟨3,⟨#[]⟩,s.steps+1,HR.o _ (.over di.o),rfl⟩⟩):P:=h
theorem qik(h:P:=by
 rintro e w1 ⟨ag,g,cp,rfl,ah⟩
 have hg:=(ah.lt g rfl).1
 simp at hg
 have hb:=bt ak ag
 have aq:=Ah ah (B':=w.heap.size) qj
 have c1:w1.cell? ⟨w.heap.size+1,0,N⟩=M nS:=Aa ag qo
 have f1:w1.frozen? ⟨w.heap.size+1,0,N⟩=false:=by rw[ag.frozen (p:=⟨w.heap.size+1,0,N⟩) qi];simp[go_sem]
 clear ak ag ah
 go_wp2
 exact bR (v:=G #[J (p_ g) is.length cp]) (by simp[results,results122,go_sem,c1]) rfl ⟨hb.setCell (p:=⟨w.heap.size+1,0,N⟩) qi _,g,cp,rfl,Dg aq qg _⟩):P:=h
theorem qil(h:P:=by
 have hg6:wc.heap.size≤g6:=(HO6.o.lt g6 rfl).1
 have gh:=bt hBx R5
 clear HA6 HO6
 go_wp2
 refine bR (v:=G #[I 0,I (m:Int),J (p_ g6) (ts.length+1) p6,J a2 rn p2,ze,ze]) qeg rfl ⟨Ja (gh.setCell (p:=⟨w.heap.size,1,N⟩) qi _) (Nat.le_succ _) _ _ _ _ _ _,KpS.yes (R:=w.heap.size+1) A5.o HK.o (Ix _ _ _ se).symm (Ak HX6.o X2.o qh _) (Or.inr (zo hBx.size)) (Dl.set ⟨_,HR6.o⟩ _) _ _ _ _ _ _⟩):P:=h
theorem qim(h:P:=by
 go_wp2_with fail
 have hl:=Fi (s.pl:Int) sa s.stack.length cp ((s.steps:Int)+1) s.looks 2 q
 unfold Eb at hl
 refine(hl _).mono ?_
 rintro e w4 ⟨rfl,bp⟩
 have gq:=Ab (ct.o.bl bp)
 obtain⟨z0,z1,z2,z3,z4,z5,z6,z7,z8,z9⟩:=Oh gq.o.z
 have fz:=fZ gq.o.z
 clear hl bp
 unfold Eg
 go_wp2_with fail
 exact bR (v:=Eg (s.pl:Int) (J sa s.stack.length cp) ((s.steps:Int)+1) s.looks 2 q) qbw rfl ⟨Sw gq.o.b ve,Or.inl ⟨2,q,s.steps+1,di.o,_,_,_,_,_,rfl⟩⟩):P:=h
theorem qin(h:P:=by
 clear hru
 have ba:w2.heap[w.heap.size+1+1]?=M (O #[F false,I 0,ze,F false,ze,I 0] 187 (0,0)):=pj.o
 obtain⟨k0,k1,k2,k3,k4,k5⟩:=Zc ba
 have f0:=fZ ba
 clear ba
 unfold Bc
 go_wp2
 exact bR (v:=Bc true c t false ⟨#[]⟩ n) qef rfl ⟨((((((ft.o).setB 0 uy uz _).setB 1 uy uz _).setB 2 uy uz _).setB 3 uy uz _).setB 4 uy uz _).setB 5 uy uz _,Or.inr ⟨_,HG.o,Or.inl ⟨c,t,n,nh.o,rfl⟩⟩⟩):P:=h
theorem qio(h:P:=by
 have E4:(m:Int)<(ss.length:Int):=qg
 cases v
 ·go_wp2_with fail;refine(HN.o _).mono ?_;rintro e w2 ⟨af,rfl⟩;go_wp2_with fail;go_roundw
  case rel=>exact⟨lo,m,rfl,rfl,sd,qg,HL.o,Uk jt.o HV.o,bt bc af⟩
  case measure=>simp[intOf];omega
 ·go_wp2_with fail;refine(HN.o _).mono ?_;rintro e w2 ⟨af,rfl⟩;go_wp2_with fail;go_roundw
  case rel=>exact⟨m+1,hi,qm,rfl,qg,qg,lo_step jt.o (zo G6.o) HV.o,HH.o,bt bc af⟩
  case measure=>simp[intOf];omega):P:=h
theorem qip(h:P:=by
 rw[eV]at bn fa hS
 rw[el]at bn eV
 simp only[Bo,List.foldl]at eV
 simp only[List.foldl,List.setIfInBounds_toArray,List.set_cons_zero,List.set_cons_succ]at bn
 have HV:=Ab bn
 have gj:=Ab fa
 have im:=Ab hS
 clear bn fa el bu hS
 refine Lt.sp (i:=9) (λK hK=>?_)
 go_simp
 try rw[eV]
 refine hK.out _ _ (λh=>absurd rfl h) (λ_=>?_)
 clear hK K
 refine Lt.done qk ?_ _
 go_wp2_with fail
 go_meet
 exact⟨Q,d,_,_,_,_,_,zs,kv,lv,rfl,HV.o,HSA.o,im.o,l7.o,gj.o,pe⟩):P:=h
theorem qfb(h:P:=by
 go_enter func181,ntmps181
 go_wp2_with (first|(at_builtin;refine wpList_append_lies _ rfl (.tmp 23) (.tmp 24) 22 rfl B 9 i0 ze 1 16 underlying22 hi bq bi ci rfl qh _ _ _ rfl HO.o ⟨vb,0,N⟩ 1 1 [y] rfl rfl HN.o h1v qg qq qg hB _ rfl ?_;intro g' cp w2 k1 ae dh hlt';obtain⟨k2,k3⟩:=HB.o g' cp w2 k1 ae;have HLIE:Hd _:=dh;clear ae hlt' dh))
 go_ret
 exact⟨g',cp,rfl,k1,k2,k3,HLIE.o⟩):P:=h
theorem qiq(h:P:=by
 obtain⟨z0,z1,z2,zf⟩:=Ci mz.o
 go_wp2_with fail
 obtain⟨y0,y1,y2,_⟩:=Ci (Ba mz.o (I 0) ze nS)
 exact bR (v:=Y #[G #[I 0,ze,nS],I (-1)]) (by simp[results,results83,go_sem,y0,y1,y2]) rfl ⟨_,_,_,jr.o,Or.inr ⟨bb,nb,rfl,rfl,(O2.o.trans fj.o).set3 qg qg _ _ _,wt.o.set3 ⟨_,mz.o⟩ qh qh _ _ _⟩⟩):P:=h
theorem qir(h:P:=by
 obtain⟨z0,z1,z2,zf⟩:=Ci iy.o
 go_wp2_with fail
 obtain⟨y0,y1,y2,_⟩:=Ci (Ba iy.o (I 0) ze nS)
 exact bR (v:=Y #[G #[I 0,ze,nS],I (-1)]) (by simp[results,results111,go_sem,y0,y1,y2]) rfl (Or.inr ⟨_,_,_,.bad I8.o,rfl,(O2.o.trans fj.o).set3 qg qg _ _ _,wt.o.set3 ⟨_,iy.o⟩ qh qh _ _ _⟩)):P:=h
theorem qfc(h:P:=by
 show _=_
 rw[←eW]
 have:=Fg ((w.alloc (O #[I n,J (M ⟨tb,tf,N⟩) T.length tc,J qa R.length qc] 35)).alloc (O #[J sa ss.length c1,J ta ts.length c2] 42)) (O z10 55)
 rwa [show((w.alloc (O #[I n,J (M ⟨tb,tf,N⟩) T.length tc,J qa R.length qc] 35)).alloc (O #[J sa ss.length c1,J ta ts.length c2] 42)).heap.size=w.heap.size+2 from qi]at this):P:=h
theorem qis(h:P:=by
 obtain⟨k0,k1,k2,k3,k4,k5⟩:=Zc ba
 have f0:=fZ ba
 clear ba x0 x1 x2
 unfold Bc
 go_wp2
 exact bR (v:=Bc true 2 (Fw s.pl) false ⟨#[]⟩ ((s.steps:Int)+1)) qgn rfl ⟨((((((zc.o).setN 0 hB _).setN 1 hB _).setN 2 hB _).setN 3 hB _).setN 4 hB _).setN 5 hB _,Or.inl ⟨2,(Fw s.pl),s.steps+1,HR.o _ (.over di.o),rfl⟩⟩):P:=h
theorem qit(h:P:=by
 have h:=World.ownsRow_lit (base:=w.heap.size+1+1) (e:=174) (size:=3) ((w.alloc (O #[J (M ⟨b,off,N⟩) is.length cap] 70)).alloc (O #[nS] 70)) #[] 0 qi qq qi
 rw[show((w.alloc (O #[J (M ⟨b,off,N⟩) is.length cap] 70)).alloc (O #[nS] 70)).heap.size=w.heap.size+1+1 from qi]at h
 exact h):P:=h
theorem qiu(h:P:=by
 intro i hi
 rcases Nat.lt_or_ge i k with hl|hl
 ·obtain⟨h1,h2,h3⟩:=h i hl
  simp only[List.getElem?_set];rw[if_neg qg,if_neg qg,if_neg qg,if_neg qg,if_neg qg,if_neg qg,if_neg qg,if_neg qg,if_neg qg];exact⟨h1,h2,h3⟩
 ·obtain rfl:i=k:=qg
  refine⟨?_,?_,?_⟩<;>simp[List.getElem?_set]<;>omega):P:=h
theorem qiv(h:P:=by
 by_cases he:nm=s
 ·have jh:=Fk he;have HE:Hd (nm=s):=he;clear he;go_wp2;go_ret;exact⟨ak,Or.inl ⟨k,rfl,ai,by rw[EN.o];exact HE.o⟩⟩
 ·have jh:=Hi he;have HE:Hd (nm≠s):=he;clear he;go_wp2;go_roundw
  case rel=>exact⟨k+1,qg,qm,Cw HA.o (by rw[EN.o];exact HE.o),trivial⟩
  case measure=>simp[intOf];omega):P:=h
theorem qiw(h:P:=by
 rw[ag.block _ qi]
 have h:=Oe ((w.alloc (O #[J a is.length ac] 70)).alloc (O #[I c,S t,J ca nc cc] 65)) (O #[nS,nS,ze] 73)
 rw[show((w.alloc (O #[J a is.length ac] 70)).alloc (O #[I c,S t,J ca nc cc] 65)).heap.size=w.heap.size+1+1 from qi]at h
 exact h):P:=h
theorem qix(h:P:=by
 rintro e w1 ⟨ag,r,rfl,hr⟩
 rcases hr with hr|hr
 ·go_wp2
  go_ret;exact⟨bc.trans (ag.mono bc.size),-1,rfl,Or.inl qg⟩
 ·have yn:0≤r:=qg
  go_wp2;go_roundw
  case rel=>exact⟨k+1,_,qg,qm,rfl,qg,qg,bc.trans (ag.mono bc.size),Cw HK.o (by rw[EI.o];omega)⟩
  case measure=>simp[intOf];omega):P:=h
theorem qfd(h:P:=by
 rw[show(decide ((t.size:Int)<=0)&&decide (0<=n)&&decide (n<=2000))=false from qed]
 clear hz
 go_enter func105,ntmps105
 go_wp2_with (first|(go_at_call 132;refine((Hw.o) _).mono ?_;rintro e w' ⟨rfl,rfl⟩))
 go_ret
 exact⟨aN _ _,rfl⟩):P:=h
theorem qiy(h:P:=by
 have HD:=Ab (show Az ss ts C.n m1 s1 st (.run is [] []) m2 s2 (.bad b)/\Dj W0.heap.size C w5 b v/\KQ W0.heap.size h mb C av kv r r2 w w5 from ⟨hd5,hf5,oc.o.1.trans oc.o.2.1 oc.o.2.2 bh.o jm⟩)
 clear jm hd5 hf5 hK
 unfold Lm
 dsimp only
 clear K
 go_wp2_with fail
 exact⟨rfl,Or.inr ⟨b,v,r2,m2,s2,rfl,HD.o.2.2,.rfell HB.o HD.o.1,HD.o.2.1⟩⟩):P:=h
theorem qfe(h:P:=by
 rw[show(decide ((t.size:Int)<=0)&&decide (0<=n)&&decide (n<=200))=false from qed]
 clear hz
 go_enter func105,ntmps105
 go_wp2_with (first|(go_at_call 132;refine((Hw.o) _).mono ?_;rintro e w' ⟨rfl,rfl⟩))
 go_ret
 exact⟨aN _ _,rfl⟩):P:=h
theorem qiz(h:P:=by
 rw[show(decide ((t.size:Int)<=0)&&decide (0<=n)&&decide (n<=0))=false from qed]
 clear hz
 go_enter func105,ntmps105
 go_wp2_with (first|(go_at_call 132;refine((Hw.o) _).mono ?_;rintro e w' ⟨rfl,rfl⟩))
 go_ret
 exact⟨aN _ _,rfl⟩):P:=h
theorem qja(h:P:=by
 intro i hi
 rcases Nat.lt_or_ge i k with hl|hl
 ·obtain⟨h1,h2,h3⟩:=h i hl
  simp only[List.getElem?_set];rw[if_neg qg,if_neg qg,if_neg qg,if_neg qg,if_neg qg,if_neg qg,if_neg qg,if_neg qg,if_neg qg];exact⟨h1,h2,h3⟩
 ·obtain rfl:i=k:=qg
  simp[List.getElem?_set];omega):P:=h
theorem qdg(h:P:=by
 show _=_
 rw[←eW]
 have:=Fg (w.alloc (O #[I n,J (M ⟨tb,tf,N⟩) T.length tc,J qa R.length qc] 35)) (O #[J sa ss.length c1,J ta ts.length c2] 42)
 rw[show(w.alloc (O #[I n,J (M ⟨tb,tf,N⟩) T.length tc,J qa R.length qc] 35)).heap.size=w.heap.size+1 from qi]at this
 exact Ro this):P:=h
theorem qjb(h:P:=by
 show _=_
 rw[←eW]
 have:=Fg (w.alloc (O #[I n,J (p_ tb) T.length tc,J qa R.length qc] 35)) (O #[J sa ss.length c1,J ta ts.length c2] 42)
 rw[show(w.alloc (O #[I n,J (p_ tb) T.length tc,J qa R.length qc] 35)).heap.size=w.heap.size+1 from qi]at this
 exact Ro this):P:=h
theorem qjc(h:P:=by
 rw[show(decide ((t.size:Int)<=2000)&&decide (0<=n)&&decide (n<=0))=false from qed]
 go_enter func105,ntmps105
 go_wp2_with (first|(go_at_call 132;refine((Hw.o) _).mono ?_;rintro e w' ⟨rfl,rfl⟩))
 go_ret
 exact⟨aN _ _,rfl⟩):P:=h
theorem qjd(h:P:=by
 intro i hi
 obtain⟨b',off,ha,h1,h2,h3⟩:=h i hi
 cases ha
 have e:∀o,(w.setCell ⟨b,j,N⟩ v).cell? ⟨g,o,N⟩=w.cell? ⟨g,o,N⟩:=λo=>World.cell?_of_block (w:=w) (Dm w ⟨b,j,N⟩ v g (λe=>hb e.symm))
 exact⟨g,0,rfl,by rw[e];exact h1,by rw[e];exact h2,by rw[e];exact h3⟩):P:=h
theorem qje(h:P:=by
 go_simp
 refine hK.out _ _ (λh=>absurd rfl h) (λ_=>?_)
 clear hK K F5
 refine Lt.done qk ?_ _
 go_wp2
 go_roundw
 case rel=>exact⟨k+1,_,qg,qm,HNP.o,Cw HA.o (by rw[ES.o];exact ip),hbP7.setCell (p:=⟨P,1,N⟩) (Nat.le_refl _) _,by simpa using hs7⟩
 case measure=>simp[intOf];omega):P:=h
theorem qjf(h:P:=by
 refine Lt.sp (i:=6) (λK hK=>?_)
 go_simp
 refine hK.out _ _ (λ_=>HC4.o) (λ_=>?_)
 clear hK K
 try simp only[gX]
 refine Lt.sp (i:=7) (λK hK=>?_)
 go_simp
 refine hK.out _ _ (λ_=>HC4.o) (λ_=>?_)
 clear hK K
 try simp only[gX]
 refine Lt.done qk ?_ _
 go_wp2_with fail
 go_ret
 exact⟨ox.o,by simp[hv]⟩):P:=h
theorem qff(h:P:=by
 have gy:Bw w w2:=(aN _ _).grown ae qi (λk hk=>(dw.lt k hk).1)
 rw[Nat.zero_add,List.nil_append]at aw
 obtain⟨g,cp,rfl⟩:=Nh aw (λe=>by have:=(dj.1 e).1;cases this)
 clear ae dw hn dj
 go_wp2
 go_ret
 exact⟨gy,g,cp,rfl,aw⟩):P:=h
theorem qjg(h:P:=by
 intro i hi
 have hi':i<len:=by simpa using hi
 obtain⟨h1,h2,h3,_⟩:=hf i hi'
 rw[E7 i hi']
 obtain⟨b,off,spot⟩:=a
 have po:spot=N:=by
  have:=World.cell?_spot (hf 0 qg).1;simpa [Addr.add] using this
 subst po
 simp only[Addr.add_lit]at h1 h2 h3
 exact⟨b,off,rfl,h1,h2,h3⟩):P:=h
theorem qjh(h:P:=by
 go_enter func142,ntmps142
 go_wp2_with fail
 go_quiet (first|(go_at_call 162;exact Calls.quiet_of_same (Ql _ _))|(go_at_call 163;exact Calls.quiet_of_same (Ni _ _)))
 go_wp2
 go_ret
 exact⟨below_drewN (aN _ _) _,by simp[e1,e2];try rfl⟩):P:=h
theorem qji(h:P:=by
 obtain⟨g',oh,hv'⟩:∃g cap,v'=J (p_ g) (k+1) cap:=by
  rcases aw.2 with⟨_,h0⟩|⟨g,cap,cur,hv,_⟩
  ·omega
  ·exact⟨g,cap,hv⟩
 rw[HS.o,hv']at aw
 exact⟨⟨k+1,_,_,qg,qm,hv',aw,gy⟩,qap⟩):P:=h
theorem qjj(h:P:=by
 have s1:=HS.o.bl hV
 have hb:=jl.o.trans (hV.mono bx)
 exact has_any h sa ta c1 c2 ss ts nm V (by rw[cH s1.blk];rfl) (by rw[cH s1.blk];rfl) (HE.o.rs.bl hb) (HE.o.rt.bl hb) (zo HE.o.l1) (zo HE.o.l2)):P:=h
theorem qjk(h:P:=by
 have h:=Bf (w.alloc (O #[J a is.length cap] 70)) (O #[F false,I 0,ze,F false,ze,I 0] 187)
 rw[show(w.alloc (O #[J a is.length cap] 70)).heap.size=w.heap.size+1 from qi]at h
 exact h):P:=h
theorem qfg(h:P:=by rcases(show o=0\/o=1\/o=2\/o=3\/o=4\/o=5\/o=6\/o=7\/o=8\/o=9\/o=10\/o=11\/o=12\/o=13\/o=14\/o=15 from qg)with rfl|rfl|rfl|rfl|rfl|rfl|rfl|rfl|rfl|rfl|rfl|rfl|rfl|rfl|rfl|rfl<;>rfl):P:=h
theorem qjl(h:P:=by
 have hlI:¬ (lo:Int)<(ss.length:Int):=qg
 have HE:Hd (¬ El l t):=λh=>yq (by have:=(Nk jt.o HL.o HH.o h).1;have:=G6.o;omega)
 clear yq
 go_wp2_with fail
 go_ret2
 exact⟨bc,lo,Or.inl ⟨rfl,hle,HL.o,HH.o,Eh HE.o⟩⟩):P:=h
theorem qjm(h:P:=by
 clear ah aq af am
 go_wp2
 go_roundw
 case rel=>exact⟨k+1,_,qg,qm,(((HO.o.stored _ _).1.stored _ _).1.stored _ _).1,te,((lh.setCell (Nat.le_refl _) _).setCell (Nat.le_refl _) _).setCell (Nat.le_refl _) _⟩
 case measure=>simp[intOf];omega):P:=h
theorem qjn(h:P:=by
 go_simp
 refine hK.out _ _ (λh=>absurd rfl h) (λ_=>?_)
 clear hK K F5
 refine Lt.done qk ?_ _
 go_wp2
 go_roundw
 case rel=>exact⟨k+1,_,qg,qm,HNP.o,hbP7.setCell (p:=⟨P,2,N⟩) pe _⟩
 case measure=>simp[intOf];omega):P:=h
theorem qat(h:P:=by
 have HS:Hd (Df (s.data.toList.take (k+1))=hstep (Df (s.data.toList.take k)) s[k].toNat):=by rw[take_snocV s k ai];exact hash_snoc _ _
 go_wp2
 go_round
 case rel=>exact⟨k+1,qg,qm,by rw[HS.o];rfl⟩
 case measure=>simp[intOf];omega):P:=h
theorem qfh(h:P:=by
 simp only[Value.agg.injEq,Array.mk.injEq,List.cons.injEq,Value.int.injEq,Value.string.injEq,Value.slice.injEq,true_and,and_true]at h3
 obtain⟨rfl,rfl,rfl,rfl,rfl⟩:=h3
 exact⟨qh,λV tx qv u hk hs=>key _ V tx qv u (Ff _ _) noB hs⟩):P:=h
theorem qjo(h:P:=by
 show _=_
 rw[←eW,←eQ]
 have:=Fg (w.alloc (O #[J a is.length ac] 70)) (O #[I 0,ze,nS] 65)
 rwa [show(w.alloc (O #[J a is.length ac] 70)).heap.size=w.heap.size+1 from qi]at this):P:=h
theorem qjp(h:P:=by
 clear he HI
 go_wp2
 go_roundw
 case rel=>exact Or.inr ⟨by first|trivial|rfl,by subst ek;go_num,HR,by first|trivial|rfl,by first|exact⟨_,rfl⟩|trivial,by first|exact⟨_,rfl⟩|trivial⟩
 case measure=>simp[intOf];omega):P:=h
theorem qjq(h:P:=by
 subst hn
 intro i hi
 obtain⟨h1,h2,h3⟩:=hf i hi
 refine⟨g,0,rfl,?_,?_,?_⟩
 ·rw[Nat.zero_add,h.cellAt _ qg];exact h1
 ·rw[Nat.zero_add,h.cellAt _ qg];exact h2
 ·rw[Nat.zero_add,h.cellAt _ qg];exact h3):P:=h
theorem qjr(h:P:=by
 have ek:k=n:=qg
 subst ek
 have HEQ:=Ab (show is=js from ix_ext (D1.o.trans HLB.o.symm) (λj hj=>HN.o j (zo D1.o)))
 clear HN
 go_wp2
 go_ret
 exact⟨hB,true,rfl,by simp only[true_iff];exact HEQ.o⟩):P:=h
theorem qbi(h:P:=by
 go_wp2
 go_loopw [1,5] (λk i wr=>i=I 0∧k=I (K:Int)∧w=wr) (λ_ i _=>0)
 case atStart=>exact⟨rfl,rfl,rfl⟩
 case round=>
  obtain⟨rfl,rfl,rfl⟩:=hrel;go_wp2;go_ret;exact⟨rfl,rfl⟩):P:=h
theorem qjs(h:P:=by
 have HD:Hd (Kp w _ _ wr.drew):=HK.o.bl (Below.refl _ _).drew
 go_wp2
 go_region
 all_goals
  go_wp2;go_roundw
  case rel=>exact⟨m+1,qg,qm,Nt HA.o HV.o,HD.o⟩
  case measure=>simp[intOf];omega):P:=h
theorem qfi(h:P:=by
 go_wp2
 go_loopw [1,5] (λk i wr=>i=I 0/\k=I (K:Int)/\w=wr) (λ_ i _=>0)
 case atStart=>exact⟨rfl,rfl,rfl⟩
 case round=>
  obtain⟨rfl,rfl,rfl⟩:=hrel;go_wp2;go_ret;exact⟨rfl,rfl⟩):P:=h
theorem qjt(h:P:=by exact bR (v:=G #[J (p_ g) is.length cp]) (by simp[results,results53,go_sem,c1]) rfl ⟨hB.setCell (p:=⟨w.heap.size+1,0,N⟩) qi _,g,cp,rfl,Dg Of.o qg _⟩):P:=h
theorem qfj(h:P:=by rwa [show((w.alloc (O #[I n,J (p_ tb) T.length tc,J qa R.length qc] 35)).alloc (O #[J sa ss.length c1,J ta ts.length c2] 42)).heap.size=w.heap.size+2 from qi]at this):P:=h
theorem qju(h:P:=by
 have hne:∀b,(Value.slice (p_ g) is.length cp).ownBlock=M b→b≠w.heap.size+1+1:=λb hb=>by cases hb;show g≠_;omega
 exact Jw (Jw (Jw lj.o hne _) hne _) hne _):P:=h
theorem qjv(h:P:=by
 rw[if_pos qg,if_neg qg,if_pos qg,if_neg qg,if_neg qg,show i*3 / 3=i from qg,show(i*3+1) / 3=i from qg,show(i*3+2) / 3=i from qg]
 exact⟨rfl,rfl,rfl⟩):P:=h
theorem qjw(h:P:=by
 go_wp2_with fail
 go_roundw
 case rel=>exact⟨k+1,q,qg,qm,rfl,Or.inr (by rw[Nat.add_sub_cancel];exact HQ.o.symm),fb.o,HA1.o,z0,z1,z2,bg⟩
 case measure=>simp[intOf];omega):P:=h
theorem qjx(h:P:=by
 clear hz
 go_enter func105,ntmps105
 go_wp2_with (first|(go_at_call 132;refine((Hw.o) _).mono ?_;rintro e w' ⟨rfl,rfl⟩))
 go_ret
 exact⟨aN _ _,rfl⟩):P:=h
theorem qjy(h:P:=by
 clear hn
 go_enter func105,ntmps105
 go_wp2_with (first|(go_at_call 132;refine((Hw.o) _).mono ?_;rintro e w' ⟨rfl,rfl⟩))
 go_ret
 exact⟨aN _ _,rfl⟩):P:=h
theorem qjz(h:P:=by
 unfold Sa
 rw[e,List.length_append,List.length_singleton]
 exact((Hb (Hb (Hb (Hb (Hb (Hb (Hb (Hb (Hb (Hb ⟨h1.1,h2⟩ 0 _) 1 _) 2 _) 3 _) 4 _) 5 _) 6 _) 7 _) 8 _) 9 _)).1):P:=h
theorem qka(h:P:=by
 go_enter func104,ntmps104
 go_wp2_with (first|(go_at_call 76;refine(Cf g.name _ hn).mono ?_;rintro e w9 ⟨rfl,rfl⟩;rw[e1]))
 go_ret
 exact⟨ak,false,rfl,Eh HH.o⟩):P:=h
theorem qfk(h:P:=by rcases(show o=1\/o=2\/o=3\/o=4\/o=5\/o=6\/o=7\/o=8\/o=9\/o=10\/o=11 from qg)with rfl|rfl|rfl|rfl|rfl|rfl|rfl|rfl|rfl|rfl|rfl<;>rfl):P:=h
theorem qkb(h:P:=by
 refine⟨S3.o.1,?_⟩
 rcases S3.o.2 with⟨h2,_⟩|⟨g',cap,cur,hv,hg,hh,r⟩
 ·cases h2
 ·cases hv
  exact Or.inr ⟨g,cp,cur,rfl,hg,by rw[bc.block g hgP];exact hh,r⟩):P:=h
theorem qkc(h:P:=by
 by_cases hn:Ao (Cc s.stack)
 ·by_cases hk:s.looks=200
  ·rw[Ic hf ho hn hk]at h;cases h
  ·rw[Kf hf ho hn hk]at h;cases h
 ·rw[Ly hf ho hn]at h;cases h):P:=h
theorem qdh(h:P:=by
 rintro w ⟨r1,r2⟩
 obtain⟨y0,y1,y2,y3,y4,y5,y6,y7,y8,y9⟩:=Mi r1
 obtain⟨z0,z1,z2,z3,z4,z5,z6,z7,z8,z9⟩:=Mi r2
 go_simp
 first|done|with_reducible rfl):P:=h
theorem qkd(h:P:=by
 generalize nx ts k=x at *
 have d3:decide ((2002:Int)<(x.size:Int))=true:=qj
 unfold maxLen at ge
 go_wp2_with fail
 go_ret
 exact⟨bc,false,rfl,Eh HN.o⟩):P:=h
theorem qke(h:P:=by
 obtain rfl:j=k:=qg
 simp only[if_neg (show ¬ i=j from qg),if_true]
 intro b e1 e2
 obtain⟨zs,k1,_⟩:=h.code i n9
 have:=(k1.lt b e1).2
 have:=(ho.lt b e2).1
 omega):P:=h
theorem qkf(h:P:=by
 go_wp2_with (first|(go_at_call 96;refine(Dq g.name _ U4).mono ?_;rintro e w9 ⟨rfl,rfl⟩;rw[e1]))
 go_ret
 exact⟨bc.alloc bc.size _,false,rfl,Eh HO.o⟩):P:=h
theorem qfl(h:P:=by exact((hB.setCell (p:=⟨w.heap.size+1,0,N⟩) qi _).setCell (p:=⟨w.heap.size+1,1,N⟩) qi _).setCell (p:=⟨w.heap.size+1,2,N⟩) qi _):P:=h
theorem qkg(h:P:=by
 go_enter func49,ntmps49
 go_wp2_with (first|(go_at_call 54;refine(Kv _ _ qg qg).mono ?_;rintro e w9 ⟨rfl,rfl⟩))
 go_ret
 exact⟨ak,rfl⟩):P:=h
theorem qkh(h:P:=by
 intro _ hu
 obtain⟨k1,k2⟩:=ih (λ_ _ _ e=>by cases e;exact Nat.le_refl _) hu
 obtain⟨l1,l2⟩:=ih2 (λ_ _ _ e=>qw) k1
 exact⟨l1,Nat.le_trans k2 l2⟩):P:=h
theorem qki(h:P:=by
 have d3:decide ((200:Int)<(gs.length:Int))=true:=qj
 go_wp2
 go_ret
 exact⟨bm,false,rfl,Eh (λk=>by have:=k.2.2.1;simp only at this;omega)⟩):P:=h
theorem qkj(h:P:=by
 intro i hi
 obtain⟨h1,h2,h3⟩:=hm i hi
 exact⟨by rw[h.cellAt _ qg];exact h1,by rw[h.cellAt _ qg];exact h2,by rw[h.cellAt _ qg];exact h3⟩):P:=h
theorem qkk(h:P:=by
 have:=Zq (ts:=ts) (ms:=ms) (st:=st) HTI.o.1 (by rw[HTI.o.2.1];exact HF.o.2.2.2.1) (by rw[HTI.o.2.1];exact HF.o.2.1)
 rw[HTI.o.2.1]at this;exact this):P:=h
theorem qkl(h:P:=by
 rw[io.o b (λq2=>?_),wn.o b cur q]
 have q3:=oa.o
 rw[←q2,wn.o b cur q,q]at q3
 injection q3 with q3;injection q3 with _ q3;exact absurd q3 qh):P:=h
theorem qkm(h:P:=by
 rw[hne b (λe=>by
  subst e;rw[hg]at hb;injection hb with hb;injection hb with _ hb
  rcases hT with e|e<;>rw[e]at hb<;>exact absurd hb qh)]
 exact hb):P:=h
theorem qdi(h:P:=by
 have hb:=World.block_lt_of_cell? _ _ h
 rw[World.cell?_alloc_lt _ _ _ qj,World.cell?_alloc_lt _ _ _ qj,World.cell?_alloc_lt _ _ _ hb];exact h):P:=h
theorem qkn(h:P:=by
 rintro e w1 ⟨ag,r,rfl,hr⟩
 have bm:=bt ak ag
 clear ak ag
 go_wp2
 all_goals go_ret
 ·exact⟨bm,-1,rfl,qg⟩
 ·exact⟨bm,r,rfl,qg⟩):P:=h
theorem qko(h:P:=by
 go_wp2_with fail
 refine(HN.o _).mono ?_
 rintro e w2 ⟨af,rfl⟩
 go_wp2_with fail
 go_ret2
 exact⟨bt bc af,lo,true,rfl,hle,HL.o,HH.o,Gv HE.o⟩):P:=h
theorem qkp(h:P:=by
 go_wp2_with fail
 refine(HN.o _).mono ?_
 rintro e w2 ⟨af,rfl⟩
 go_wp2_with fail
 go_ret2
 exact⟨bt bc af,lo,false,rfl,hle,HL.o,HH.o,Eh HE.o⟩):P:=h
theorem qfm(h:P:=by
 rintro w ⟨s1,s2,s3,s4⟩
 obtain⟨x0,x1,x2⟩:=Bb s4
 have y0:=cK s1 0
 obtain⟨n0,-,n2,-⟩:=Kk s2
 go_simp
 first|done|with_reducible rfl):P:=h
theorem qkq(h:P:=by
 go_wp2
 go_roundw
 case rel=>exact⟨m+1,qg,qm,congrArg (Value.int .i64) (zo HE.o),bg⟩
 case measure=>simp[intOf];omega):P:=h
theorem qkr(h:P:=by
 go_wp2
 go_roundw
 case rel=>exact⟨k+1,_,qg,qm,rfl,qg,qg,bc.trans (ag.mono bc.size)⟩
 case measure=>simp[intOf];omega):P:=h
theorem qks(h:P:=by
 have ek:k=is.length:=qg
 subst ek
 rw[List.take_of_length_le qg]at ah
 go_wp2
 go_ret
 exact⟨am,ao,cp,rfl,Qb qg ah⟩):P:=h
theorem qkt(h:P:=by
 intro _ hu
 obtain⟨k1,k2⟩:=ih (λ_ _ _ e=>qw) hu
 obtain⟨l1,l2⟩:=ih2 (λ_ _ _ e=>qw) k1
 exact⟨l1,Nat.le_trans k2 l2⟩):P:=h
theorem qku(h:P:=by
 go_wp2_with fail
 refine(Tryz.strings_Compare _ t _).mono ?_
 rintro e w2 ⟨rfl,rfl⟩
 go_wp2
 go_ret
 exact⟨aN _ _,rfl⟩):P:=h
theorem qkv(h:P:=by
 have hs:=World.cells?_some hc
 exact⟨t,by simpa using hs.2.2 0 qg,by simpa using hs.2.2 1 qg,by simpa using hs.2.2 2 qg,U0⟩):P:=h
theorem qkw(h:P:=by
 have h:=Cy (K+3*m+2) W qg F6
 rw[show((K+3*m+2:X):Int)=((K+3*m:X):Int)+1+1 from qg]at h
 exact h):P:=h
theorem qkx(h:P:=by rw[hne _ (λe=>by have q2:=q.rs.sh;rw[e,hg]at q2;injection q2 with q2;injection q2 with _ q2;exact absurd q2 qh)];exact q.rs.sh):P:=h
theorem qky(h:P:=by rw[hne _ (λe=>by have q2:=q.rs.bd;rw[e,hg]at q2;injection q2 with q2;injection q2 with _ q2;exact absurd q2 qh)];exact q.rs.bd):P:=h
theorem qkz(h:P:=by
 go_upto_region 16 with fail
 go_wp2_with fail
 exact⟨⟨i+1,ms1,s1,av1,kv1,vs1,r1,qg,qm,re.o⟩,qap⟩):P:=h
theorem qla(h:P:=by
 rintro w ⟨s1,s2⟩
 obtain⟨q0,q1,q2,q3,q4,q5⟩:=Hn s1
 obtain⟨r0,r1,r2⟩:=Bb s2
 go_simp
 first|done|with_reducible rfl):P:=h
theorem qbp(h:P:=by
 rintro w ⟨s1,s2,s3,s4⟩
 obtain⟨x0,x1,x2⟩:=Bb s4
 obtain⟨n0,-,n2,-⟩:=Kk s2
 go_simp
 first|done|with_reducible rfl):P:=h
theorem qlb(h:P:=by
 refine⟨h.1,?_⟩
 rcases h.2 with h|⟨g,cap,cur,hv,hg,r⟩
 ·exact Or.inl h
 ·exact Or.inr ⟨g,cap,cur,hv,Nat.le_trans hB hg,r⟩):P:=h
theorem qlc(h:P:=by
 rintro w ⟨s1,s2,s3,s4⟩
 obtain⟨p0,p1,p2,-⟩:=Ci s1
 obtain⟨q0,q1,q2,-⟩:=Ci s2
 go_simp
 first|done|with_reducible rfl):P:=h
theorem qbq(h:P:=by
 rintro w ⟨s1,s2,s3,s4⟩
 obtain⟨l0,l1,l2,-⟩:=Ci s1
 obtain⟨x0,x1,x2,-⟩:=Ci s2
 go_simp
 first|done|with_reducible rfl):P:=h
theorem qld(h:P:=by
 rintro e w' ⟨he,hb,hk,ys,ho,hm⟩
 exact⟨he,hb,λb hl hne=>hk b hl (λe=>hne (by subst e;rfl)),ys,⟨ho,hr.top⟩,hm⟩):P:=h
theorem qfn(h:P:=by
 simp only[Ot,List.cons.injEq,and_true,true_and]at h
 obtain⟨rfl,rfl,rfl,rfl,rfl⟩:=h
 exact⟨rfl,rfl,Ff _ _,rfl,rfl⟩):P:=h
theorem qle(h:P:=by
 rw[eT.out]at hk
 rw[el]at b1
 have hlI:(l:Int)+1<=50:=qg
 clear el
 go_wp2_with fail
 go_meet
 case rel=>exact⟨rfl,rfl⟩):P:=h
theorem qlf(h:P:=by
 show f k=v
 cases v
 ·cases hf:f k
  ·rfl
  ·have:=(D2.o k).1 hf
   rw[hyv]at this;cases this
 ·exact(D2.o k).2 hyv):P:=h
theorem qlg(h:P:=by
 have d2:((out.size:Int) != (n:Int))=true:=qj
 go_wp2
 go_ret
 exact⟨bm,false,rfl,Eh (λk=>h2 k.2.1)⟩):P:=h
theorem qlh(h:P:=by
 refine⟨h.1,?_⟩
 rcases h.2 with k|⟨g,cap,cur,e,hg,r⟩
 ·exact Or.inl k
 ·exact Or.inr ⟨g,cap,cur,e,qg,r⟩):P:=h
theorem qli(h:P:=by
 cases hv
 refine Or.inr ⟨g,cap,cur,rfl,hg,?_,r⟩
 rw[Dm w ⟨b,j,N⟩ v g (λe=>hb e.symm)];exact hh):P:=h
theorem qlj(h:P:=by
 rcases h:out.toList with _|⟨x,l⟩
 ·exfalso
  apply ho;rw[ByteArray.toList_eq]at h;exact WideShapes.bytes_inj h
 ·rfl):P:=h
theorem qfo(h:P:=by
 intro i hi
 obtain⟨b,off,ha,h1,h2,h3⟩:=h i hi
 exact⟨b,off,ha,Aa hb h1,Aa hb h2,Aa hb h3⟩):P:=h
theorem qlk(h:P:=by
 rintro w ⟨s1,s2⟩
 obtain⟨x0,x1,x2⟩:=Bb s1
 obtain⟨y0,y1⟩:=En s2
 go_simp
 first|done|with_reducible rfl):P:=h
theorem qay(h:P:=by
 rintro w ⟨r1,r2⟩
 obtain⟨p0,p1,p2,-⟩:=Ci r1
 obtain⟨s0,s1⟩:=En r2
 go_simp
 first|done|with_reducible rfl):P:=h
theorem qll(h:P:=by
 go_wp2_with fail
 go_roundw
 case rel=>exact⟨k+1,qg,qm,qaj,re⟩
 case measure=>simp[intOf];omega):P:=h
theorem qlm(h:P:=by
 clear ut M5 xx
 unfold Lm
 go_wp2_with fail
 exact⟨rfl,Or.inr ⟨v,bb,_,r2,rfl,.bad I8.o,ws.o.2,ws.o.1⟩⟩):P:=h
theorem qln(h:P:=by
 rintro e w' ⟨he,hb,hk,ys,ho,hm⟩
 exact⟨he,hb,λb hl hne=>hk b hl (λe=>hne (by subst e;rfl)),ys,ho,hm⟩):P:=h
theorem qck(h:P:=by
 intro i h
 have:f i=Classical.choose (If i h):=by simp only[f,dif_pos h]
 rw[this];exact Classical.choose_spec (If i h)):P:=h
theorem qlo(h:P:=by
 go_wp2_with (go_at_call 76;refine(HN.o _).mono ?_;rintro e w' ⟨rfl,rfl⟩)
 go_ret
 exact⟨am,qai⟩):P:=h
theorem qlp(h:P:=by
 go_wp2
 go_region
 all_goals
  go_wp2;go_ret;exact⟨by repeat (first|exact am|apply Below.drew),qai⟩):P:=h
theorem qlq(h:P:=by
 have:=Zq (ts:=ts) (ms:=ms) (st:=st) h3 (by rw[h4];exact h1) (by rw[h4];exact h0)
 rw[h4]at this;exact this):P:=h
theorem qlr(h:P:=by
 go_wp2
 go_ret
 exact⟨bc,_,rfl,by refine Or.inr ⟨qg,qg,qg,λi hi=>HK.o i qg⟩⟩):P:=h
theorem qls(h:P:=by
 clear jy jg
 go_wp2
 go_ret
 exact⟨rfl,(((KB.old HBA.o hB).trans ag).drew.trans af).setM 2 jz _,G5.o.place _⟩):P:=h
theorem qlt(h:P:=by
 rcases Nat.lt_or_ge w.heap.size w1.heap.size with h'|h'
 ·exact h'
 ·rw[Array.getElem?_eq_none h']at ba;cases ba):P:=h
theorem qlu(h:P:=by
 go_wp2
 go_roundw
 case rel=>exact⟨j+1,qg,qm,trivial,S4.o⟩
 case measure=>simp[intOf];omega):P:=h
theorem qfp(h:P:=by
 go_enter func103,ntmps103
 go_wp2
 go_ret
 exact⟨aN _ _,_,rfl,qg⟩):P:=h
theorem qlv(h:P:=by rw[Dm w1 ⟨m,2,N⟩ _ _ qj];exact ag.keep _ _ 187 qh qg ja.o):P:=h
theorem qlw(h:P:=by
 rcases ah.2 with⟨hv,h0⟩|⟨g,cap,cur,hv,_⟩
 ·exact⟨N,0,by rw[hv,h0]⟩
 ·exact⟨_,_,hv⟩):P:=h
theorem qfq(h:P:=by
 have AF:Hd _:=e
 clear e h
 go_wp2_with fail
 go_meet
 case rel=>exact⟨rfl,vk,by rw[AF.o];exact fl,ye⟩):P:=h
theorem qfr(h:P:=by
 go_enter func47,ntmps47
 go_wp2
 go_ret
 exact⟨aN _ _,_,rfl,qg⟩):P:=h
theorem qlx(h:P:=by
 have HA0:Hd _:=hA0
 clear hA0
 go_wp2_with fail
 go_meet
 case rel=>exact⟨congrArg Value.string HA0.o,rfl⟩):P:=h
theorem qly(h:P:=by
 rcases Nat.lt_or_ge i' k with h|h
 ·exact HK.o i' h
 ·obtain rfl:i'=k:=qg;rw[<- HI.o];exact hb):P:=h
theorem qlz(h:P:=by exact⟨ys,k1.same λb eb=>hk b (k1.own.lt b eb).2 (λe'=>Tc k1.own k0.own qh b eb e'.symm)⟩):P:=h
theorem qma(h:P:=by
 rw[List.getElem?_map,Hq hi,gG,Hq hi]
 rfl):P:=h
theorem qfs(h:P:=by
 rcases ul with r|r
 ·left;rw[EXV.o,←r];exact q
 ·right;rw[r]at q;cases q;exact Nat.le_refl _):P:=h
theorem qmb(h:P:=by
 rw[gG,gG,List.getElem?_map,Hq h]
 rfl):P:=h
theorem qmc(h:P:=by
 obtain⟨zs,cv,lv,qr⟩:=q.rs.qs
 obtain⟨cs,c1⟩:=Bd qr.row b o
 rw[c1];exact hsb b cs _ c1):P:=h
theorem qmd(h:P:=by
 unfold Rr
 generalize u.toNat=m
 by_cases h1:m=32<;>by_cases h2:m=10<;>simp[h1,h2]<;>omega):P:=h
theorem qft(h:P:=by
 rintro w ⟨s1,s2,s3,s4⟩
 obtain⟨x0,x1,x2⟩:=Bb s4
 go_simp
 first|done|with_reducible rfl):P:=h
theorem qme(h:P:=by
 rintro w ⟨s1,s2,s3,s4⟩
 obtain⟨q0,q1,q2⟩:=Bb s4
 go_simp
 first|done|with_reducible rfl):P:=h
theorem qmf(h:P:=by
 rintro e w' ⟨rfl,rfl⟩
 exact⟨rfl,Below.refl _ _,λ_ _ _=>rfl,xs,ah,λi hi=>qg⟩):P:=h
theorem qmg(h:P:=by
 go_wp2
 go_ret
 exact⟨bm,false,rfl,Eh (λk=>by have:=k.1;rw[EV.o]at this;cases this)⟩):P:=h
theorem qmh(h:P:=by
 go_enter func142,ntmps142
 go_wp2
 go_ret
 exact⟨aN _ _,rfl⟩):P:=h
theorem qmi(h:P:=by
 go_enter func137,ntmps137
 go_wp2
 go_ret
 exact⟨rfl,aN _ _⟩):P:=h
theorem qmj(h:P:=by
 rcases Db rm with⟨h,_⟩|⟨g',c',h⟩
 ·exact⟨_,_,_,h⟩
 ·exact⟨_,_,_,h⟩):P:=h
theorem qmk(h:P:=by
 rintro e w' ⟨rfl,rfl⟩
 exact⟨rfl,Below.refl _ _,λ_ _ _=>rfl,xs,hr,λi hi=>qg⟩):P:=h
theorem qml(h:P:=by exact Ln (Ln (Ln (Ah A7.o qg) qg _) qg _) qg _):P:=h
theorem qmm(h:P:=by exact Ln (Ln (Ln (Ah xr.o qg) qg _) qg _) qg _):P:=h
theorem qaz(h:P:=by
 rintro w ⟨s1,s2,s3⟩
 obtain⟨q0,q1,q2⟩:=Bb s3
 go_simp
 first|done|with_reducible rfl):P:=h
theorem qmn(h:P:=by
 rcases Nat.lt_or_ge b w.heap.size with h'|h'
 ·exact h'
 ·rw[Array.getElem?_eq_none h']at h;cases h):P:=h
theorem qmo(h:P:=by
 rintro w s1
 obtain⟨q0,q1,q2,q3,q4,q5⟩:=Hn s1
 go_simp
 first|done|with_reducible rfl):P:=h
theorem qmp(h:P:=by
 rw[←ew5,←eP]
 exact⟨Oe _ _,[],World.ownsRow_nil _ _ 115 3,λi hi=>qg⟩):P:=h
theorem qmq(h:P:=by
 simp[Value.ownBlock]at q
 subst q
 rcases hl with q|q
 ·exact Or.inl q
 ·exact Or.inr qg):P:=h
theorem qbr(h:P:=by
 rintro w ⟨s1,s2⟩
 obtain⟨x0,x1,x2⟩:=Bb s2
 go_simp
 first|done|with_reducible rfl):P:=h
theorem qmr(h:P:=by
 rintro w ⟨s1,s2⟩
 obtain⟨q0,q1,q2⟩:=Bb s2
 go_simp
 first|done|with_reducible rfl):P:=h
theorem qfu(h:P:=by
 have hl:=h.1
 exact⟨xs[j]'qg,by rw[h.cellAt j hj];exact Hq _⟩):P:=h
theorem qms(h:P:=by
 apply List.ext_getElem?
 intro i
 by_cases h:i<n<;>simp[madeCells,Value.cells,h,Nat.mod_one]):P:=h
theorem qmt(h:P:=by unfold qx;rw[gG,List.getElem?_append_left h,gG]):P:=h
theorem qba(h:P:=by
 rintro w ⟨s1,s2⟩
 obtain⟨t0,t1,-⟩:=Lg s2
 go_simp
 first|done|with_reducible rfl):P:=h
theorem qmu(h:P:=by
 rcases Nat.lt_or_ge j k with q|q
 ·exact HN.o j q
 ·obtain rfl:j=k:=qg
  exact he):P:=h
theorem qmv(h:P:=by
 have em:m=n:=qg
 subst em
 go_wp2
 go_ret
 exact⟨rfl,bc,HK.o,ys,HR.o,HM.o⟩):P:=h
theorem qdj(h:P:=by
 have em:m=n:=qg
 subst em
 go_wp2
 go_ret
 exact⟨rfl,bc,HK.o,ys,HO.o,HM.o⟩):P:=h
theorem qmw(h:P:=by have q:=k.sh;rw[hb]at q;injection q with q;injection q with _ q;exact absurd q qh):P:=h
theorem qmx(h:P:=by have q:=k.bd;rw[hb]at q;injection q with q;injection q with _ q;exact absurd q qh):P:=h
theorem qcl(h:P:=by
 obtain⟨cs,c1⟩:=Bd ho b q
 rw[hne b (L1 b cs _ he c1),k2 b (ho.lt b q).2 (hx b q)]):P:=h
theorem qfv(h:P:=by
 have ek:k=is.length:=qg
 subst ek
 go_wp2
 go_ret
 exact⟨am,_,rfl,_,ah,V0⟩):P:=h
theorem qfw(h:P:=by
 go_wp2_with fail
 go_region
 all_goals
  go_wp2;go_ret;exact⟨hB.drew,false,rfl,D0.o⟩):P:=h
theorem qcm(h:P:=by have q:=k.bd;rw[e]at hb;rw[hb]at q;injection q with q;injection q with _ q;exact hT q):P:=h
theorem qmy(h:P:=by exact(((xr.o.set qg _).set qg _).set qg _).wide qg qi):P:=h
theorem qmz(h:P:=by exact(((lj.o.set qg _).set qg _).set qg _).wide qg qi):P:=h
theorem qna(h:P:=by
 clear au gu ba
 go_wp2_with fail
 go_ret
 exact Or.inr ⟨rfl,_,_,HF.o,gi.o,HD.o⟩):P:=h
theorem qnb(h:P:=by
 rw[List.length_map]
 exact Jw (Jw (Jw um.o HV.o _) HV.o _) HV.o _):P:=h
theorem qnc(h:P:=by
 obtain⟨cs,c1⟩:=Bd qr.row b o
 rw[c1];exact kT b cs _ qh qh c1):P:=h
theorem qfx(h:P:=by
 obtain⟨AJ,⟨es,cl,h1,h2⟩,h3⟩:=h
 exact⟨AJ,⟨es,cl,he.trans h1,h2⟩,h3⟩):P:=h
theorem qnd(h:P:=by exact⟨rfl,(((Below.refl _ _).drew.alloc (Nat.le_refl _) _).trans (ag.mono qi))⟩):P:=h
theorem qne(h:P:=by
 rw[hd]at this
 rcases this with⟨e,_⟩|⟨_,_,_,e,_⟩<;>simp at e
 exact e.2.1):P:=h
theorem qnf(h:P:=by
 rcases pq.2 with⟨e,h0⟩|⟨g,cap,cur,e,_⟩
 ·omega
 ·exact⟨g,cap,e⟩):P:=h
theorem qfy(h:P:=by
 go_wp2
 go_ret
 exact⟨(aN _ _).alloc qi _,rfl⟩):P:=h
theorem qdk(h:P:=by
 rintro w s1
 obtain⟨q0,q1,q2⟩:=Bb s1
 go_simp
 first|done|with_reducible rfl):P:=h
theorem qdl(h:P:=by
 obtain⟨zs,cv,lv,qr⟩:=q.rs.qs
 subst e
 exact Ae qr.row qh hg o):P:=h
theorem qng(h:P:=by
 have bg:=bt ak af
 clear hr ak af
 go_wp2
 go_ret2
 exact⟨bg,r,b,rfl,HR.o⟩):P:=h
theorem qnh(h:P:=by
 go_wp2_with fail
 go_meet
 case rel=>exact⟨rfl,vk,by rw[AF.o];exact iq,C9⟩):P:=h
theorem qni(h:P:=by refine⟨?_,?_,?_,?_,?_,?_,?_,?_,?_,?_⟩<;>rw[cH h]<;>rfl):P:=h
theorem qnj(h:P:=by
 unfold Av at hp
 simp only[Bool.and_eq_true,decide_eq_true_eq]at hp
 exact hp.1.1):P:=h
theorem qnk(h:P:=by rw[World.cell?_of_block (cu w.heap.size qg (λe=>hne e.symm))];exact k1):P:=h
theorem qnl(h:P:=by
 simp only[if_neg (show ¬ i=k from qg)]
 exact⟨zs,hsame k1 qh,k2⟩):P:=h
theorem qnm(h:P:=by exact hk b (k2.own.lt b eb).2 (λe'=>Tc k2.own k0.own qh b eb e'.symm)):P:=h
theorem qdm(h:P:=by simp only[Dd,List.length_singleton,List.mem_singleton,exists_eq_left];omega):P:=h
theorem qfz(h:P:=by
 obtain⟨x0,x1,x2⟩:=Bb s2
 go_simp
 first|done|with_reducible rfl):P:=h
theorem qar(h:P:=by
 intro w hSw
 try dsimp only at hSw
 go_simp
 first|done|with_reducible rfl):P:=h
theorem qag(h:P:=by
 go_enter func157,ntmps157
 go_wp2
 go_ret2
 exact⟨rfl,rfl⟩):P:=h
theorem qad(h:P:=by
 go_enter func132,ntmps132
 go_wp2
 go_ret2
 exact⟨rfl,rfl⟩):P:=h
theorem qdn(h:P:=by
 have em:m=n:=qg
 subst em
 go_wp2
 go_ret
 exact⟨rfl,bc⟩):P:=h
theorem qga(h:P:=by
 go_enter func163,ntmps163
 go_wp2
 go_ret
 exact⟨rfl,rfl⟩):P:=h
theorem qgb(h:P:=by
 go_enter func64,ntmps64
 go_wp2
 go_ret
 exact⟨rfl,rfl⟩):P:=h
theorem qgc(h:P:=by
 go_enter func54,ntmps54
 go_wp2
 go_ret
 exact⟨rfl,rfl⟩):P:=h
theorem qgd(h:P:=by
 go_wp2
 go_ret
 exact⟨Below.refl _ _,-1,rfl,Or.inl qg⟩):P:=h
theorem qge(h:P:=by
 clear he HI
 go_wp2
 go_ret
 exact⟨by rw[<- HR.o];rfl,rfl⟩):P:=h
theorem qdo(h:P:=by
 rintro w ⟨r1,r2⟩
 go_simp
 first|done|with_reducible rfl):P:=h
theorem qgf(h:P:=by exact Or.inl (Or.inr (Or.inr (Or.inr (Or.inr (Or.inr q)))))):P:=h
theorem qgg(h:P:=by exact Or.inl (Or.inr (Or.inr (Or.inr (Or.inr (Or.inl q)))))):P:=h
theorem qdp(h:P:=by
 rintro e w' ⟨rfl,rfl⟩
 exact⟨rfl,Below.refl _ _⟩):P:=h
theorem qgh(h:P:=by simpa [List.getElem?_take,List.getElem?_drop] using this):P:=h
theorem qdq(h:P:=by
 go_wp2
 go_ret
 exact⟨bg,-1,rfl,Or.inl qg⟩):P:=h
theorem qgi(h:P:=by
 intro g' aj w' h1 h2 h3 h4
 exact h g' aj w' h1 h2 h3):P:=h
theorem qdr(h:P:=by exact Or.inl (Bk C (u:=r.uv) qy e)):P:=h
theorem qcn(h:P:=by exact Or.inl (Bk C (u:=r.tx) qy e)):P:=h
theorem qco(h:P:=by exact Or.inl (Bk C (u:=r.su) qy e)):P:=h
theorem qds(h:P:=by exact Or.inl (Bk C (u:=r.qv) qy e)):P:=h
theorem qdt(h:P:=by exact Or.inl (Bk C (u:=r.nv) qy e)):P:=h
theorem qdu(h:P:=by exact Or.inl (Bk C (u:=r.ev) qy e)):P:=h
theorem qdv(h:P:=by exact Or.inl (Bk C (u:=r.dv) qy e)):P:=h
theorem qdw(h:P:=by
 rintro w s1
 go_simp
 first|done|with_reducible rfl):P:=h
theorem qdx(h:P:=by
 intro g' aj w' h1 h2 h3 h4
 exact h g' aj w' h1 h2):P:=h
theorem qbs(h:P:=by exact⟨N,0,by rw[h0],λi hi=>qg⟩):P:=h
theorem qgj(h:P:=by exact Or.inl (Or.inr (Or.inr (Or.inr (Or.inl q))))):P:=h
theorem qgk(h:P:=by
 go_ret
 exact⟨bc,true,rfl,Gv HO.o⟩):P:=h
theorem qdy(h:P:=by
 unfold Hp at *
 rw[jB hm]
 rfl):P:=h
theorem qdz(h:P:=by
 go_wp2_with fail
 go_ret
 exact⟨rfl,HB.o⟩):P:=h
theorem qgl(h:P:=by
 go_ret
 exact⟨hB.drew,false,rfl,D0.o⟩):P:=h
theorem qea(h:P:=by
 show _=_
 rw[<- eW];exact Ro (Fg _ _)):P:=h
theorem qbt(h:P:=by
 show _=_
 rw[<- eW];exact Bf _ _):P:=h
theorem qae(h:P:=by
 go_simp
 first|done|with_reducible rfl):P:=h
theorem qcp(h:P:=by exact Or.inl (Or.inr (Or.inr (Or.inl e)))):P:=h
theorem qbu(h:P:=by
 go_wp2
 go_ret
 exact⟨am,rfl⟩):P:=h
theorem qam(h:P:=by
 go_wp2
 go_ret
 exact⟨rfl,rfl⟩):P:=h
theorem qeb(h:P:=by exact⟨N,0,by rw[e,h0]⟩):P:=h
theorem qcq(h:P:=by exact Or.inl (Or.inr (Or.inl e))):P:=h
theorem qbv(h:P:=by rw[←eW];exact Ay (Ay (Ai _ _) (Ai _ _)) (Ai _ _)):P:=h
theorem qec(h:P:=by simp[results,results158,go_sem,Eg,k0,k1,k2,k3,k4,k5,k6,k7,k8,k9]):P:=h
theorem qbw(h:P:=by simp[results,results134,go_sem,Eg,z0,z1,z2,z3,z4,z5,z6,z7,z8,z9]):P:=h
theorem qed(h:P:=by rw[Bool.eq_false_iff];simp only[ne_eq,Bool.and_eq_true,decide_eq_true_eq];omega):P:=h
theorem qcr(h:P:=by simp[results,results31,go_sem,y0,y1,y2,y3,y4,y5,y6,y7,y8,y9]):P:=h
theorem qee(h:P:=by simp[results,results22,go_sem,y0,y1,y2,y3,y4,y5,y6,y7,y8,y9]):P:=h
theorem qgm(h:P:=by simp[results,results51,go_sem,y0,y1,y2,y3,y4,y5,y6,y7,y8,y9]):P:=h
theorem qgn(h:P:=by simp[results,results164,go_sem,Bc,Fw,k0,k1,k2,k3,k4,k5]):P:=h
theorem qgo(h:P:=by simp only[Ll,Bool.and_eq_true,decide_eq_true_eq]at fw;simp;omega):P:=h
theorem qgp(h:P:=by rw[World.cell?_alloc_lt _ _ _ (World.block_lt_of_cell? _ _ h)];exact h):P:=h
theorem qgq(h:P:=by simp[results,results153,go_sem,Pc,v0,v1,v2,v3,v4,v5]):P:=h
theorem qgr(h:P:=by simp[results,results177,go_sem,Bc,k0,k1,k2,k3,k4,k5]):P:=h
theorem qbx(h:P:=by simp[results,results164,go_sem,Bc,k0,k1,k2,k3,k4,k5]):P:=h
theorem qef(h:P:=by simp[results,results166,go_sem,Bc,k0,k1,k2,k3,k4,k5]):P:=h
theorem qby(h:P:=by rw[<- eW];exact Ay (Ai _ _) (Ai _ _)):P:=h
theorem qeg(h:P:=by simp[results,results160,go_sem,r0,r1,r2,r3,r4,r5]):P:=h
theorem qeh(h:P:=by simp[results,results169,go_sem,r0,r1,r2,r3,r4,r5]):P:=h
theorem qgs(h:P:=by rw[<- eq];exact Xs s.name t y s.code.length p W):P:=h
theorem qgt(h:P:=by rw[←eW];exact aN _ _):P:=h
theorem qei(h:P:=by rw[←e3];exact aN _ _):P:=h
theorem qbb(h:P:=by rw[←e6];exact aN _ _):P:=h
theorem qcs(h:P:=by rintro e;apply hne;rw[hv];simp[Value.ownBlock,e]):P:=h
theorem qej(h:P:=by simp only[Bool.and_eq_true,decide_eq_true_eq];omega):P:=h
theorem qbz(h:P:=by rw[List.length_append,List.length_singleton];omega):P:=h
theorem qct(h:P:=by rw[Nat.zero_add,List.nil_append]at ky;exact ky):P:=h
theorem qca(h:P:=by show _=_;rw[←eW];exact Ro (Ro (Fg _ _))):P:=h
theorem qgu(h:P:=by simp[results,results108,go_sem,Tb,resA]):P:=h
theorem qgv(h:P:=by simp[results,results146,go_sem,Tb,resA]):P:=h
theorem qgw(h:P:=by show _=_;rw[←eW,←eQ];exact Ro (Fg _ _)):P:=h
theorem qgx(h:P:=by simp[results,results82,go_sem,y0,y1,y2]):P:=h
theorem qau(h:P:=by simp[results,results52,go_sem,y0,y1,y2]):P:=h
theorem qgy(h:P:=by simp[results,results61,go_sem,z0,z1,z2]):P:=h
theorem qgz(h:P:=by rw[cH ct.o.blk,←EQV.o];rfl):P:=h
theorem qha(h:P:=by rw[<- eq];exact Xt s.name s.text t W):P:=h
theorem qbj(h:P:=by rw[Lib.alloc_old _ _ _ (Ag Io)];exact Io):P:=h
theorem qhb(h:P:=by rw[af.block _ (Ag ia.o)];exact ia.o):P:=h
theorem qek(h:P:=by rw[List.length_append,List.length_singleton]):P:=h
theorem qhc(h:P:=by rw[<- eq];exact Ex x n W hx0 h1 h8):P:=h
theorem qhd(h:P:=by show _=_;rw[←eW];exact Ro (Fg _ _)):P:=h
theorem qcu(h:P:=by show _=_;rw[←e6,←eRR];exact Fg _ _):P:=h
theorem qhe(h:P:=by rw[he,decide_eq_false_iff_not];exact hz):P:=h
theorem qhf(h:P:=by simp only[Nat.min_def];split<;>omega):P:=h
theorem qbc(h:P:=by rw[<- eU];exact(Below.refl _ _).drew):P:=h
theorem qan(h:P:=by rw[←eU];exact(Below.refl _ _).drew):P:=h
theorem qaf(h:P:=by rw[←eD];exact(Below.refl _ _).drew):P:=h
theorem qbk(h:P:=by rw[cH ct.o.blk];rfl):P:=h
theorem qcb(h:P:=by rw[cH xq.o.blk];rfl):P:=h
theorem qbd(h:P:=by simp[results,results65,go_sem]):P:=h
theorem qak(h:P:=by intro u hu;simp at hu;subst hu;rfl):P:=h
theorem qhg(h:P:=by simp[Lib.compareBytes,Op.bytesLess]):P:=h
theorem qhh(h:P:=by show _=_;rw[←eX];exact Fg _ _):P:=h
theorem qel(h:P:=by intro u hu;simp at hu;rw[hu];rfl):P:=h
theorem qhi(h:P:=by rw[he,decide_eq_true_eq];exact hz):P:=h
theorem qem(h:P:=by rw[bc.block _ hwP];exact KB5.o):P:=h
theorem qen(h:P:=by rw[hne _ (Ne.symm hHb)];exact dp):P:=h
theorem qhj(h:P:=by rw[decide_eq_false_iff_not];omega):P:=h
theorem qcc(h:P:=by rw[←eW];exact heapW_old2 _ _ _):P:=h
theorem qcd(h:P:=by rw[←eW];exact heapW_new2 _ _ _):P:=h
theorem qbe(h:P:=by rw[<- eW];exact Ai _ _):P:=h
theorem qeo(h:P:=by rw[jB iz];rfl):P:=h
theorem qep(h:P:=by rw[←e4];exact Ai _ _):P:=h
theorem qeq(h:P:=by rw[←e5];exact Ai _ _):P:=h
theorem qhk(h:P:=by rw[←e7];exact Ai _ _):P:=h
theorem qhl(h:P:=by rw[←eX];exact Ai _ _):P:=h
theorem qhm(h:P:=by rw[cH h.blk];rfl):P:=h
theorem qer(h:P:=by rw[e,cH h];rfl):P:=h
theorem qhn(h:P:=by rw[List.length_append];omega):P:=h
theorem qav(h:P:=by simpa [Value.ownBlock] using q):P:=h
theorem qcv(h:P:=by simpa [Value.ownBlock] using e):P:=h
theorem qho(h:P:=by rw[cH B9];rfl):P:=h
theorem qes(h:P:=by rw[cH iz];rfl):P:=h
theorem qhp(h:P:=by rw[←eX,←eq];simp[go_sem]):P:=h
theorem qhq(h:P:=by rw[←eW,←eq];simp[go_sem]):P:=h
theorem qhr(h:P:=by rw[cH kbr];rfl):P:=h
theorem qbf(h:P:=by rw[cH hm];rfl):P:=h
theorem qhs(h:P:=by rw[←edt];exact HMD.o.t2):P:=h
theorem qao(h:P:=by rw[cH h];rfl):P:=h
theorem qet(h:P:=by rw[IntKind.wrap_i64];omega):P:=h
theorem qeu(h:P:=by simp only[Wk]at k;omega):P:=h
theorem qbl(h:P:=by simp[Value.ownBlock]at e):P:=h
theorem qev(h:P:=by rw[<- fg];exact lz.o):P:=h
theorem qbm(h:P:=by simp[Region.wanted,uj]):P:=h
theorem qas(h:P:=by rw[<- eW];simp[go_sem]):P:=h
theorem qcw(h:P:=by rw[hmm];split<;>omega):P:=h
theorem qew(h:P:=by unfold World.alloc;simp):P:=h
theorem qex(h:P:=by simp[Act.eval,Act.put]):P:=h
theorem qcx(h:P:=by rw[EML.o];exact se):P:=h
theorem qey(h:P:=by rw[ERN.o];exact ai):P:=h
theorem qah(h:P:=by rw[EM.o];exact ai):P:=h
theorem qez(h:P:=by rw[ESM.o];exact hq):P:=h
theorem qcy(h:P:=by rw[Vw];omega):P:=h
theorem qcz(h:P:=by simp[Value.oneCell']):P:=h
theorem qda(h:P:=by simpa using am.size):P:=h
theorem qac(h:P:=by rw[bu x hx];omega):P:=h
theorem qq(h:P:=by unfold maxLen;omega):P:=h
theorem qap(h:P:=by simp[intOf];omega):P:=h
theorem qdb(h:P:=by rw[EDC.o];omega):P:=h
theorem qaw(h:P:=by rw[EM.o];omega):P:=h
theorem qdc(h:P:=by rw[ah.1];omega):P:=h
theorem qdd(h:P:=by simp at hk;omega):P:=h
theorem qce(h:P:=by rw[q,bu x hx]):P:=h
theorem qai(h:P:=by rw[HC.o];rfl):P:=h
theorem qcf(h:P:=by simp at h;omega):P:=h
theorem qde(h:P:=by rw[HF.o];rfl):P:=h
theorem qaq(h:P:=by rw[ci];omega):P:=h
theorem qbn(h:P:=by rw[←eW];simp):P:=h
theorem qcg(h:P:=by simp;try omega):P:=h
theorem qdf(h:P:=by simpa using ir):P:=h
theorem qch(h:P:=by simpa using hc):P:=h
theorem qci(h:P:=by simpa using hj):P:=h
theorem qcj(h:P:=by decide +kernel):P:=h
theorem qbg(h:P:=by simpa using hn):P:=h
theorem Xg(h:P:=by rw[el];simp):P:=h
theorem qo(h:P:=by simp[go_sem]):P:=h
theorem qbh(h:P:=by simpa using h):P:=h
theorem qj(h:P:=by simp;omega):P:=h
theorem qal(h:P:=by simp[Ar]):P:=h
theorem qax(h:P:=by injection e):P:=h
theorem qy(h:P:=by simp[Ol]):P:=h
theorem qk(h:P:=by kernel_rfl):P:=h
theorem Wl(h:P:=by simp at hi):P:=h
theorem qbo(h:P:=by simp[Mx]):P:=h
theorem qu(h:P:=by simp[*]):P:=h
theorem qz(h:P:=by cases q):P:=h
theorem qw(h:P:=by cases e):P:=h
theorem qaj(h:P:=by trivial):P:=h
theorem qh(h:P:=by decide):P:=h
theorem qm(h:P:=by go_num):P:=h
theorem qg(h:P:=by omega):P:=h
theorem qi(h:P:=by simp):P:=h
theorem qt(h:P:=by rfl):P:=h
end Go.Proofs.YtnflkpmmfpfhlaaGreatDoor
