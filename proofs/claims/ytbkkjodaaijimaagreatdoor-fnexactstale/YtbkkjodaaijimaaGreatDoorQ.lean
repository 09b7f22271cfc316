import Derived.Below
import Derived.BigQuiet
import Derived.Carry
import Derived.ChangeOld
import Derived.Deep.AppendLies
import Derived.Deep.CutBlock
import Derived.Deep.DeepCutAuto
import Derived.Deep.DeepHandedRow
import Derived.Deep.LoopGhost
import Derived.Deep.QuietTactic
import Derived.Deep.RegionHeld
import Derived.Deep.RegionHeld3
import Derived.Deep.RegionLaw
import Derived.Deep.RegionWith
import Derived.Deep.Slices
import Derived.Deep.Strs
import Derived.DeepKeys5
import Derived.Defers
import Derived.Ground.Names2Prog
import Derived.Ground.SlgnProg
import Derived.LaidSub
import Derived.Laws.AppendOwnNone
import Derived.Laws.CopyOwn
import Derived.Laws.CopyRow
import Derived.Lib.AppendIntMem
import Derived.Lib.Builder
import Derived.Lib.ItoaNum
import Derived.Lib.LaidTab
import Derived.Lib.SmallJoins
import Derived.MakeChecks
import Derived.Maps.AppendAt
import Derived.Maps.OwnSet
import Derived.Maps.Views
import Derived.OpenShut
import Derived.OpenVars
import Derived.ProofKit
import Derived.Recover
import Derived.Shelf.LaysM
import Derived.Shelf.SlSorted.Search
import Derived.Shelf.Slices.Clone
import Derived.Shelf.Slices.In.SortNone
import Derived.Shelf.Slices.Turned
import Derived.Shelf.SlicesE.Clone
import Derived.Shelf.Small.Strs
import Derived.Shelf.Sort.Plain
import Derived.Shelf.Spec.SlicesInsertGrow
import Derived.Shelf.Strconv.Itoa0
import Derived.Shelf.Strconv.Itoa1
import Derived.Shelf.Strconv.Itoa2
import Derived.Shelf.Strconv.Itoa3
import Derived.SliceStrings
import Derived.Sort.OwnSorted
import Derived.WalkKit
import Derived.WalkLawsBesides
import Derived.WalkMore
import Derived.WalkSpells
namespace Go.Proofs.YtbkkjodaaijimaaGreatDoor
open Value renaming slice->J,string->S,bool->F,agg->G,tuple->Y
open Option renaming some->M,none->N
open Obj renaming cells->O
open Go renaming Value->Z
open _root_ renaming Nat->X
set_option linter.unusedVariables false
set_option linter.unusedSimpArgs false
variable {P:Prop}
theorem qgt(h:P:=by
 have zw:=HO.o.cap
 have hkc:(kN:Int)≤(cp:Int):=qb
 have hki:(kN:Int)≤(iN:Int):=qb
 have hic:(iN:Int)≤(cp:Int):=qb
 obtain⟨V,eV⟩:=Aj (wD.alloc (O #[] 9))
 have ll:Bw wD V:=eV▸aN _ _
 have yr:Hd (V.ownsRow wD.heap.size 9 1 (J (p_ wD.heap.size) 0 0) 0 []):=⟨rfl,Or.inr ⟨wD.heap.size,0,#[],rfl,Nat.le_refl _,by rw[←eV];exact Ch _ _,Nat.le_refl _,Nat.zero_le _,rfl,rfl⟩⟩
 have HLn:Hd ((Aq (AD.take kN)).length=kN*1):=by show _=_;unfold Aq;simp[HO.o.len];try omega
 have HNW:=Ac (Ky (strsT (HO.o.strs.bl ll) kN))
 have ui:=Ac ll
 clear ll zw
 go_wp2_with (first|(at_builtin;refine wpList_append_own _ rfl (.tmp 31) (.tmp 34) 22 rfl wD.heap.size 9 i9 ze 1 16 underlying22 Q3 T0 To S9 rfl qd (J (p_ wD.heap.size) 0 0) 0 [] rfl yr.o ⟨g,0,N⟩ kN cp (Aq (AD.take kN)) rfl HLn.o HNW.o (Kf _) qm qb ui.o.size ?_;intro v' w5 au ae cu;have vk:=Ac au;have cj:Bw wD w5:=ui.o.grown ae ui.o.size (λj hj=>by cases hj;exact Nat.le_refl _);have jm:=Ac cj;have HNI:=Ac cu;clear au ae cu cj))
 clear yr ui HNW eV
 obtain⟨ga,ca,rfl⟩:∃g c,v'=J (p_ g) kN c:=by
  rcases vk.o.2 with⟨q,_⟩|⟨g,c,_,q,_⟩
  ·exact absurd (HNI.o.1 q).1 qg
  ·rw[Nat.zero_add]at q;exact⟨g,c,q⟩
 clear HNI
 replace vk:Hd (w5.ownsRow wD.heap.size 9 1 (J (p_ ga) kN ca) kN (Aq (AD.take kN))):=by have:=vk.o;rw[Nat.zero_add,List.nil_append]at this;exact this
 by_cases hcj:cp=kN
 ·have hik:iN=kN:=zo HO.o.cap
  subst hik;subst hcj;refine Lt.begin 99 (λw'=>w'.cell? ⟨b1,o1+cp,N⟩=M (S x)) qi ?_;obtain⟨wE,eE⟩:=Aj w5.drew;rw[eE];have hbE:Bw w5 wE:=by rw[←eE];exact(Below.refl _ _).drew
  clear eE;have G0:=jm.o.trans (hbE.mono jm.o.size);replace vk:=Ac (Ab vk.o hbE);have hcw:wE.cell? ⟨b1,o1+cp,N⟩=M (S x):=Aa (bt HO.o.bel G0) HCA.o;clear hbE;change K 0 _
  iterate 5
   refine Lt.ti (v:=?_) hcw ?_ ?_;rotate_left 1
   ·rintro w sA
    go_simp
    first|done|with_reducible rfl
   simp only[gX]
  change K 7 _
  iterate 3
   refine Lt.ti (v:=?_) hcw ?_ ?_;rotate_left 1
   ·rintro w sA
    go_simp
    first|done|with_reducible rfl
   simp only[gX]
  have HLm:Hd ((Aq (AD.drop cp)).length=(cp-cp)*1):=by show _=_;unfold Aq;simp[HO.o.len]
  refine Lt.sp (i:=5) (λK hK=>?_);go_simp;refine Dn (Q:=λx=>K _ x) ?_;intro wL fb O6
  try dsimp only
  obtain⟨dL,edL⟩:=Aj wE.heap.size;rw[edL]at O6 ⊢;have xh:=G0.trans (fb.mono G0.size);replace vk:=Ac (Ab vk.o fb);have F9:wL.cell? ⟨b1,o1+cp,N⟩=M (S x):=Aa fb hcw;refine hK.out _ _ (λ_=>F9) (λ_=>?_);clear hK K edL
  try simp only[gX]
  try simp only[gX]
  refine Lt.sp (i:=6) (λK hK=>?_);refine Du rfl (.tmp 36) (.tmp 41) 22 qo wD.heap.size 9 i9 ze 1 16 underlying22 Q3 T0 To S9 rfl qd ga cp ca (Aq (AD.take cp)) qo vk.o ⟨dL,0,N⟩ 1 1 [S x] qo rfl (World.news_of_block (cs:=#[S x]) (t:=9) (fr:=(0,0)) O6.o) qbt qm qb xh.size ?_;intro gb cb wA jq jh;have hga:wD.heap.size≤ga:=(vk.o.lt ga rfl).1;have bu:Bw wD wA:=xh.grown jh xh.size (λj hj=>by cases hj;exact hga);have G8:=Ac jq;have o8:wD.heap.size≤gb:=(jq.lt gb rfl).1;have D2:Hd (Cc wA (p_ g) AD):=HO.o.strs.bl bu;have hc2:wA.cell? ⟨b1,o1+cp,N⟩=M (S x):=Aa (bt HO.o.bel bu) HCA.o;refine hK.out _ _ (λ_=>hc2) (λ_=>?_);clear hK K jq jh O6 xh fb vk F9 hcw
  try simp only[gX]
  refine Lt.sp (i:=10) (λK hK=>?_);refine Du rfl (.tmp 42) (.tmp 45) 22 qo wD.heap.size 9 i9 ze 1 16 underlying22 Q3 T0 To S9 rfl qd gb (cp+1) cb (Aq (AD.take cp)++[S x]) qo G8.o ⟨g,0,N⟩ 0 0 [] qo rfl (λj u h=>by simp at h) (λu h=>by simp at h) qm qb bu.size ?_;intro gc cc wB M3 hgy;have gh:Bw wD wB:=bu.grown hgy bu.size (λj hj=>by cases hj;exact o8)
  have HSN:Hd (SsI w wB AL gc cc (cp+1) (AD.take cp++x::AD.drop cp)):=by
   refine HO.o.ins aj HEX.o qb HLE.o im.o ?_ gh;(have e1:Aq (AD.take cp++x::AD.drop cp)=Aq (AD.take cp)++[S x]++[]:=by unfold Aq;simp;exact Nat.le_of_eq HO.o.len);rw[e1];have e2:cp+1+0=cp+1:=qb;rw[e2]at M3;exact M3
  have e2:cp+1+0=cp+1:=qb;rw[e2];have hc3:wB.cell? ⟨b1,o1+cp,N⟩=M (S x):=Aa (bt HO.o.bel gh) HCA.o;refine hK.out _ _ (λ_=>hc3) (λ_=>?_);clear hK K M3 hgy G8 D2 bu gh hc2 e2 HO
  try simp only[gX]
  refine Lt.ti (i:=11) (v:=?_) hc3 ?_ ?_;rotate_left 1
  ·rintro w sA
   go_simp
   first|done|with_reducible rfl
  simp only[gX];refine Lt.done qi ?_ _;clear hc3;go_wp2;exact⟨⟨cp+1,gc,cc,_,qb,rfl,qj,HSN⟩,qaj⟩
 ·skip
  refine Lt.begin 99 (λw'=>w'.cell? ⟨b1,o1+iN,N⟩=M (S x)) qi ?_;obtain⟨wE,eE⟩:=Aj w5.drew;rw[eE];have hbE:Bw w5 wE:=by rw[←eE];exact(Below.refl _ _).drew
  clear eE;have G0:=jm.o.trans (hbE.mono jm.o.size);replace vk:=Ac (Ab vk.o hbE);have hcw:wE.cell? ⟨b1,o1+iN,N⟩=M (S x):=Aa (bt HO.o.bel G0) HCA.o;clear hbE;change K 0 _
  iterate 5
   refine Lt.ti (v:=?_) hcw ?_ ?_;rotate_left 1
   ·rintro w sA
    go_simp
    first|done|with_reducible rfl
   simp only[gX]
  change K 7 _
  iterate 3
   refine Lt.ti (v:=?_) hcw ?_ ?_;rotate_left 1
   ·rintro w sA
    go_simp
    first|done|with_reducible rfl
   simp only[gX]
  have HLm:Hd ((Aq (AD.drop kN)).length=(iN-kN)*1):=by show _=_;unfold Aq;simp[HO.o.len]
  refine Lt.sp (i:=5) (λK hK=>?_);go_simp;refine Dn (Q:=λx=>K _ x) ?_;intro wL fb O6
  try dsimp only
  obtain⟨dL,edL⟩:=Aj wE.heap.size;rw[edL]at O6 ⊢;have xh:=G0.trans (fb.mono G0.size);replace vk:=Ac (Ab vk.o fb);have F9:wL.cell? ⟨b1,o1+iN,N⟩=M (S x):=Aa fb hcw;refine hK.out _ _ (λ_=>F9) (λ_=>?_);clear hK K edL
  try simp only[gX]
  try simp only[gX]
  refine Lt.sp (i:=6) (λK hK=>?_);refine Du rfl (.tmp 36) (.tmp 41) 22 qo wD.heap.size 9 i9 ze 1 16 underlying22 Q3 T0 To S9 rfl qd ga kN ca (Aq (AD.take kN)) qo vk.o ⟨dL,0,N⟩ 1 1 [S x] qo rfl (World.news_of_block (cs:=#[S x]) (t:=9) (fr:=(0,0)) O6.o) qbt qm qb xh.size ?_;intro gb cb wA jq jh;have hga:wD.heap.size≤ga:=(vk.o.lt ga rfl).1;have bu:Bw wD wA:=xh.grown jh xh.size (λj hj=>by cases hj;exact hga);have G8:=Ac jq;have o8:wD.heap.size≤gb:=(jq.lt gb rfl).1;have D2:Hd (Cc wA (p_ g) AD):=HO.o.strs.bl bu;have hc2:wA.cell? ⟨b1,o1+iN,N⟩=M (S x):=Aa (bt HO.o.bel bu) HCA.o;refine hK.out _ _ (λ_=>hc2) (λ_=>?_);clear hK K jq jh O6 xh fb vk F9 hcw
  try simp only[gX]
  refine Lt.sp (i:=10) (λK hK=>?_);refine Du rfl (.tmp 42) (.tmp 45) 22 qo wD.heap.size 9 i9 ze 1 16 underlying22 Q3 T0 To S9 rfl qd gb (kN+1) cb (Aq (AD.take kN)++[S x]) qo G8.o ⟨g,kN,N⟩ (iN-kN) (cp-kN) (Aq (AD.drop kN)) qo HLm.o (Ky (by have:=strsD D2.o kN;rw[Nat.zero_add]at this;exact this)) (Kf _) qm qb bu.size ?_;intro gc cc wB M3 hgy;have gh:Bw wD wB:=bu.grown hgy bu.size (λj hj=>by cases hj;exact o8)
  have HSN:Hd (SsI w wB AL gc cc (iN+1) (AD.take kN++x::AD.drop kN)):=by
   refine HO.o.ins aj HEX.o qb HLE.o im.o ?_ gh;(have e1:Aq (AD.take kN++x::AD.drop kN)=Aq (AD.take kN)++[S x]++Aq (AD.drop kN):=by unfold Aq;simp);rw[e1];have e2:kN+1+(iN-kN)=iN+1:=qb;rw[e2]at M3;exact M3
  have e2:kN+1+(iN-kN)=iN+1:=qb;rw[e2];have hc3:wB.cell? ⟨b1,o1+iN,N⟩=M (S x):=Aa (bt HO.o.bel gh) HCA.o;refine hK.out _ _ (λ_=>hc3) (λ_=>?_);clear hK K M3 hgy G8 D2 bu gh hc2 e2 HO
  try simp only[gX]
  refine Lt.ti (i:=11) (v:=?_) hc3 ?_ ?_;rotate_left 1
  ·rintro w sA
   go_simp
   first|done|with_reducible rfl
  simp only[gX];refine Lt.done qi ?_ _;clear hc3;go_wp2;exact⟨⟨iN+1,gc,cc,_,qb,rfl,qj,HSN⟩,qaj⟩):P:=h
theorem qgu(h:P:=by
 have sd:xs.length=R.length*3:=r.row.1
 have ne:∀ {e sz n:X} {u:Z} {ys:List Z},w.ownsRow B e sz u n ys->e≠94->∀b,u.ownBlock=M b->v.ownBlock≠M b:=λq he=>apart q r.row he
 refine⟨_,λi=>if i<R.length then cv i else c,λi=>if i<R.length then lv i else d,by rw[List.length_append];exact Ao ho ht qd x,λi hi=>?_,λi hi=>?_,λi hi=>?_,λi j rh hj b e=>?_,λi j rh hj b e=>?_⟩
 ·rw[List.length_append,List.length_singleton]at hi
  rcases Nat.lt_or_ge i R.length with k|k
  ·obtain⟨a,b,e⟩:=r.fil i k
   rw[if_pos k,if_pos k,qx_lt k];refine⟨?_,?_,?_⟩<;>rw[List.getElem?_append_left qb]<;>assumption
  ·obtain rfl:i=R.length:=qb
   rw[if_neg qb,if_neg qb,qx_at];refine⟨?_,?_,?_⟩
   ·rw[List.getElem?_append_right qb,show R.length*3-xs.length=0 from qb];rfl
   ·rw[List.getElem?_append_right qb,show R.length*3+1-xs.length=1 from qb];rfl
   ·rw[List.getElem?_append_right qb,show R.length*3+2-xs.length=2 from qb];rfl
 ·rw[List.length_append,List.length_singleton]at hi
  rcases Nat.lt_or_ge i R.length with k|k
  ·obtain⟨ys,a,b⟩:=r.code i k
   show ∃ys,World.ownsRow _ _ _ _ (if i<R.length then cv i else c) _ _/\_;rw[if_pos k,qx_lt k];exact⟨ys,Da a hg (ne a qd) hb qd,b⟩
  ·obtain rfl:i=R.length:=qb
   show ∃ys,World.ownsRow _ _ _ _ (if R.length<R.length then cv R.length else c) _ _/\_;rw[if_neg qb,qx_at];exact⟨zs,Da h1 hg (ne h1 qd) hb qd,h2⟩
 ·rw[List.length_append,List.length_singleton]at hi
  rcases Nat.lt_or_ge i R.length with k|k
  ·obtain⟨ys,a,b⟩:=r.look i k
   show ∃ys,World.ownsRow _ _ _ _ (if i<R.length then lv i else d) _ _/\_;rw[if_pos k,qx_lt k];exact⟨ys,Da a hg (ne a qd) hb qd,b⟩
  ·obtain rfl:i=R.length:=qb
   show ∃ys,World.ownsRow _ _ _ _ (if R.length<R.length then lv R.length else d) _ _/\_;rw[if_neg qb,qx_at];exact⟨us,Da h3 hg (ne h3 qd) hb qd,h4⟩
 ·rw[List.length_append,List.length_singleton]at hj
  have hi:i<R.length:=qb;simp only[if_pos hi]at e
  rcases Nat.lt_or_ge j R.length with k|k
  ·simp only[if_pos k];exact r.apc i j rh k b e
  ·simp only[if_neg (show ¬ j<R.length from qb)];exact hc i hi b e
 ·rw[List.length_append,List.length_singleton]at hj
  have hi:i<R.length:=qb;simp only[if_pos hi]at e
  rcases Nat.lt_or_ge j R.length with k|k
  ·simp only[if_pos k];exact r.apl i j rh k b e
  ·simp only[if_neg (show ¬ j<R.length from qb)];exact hd i hi b e):P:=h
theorem qgv(h:P:=by
 obtain⟨x0,x1,x2,xf⟩:=Dw HQ.o
 go_wp2_with fail
 clear x0 x1 x2 xf
 refine(K9.o w2 fw.o).mono ?_
 rintro e w9 ⟨hb9,g1,p1,v2,rfl,o1,o2⟩
 obtain⟨a2,p2,rfl,_⟩:=o2.sl
 have HZ9:=Ac (Ad hb9 HZ.o)
 have HB9:=Ac (bt fw.o hb9)
 have A9:=Ac (show Gc w9 w.heap.size (J (p_ g1) T.length p1) (J a2 R.length p2) T R from ⟨Ah o1.own (zo fw.o.size),⟨g1,p1,rfl⟩,o2.recO.base (zo fw.o.size)⟩)
 have hs9:=hb9.size
 clear hb9 o1 o2 HQ HP HZ K9 fw
 obtain⟨zc0,zc1,zc2,zc3,zc4,zc5,zc6,zc7,zc8,zc9⟩:=Fz HZ9.o
 have zcf:=fZ HZ9.o
 obtain⟨l,el⟩:∃l:List (X×X×Z),l=[((w.heap.size+1+1),0,I 9),((w.heap.size+1+1),1,ze),((w.heap.size+1+1),2,nS),((w.heap.size+1+1),3,I n),((w.heap.size+1+1),4,J (p_ g1) T.length p1),((w.heap.size+1+1),5,J a2 R.length p2),((w.heap.size+1+1),6,nS),((w.heap.size+1+1),7,nS),((w.heap.size+1+1),8,ze),((w.heap.size+1+1),9,ze)]:=⟨_,rfl⟩
 have fk:∀x∈l,x.1=(w.heap.size+1+1):=qah
 have d6:=Ep l w9 _ fk HZ9.o
 have hS:=A9.o.setU fk HZ9.o
 have gu:Bw w (Cu w9 l):=Cm l w9 HB9.o (λx hx=>qam)
 obtain⟨V,eV⟩:=Aj (Cu w9 l)
 rw[eV]at d6 gu hS
 rw[el]at d6 eV
 simp only[Cu,List.foldl]at eV
 simp only[List.foldl,List.setIfInBounds_toArray,List.set_cons_zero,List.set_cons_succ]at d6
 have HV:=Ac d6
 have px:=Ac gu
 have oo:=Ac hS
 clear d6 gu el fk hS
 go_wp2_with fail
 try rw[eV]
 obtain⟨y0,y1,y2,y3,y4,y5,y6,y7,y8,y9⟩:=Fz HV.o
 exact bR (v:=G #[I 9,ze,nS,I n,J (p_ g1) T.length p1,J a2 R.length p2,nS,nS,ze,ze]) qfm rfl ⟨px.o,_,rfl,_,_,rfl,oo.o⟩):P:=h
theorem qgw(h:P:=by
 rintro e w2 ⟨ag,g1,p1,v2,rfl,o1,o2⟩
 obtain⟨a2,p2,rfl,_⟩:=o2.sl
 have n9:=Ac (Ad ag oc.o)
 have fw:=Ac (bt ff.o ag)
 have cr:=Ac (show Gc w2 w.heap.size (J (p_ g1) T.length p1) (J a2 R.length p2) T R from ⟨Ah o1.own (zo ff.o.size),⟨g1,p1,rfl⟩,o2.recO.base (zo ff.o.size)⟩)
 have gj:=ag.size
 clear ag o1 o2 ff oc kt
 obtain⟨zc0,zc1,zc2,zc3,zc4,zc5,zc6,zc7,zc8,zc9⟩:=Fz n9.o
 have zcf:=fZ n9.o
 obtain⟨l,el⟩:∃l:List (X×X×Z),l=[((w.heap.size+1+1),0,I 9),((w.heap.size+1+1),1,ze),((w.heap.size+1+1),2,nS),((w.heap.size+1+1),3,I n),((w.heap.size+1+1),4,J (p_ g1) T.length p1),((w.heap.size+1+1),5,J a2 R.length p2),((w.heap.size+1+1),6,nS),((w.heap.size+1+1),7,nS),((w.heap.size+1+1),8,ze),((w.heap.size+1+1),9,ze)]:=⟨_,rfl⟩
 have fk:∀x∈l,x.1=(w.heap.size+1+1):=qah
 have d6:=Ep l w2 _ fk n9.o
 have hS:=cr.o.setU fk n9.o
 have gu:Bw w (Cu w2 l):=Cm l w2 fw.o (λx hx=>qam)
 obtain⟨V,eV⟩:=Aj (Cu w2 l)
 rw[eV]at d6 gu hS
 rw[el]at d6 eV
 simp only[Cu,List.foldl]at eV
 simp only[List.foldl,List.setIfInBounds_toArray,List.set_cons_zero,List.set_cons_succ]at d6
 have HV:=Ac d6
 have px:=Ac gu
 have oo:=Ac hS
 clear d6 gu el fk hS
 go_wp2_with fail
 try rw[eV]
 obtain⟨y0,y1,y2,y3,y4,y5,y6,y7,y8,y9⟩:=Fz HV.o
 exact bR (v:=Y #[G #[I 9,ze,nS,I n,J (p_ g1) T.length p1,J a2 R.length p2,nS,nS,ze,ze],nS]) qdo rfl (⟨px.o,_,_,rfl,_,_,rfl,oo.o⟩)):P:=h
theorem qgx(h:P:=by
 obtain⟨k,hk,rfl,HA,rfl⟩:=hrel
 by_cases aj:k<s.size
 ·by_cases c1:s[k].toNat<33
  ·have e1:decide ((s[k].toNat:Int)<33)=true:=qh;have HF:Hd (Ew s=false):=Cn (λh=>by have:=h.2.2 k aj;omega);clear c1;go_wp2;go_ret;exact⟨qcx,rfl⟩
  ·have e1:decide ((s[k].toNat:Int)<33)=false:=qh
   by_cases c2:126<s[k].toNat
   ·have e2:decide ((126:Int)<s[k].toNat)=true:=qh;have HF:Hd (Ew s=false):=Cn (λh=>by have:=h.2.2 k aj;omega);clear c1 c2;go_wp2;go_ret;exact⟨qcx,rfl⟩
   ·have e2:decide ((126:Int)<s[k].toNat)=false:=qh
    have HB:Hd (∀j,(h:j<s.size)->j<k+1->33<=s[j].toNat/\s[j].toNat<=126):=λj h hj=>by
     rcases Nat.lt_or_ge j k with h'|h'
     ·exact HA.o j h h'
     ·obtain rfl:j=k:=qb;omega
    clear c1 c2;go_wp2;go_roundw
    case rel=>exact⟨k+1,qb,qj,HB,by first|trivial|rfl⟩
    case measure=>simp[intOf];omega
 ·have HF:Hd (Ew s=true):=Cs ⟨qb,qb,λj h=>HA.o j h qb⟩;go_wp2;go_ret;exact⟨qcx,rfl⟩):P:=h
theorem qgy(h:P:=by
 obtain⟨m,e1,up,rd⟩:∃m:X,((lo:Int)+(hi:Int)) / 2=(m:Int)∧lo≤m∧m<hi:=⟨(lo+hi) / 2,qb,qb,qb⟩
 obtain⟨b,off,rfl,c1⟩:=hc m qb
 obtain⟨v,hv⟩:=Aj (Ap (nx l m) t)
 have HV:Hd (Ap (nx l m) t=v):=hv
 have HN:Hd (∀W:World,Calls prog 73 #[S (nx l m),S t] W λe w'=>e=.returned (F v)∧W=w'):=λW=>by rw[←hv];exact Rl _ _ W
 clear hc hv
 generalize nx l m=s at c1 HN
 have V4:(m:Int)<(l.length:Int):=qb
 cases v
 ·go_wp2_with (go_at_call 73;refine(HN.o _).mono ?_;rintro e w' ⟨rfl,rfl⟩)
  go_roundw
  case rel=>exact⟨lo,m,rfl,rfl,up,qb,HL.o,Sy je.o HV.o,trivial⟩
  case measure=>simp[intOf];omega
 ·go_wp2_with (go_at_call 73;refine(HN.o _).mono ?_;rintro e w' ⟨rfl,rfl⟩)
  go_roundw
  case rel=>exact⟨m+1,hi,qj,rfl,qb,qb,Yv je.o qb HV.o,HH.o,trivial⟩
  case measure=>simp[intOf];omega):P:=h
theorem qgz(h:P:=by
 by_cases c1:st<k
 ·rw[if_pos c1]
  by_cases c2:n'=0
  ·subst c2;have HR:Hd (s.extract st k=q):=by show _=_;rw[<- Yl aj hg c1];exact HI.o
   clear hg HI;go_wp2;go_ret;exact⟨by rw[<- HR.o];rfl,rfl⟩
  ·have HR:Hd (Bh s (n'-1) (k+1) (k+1)=q):=by show _=_;rw[<- Yk aj hg c1 c2];exact HI.o
   clear hg HI;go_wp2;go_roundw
   case rel=>exact Or.inl ⟨n'-1,k+1,k+1,qb,qb,Nat.le_refl _,qj,by rw[if_neg (Nat.lt_irrefl _)],qj,HR,by first|trivial|rfl⟩
   case measure=>simp[intOf];omega
 ·rw[if_neg c1];have HR:Hd (Bh s n' (k+1) (k+1)=q):=by show _=_;rw[<- Yj aj hg c1];exact HI.o
  clear hg HI;go_wp2;go_roundw
  case rel=>exact Or.inl ⟨n',k+1,k+1,qb,qb,Nat.le_refl _,qj,by rw[if_neg (Nat.lt_irrefl _)],qj,HR,by first|trivial|rfl⟩
  case measure=>simp[intOf];omega):P:=h
theorem qee(h:P:=by
 have fc:Bw w (w.alloc (O #[I 11,S t,I n] 143)):=aN _ _
 have sj:=hM.cell2.2.2.1
 have fa:=hM.bl fc
 obtain⟨c2,f2,pn,jj⟩:=fa.cell2
 have d9:B<=(w.alloc (O #[I 11,S t,I n] 143)).heap.size:=qh
 go_enter func189,ntmps189
 go_wp2_with (first|(go_at_call 188;refine(Cg B m (r) x cd pl st lk _ ?_ ?_ ?_).mono ?_;(focus(exact fa));(focus(exact d9));(focus(first|omega|(simp;omega)));rintro e w1 ⟨rfl,af,jn,cq⟩;have gj:B<=w1.heap.size:=(Nat.le_trans d9 af.size);obtain⟨dd1,ee1,_,_⟩:=jn.cell2;have cn:w1.cell? ⟨w.heap.size,2,N⟩=M (I (n:Int)):=(by rw[World.cell?_of_block (cq w.heap.size qb)];simp[go_sem]);clear cq))
 go_ret
 exact⟨rfl,((KB.old fc hB).trans af).setM 2 jj _,jn.place _⟩):P:=h
theorem qha(h:P:=by
 have HL:=Ac hl
 obtain⟨c0,c1,c2,c3,c4,c5,c6,c7,c8,c9⟩:=Nj T7
 obtain⟨k1,k2,k3⟩:=D6.o.c
 clear hl dw ho7 T7 hz7 hi7 h e1
 go_wp2_with fail
 refine HL.o.mono ?_
 rintro e w4 ⟨co,x0,ax,nx,cx,x2,x3,x4,x5,x6,x7,x8,x9,rfl,ge⟩
 have be:Bw w w4:=D0.trans (co.mono E8)
 have bv:w4.heap[w.heap.size+1+1]?=M zR:=by rw[co.block _ hz1s];exact D6.o.z
 have HPO:=Ac ge
 have n9:=Ac bv
 have fw:=Ac be
 obtain⟨z0,z1,z2,z3,z4,z5,z6,z7,z8,z9⟩:=Nj bv
 have fz:=fZ n9.o
 clear bv co HL ge hsz7 be D0 D6
 unfold r10
 go_wp2_with fail
 exact bR (v:=r10 x0 ax nx cx x2 x3 x4 x5 x6 x7 x8 x9) (by simp[results,results133,go_sem,r10,z0,z1,z2,z3,z4,z5,z6,z7,z8,z9]) rfl ⟨b10 fw.o ru,(Tp HPO.o ⟨_,n9.o⟩ _ _ _ _ _ _ _ _ _ _).mono E8⟩):P:=h
theorem qhb(h:P:=by
 have J9:Hd (Ec is s'):=hso
 have ku:Hd (Bx B w2 m s'.stack (J a is.length cap) s'.pl s'.steps s'.looks):=jn
 clear hru hso jn
 have aw:w2.heap[w.heap.size+1+1]?=M (O #[F false,I 0,ze,F false,ze,I 0] 192 (0,0)):=mx.o
 obtain⟨k0,k1,k2,k3,k4,k5⟩:=Xd aw
 have f0:=fZ aw
 clear aw
 unfold Bb
 go_wp2
 exact bR (v:=Bb false 0 ⟨#[]⟩ it nm' s'.steps) qdp rfl ⟨((((((fs.o).setB 0 rj rm _).setB 1 rj rm _).setB 2 rj rm _).setB 3 rj rm _).setB 4 rj rm _).setB 5 rj rm _,Or.inr ⟨_,HG.o,Or.inr ⟨it,nm',s',ki.o,rfl,J9.o,(Bx.turn (Bx.turn (Bx.turn (Bx.turn (Bx.turn (Bx.turn ⟨ku.o,_,mx.o⟩ 0 _) 1 _) 2 _) 3 _) 4 _) 5 _).1⟩⟩⟩):P:=h
theorem qhc(h:P:=by
 by_cases c1:st<k
 ·by_cases c2:n'=0
  ·subst c2;have HR:Hd (s.extract st k=q):=by show _=_;rw[<- Yl aj hg c1];exact HI.o
   clear hg HI;go_wp2;go_ret;exact⟨by rw[<- HR.o];rfl,rfl⟩
  ·have HR:Hd (Bh s (n'-1) (k+1) (k+1)=q):=by show _=_;rw[<- Yk aj hg c1 c2];exact HI.o
   clear hg HI;go_wp2;go_roundw
   case rel=>exact⟨n'-1,k+1,k+1,qb,Nat.le_refl _,qb,qj,qj,qj,HR,by first|trivial|rfl⟩
   case measure=>simp[intOf];omega
 ·have HR:Hd (Bh s n' (k+1) (k+1)=q):=by show _=_;rw[<- Yj aj hg c1];exact HI.o
  clear hg HI;go_wp2;go_roundw
  case rel=>exact⟨n',k+1,k+1,qb,Nat.le_refl _,qb,qj,qj,qj,HR,by first|trivial|rfl⟩
  case measure=>simp[intOf];omega):P:=h
theorem qhd(h:P:=by
 obtain⟨xs,u1⟩:=k.us
 obtain⟨ys,d1,d2⟩:=k.df
 obtain⟨zs,cv,lv,qr⟩:=k.qs
 have aux:∀ {e sz n:X} {u:Z} {ys:List Z},w.ownsRow B e sz u n ys->(e=9\/e=94\/e=4)->u.ownBlock=M b->B<=b/\∃cs T,w.heap[b]?=M (O cs T (0,0))/\(T=9\/T=94\/T=4):=λho he q=>by
  obtain⟨hB,cs,c1⟩:=Dr ho q;exact⟨hB,cs,_,c1,he⟩
 simp only[Mw,List.mem_cons,List.not_mem_nil,or_false]at hu
 rcases hu with rfl|rfl|rfl|rfl|rfl|rfl|rfl
 ·exact aux k.tx (Or.inl rfl) q
 ·exact aux k.su (Or.inl rfl) q
 ·exact aux qr.row (Or.inr (Or.inl rfl)) q
 ·exact aux k.ran (Or.inl rfl) q
 ·exact aux k.held (Or.inl rfl) q
 ·exact aux u1 (Or.inr (Or.inr rfl)) q
 ·exact aux d1 (Or.inr (Or.inr rfl)) q):P:=h
theorem qhe(h:P:=by
 rcases e with e|e|e|⟨u,hu,e⟩
 ·exact Or.inl (Or.inl e)
 ·exact Or.inl (Or.inr (Or.inl e))
 ·exact Or.inl (Or.inr (Or.inr (Or.inl e)))
 ·simp only[Mw,List.mem_cons,List.not_mem_nil,or_false]at hu
  rcases hu with rfl|rfl|rfl|rfl|rfl|rfl|rfl
  ·exact Or.inl (Aw C (u:=r.tx) qq e)
  ·exact Or.inl (Aw C (u:=r.su) qq e)
  ·rcases hl b e with q|q;exact Or.inl (Aw C (u:=r.qv) qq q);exact Or.inr q
  ·exact Or.inl (Aw C (u:=r.nv) qq e)
  ·exact Or.inl (Aw C (u:=r.ev) qq e)
  ·exact Or.inl (Aw C (u:=r.uv) qq e)
  ·exact Or.inl (Aw C (u:=r.dv) qq e)):P:=h
theorem qhf(h:P:=by
 rcases e with e|e|e|⟨u,hu,e⟩
 ·exact Or.inl (Or.inl e)
 ·exact Or.inl (Or.inr (Or.inl e))
 ·exact Or.inl (Or.inr (Or.inr (Or.inl e)))
 ·simp only[Mw,List.mem_cons,List.not_mem_nil,or_false]at hu
  rcases hu with rfl|rfl|rfl|rfl|rfl|rfl|rfl
  ·exact Or.inl (Aw C (u:=r.tx) qq e)
  ·exact Or.inl (Aw C (u:=r.su) qq e)
  ·exact Or.inl (Aw C (u:=r.qv) qq e)
  ·rcases hl b e with q|q;exact Or.inl (Aw C (u:=r.nv) qq q);exact Or.inr q
  ·exact Or.inl (Aw C (u:=r.ev) qq e)
  ·exact Or.inl (Aw C (u:=r.uv) qq e)
  ·exact Or.inl (Aw C (u:=r.dv) qq e)):P:=h
theorem qhg(h:P:=by
 rcases e with e|e|e|⟨u,hu,e⟩
 ·exact Or.inl (Or.inl e)
 ·exact Or.inl (Or.inr (Or.inl e))
 ·exact Or.inl (Or.inr (Or.inr (Or.inl e)))
 ·simp only[Mw,List.mem_cons,List.not_mem_nil,or_false]at hu
  rcases hu with rfl|rfl|rfl|rfl|rfl|rfl|rfl
  ·exact Or.inl (Aw C (u:=r.tx) qq e)
  ·exact Or.inl (Aw C (u:=r.su) qq e)
  ·exact Or.inl (Aw C (u:=r.qv) qq e)
  ·exact Or.inl (Aw C (u:=r.nv) qq e)
  ·rcases hl b e with q|q;exact Or.inl (Aw C (u:=r.ev) qq q);exact Or.inr q
  ·exact Or.inl (Aw C (u:=r.uv) qq e)
  ·exact Or.inl (Aw C (u:=r.dv) qq e)):P:=h
theorem qhh(h:P:=by
 rintro e w2 ⟨rfl,ag⟩
 have wg:Hd (KB B m w w2):=fs.o.trans ag
 have aw:w2.heap[w.heap.size]?=M (O #[F false,I 0,ze,F false,ze,I 0] 192 (0,0)):=(ag.keep _ _ 192 qd qb fw.o)
 obtain⟨k0,k1,k2,k3,k4,k5⟩:=Xd aw
 have f0:=fZ aw
 clear aw x0 x1 x2
 unfold Bb
 go_wp2
 exact bR (v:=Bb true 2 (En s.pl) false ⟨#[]⟩ ((s.steps:Int)+1)) qfn rfl ⟨((((((wg.o).setN 0 hB _).setN 1 hB _).setN 2 hB _).setN 3 hB _).setN 4 hB _).setN 5 hB _,Or.inl ⟨2,(En s.pl),s.steps+1,HR.o _ (.over fh.o),rfl⟩⟩):P:=h
theorem qhi(h:P:=by
 rintro e w2 ⟨rfl,ag⟩
 have wg:Hd (KB B m w w2):=fs.o.trans ag
 have aw:w2.heap[w.heap.size]?=M (O #[F false,I 0,ze,F false,ze,I 0] 192 (0,0)):=(ag.keep _ _ 192 qd qb fw.o)
 obtain⟨k0,k1,k2,k3,k4,k5⟩:=Xd aw
 have f0:=fZ aw
 clear aw x0 x1 x2
 unfold Bb
 go_wp2
 exact bR (v:=Bb true 3 ⟨#[]⟩ false ⟨#[]⟩ ((s.steps:Int)+1)) qbn rfl ⟨((((((wg.o).setN 0 hB _).setN 1 hB _).setN 2 hB _).setN 3 hB _).setN 4 hB _).setN 5 hB _,Or.inl ⟨3,⟨#[]⟩,s.steps+1,HR.o _ (.over fh.o),rfl⟩⟩):P:=h
theorem qhj(h:P:=by
 rintro e w1 ⟨af,g,cp,rfl,ah⟩
 have hg:=(ah.lt g rfl).1
 simp at hg
 have hb:=bt ak af
 have aq:=Ah ah (B':=w.heap.size) qh
 have c1:w1.cell? ⟨w.heap.size+1,0,N⟩=M nS:=Aa af qk
 have f1:w1.frozen? ⟨w.heap.size+1,0,N⟩=false:=by rw[af.frozen (p:=⟨w.heap.size+1,0,N⟩) qg];simp[go_sem]
 clear ak af ah
 go_wp2
 exact bR (v:=G #[J (p_ g) is.length cp]) (by simp[results,results143,go_sem,c1]) rfl ⟨hb.setCell (p:=⟨w.heap.size+1,0,N⟩) qg _,g,cp,rfl,Cx aq qb _⟩):P:=h
theorem qhk(h:P:=by
 have hg6:wc.heap.size≤g6:=(HO6.o.lt g6 rfl).1
 have fy:=bt N6 J8
 clear HA6 HO6
 go_wp2
 refine bR (v:=G #[I 0,I (m:Int),J (p_ g6) (ts.length+1) p6,J a2 rn p2,ze,ze]) qdq rfl ⟨It (fy.setCell (p:=⟨w.heap.size,1,N⟩) qg _) (Nat.le_succ _) _ _ _ _ _ _,KpS.yes (R:=w.heap.size+1) xk.o HK.o (Ip _ _ _ oa).symm (Ao HX6.o R1.o qd _) (Or.inr (zo N6.size)) (Cv.set ⟨_,HR6.o⟩ _) _ _ _ _ _ _⟩):P:=h
theorem qhl(h:P:=by
 go_wp2_with fail
 have hl:=Fb (s.pl:Int) sa s.stack.length cp ((s.steps:Int)+1) s.looks 2 q
 unfold Ds at hl
 refine(hl _).mono ?_
 rintro e w4 ⟨rfl,co⟩
 have gw:=Ac (cr.o.bl co)
 obtain⟨z0,z1,z2,z3,z4,z5,z6,z7,z8,z9⟩:=Nj gw.o.z
 have fz:=fZ gw.o.z
 clear hl co
 unfold Dz
 go_wp2_with fail
 exact bR (v:=Dz (s.pl:Int) (J sa s.stack.length cp) ((s.steps:Int)+1) s.looks 2 q) qbm rfl ⟨b10 gw.o.b ru,Or.inl ⟨2,q,s.steps+1,fh.o,_,_,_,_,_,rfl⟩⟩):P:=h
theorem qhm(h:P:=by
 clear hru
 have aw:w2.heap[w.heap.size+1+1]?=M (O #[F false,I 0,ze,F false,ze,I 0] 192 (0,0)):=mx.o
 obtain⟨k0,k1,k2,k3,k4,k5⟩:=Xd aw
 have f0:=fZ aw
 clear aw
 unfold Bb
 go_wp2
 exact bR (v:=Bb true c t false ⟨#[]⟩ n) qdp rfl ⟨((((((fs.o).setB 0 rj rm _).setB 1 rj rm _).setB 2 rj rm _).setB 3 rj rm _).setB 4 rj rm _).setB 5 rj rm _,Or.inr ⟨_,HG.o,Or.inl ⟨c,t,n,ki.o,rfl⟩⟩⟩):P:=h
theorem qhn(h:P:=by
 have V4:(m:Int)<(ss.length:Int):=qb
 cases v
 ·go_wp2_with fail;refine(HN.o _).mono ?_;rintro e w2 ⟨ag,rfl⟩;go_wp2_with fail;go_roundw
  case rel=>exact⟨lo,m,rfl,rfl,up,qb,HL.o,Sy je.o HV.o,bt bc ag⟩
  case measure=>simp[intOf];omega
 ·go_wp2_with fail;refine(HN.o _).mono ?_;rintro e w2 ⟨ag,rfl⟩;go_wp2_with fail;go_roundw
  case rel=>exact⟨m+1,hi,qj,rfl,qb,qb,Yv je.o (zo yu.o) HV.o,HH.o,bt bc ag⟩
  case measure=>simp[intOf];omega):P:=h
theorem qef(h:P:=by
 go_enter func191,ntmps191
 go_wp2_with (first|(at_builtin;refine wpList_append_lies _ rfl (.tmp 23) (.tmp 24) 22 rfl B 9 i0 ze 1 16 underlying22 hi bq bg bv rfl qd _ _ _ rfl HO.o ⟨vb,0,N⟩ 1 1 [y] rfl rfl HN.o Y2 qb qm qb hB _ rfl ?_;intro g' cp w2 k1 ae ci hlt';obtain⟨k2,k3⟩:=HB.o g' cp w2 k1 ae;have HLIE:Hd _:=ci;clear ae hlt' ci))
 go_ret
 exact⟨g',cp,rfl,k1,k2,k3,HLIE.o⟩):P:=h
theorem qho(h:P:=by
 obtain⟨z0,z1,z2,zf⟩:=Dw mu.o
 go_wp2_with fail
 obtain⟨y0,y1,y2,_⟩:=Dw (Bn mu.o (I 0) ze nS)
 exact bR (v:=Y #[G #[I 0,ze,nS],I (-1)]) (by simp[results,results89,go_sem,y0,y1,y2]) rfl ⟨_,_,_,jw.o,Or.inr ⟨bb,nb,rfl,rfl,(H9.o.trans fl.o).set3 qb qb _ _ _,uh.o.set3 ⟨_,mu.o⟩ qd qd _ _ _⟩⟩):P:=h
theorem qhp(h:P:=by
 obtain⟨z0,z1,z2,zf⟩:=Dw gz.o
 go_wp2_with fail
 obtain⟨y0,y1,y2,_⟩:=Dw (Bn gz.o (I 0) ze nS)
 exact bR (v:=Y #[G #[I 0,ze,nS],I (-1)]) (by simp[results,results111,go_sem,y0,y1,y2]) rfl (Or.inr ⟨_,_,_,.bad D9.o,rfl,(H9.o.trans fl.o).set3 qb qb _ _ _,uh.o.set3 ⟨_,gz.o⟩ qd qd _ _ _⟩)):P:=h
theorem qcg(h:P:=by
 show _=_
 rw[←eW]
 have:=Hc ((w.alloc (O #[I n,J (M ⟨tb,tf,N⟩) T.length tc,J qa R.length qc] 35)).alloc (O #[J sa ss.length c1,J ta ts.length c2] 40)) (O z10 54)
 rwa [show((w.alloc (O #[I n,J (M ⟨tb,tf,N⟩) T.length tc,J qa R.length qc] 35)).alloc (O #[J sa ss.length c1,J ta ts.length c2] 40)).heap.size=w.heap.size+2 from qg]at this):P:=h
theorem qhq(h:P:=by
 obtain⟨k0,k1,k2,k3,k4,k5⟩:=Xd aw
 have f0:=fZ aw
 clear aw x0 x1 x2
 unfold Bb
 go_wp2
 exact bR (v:=Bb true 2 (En s.pl) false ⟨#[]⟩ ((s.steps:Int)+1)) qfn rfl ⟨((((((wg.o).setN 0 hB _).setN 1 hB _).setN 2 hB _).setN 3 hB _).setN 4 hB _).setN 5 hB _,Or.inl ⟨2,(En s.pl),s.steps+1,HR.o _ (.over fh.o),rfl⟩⟩):P:=h
theorem qhr(h:P:=by
 rintro e w1 ⟨af,r,rfl,hr⟩
 rcases hr with hr|hr
 ·go_wp2
  go_ret;exact⟨bc.trans (af.mono bc.size),-1,rfl,Or.inl qb⟩
 ·have zk:0≤r:=qb
  have kl:r≤q:=qb;go_wp2;go_roundw
  case rel=>exact⟨k+1,_,qb,qj,rfl,qb,qb,bc.trans (af.mono bc.size),Co HK.o (by rw[EI.o];omega)⟩
  case measure=>simp[intOf];omega):P:=h
theorem qhs(h:P:=by
 have h:=World.ownsRow_lit (base:=w.heap.size+1+1) (e:=143) (size:=3) ((w.alloc (O #[J (M ⟨b,off,N⟩) is.length cap] 91)).alloc (O #[nS] 91)) #[] 0 qg qm qg
 rw[show((w.alloc (O #[J (M ⟨b,off,N⟩) is.length cap] 91)).alloc (O #[nS] 91)).heap.size=w.heap.size+1+1 from qg]at h
 exact h):P:=h
theorem qht(h:P:=by
 intro i hi
 rcases Nat.lt_or_ge i k with hl|hl
 ·obtain⟨h1,h2,h3⟩:=h i hl
  simp only[List.getElem?_set];rw[if_neg qb,if_neg qb,if_neg qb,if_neg qb,if_neg qb,if_neg qb,if_neg qb,if_neg qb,if_neg qb];exact⟨h1,h2,h3⟩
 ·obtain rfl:i=k:=qb
  refine⟨?_,?_,?_⟩<;>simp[List.getElem?_set]<;>omega):P:=h
theorem qhu(h:P:=by
 by_cases he:nm=s
 ·have n6:=Dg he;have HE:Hd (nm=s):=he;clear he;go_wp2;go_ret;exact⟨ak,Or.inl ⟨k,rfl,aj,by rw[EN.o];exact HE.o⟩⟩
 ·have n6:=Gy he;have HE:Hd (nm≠s):=he;clear he;go_wp2;go_roundw
  case rel=>exact⟨k+1,qb,qj,Co HA.o (by rw[EN.o];exact HE.o),trivial⟩
  case measure=>simp[intOf];omega):P:=h
theorem qhv(h:P:=by
 rw[af.block _ qg]
 have h:=Nt ((w.alloc (O #[J a is.length ac] 91)).alloc (O #[I c,S t,J ca nc cc] 120)) (O #[nS,nS,ze] 94)
 rw[show((w.alloc (O #[J a is.length ac] 91)).alloc (O #[I c,S t,J ca nc cc] 120)).heap.size=w.heap.size+1+1 from qg]at h
 exact h):P:=h
theorem qhw(h:P:=by
 have HD:=Ac (show Bc ss ts C.n m1 s1 st (.run is [] []) m2 s2 (.bad b)/\Cz W0.heap.size C w5 b v/\KQ W0.heap.size h mb C av kv r r2 w w5 from ⟨hd5,hf5,me.o.1.trans me.o.2.1 me.o.2.2 dm.o jb⟩)
 clear jb hd5 hf5 hK
 unfold Lb
 dsimp only
 clear K
 go_wp2_with fail
 exact⟨rfl,Or.inr ⟨b,v,r2,m2,s2,rfl,HD.o.2.2,.rfell HB.o HD.o.1,HD.o.2.1⟩⟩):P:=h
theorem qeg(h:P:=by
 rw[show(decide ((t.size:Int)<=0)&&decide (0<=n)&&decide (n<=2000))=false from qdn]
 clear hz
 go_enter func83,ntmps83
 go_wp2_with (first|(go_at_call 105;refine((Hw.o) _).mono ?_;rintro e w' ⟨rfl,rfl⟩))
 go_ret
 exact⟨aN _ _,rfl⟩):P:=h
theorem qeh(h:P:=by
 rw[show(decide ((t.size:Int)<=0)&&decide (0<=n)&&decide (n<=200))=false from qdn]
 clear hz
 go_enter func83,ntmps83
 go_wp2_with (first|(go_at_call 105;refine((Hw.o) _).mono ?_;rintro e w' ⟨rfl,rfl⟩))
 go_ret
 exact⟨aN _ _,rfl⟩):P:=h
theorem qhx(h:P:=by
 intro i hi
 rcases Nat.lt_or_ge i k with hl|hl
 ·obtain⟨h1,h2,h3⟩:=h i hl
  simp only[List.getElem?_set];rw[if_neg qb,if_neg qb,if_neg qb,if_neg qb,if_neg qb,if_neg qb,if_neg qb,if_neg qb,if_neg qb];exact⟨h1,h2,h3⟩
 ·obtain rfl:i=k:=qb
  simp[List.getElem?_set];omega):P:=h
theorem qhy(h:P:=by
 rw[show(decide ((t.size:Int)<=0)&&decide (0<=n)&&decide (n<=0))=false from qdn]
 clear hz
 go_enter func83,ntmps83
 go_wp2_with (first|(go_at_call 105;refine((Hw.o) _).mono ?_;rintro e w' ⟨rfl,rfl⟩))
 go_ret
 exact⟨aN _ _,rfl⟩):P:=h
theorem qch(h:P:=by
 show _=_
 rw[←eW]
 have:=Hc (w.alloc (O #[I n,J (M ⟨tb,tf,N⟩) T.length tc,J qa R.length qc] 35)) (O #[J sa ss.length c1,J ta ts.length c2] 40)
 rw[show(w.alloc (O #[I n,J (M ⟨tb,tf,N⟩) T.length tc,J qa R.length qc] 35)).heap.size=w.heap.size+1 from qg]at this
 exact Ph this):P:=h
theorem qhz(h:P:=by
 rw[show(decide ((t.size:Int)<=2000)&&decide (0<=n)&&decide (n<=0))=false from qdn]
 go_enter func83,ntmps83
 go_wp2_with (first|(go_at_call 105;refine((Hw.o) _).mono ?_;rintro e w' ⟨rfl,rfl⟩))
 go_ret
 exact⟨aN _ _,rfl⟩):P:=h
theorem qia(h:P:=by
 rw[←eW]
 have:=Hc (V.alloc (O #[I n,J (p_ g1) T.length tc,J a2 R.length p2] 35)) (O #[J a3 ss.length p3,J a4 tp.length p4] 40)
 rwa [show(V.alloc (O #[I n,J (p_ g1) T.length tc,J a2 R.length p2] 35)).heap.size=V.heap.size+1 from qg]at this):P:=h
theorem qib(h:P:=by
 intro i hi
 obtain⟨b',off,ha,h1,h2,h3⟩:=h i hi
 cases ha
 have e:∀o,(w.setCell ⟨b,j,N⟩ v).cell? ⟨g,o,N⟩=w.cell? ⟨g,o,N⟩:=λo=>World.cell?_of_block (w:=w) (hC w ⟨b,j,N⟩ v g (λe=>hb e.symm))
 exact⟨g,0,rfl,by rw[e];exact h1,by rw[e];exact h2,by rw[e];exact h3⟩):P:=h
theorem qic(h:P:=by
 go_simp
 refine hK.out _ _ (λh=>absurd rfl h) (λ_=>?_)
 clear hK K A1
 refine Lt.done qi ?_ _
 go_wp2
 go_roundw
 case rel=>exact⟨k+1,_,qb,qj,HNP.o,Co HA.o (by rw[ES.o];exact gg),X5.setCell (p:=⟨P,1,N⟩) (Nat.le_refl _) _,by simpa using hs7⟩
 case measure=>simp[intOf];omega):P:=h
theorem qei(h:P:=by
 have gh:Bw w w2:=(aN _ _).grown ae qg (λk hk=>(di.lt k hk).1)
 rw[Nat.zero_add,List.nil_append]at au
 obtain⟨g,cp,rfl⟩:=Mz au (λe=>by have:=(cu.1 e).1;cases this)
 clear ae di hn cu
 go_wp2
 go_ret
 exact⟨gh,g,cp,rfl,au⟩):P:=h
theorem qid(h:P:=by
 intro i hi
 have hi':i<len:=by simpa using hi
 obtain⟨h1,h2,h3,_⟩:=hf i hi'
 rw[zn i hi']
 obtain⟨b,off,spot⟩:=a
 have ni:spot=N:=by
  have:=World.cell?_spot (hf 0 qb).1;simpa [Addr.add] using this
 subst ni
 simp only[Addr.add_lit]at h1 h2 h3
 exact⟨b,off,rfl,h1,h2,h3⟩):P:=h
theorem qie(h:P:=by
 go_enter func158,ntmps158
 go_wp2_with fail
 go_quiet (first|(go_at_call 173;exact Calls.quiet_of_same (Pi _ _))|(go_at_call 174;exact Calls.quiet_of_same (Na _ _)))
 go_wp2
 go_ret
 exact⟨below_drewN (aN _ _) _,by simp[e1,e2];try rfl⟩):P:=h
theorem qif(h:P:=by
 obtain⟨g',mh,L9⟩:∃g cap,v'=J (p_ g) (k+1) cap:=by
  rcases au.2 with⟨_,h0⟩|⟨g,cap,cur,hv,_⟩
  ·omega
  ·exact⟨g,cap,hv⟩
 rw[HS.o,L9]at au
 exact⟨⟨k+1,_,_,qb,qj,L9,au,gh⟩,qaj⟩):P:=h
theorem qig(h:P:=by
 have s1:=HS.o.bl hV
 have hb:=pk.o.trans (hV.mono bj)
 exact has_any h sa ta c1 c2 ss ts nm V (by rw[cH s1.blk];rfl) (by rw[cH s1.blk];rfl) (HE.o.rs.bl hb) (HE.o.rt.bl hb) (zo HE.o.l1) (zo HE.o.l2)):P:=h
theorem qih(h:P:=by
 have h:=Bf (w.alloc (O #[J a is.length cap] 91)) (O #[F false,I 0,ze,F false,ze,I 0] 192)
 rw[show(w.alloc (O #[J a is.length cap] 91)).heap.size=w.heap.size+1 from qg]at h
 exact h):P:=h
theorem qej(h:P:=by rcases(show o=0\/o=1\/o=2\/o=3\/o=4\/o=5\/o=6\/o=7\/o=8\/o=9\/o=10\/o=11\/o=12\/o=13\/o=14\/o=15 from qb)with rfl|rfl|rfl|rfl|rfl|rfl|rfl|rfl|rfl|rfl|rfl|rfl|rfl|rfl|rfl|rfl<;>rfl):P:=h
theorem qii(h:P:=by
 have hlI:¬ (lo:Int)<(ss.length:Int):=qb
 have HE:Hd (¬ Ed l t):=λh=>vt (by have:=(Nc je.o HL.o HH.o h).1;have:=yu.o;omega)
 clear vt
 go_wp2_with fail
 go_ret2
 exact⟨bc,lo,Or.inl ⟨rfl,hle,HL.o,HH.o,Ea HE.o⟩⟩):P:=h
theorem qij(h:P:=by
 clear ah aq ag am
 go_wp2
 go_roundw
 case rel=>exact⟨k+1,_,qb,qj,(((HO.o.stored _ _).1.stored _ _).1.stored _ _).1,sr,((ke.setCell (Nat.le_refl _) _).setCell (Nat.le_refl _) _).setCell (Nat.le_refl _) _⟩
 case measure=>simp[intOf];omega):P:=h
theorem qik(h:P:=by
 go_simp
 refine hK.out _ _ (λh=>absurd rfl h) (λ_=>?_)
 clear hK K A1
 refine Lt.done qi ?_ _
 go_wp2
 go_roundw
 case rel=>exact⟨k+1,_,qb,qj,HNP.o,X5.setCell (p:=⟨P,2,N⟩) Y0 _⟩
 case measure=>simp[intOf];omega):P:=h
theorem qao(h:P:=by
 have HS:Hd (Ci (s.data.toList.take (k+1))=hstep (Ci (s.data.toList.take k)) s[k].toNat):=by rw[take_snocV s k aj];exact hash_snoc _ _
 go_wp2
 go_round
 case rel=>exact⟨k+1,qb,qj,by rw[HS.o];rfl⟩
 case measure=>simp[intOf];omega):P:=h
theorem qil(h:P:=by
 show _=_
 rw[←eW,←eQ]
 have:=Hc (w.alloc (O #[J a is.length ac] 91)) (O #[I 0,ze,nS] 120)
 rwa [show(w.alloc (O #[J a is.length ac] 91)).heap.size=w.heap.size+1 from qg]at this):P:=h
theorem qim(h:P:=by
 clear he HI
 go_wp2
 go_roundw
 case rel=>exact Or.inr ⟨by first|trivial|rfl,by subst ek;go_num,HR,by first|trivial|rfl,by first|exact⟨_,rfl⟩|trivial,by first|exact⟨_,rfl⟩|trivial⟩
 case measure=>simp[intOf];omega):P:=h
theorem qin(h:P:=by
 subst hn
 intro i hi
 obtain⟨h1,h2,h3⟩:=hf i hi
 refine⟨g,0,rfl,?_,?_,?_⟩
 ·rw[Nat.zero_add,h.cellAt _ qb];exact h1
 ·rw[Nat.zero_add,h.cellAt _ qb];exact h2
 ·rw[Nat.zero_add,h.cellAt _ qb];exact h3):P:=h
theorem qio(h:P:=by
 have ek:k=n:=qb
 subst ek
 have HEQ:=Ac (show is=js from ix_ext (yv.o.trans HLB.o.symm) (λj hj=>HN.o j (zo yv.o)))
 clear HN
 go_wp2
 go_ret
 exact⟨hB,true,rfl,by simp only[true_iff];exact HEQ.o⟩):P:=h
theorem qcz(h:P:=by
 go_wp2
 go_loopw [1,5] (λk i wr=>i=I 0∧k=I (K:Int)∧w=wr) (λ_ i _=>0)
 case atStart=>exact⟨rfl,rfl,rfl⟩
 case round=>
  obtain⟨rfl,rfl,rfl⟩:=hrel;go_wp2;go_ret;exact⟨rfl,rfl⟩):P:=h
theorem qip(h:P:=by
 have HD:Hd (Kp w _ _ wr.drew):=HK.o.bl (Below.refl _ _).drew
 go_wp2
 go_region
 all_goals
  go_wp2;go_roundw
  case rel=>exact⟨m+1,qb,qj,Nk HA.o HV.o,HD.o⟩
  case measure=>simp[intOf];omega):P:=h
theorem qek(h:P:=by
 go_wp2
 go_loopw [1,5] (λk i wr=>i=I 0/\k=I (K:Int)/\w=wr) (λ_ i _=>0)
 case atStart=>exact⟨rfl,rfl,rfl⟩
 case round=>
  obtain⟨rfl,rfl,rfl⟩:=hrel;go_wp2;go_ret;exact⟨rfl,rfl⟩):P:=h
theorem qiq(h:P:=by exact bR (v:=G #[J (p_ g) is.length cp]) (by simp[results,results84,go_sem,c1]) rfl ⟨hB.setCell (p:=⟨w.heap.size+1,0,N⟩) qg _,g,cp,rfl,Cx yr.o qb _⟩):P:=h
theorem qir(h:P:=by
 have hne:∀b,(Value.slice (p_ g) is.length cp).ownBlock=M b→b≠w.heap.size+1+1:=λb hb=>by cases hb;show g≠_;omega
 exact Jk (Jk (Jk jt.o hne _) hne _) hne _):P:=h
theorem qis(h:P:=by
 rw[if_pos qb,if_neg qb,if_pos qb,if_neg qb,if_neg qb,show i*3 / 3=i from qb,show(i*3+1) / 3=i from qb,show(i*3+2) / 3=i from qb]
 exact⟨rfl,rfl,rfl⟩):P:=h
theorem qit(h:P:=by
 go_wp2_with fail
 go_roundw
 case rel=>exact⟨k+1,q,qb,qj,rfl,Or.inr (by rw[Nat.add_sub_cancel];exact HQ.o.symm),du.o,HA1.o,z0,z1,z2,be⟩
 case measure=>simp[intOf];omega):P:=h
theorem qiu(h:P:=by
 unfold Py
 rw[e,List.length_append,List.length_singleton]
 exact((Gp (Gp (Gp (Gp (Gp (Gp (Gp (Gp (Gp (Gp ⟨h1.1,h2⟩ 0 _) 1 _) 2 _) 3 _) 4 _) 5 _) 6 _) 7 _) 8 _) 9 _)).1):P:=h
theorem qiv(h:P:=by
 clear hz
 go_enter func83,ntmps83
 go_wp2_with (first|(go_at_call 105;refine((Hw.o) _).mono ?_;rintro e w' ⟨rfl,rfl⟩))
 go_ret
 exact⟨aN _ _,rfl⟩):P:=h
theorem qiw(h:P:=by
 clear hn
 go_enter func83,ntmps83
 go_wp2_with (first|(go_at_call 105;refine((Hw.o) _).mono ?_;rintro e w' ⟨rfl,rfl⟩))
 go_ret
 exact⟨aN _ _,rfl⟩):P:=h
theorem qel(h:P:=by rcases(show o=1\/o=2\/o=3\/o=4\/o=5\/o=6\/o=7\/o=8\/o=9\/o=10\/o=11 from qb)with rfl|rfl|rfl|rfl|rfl|rfl|rfl|rfl|rfl|rfl|rfl<;>rfl):P:=h
theorem qix(h:P:=by
 go_enter func82,ntmps82
 go_wp2_with (first|(go_at_call 41;refine(Ca g.name _ hn).mono ?_;rintro e w9 ⟨rfl,rfl⟩;rw[e1]))
 go_ret
 exact⟨ak,false,rfl,Ea HH.o⟩):P:=h
theorem qiy(h:P:=by
 unfold Go.Proofs.YtbkkjodaaijimaaGreatDoor.fd at *
 rw[List.find?_append]
 cases hf:ms.find? (λe=>decide (e.1=nm)) with
 | some x=>rw[hf]at k;simpa using k
 | none=>rw[hf]at k;cases k):P:=h
theorem qiz(h:P:=by
 refine⟨K6.o.1,?_⟩
 rcases K6.o.2 with⟨h2,_⟩|⟨g',cap,cur,hv,hg,hh,r⟩
 ·cases h2
 ·cases hv
  exact Or.inr ⟨g,cp,cur,rfl,hg,by rw[bc.block g hgP];exact hh,r⟩):P:=h
theorem qja(h:P:=by
 by_cases hn:Ar (Bq s.stack)
 ·by_cases hk:s.looks=200
  ·rw[Hx hf ho hn hk]at h;cases h
  ·rw[Js hf ho hn hk]at h;cases h
 ·rw[Lo hf ho hn]at h;cases h):P:=h
theorem qjb(h:P:=by
 generalize nx ts k=x at *
 have d3:decide ((2002:Int)<(x.size:Int))=true:=qh
 unfold maxLen at fx
 go_wp2_with fail
 go_ret
 exact⟨bc,false,rfl,Ea HN.o⟩):P:=h
theorem qjc(h:P:=by
 obtain rfl:j=k:=qb
 simp only[if_neg (show ¬ i=j from qb),if_true]
 intro b e1 e2
 obtain⟨zs,k1,_⟩:=h.code i rh
 have:=(k1.lt b e1).2
 have:=(ho.lt b e2).1
 omega):P:=h
theorem qjd(h:P:=by
 rintro w ⟨s1,s2,s3,s4⟩
 have p0:=Ie s3
 obtain⟨x0,x1,x2⟩:=Bd s4
 have y0:=cK s1 0
 obtain⟨n0,-,n2,-⟩:=Lu s2
 go_simp
 first|done|with_reducible rfl):P:=h
theorem qje(h:P:=by
 go_wp2_with (first|(go_at_call 126;refine(Df g.name _ M4).mono ?_;rintro e w9 ⟨rfl,rfl⟩;rw[e1]))
 go_ret
 exact⟨bc.alloc bc.size _,false,rfl,Ea HO.o⟩):P:=h
theorem qem(h:P:=by exact((hB.setCell (p:=⟨w.heap.size+1,0,N⟩) qg _).setCell (p:=⟨w.heap.size+1,1,N⟩) qg _).setCell (p:=⟨w.heap.size+1,2,N⟩) qg _):P:=h
theorem qjf(h:P:=by
 go_enter func39,ntmps39
 go_wp2_with (first|(go_at_call 57;refine(Kk _ _ qb qb).mono ?_;rintro e w9 ⟨rfl,rfl⟩))
 go_ret
 exact⟨ak,rfl⟩):P:=h
theorem qjg(h:P:=by
 have d3:decide ((200:Int)<(gs.length:Int))=true:=qh
 go_wp2
 go_ret
 exact⟨bh,false,rfl,Ea (λk=>by have:=k.2.2.1;simp only at this;omega)⟩):P:=h
theorem qjh(h:P:=by
 intro i hi
 obtain⟨h1,h2,h3⟩:=hm i hi
 exact⟨by rw[h.cellAt _ qb];exact h1,by rw[h.cellAt _ qb];exact h2,by rw[h.cellAt _ qb];exact h3⟩):P:=h
theorem qji(h:P:=by
 have:=Xq (ts:=ts) (ms:=ms) (st:=st) R0.o.1 (by rw[R0.o.2.1];exact HF.o.2.2.2.1) (by rw[R0.o.2.1];exact HF.o.2.1)
 rw[R0.o.2.1]at this;exact this):P:=h
theorem qen(h:P:=by
 simp only[Jh,List.cons.injEq,and_true,true_and]at h1
 obtain⟨rfl,rfl,rfl,rfl,rfl⟩:=h1
 exact⟨_,_,_,_,_,_,_,_,_,_,_,_,_,_,_,_,_,_,_,_,rfl⟩):P:=h
theorem qjj(h:P:=by
 rw[gq.o b (λq2=>?_),t8.o b cur q]
 have q3:=G4.o
 rw[←q2,t8.o b cur q,q]at q3
 injection q3 with q3;injection q3 with _ q3;exact absurd q3 qd):P:=h
theorem qjk(h:P:=by
 rw[hne b (λe=>by
  subst e;rw[hg]at hb;injection hb with hb;injection hb with _ hb
  rcases hT with e|e<;>rw[e]at hb<;>exact absurd hb qd)]
 exact hb):P:=h
theorem qda(h:P:=by
 have hb:=World.block_lt_of_cell? _ _ h
 rw[World.cell?_alloc_lt _ _ _ qh,World.cell?_alloc_lt _ _ _ qh,World.cell?_alloc_lt _ _ _ hb];exact h):P:=h
theorem qjl(h:P:=by
 rintro e w1 ⟨af,r,rfl,hr⟩
 have bh:=bt ak af
 clear ak af
 go_wp2
 all_goals go_ret
 ·exact⟨bh,-1,rfl,qb⟩
 ·exact⟨bh,r,rfl,qb⟩):P:=h
theorem qjm(h:P:=by
 go_wp2_with fail
 refine(HN.o _).mono ?_
 rintro e w2 ⟨ag,rfl⟩
 go_wp2_with fail
 go_ret2
 exact⟨bt bc ag,lo,true,rfl,hle,HL.o,HH.o,Gi HE.o⟩):P:=h
theorem qjn(h:P:=by
 go_wp2_with fail
 refine(HN.o _).mono ?_
 rintro e w2 ⟨ag,rfl⟩
 go_wp2_with fail
 go_ret2
 exact⟨bt bc ag,lo,false,rfl,hle,HL.o,HH.o,Ea HE.o⟩):P:=h
theorem qjo(h:P:=by
 go_wp2
 go_roundw
 case rel=>exact⟨k+1,_,qb,qj,rfl,qb,qb,bc.trans (af.mono bc.size)⟩
 case measure=>simp[intOf];omega):P:=h
theorem qjp(h:P:=by
 have ek:k=is.length:=qb
 subst ek
 rw[List.take_of_length_le qb]at ah
 go_wp2
 go_ret
 exact⟨am,ao,cp,rfl,strs_own qb ah⟩):P:=h
theorem qjq(h:P:=by
 go_wp2_with fail
 refine(Tryz.strings_Compare _ t _).mono ?_
 rintro e w2 ⟨rfl,rfl⟩
 go_wp2
 go_ret
 exact⟨aN _ _,rfl⟩):P:=h
theorem qjr(h:P:=by
 have hs:=World.cells?_some hc
 exact⟨t,by simpa using hs.2.2 0 qb,by simpa using hs.2.2 1 qb,by simpa using hs.2.2 2 qb,M0⟩):P:=h
theorem qjs(h:P:=by
 rintro w ⟨s1,s2⟩
 obtain⟨-,-,u2,u3,u4,-,-,u7,u8⟩:=ck9 s1
 obtain⟨x0,x1,x2⟩:=Bd s2
 go_simp
 first|done|with_reducible rfl):P:=h
theorem qjt(h:P:=by rw[hne _ (λe=>by have q2:=q.rs.sh;rw[e,hg]at q2;injection q2 with q2;injection q2 with _ q2;exact absurd q2 qd)];exact q.rs.sh):P:=h
theorem qju(h:P:=by rw[hne _ (λe=>by have q2:=q.rs.bd;rw[e,hg]at q2;injection q2 with q2;injection q2 with _ q2;exact absurd q2 qd)];exact q.rs.bd):P:=h
theorem qjv(h:P:=by
 intro b e e'
 obtain rfl:g3=b:=qcn
 rcases ci with hl|hl
 ·exact h.ne g3 hl e'
 ·have:=(ot.lt g3 e').2;omega):P:=h
theorem qjw(h:P:=by
 intro b e e'
 obtain rfl:g3=b:=by simpa [Value.ownBlock] using e'
 rcases ci with hl|hl
 ·exact h.ne g3 e hl
 ·have:=(os.lt g3 e).2;omega):P:=h
theorem qjx(h:P:=by
 go_upto_region 16 with fail
 go_wp2_with fail
 exact⟨⟨i+1,ms1,s1,av1,kv1,vs1,r1,qb,qj,od.o⟩,qaj⟩):P:=h
theorem qjy(h:P:=by
 rintro w ⟨s1,s2⟩
 obtain⟨q0,q1,q2,q3,q4,q5⟩:=Hj s1
 obtain⟨r0,r1,r2⟩:=Bd s2
 go_simp
 first|done|with_reducible rfl):P:=h
theorem qjz(h:P:=by
 refine⟨h.1,?_⟩
 rcases h.2 with h|⟨g,cap,cur,hv,hg,r⟩
 ·exact Or.inl h
 ·exact Or.inr ⟨g,cap,cur,hv,Nat.le_trans hB hg,r⟩):P:=h
theorem qbi(h:P:=by
 rintro w ⟨s1,s2,s3,s4⟩
 obtain⟨l0,l1,l2,-⟩:=Dw s1
 obtain⟨x0,x1,x2,-⟩:=Dw s2
 go_simp
 first|done|with_reducible rfl):P:=h
theorem qka(h:P:=by
 rintro e w' ⟨he,hb,hk,ys,ho,hm⟩
 exact⟨he,hb,λb hl hne=>hk b hl (λe=>hne (by subst e;rfl)),ys,⟨ho,hr.top⟩,hm⟩):P:=h
theorem qeo(h:P:=by
 simp only[Jh,List.cons.injEq,and_true,true_and]at h
 obtain⟨rfl,rfl,rfl,rfl,rfl⟩:=h
 exact⟨rfl,rfl,Lf _ _,rfl,rfl⟩):P:=h
theorem qkb(h:P:=by
 rw[eT.out]at hk
 rw[el]at b1
 have hlI:(l:Int)+1<=50:=qb
 clear el
 go_wp2_with fail
 go_meet
 case rel=>exact⟨rfl,rfl⟩):P:=h
theorem qkc(h:P:=by
 rintro w ⟨r1,r2⟩
 obtain⟨p0,p1,p2,-⟩:=Dw r1
 obtain⟨q0,q1,q2,-⟩:=Dw r2
 go_simp
 first|done|with_reducible rfl):P:=h
theorem qkd(h:P:=by
 have d2:((out.size:Int) != (n:Int))=true:=qh
 go_wp2
 go_ret
 exact⟨bh,false,rfl,Ea (λk=>h2 k.2.1)⟩):P:=h
theorem qke(h:P:=by
 refine⟨h.1,?_⟩
 rcases h.2 with k|⟨g,cap,cur,e,hg,r⟩
 ·exact Or.inl k
 ·exact Or.inr ⟨g,cap,cur,e,qb,r⟩):P:=h
theorem qkf(h:P:=by
 cases hv
 refine Or.inr ⟨g,cap,cur,rfl,hg,?_,r⟩
 rw[hC w ⟨b,j,N⟩ v g (λe=>hb e.symm)];exact hh):P:=h
theorem qkg(h:P:=by
 rcases h:out.toList with _|⟨x,l⟩
 ·exfalso
  apply ho;rw[ByteArray.toList_eq]at h;exact WideShapes.bytes_inj h
 ·rfl):P:=h
theorem qep(h:P:=by
 intro i hi
 obtain⟨b,off,ha,h1,h2,h3⟩:=h i hi
 exact⟨b,off,ha,Aa hb h1,Aa hb h2,Aa hb h3⟩):P:=h
theorem qkh(h:P:=by
 rintro w ⟨s1,s2⟩
 obtain⟨x0,x1,x2⟩:=Bd s1
 obtain⟨y0,y1⟩:=Fq s2
 go_simp
 first|done|with_reducible rfl):P:=h
theorem qat(h:P:=by
 rintro w ⟨r1,r2⟩
 obtain⟨p0,p1,p2,-⟩:=Dw r1
 obtain⟨s0,s1⟩:=Fq r2
 go_simp
 first|done|with_reducible rfl):P:=h
theorem qki(h:P:=by
 go_wp2_with fail
 go_roundw
 case rel=>exact⟨k+1,qb,qj,qad,od⟩
 case measure=>simp[intOf];omega):P:=h
theorem qkj(h:P:=by
 clear pz F6 wt
 unfold Lb
 go_wp2_with fail
 exact⟨rfl,Or.inr ⟨v,bb,_,r2,rfl,.bad D9.o,uf.o.2,uf.o.1⟩⟩):P:=h
theorem qkk(h:P:=by
 rintro w ⟨s1,s2,s3,s4⟩
 have p0:=Ie s3
 obtain⟨x0,x1,x2⟩:=Bd s4
 go_simp
 first|done|with_reducible rfl):P:=h
theorem qkl(h:P:=by
 rintro e w' ⟨he,hb,hk,ys,ho,hm⟩
 exact⟨he,hb,λb hl hne=>hk b hl (λe=>hne (by subst e;rfl)),ys,ho,hm⟩):P:=h
theorem qci(h:P:=by
 intro i h
 have:f i=Classical.choose (C7 i h):=by simp only[f,dif_pos h]
 rw[this];exact Classical.choose_spec (C7 i h)):P:=h
theorem qkm(h:P:=by
 rintro w ⟨r1,r2⟩
 obtain⟨p0,p1⟩:=Fq r1
 obtain⟨q0,q1⟩:=Fq r2
 go_simp
 first|done|with_reducible rfl):P:=h
theorem qkn(h:P:=by
 go_wp2_with (go_at_call 41;refine(HN.o _).mono ?_;rintro e w' ⟨rfl,rfl⟩)
 go_ret
 exact⟨am,qac⟩):P:=h
theorem qko(h:P:=by
 go_wp2
 go_region
 all_goals
  go_wp2;go_ret;exact⟨by repeat (first|exact am|apply Below.drew),qac⟩):P:=h
theorem qkp(h:P:=by
 have:=Xq (ts:=ts) (ms:=ms) (st:=st) h3 (by rw[h4];exact h1) (by rw[h4];exact h0)
 rw[h4]at this;exact this):P:=h
theorem qkq(h:P:=by rw[hne b (λe=>ho ((λe=>Or.inr (Or.inl e)) e)),k2 b hb (λe=>ho (Aw C (u:=r.qv) qq e))]):P:=h
theorem qkr(h:P:=by
 go_wp2
 go_ret
 exact⟨bc,_,rfl,by refine Or.inr ⟨qb,qb,qb,λi hi=>HK.o i qb⟩⟩):P:=h
theorem qks(h:P:=by
 clear ji jx
 go_wp2
 go_ret
 exact⟨rfl,(((KB.old HBA.o hB).trans af).drew.trans ag).setM 2 jj _,B5.o.place _⟩):P:=h
theorem qkt(h:P:=by
 rcases Nat.lt_or_ge w.heap.size w1.heap.size with h'|h'
 ·exact h'
 ·rw[Array.getElem?_eq_none h']at aw;cases aw):P:=h
theorem qku(h:P:=by rw[hC w1 ⟨m,2,N⟩ _ _ qh];exact af.keep _ _ 192 qd qb ik.o):P:=h
theorem qkv(h:P:=by
 rcases ah.2 with⟨hv,h0⟩|⟨g,cap,cur,hv,_⟩
 ·exact⟨N,0,by rw[hv,h0]⟩
 ·exact⟨_,_,hv⟩):P:=h
theorem qeq(h:P:=by
 have AF:Hd _:=e
 clear e h
 go_wp2_with fail
 go_meet
 case rel=>exact⟨rfl,si,by rw[AF.o];exact jz,N8⟩):P:=h
theorem qer(h:P:=by
 go_enter func81,ntmps81
 go_wp2
 go_ret
 exact⟨aN _ _,_,rfl,qb⟩):P:=h
theorem qes(h:P:=by
 go_enter func37,ntmps37
 go_wp2
 go_ret
 exact⟨aN _ _,_,rfl,qb⟩):P:=h
theorem qkw(h:P:=by
 have HA0:Hd _:=hA0
 clear hA0
 go_wp2_with fail
 go_meet
 case rel=>exact⟨congrArg Value.string HA0.o,rfl⟩):P:=h
theorem qkx(h:P:=by
 rcases Nat.lt_or_ge i' k with h|h
 ·exact HK.o i' h
 ·obtain rfl:i'=k:=qb;rw[<- HI.o];exact hb):P:=h
theorem qky(h:P:=by exact⟨ys,k1.same λb eb=>hk b (k1.own.lt b eb).2 (λe'=>Px k1.own k0.own qd b eb e'.symm)⟩):P:=h
theorem qet(h:P:=by
 rcases pw with r|r
 ·left;rw[EXV.o,←r];exact q
 ·right;rw[r]at q;cases q;exact Nat.le_refl _):P:=h
theorem qkz(h:P:=by
 rw[gG,gG,List.getElem?_map,Ix h]
 rfl):P:=h
theorem qla(h:P:=by
 obtain⟨zs,cv,lv,qr⟩:=q.rs.qs
 obtain⟨cs,c1⟩:=Az qr.row b o
 rw[c1];exact hsb b cs _ c1):P:=h
theorem qlb(h:P:=by
 unfold Qo
 generalize u.toNat=m
 by_cases h1:m=32<;>by_cases h2:m=10<;>simp[h1,h2]<;>omega):P:=h
theorem qlc(h:P:=by
 rintro w ⟨s1,s2,s3,s4⟩
 obtain⟨q0,q1,q2⟩:=Bd s4
 go_simp
 first|done|with_reducible rfl):P:=h
theorem qld(h:P:=by
 rintro e w' ⟨rfl,rfl⟩
 exact⟨rfl,Below.refl _ _,λ_ _ _=>rfl,xs,ah,λi hi=>qb⟩):P:=h
theorem qle(h:P:=by
 go_wp2
 go_ret
 exact⟨bh,false,rfl,Ea (λk=>by have:=k.1;rw[EV.o]at this;cases this)⟩):P:=h
theorem qlf(h:P:=by
 go_enter func158,ntmps158
 go_wp2
 go_ret
 exact⟨aN _ _,rfl⟩):P:=h
theorem qlg(h:P:=by
 go_enter func136,ntmps136
 go_wp2
 go_ret
 exact⟨rfl,aN _ _⟩):P:=h
theorem qlh(h:P:=by
 rcases Dm py with⟨h,_⟩|⟨g',c',h⟩
 ·exact⟨_,_,_,h⟩
 ·exact⟨_,_,_,h⟩):P:=h
theorem qli(h:P:=by
 rintro e w' ⟨rfl,rfl⟩
 exact⟨rfl,Below.refl _ _,λ_ _ _=>rfl,xs,hr,λi hi=>qb⟩):P:=h
theorem qlj(h:P:=by exact Lc (Lc (Lc (Ah xq.o qb) qb _) qb _) qb _):P:=h
theorem qlk(h:P:=by exact Lc (Lc (Lc (Ah uy.o qb) qb _) qb _) qb _):P:=h
theorem qau(h:P:=by
 rintro w ⟨s1,s2,s3⟩
 obtain⟨q0,q1,q2⟩:=Bd s3
 go_simp
 first|done|with_reducible rfl):P:=h
theorem qll(h:P:=by
 rcases Nat.lt_or_ge b w.heap.size with h'|h'
 ·exact h'
 ·rw[Array.getElem?_eq_none h']at h;cases h):P:=h
theorem qlm(h:P:=by rw[hne b (λe=>ho (Or.inl e)),k2 b hb (λe=>ho (Aw C (u:=r.nv) qq e))]):P:=h
theorem qln(h:P:=by rw[hne b (λe=>ho (Or.inl e)),k2 b hb (λe=>ho (Aw C (u:=r.ev) qq e))]):P:=h
theorem qlo(h:P:=by
 rintro w s1
 obtain⟨q0,q1,q2,q3,q4,q5⟩:=Hj s1
 go_simp
 first|done|with_reducible rfl):P:=h
theorem qlp(h:P:=by
 rw[←Q8,←eP]
 exact⟨Nt _ _,[],World.ownsRow_nil _ _ 145 3,λi hi=>qb⟩):P:=h
theorem qlq(h:P:=by
 simp[Value.ownBlock]at q
 subst q
 rcases hl with q|q
 ·exact Or.inl q
 ·exact Or.inr qb):P:=h
theorem qlr(h:P:=by
 rintro w ⟨s1,s2⟩
 obtain⟨q0,q1,q2⟩:=Bd s2
 go_simp
 first|done|with_reducible rfl):P:=h
theorem qeu(h:P:=by
 have hl:=h.1
 exact⟨xs[j]'qb,by rw[h.cellAt j hj];exact Ix _⟩):P:=h
theorem qls(h:P:=by
 apply List.ext_getElem?
 intro i
 by_cases h:i<n<;>simp[madeCells,Value.cells,h,Nat.mod_one]):P:=h
theorem qlt(h:P:=by unfold qx;rw[gG,List.getElem?_append_left h,gG]):P:=h
theorem qdb(h:P:=by
 rintro w ⟨s1,s2⟩
 obtain⟨t0,t1,-⟩:=Kv s2
 go_simp
 first|done|with_reducible rfl):P:=h
theorem qlu(h:P:=by
 rcases Nat.lt_or_ge j k with q|q
 ·exact HN.o j q
 ·obtain rfl:j=k:=qb
  exact he):P:=h
theorem qlv(h:P:=by
 have em:m=n:=qb
 subst em
 go_wp2
 go_ret
 exact⟨rfl,bc,HK.o,ys,HR.o,HM.o⟩):P:=h
theorem qdc(h:P:=by
 have em:m=n:=qb
 subst em
 go_wp2
 go_ret
 exact⟨rfl,bc,HK.o,ys,HO.o,HM.o⟩):P:=h
theorem qlw(h:P:=by have q:=k.sh;rw[hb]at q;injection q with q;injection q with _ q;exact absurd q qd):P:=h
theorem qlx(h:P:=by have q:=k.bd;rw[hb]at q;injection q with q;injection q with _ q;exact absurd q qd):P:=h
theorem qav(h:P:=by
 obtain⟨cs,c1⟩:=Az ho b q
 rw[hne b (um b cs _ he c1),k2 b (ho.lt b q).2 (hx b q)]):P:=h
theorem qev(h:P:=by
 have ek:k=is.length:=qb
 subst ek
 go_wp2
 go_ret
 exact⟨am,_,rfl,_,ah,M8⟩):P:=h
theorem qew(h:P:=by
 go_wp2_with fail
 go_region
 all_goals
  go_wp2;go_ret;exact⟨hB.drew,false,rfl,O5.o⟩):P:=h
theorem qly(h:P:=by have q:=k.sh;rw[e]at hb;rw[hb]at q;injection q with q;injection q with _ q;exact hT q):P:=h
theorem qbd(h:P:=by have q:=k.bd;rw[e]at hb;rw[hb]at q;injection q with q;injection q with _ q;exact hT q):P:=h
theorem qlz(h:P:=by exact(((uy.o.set qb _).set qb _).set qb _).wide qb qg):P:=h
theorem qma(h:P:=by exact(((jt.o.set qb _).set qb _).set qb _).wide qb qg):P:=h
theorem qmb(h:P:=by
 clear ba ia aw
 go_wp2_with fail
 go_ret
 exact Or.inr ⟨rfl,_,_,HF.o,fu.o,HD.o⟩):P:=h
theorem qmc(h:P:=by rw[hk g aj (λe=>Cv.ne (T:=171) ⟨_,h2.blk⟩ ot qd e.symm)];exact h2.blk):P:=h
theorem qmd(h:P:=by rw[hk g aj (λe=>Cv.ne (T:=171) ⟨_,h2.blk⟩ os qd e.symm)];exact h2.blk):P:=h
theorem qme(h:P:=by
 rw[List.length_map]
 exact Jk (Jk (Jk ym.o HV.o _) HV.o _) HV.o _):P:=h
theorem qmf(h:P:=by
 obtain⟨cs,c1⟩:=Az qr.row b o
 rw[c1];exact kT b cs _ qd qd c1):P:=h
theorem qmg(h:P:=by
 obtain⟨AJ,⟨es,cl,h1,h2⟩,h3⟩:=h
 exact⟨AJ,⟨es,cl,he.trans h1,h2⟩,h3⟩):P:=h
theorem qmh(h:P:=by exact⟨rfl,(((Below.refl _ _).drew.alloc (Nat.le_refl _) _).trans (af.mono qg))⟩):P:=h
theorem qmi(h:P:=by
 rw[hd]at this
 rcases this with⟨e,_⟩|⟨_,_,_,e,_⟩<;>simp at e
 exact e.2.1):P:=h
theorem qmj(h:P:=by
 rcases nr.2 with⟨e,h0⟩|⟨g,cap,cur,e,_⟩
 ·omega
 ·exact⟨g,cap,e⟩):P:=h
theorem qex(h:P:=by
 go_wp2
 go_ret
 exact⟨(aN _ _).alloc qg _,rfl⟩):P:=h
theorem qdd(h:P:=by
 rintro w s1
 obtain⟨q0,q1,q2⟩:=Bd s1
 go_simp
 first|done|with_reducible rfl):P:=h
theorem qde(h:P:=by
 obtain⟨zs,cv,lv,qr⟩:=q.rs.qs
 subst e
 exact Ae qr.row qd hg o):P:=h
theorem qmk(h:P:=by
 have be:=bt ak ag
 clear hr ak ag
 go_wp2
 go_ret2
 exact⟨be,r,b,rfl,HR.o⟩):P:=h
theorem qml(h:P:=by
 go_wp2_with fail
 go_meet
 case rel=>exact⟨rfl,si,by rw[AF.o];exact ie,yn⟩):P:=h
theorem qmm(h:P:=by
 unfold Au at hp
 simp only[Bool.and_eq_true,decide_eq_true_eq]at hp
 exact hp.1.1):P:=h
theorem qmn(h:P:=by rw[World.cell?_of_block (cq w.heap.size qb (λe=>hne e.symm))];exact k1):P:=h
theorem qmo(h:P:=by
 simp only[if_neg (show ¬ i=k from qb)]
 exact⟨zs,hsame k1 qd,k2⟩):P:=h
theorem qmp(h:P:=by exact hk b (k2.own.lt b eb).2 (λe'=>Px k2.own k0.own qd b eb e'.symm)):P:=h
theorem qdf(h:P:=by simp only[Cr,List.length_singleton,List.mem_singleton,exists_eq_left];omega):P:=h
theorem qak(h:P:=by
 intro w hSw
 try dsimp only at hSw
 go_simp
 first|done|with_reducible rfl):P:=h
theorem qey(h:P:=by exact⟨_,_,_,_,_,_,_,_,_,_,_,_,_,_,_,_,_,_,_,_,rfl⟩):P:=h
theorem qab(h:P:=by
 go_enter func151,ntmps151
 go_wp2
 go_ret2
 exact⟨rfl,rfl⟩):P:=h
theorem qz(h:P:=by
 go_enter func105,ntmps105
 go_wp2
 go_ret2
 exact⟨rfl,rfl⟩):P:=h
theorem qez(h:P:=by
 go_enter func174,ntmps174
 go_wp2
 go_ret
 exact⟨rfl,rfl⟩):P:=h
theorem qfa(h:P:=by
 go_enter func137,ntmps137
 go_wp2
 go_ret
 exact⟨rfl,rfl⟩):P:=h
theorem qfb(h:P:=by
 go_enter func57,ntmps57
 go_wp2
 go_ret
 exact⟨rfl,rfl⟩):P:=h
theorem qfc(h:P:=by
 go_wp2
 go_ret
 exact⟨Below.refl _ _,-1,rfl,Or.inl qb⟩):P:=h
theorem qfd(h:P:=by
 clear he HI
 go_wp2
 go_ret
 exact⟨by rw[<- HR.o];rfl,rfl⟩):P:=h
theorem qfe(h:P:=by exact Or.inl (Or.inr (Or.inr (Or.inr (Or.inr (Or.inr q)))))):P:=h
theorem qff(h:P:=by exact Or.inl (Or.inr (Or.inr (Or.inr (Or.inr (Or.inl q)))))):P:=h
theorem qfg(h:P:=by simpa [List.getElem?_take,List.getElem?_drop] using this):P:=h
theorem qdg(h:P:=by
 go_wp2
 go_ret
 exact⟨be,-1,rfl,Or.inl qb⟩):P:=h
theorem qfh(h:P:=by
 intro g' ai w' h1 h2 h3 h4
 exact h g' ai w' h1 h2 h3):P:=h
theorem qdh(h:P:=by
 rintro w s1
 go_simp
 first|done|with_reducible rfl):P:=h
theorem qdi(h:P:=by
 intro g' ai w' h1 h2 h3 h4
 exact h g' ai w' h1 h2):P:=h
theorem qbj(h:P:=by exact⟨N,0,by rw[h0],λi hi=>qb⟩):P:=h
theorem qfi(h:P:=by exact Or.inl (Or.inr (Or.inr (Or.inr (Or.inl q))))):P:=h
theorem qfj(h:P:=by
 go_ret
 exact⟨bc,true,rfl,Gi HO.o⟩):P:=h
theorem qdj(h:P:=by
 unfold Fm at *
 rw[jB hm]
 rfl):P:=h
theorem qfk(h:P:=by
 go_wp2_with fail
 go_ret
 exact⟨rfl,HB.o⟩):P:=h
theorem qfl(h:P:=by
 go_ret
 exact⟨hB.drew,false,rfl,O5.o⟩):P:=h
theorem qdk(h:P:=by
 show _=_
 rw[<- eW];exact Ph (Hc _ _)):P:=h
theorem qbk(h:P:=by
 show _=_
 rw[<- eW];exact Bf _ _):P:=h
theorem qaw(h:P:=by
 go_simp
 first|done|with_reducible rfl):P:=h
theorem qbl(h:P:=by
 go_wp2
 go_ret
 exact⟨am,rfl⟩):P:=h
theorem qaf(h:P:=by
 go_wp2
 go_ret
 exact⟨rfl,rfl⟩):P:=h
theorem qdl(h:P:=by exact⟨N,0,by rw[e,h0]⟩):P:=h
theorem qcj(h:P:=by rw[←eW];exact Ba (Ba (Ai _ _) (Ai _ _)) (Ai _ _)):P:=h
theorem qdm(h:P:=by simp[results,results152,go_sem,Dz,k0,k1,k2,k3,k4,k5,k6,k7,k8,k9]):P:=h
theorem qbm(h:P:=by simp[results,results133,go_sem,Dz,z0,z1,z2,z3,z4,z5,z6,z7,z8,z9]):P:=h
theorem qdn(h:P:=by rw[Bool.eq_false_iff];simp only[ne_eq,Bool.and_eq_true,decide_eq_true_eq];omega):P:=h
theorem qfm(h:P:=by simp[results,results22,go_sem,y0,y1,y2,y3,y4,y5,y6,y7,y8,y9]):P:=h
theorem qdo(h:P:=by simp[results,results66,go_sem,y0,y1,y2,y3,y4,y5,y6,y7,y8,y9]):P:=h
theorem qfn(h:P:=by simp[results,results175,go_sem,Bb,En,k0,k1,k2,k3,k4,k5]):P:=h
theorem qfo(h:P:=by simp only[Kg,Bool.and_eq_true,decide_eq_true_eq]at ft;simp;omega):P:=h
theorem qfp(h:P:=by rw[World.cell?_alloc_lt _ _ _ (World.block_lt_of_cell? _ _ h)];exact h):P:=h
theorem qfq(h:P:=by simp[results,results169,go_sem,Og,v0,v1,v2,v3,v4,v5]):P:=h
theorem qfr(h:P:=by simp[results,results187,go_sem,Bb,k0,k1,k2,k3,k4,k5]):P:=h
theorem qbn(h:P:=by simp[results,results175,go_sem,Bb,k0,k1,k2,k3,k4,k5]):P:=h
theorem qdp(h:P:=by simp[results,results177,go_sem,Bb,k0,k1,k2,k3,k4,k5]):P:=h
theorem qbo(h:P:=by rw[<- eW];exact Ba (Ai _ _) (Ai _ _)):P:=h
theorem qfs(h:P:=by rw[←eW];exact Ba (Ai _ _) (Ai _ _)):P:=h
theorem qdq(h:P:=by simp[results,results154,go_sem,r0,r1,r2,r3,r4,r5]):P:=h
theorem qdr(h:P:=by simp[results,results180,go_sem,r0,r1,r2,r3,r4,r5]):P:=h
theorem qft(h:P:=by rw[<- eq];exact Vz s.name t y s.code.length p W):P:=h
theorem qfu(h:P:=by rw[←eW];exact aN _ _):P:=h
theorem qds(h:P:=by rw[←e3];exact aN _ _):P:=h
theorem qax(h:P:=by rw[←e6];exact aN _ _):P:=h
theorem qck(h:P:=by rintro e;apply hne;rw[hv];simp[Value.ownBlock,e]):P:=h
theorem qdt(h:P:=by simp only[Bool.and_eq_true,decide_eq_true_eq];omega):P:=h
theorem qbp(h:P:=by rw[List.length_append,List.length_singleton];omega):P:=h
theorem qcl(h:P:=by rw[Nat.zero_add,List.nil_append]at jq;exact jq):P:=h
theorem qfv(h:P:=by simp[results,results108,go_sem,Rs,resA]):P:=h
theorem qcm(h:P:=by show _=_;rw[←eW];exact Ph (Ph (Hc _ _))):P:=h
theorem qfw(h:P:=by simp[results,results162,go_sem,Rs,resA]):P:=h
theorem qfx(h:P:=by show _=_;rw[←eW,←eQ];exact Ph (Hc _ _)):P:=h
theorem qfy(h:P:=by simp[results,results88,go_sem,y0,y1,y2]):P:=h
theorem qap(h:P:=by simp[results,results63,go_sem,y0,y1,y2]):P:=h
theorem qfz(h:P:=by simp[results,results95,go_sem,z0,z1,z2]):P:=h
theorem qga(h:P:=by rw[cH cr.o.blk,←EQV.o];rfl):P:=h
theorem qgb(h:P:=by rw[<- eq];exact Wa s.name s.text t W):P:=h
theorem qbe(h:P:=by rw[Lib.alloc_old _ _ _ (Ag As)];exact As):P:=h
theorem qgc(h:P:=by rw[ag.block _ (Ag d7.o)];exact d7.o):P:=h
theorem qdu(h:P:=by rw[List.length_append,List.length_singleton]):P:=h
theorem qgd(h:P:=by rw[<- eq];exact Fo x n W hx0 h1 h8):P:=h
theorem qge(h:P:=by show _=_;rw[←eW];exact Ph (Hc _ _)):P:=h
theorem qbq(h:P:=by show _=_;rw[←e6,←eRR];exact Hc _ _):P:=h
theorem qgf(h:P:=by rw[he,decide_eq_false_iff_not];exact hz):P:=h
theorem qgg(h:P:=by simp only[Nat.min_def];split<;>omega):P:=h
theorem qay(h:P:=by rw[<- eU];exact(Below.refl _ _).drew):P:=h
theorem qaz(h:P:=by simp[results,results172,go_sem]):P:=h
theorem qy(h:P:=by rw[←eD];exact(Below.refl _ _).drew):P:=h
theorem qbf(h:P:=by rw[cH cr.o.blk];rfl):P:=h
theorem qbr(h:P:=by rw[cH uw.o.blk];rfl):P:=h
theorem qbs(h:P:=by rw[←eU];exact(Below.refl _ _).drew):P:=h
theorem qae(h:P:=by intro u hu;simp at hu;subst hu;rfl):P:=h
theorem qgh(h:P:=by simp[Lib.compareBytes,Op.bytesLess]):P:=h
theorem qbt(h:P:=by intro u hu;simp at hu;rw[hu];rfl):P:=h
theorem qgi(h:P:=by rw[he,decide_eq_true_eq];exact hz):P:=h
theorem qdv(h:P:=by rw[bc.block _ hwP];exact KB5.o):P:=h
theorem qbu(h:P:=by rw[hne _ (Ne.symm hHb)];exact cw):P:=h
theorem qgj(h:P:=by rw[decide_eq_false_iff_not];omega):P:=h
theorem qbv(h:P:=by rw[←eW];exact heapW_old2 _ _ _):P:=h
theorem qbw(h:P:=by rw[←eW];exact heapW_new2 _ _ _):P:=h
theorem qgk(h:P:=by rw[←eRR];exact HF.o.bel.size):P:=h
theorem qba(h:P:=by rw[<- eW];exact Ai _ _):P:=h
theorem qbx(h:P:=by rw[jB f9];rfl):P:=h
theorem qgl(h:P:=by rw[←e5];exact Ai _ _):P:=h
theorem qgm(h:P:=by rw[cH h.blk];rfl):P:=h
theorem qdw(h:P:=by rw[e,cH h];rfl):P:=h
theorem qgn(h:P:=by rw[List.length_append];omega):P:=h
theorem qaq(h:P:=by simpa [Value.ownBlock] using q):P:=h
theorem qcn(h:P:=by simpa [Value.ownBlock] using e):P:=h
theorem qgo(h:P:=by rw[cH yd];rfl):P:=h
theorem qdx(h:P:=by rw[cH f9];rfl):P:=h
theorem qgp(h:P:=by rw[←eX,←eq];simp[go_sem]):P:=h
theorem qgq(h:P:=by rw[←eW,←eq];simp[go_sem]):P:=h
theorem qgr(h:P:=by rw[cH kbr];rfl):P:=h
theorem qbb(h:P:=by rw[cH hm];rfl):P:=h
theorem qgs(h:P:=by rw[←edt];exact HMD.o.t2):P:=h
theorem qag(h:P:=by rw[cH h];rfl):P:=h
theorem qdy(h:P:=by rw[IntKind.wrap_i64];omega):P:=h
theorem qdz(h:P:=by simp only[Wl]at k;omega):P:=h
theorem qbg(h:P:=by simp[Value.ownBlock]at e):P:=h
theorem qea(h:P:=by rw[<- d9];exact ku.o):P:=h
theorem qby(h:P:=by simp[Region.wanted,ri]):P:=h
theorem qal(h:P:=by rw[<- eW];simp[go_sem]):P:=h
theorem qco(h:P:=by rw[hmm];split<;>omega):P:=h
theorem qcp(h:P:=by rw[←eW];simp[go_sem]):P:=h
theorem qeb(h:P:=by unfold World.alloc;simp):P:=h
theorem qec(h:P:=by simp[Act.eval,Act.put]):P:=h
theorem qcq(h:P:=by rw[EML.o];exact oa):P:=h
theorem qbz(h:P:=by rw[EM.o];exact aj):P:=h
theorem qed(h:P:=by rw[ESM.o];exact hq):P:=h
theorem qcr(h:P:=by rw[Ua];omega):P:=h
theorem qcs(h:P:=by simp[Value.oneCell']):P:=h
theorem qct(h:P:=by simpa using am.size):P:=h
theorem qm(h:P:=by unfold maxLen;omega):P:=h
theorem qam(h:P:=by rw[fk x hx];omega):P:=h
theorem qaj(h:P:=by simp[intOf];omega):P:=h
theorem qca(h:P:=by rw[EM.o];omega):P:=h
theorem qcu(h:P:=by rw[ah.1];omega):P:=h
theorem qcv(h:P:=by simp at hk;omega):P:=h
theorem qcw(h:P:=by rw[<- eW];simp):P:=h
theorem qac(h:P:=by rw[HC.o];rfl):P:=h
theorem qcb(h:P:=by simp at h;omega):P:=h
theorem qcx(h:P:=by rw[HF.o];rfl):P:=h
theorem qcc(h:P:=by rw[←eW];simp):P:=h
theorem qcd(h:P:=by simp;try omega):P:=h
theorem qan(h:P:=by rw[bv];omega):P:=h
theorem qcy(h:P:=by simpa using gj):P:=h
theorem qce(h:P:=by simpa using hj):P:=h
theorem qcf(h:P:=by decide +kernel):P:=h
theorem qbc(h:P:=by simpa using hn):P:=h
theorem qk(h:P:=by simp[go_sem]):P:=h
theorem qah(h:P:=by rw[el];simp):P:=h
theorem qar(h:P:=by simpa using h):P:=h
theorem qh(h:P:=by simp;omega):P:=h
theorem qas(h:P:=by injection e):P:=h
theorem qai(h:P:=by simp[Aq]):P:=h
theorem qq(h:P:=by simp[Mw]):P:=h
theorem qi(h:P:=by kernel_rfl):P:=h
theorem qaa(h:P:=by simp at hi):P:=h
theorem qbh(h:P:=by simp[Lz]):P:=h
theorem qt(h:P:=by simp[*]):P:=h
theorem qu(h:P:=by cases e):P:=h
theorem qad(h:P:=by trivial):P:=h
theorem qw(h:P:=by cases q):P:=h
theorem qd(h:P:=by decide):P:=h
theorem qj(h:P:=by go_num):P:=h
theorem qb(h:P:=by omega):P:=h
theorem qg(h:P:=by simp):P:=h
theorem qo(h:P:=by rfl):P:=h
end Go.Proofs.YtbkkjodaaijimaaGreatDoor
