import Derived.Below
import Derived.BigQuiet
import Derived.Carry
import Derived.ChangeOld
import Derived.Deep.AppendLies
import Derived.Deep.CutBlock
import Derived.Deep.DeepCutAuto
import Derived.Deep.DeepHandedRow
import Derived.Deep.LoopGhost
import Derived.Deep.QuietTactic
import Derived.Deep.RegionHeld
import Derived.Deep.RegionHeld3
import Derived.Deep.RegionLaw
import Derived.Deep.RegionWith
import Derived.Deep.Slices
import Derived.Deep.Strs
import Derived.DeepKeys5
import Derived.Defers
import Derived.Ground.Names2Prog
import Derived.Ground.SlgnProg
import Derived.LaidSub
import Derived.Laws.AppendOwnNone
import Derived.Laws.CopyOwn
import Derived.Laws.CopyRow
import Derived.Lib.AppendIntMem
import Derived.Lib.Builder
import Derived.Lib.ItoaNum
import Derived.Lib.LaidTab
import Derived.Lib.SmallJoins
import Derived.MakeChecks
import Derived.Maps.AppendAt
import Derived.Maps.OwnSet
import Derived.Maps.Views
import Derived.OpenShut
import Derived.OpenVars
import Derived.ProofKit
import Derived.Recover
import Derived.Shelf.LaysM
import Derived.Shelf.SlSorted.Search
import Derived.Shelf.Slices.Clone
import Derived.Shelf.Slices.Turned
import Derived.Shelf.SlicesE.Clone
import Derived.Shelf.Small.Strs
import Derived.Shelf.Spec.SlicesInsertGrow
import Derived.Shelf.Strconv.Itoa0
import Derived.Shelf.Strconv.Itoa1
import Derived.Shelf.Strconv.Itoa2
import Derived.Shelf.Strconv.Itoa3
import Derived.SliceStrings
import Derived.WalkKit
import Derived.WalkLawsBesides
import Derived.WalkMore
import Derived.WalkSpells
namespace Go.Proofs.YtoakjccojifagaaGreatDoor
open Value renaming slice->J,string->S,bool->F,agg->G,tuple->Y
open Option renaming some->M,none->N
open Obj renaming cells->O
open Go renaming Value->Z
open _root_ renaming List->L,Nat->X
set_option linter.unusedVariables false
set_option linter.unusedSimpArgs false
variable {P:Prop}
theorem qhm(h:P:=by
 have oq:xs.length=R.length*3:=r.row.1
 have ne:∀ {e sz n:X} {u:Z} {ys:L Z},w.ownsRow B e sz u n ys->e≠95->∀b,u.ownBlock=M b->v.ownBlock≠M b:=λq he=>apart q r.row he
 refine⟨_,λi=>if i<R.length then cv i else c,λi=>if i<R.length then lv i else d,by rw[List.length_append];exact Ap ho ht qd x,λi hi=>?_,λi hi=>?_,λi hi=>?_,λi j t7 hj b e=>?_,λi j t7 hj b e=>?_⟩
 ·rw[List.length_append,List.length_singleton]at hi
  rcases Nat.lt_or_ge i R.length with k|k
  ·obtain⟨a,b,e⟩:=r.fil i k
   rw[if_pos k,if_pos k,qx_lt k];refine⟨?_,?_,?_⟩<;>rw[List.getElem?_append_left qb]<;>assumption
  ·obtain rfl:i=R.length:=qb
   rw[if_neg qb,if_neg qb,qx_at];refine⟨?_,?_,?_⟩
   ·rw[List.getElem?_append_right qb,show R.length*3-xs.length=0 from qb];rfl
   ·rw[List.getElem?_append_right qb,show R.length*3+1-xs.length=1 from qb];rfl
   ·rw[List.getElem?_append_right qb,show R.length*3+2-xs.length=2 from qb];rfl
 ·rw[List.length_append,List.length_singleton]at hi
  rcases Nat.lt_or_ge i R.length with k|k
  ·obtain⟨ys,a,b⟩:=r.code i k
   show ∃ys,World.ownsRow _ _ _ _ (if i<R.length then cv i else c) _ _/\_;rw[if_pos k,qx_lt k];exact⟨ys,Dg a hg (ne a qd) hb qd,b⟩
  ·obtain rfl:i=R.length:=qb
   show ∃ys,World.ownsRow _ _ _ _ (if R.length<R.length then cv R.length else c) _ _/\_;rw[if_neg qb,qx_at];exact⟨zs,Dg h1 hg (ne h1 qd) hb qd,h2⟩
 ·rw[List.length_append,List.length_singleton]at hi
  rcases Nat.lt_or_ge i R.length with k|k
  ·obtain⟨ys,a,b⟩:=r.look i k
   show ∃ys,World.ownsRow _ _ _ _ (if i<R.length then lv i else d) _ _/\_;rw[if_pos k,qx_lt k];exact⟨ys,Dg a hg (ne a qd) hb qd,b⟩
  ·obtain rfl:i=R.length:=qb
   show ∃ys,World.ownsRow _ _ _ _ (if R.length<R.length then lv R.length else d) _ _/\_;rw[if_neg qb,qx_at];exact⟨us,Dg h3 hg (ne h3 qd) hb qd,h4⟩
 ·rw[List.length_append,List.length_singleton]at hj
  have hi:i<R.length:=qb;simp only[if_pos hi]at e
  rcases Nat.lt_or_ge j R.length with k|k
  ·simp only[if_pos k];exact r.apc i j t7 k b e
  ·simp only[if_neg (show ¬ j<R.length from qb)];exact hc i hi b e
 ·rw[List.length_append,List.length_singleton]at hj
  have hi:i<R.length:=qb;simp only[if_pos hi]at e
  rcases Nat.lt_or_ge j R.length with k|k
  ·simp only[if_pos k];exact r.apl i j t7 k b e
  ·simp only[if_neg (show ¬ j<R.length from qb)];exact hd i hi b e):P:=h
theorem qhn(h:P:=by
 obtain⟨x0,x1,x2,xf⟩:=Dx HQ.o
 go_wp2_with fail
 clear x0 x1 x2 xf
 refine(xq.o w2 fj.o).mono ?_
 rintro e w9 ⟨zw,g1,p1,v2,rfl,o1,o2⟩
 obtain⟨a2,p2,rfl,_⟩:=o2.sl
 have xh:=Ad (Ab zw HZ.o)
 have HB9:=Ad (bt fj.o zw)
 have xj:=Ad (show Ev w9 w.heap.size (J (p_ g1) T.length p1) (J a2 R.length p2) T R from ⟨Ah o1.own (zo fj.o.size),⟨g1,p1,rfl⟩,o2.recO.base (zo fj.o.size)⟩)
 clear zw o1 o2 HQ HP HZ xq fj
 obtain⟨ye,yd,yb,xz,xy,xx,xw,xv,xu,xr⟩:=Dz xh.o
 have zcf:=fZ xh.o
 obtain⟨l,el⟩:∃l:L (X×X×Z),l=[((w.heap.size+1+1),0,I 9),((w.heap.size+1+1),1,ze),((w.heap.size+1+1),2,nS),((w.heap.size+1+1),3,I n),((w.heap.size+1+1),4,J (p_ g1) T.length p1),((w.heap.size+1+1),5,J a2 R.length p2),((w.heap.size+1+1),6,nS),((w.heap.size+1+1),7,nS),((w.heap.size+1+1),8,ze),((w.heap.size+1+1),9,ze)]:=⟨_,rfl⟩
 have bi:∀x∈l,x.1=(w.heap.size+1+1):=qy
 have be:=Cl l w9 _ bi xh.o
 have hS:=xj.o.setU bi xh.o
 have cr:Bw w (Be w9 l):=Az l w9 HB9.o (λx hx=>qz)
 obtain⟨V,eV⟩:=Aj (Be w9 l)
 rw[eV]at be cr hS
 rw[el]at be eV
 simp only[Be,List.foldl]at eV
 simp only[List.foldl,List.setIfInBounds_toArray,List.set_cons_zero,List.set_cons_succ]at be
 have HV:=Ad be
 have jz:=Ad cr
 have ew:=Ad hS
 clear be cr el bi hS
 go_wp2_with fail
 try rw[eV]
 obtain⟨y0,y1,y2,y3,y4,y5,y6,y7,y8,y9⟩:=Dz HV.o
 exact bR (v:=G #[I 9,ze,nS,I n,J (p_ g1) T.length p1,J a2 R.length p2,nS,nS,ze,ze]) qee rfl (by obtain⟨zs,kv,lv,rr⟩:=ew.o.rcs;exact⟨jz.o,⟨9,⟨#[]⟩,[],n,T,R,[],[],⟨#[]⟩,⟨#[]⟩⟩,_,_,_,_,_,zs,kv,lv,rfl,HSY.o,Fq _ _,ew.o.txt,rr,Fq _ _,Fq _ _⟩)):P:=h
theorem qho(h:P:=by
 obtain⟨x0,x1,x2,xf⟩:=Dx HQ.o
 go_wp2_with fail
 clear x0 x1 x2 xf
 refine(xq.o w2 fj.o).mono ?_
 rintro e w9 ⟨zw,g1,p1,v2,rfl,o1,o2⟩
 obtain⟨a2,p2,rfl,_⟩:=o2.sl
 have xh:=Ad (Ab zw HZ.o)
 have HB9:=Ad (bt fj.o zw)
 have xj:=Ad (show Ev w9 w.heap.size (J (p_ g1) T.length p1) (J a2 R.length p2) T R from ⟨Ah o1.own (zo fj.o.size),⟨g1,p1,rfl⟩,o2.recO.base (zo fj.o.size)⟩)
 clear zw o1 o2 HQ HP HZ xq fj
 obtain⟨ye,yd,yb,xz,xy,xx,xw,xv,xu,xr⟩:=Dz xh.o
 have zcf:=fZ xh.o
 obtain⟨l,el⟩:∃l:L (X×X×Z),l=[((w.heap.size+1+1),0,I 9),((w.heap.size+1+1),1,ze),((w.heap.size+1+1),2,nS),((w.heap.size+1+1),3,I n),((w.heap.size+1+1),4,J (p_ g1) T.length p1),((w.heap.size+1+1),5,J a2 R.length p2),((w.heap.size+1+1),6,nS),((w.heap.size+1+1),7,nS),((w.heap.size+1+1),8,ze),((w.heap.size+1+1),9,ze)]:=⟨_,rfl⟩
 have bi:∀x∈l,x.1=(w.heap.size+1+1):=qy
 have be:=Cl l w9 _ bi xh.o
 have hS:=xj.o.setU bi xh.o
 have cr:Bw w (Be w9 l):=Az l w9 HB9.o (λx hx=>qz)
 obtain⟨V,eV⟩:=Aj (Be w9 l)
 rw[eV]at be cr hS
 rw[el]at be eV
 simp only[Be,List.foldl]at eV
 simp only[List.foldl,List.setIfInBounds_toArray,List.set_cons_zero,List.set_cons_succ]at be
 have HV:=Ad be
 have jz:=Ad cr
 have ew:=Ad hS
 clear be cr el bi hS
 go_wp2_with fail
 try rw[eV]
 obtain⟨y0,y1,y2,y3,y4,y5,y6,y7,y8,y9⟩:=Dz HV.o
 exact bR (v:=G #[I 9,ze,nS,I n,J (p_ g1) T.length p1,J a2 R.length p2,nS,nS,ze,ze]) qgh rfl ⟨jz.o,_,rfl,_,_,rfl,ew.o⟩):P:=h
theorem qhp(h:P:=by
 go_wp2_with fail
 clear x0 x1 x2 xf
 refine(xq.o w1b d7.o).mono ?_
 rintro e w2 ⟨ag,g1,p1,v2,rfl,o1,o2⟩
 obtain⟨a2,p2,rfl,_⟩:=o2.sl
 have mu:=Ad (Ab ag o8.o)
 have fj:=Ad (bt d7.o ag)
 have cu:=Ad (show Ev w2 w.heap.size (J (p_ g1) T.length p1) (J a2 R.length p2) T R from ⟨Ah o1.own (zo d7.o.size),⟨g1,p1,rfl⟩,o2.recO.base (zo d7.o.size)⟩)
 clear ag o1 o2 d7 o8 ki
 obtain⟨ye,yd,yb,xz,xy,xx,xw,xv,xu,xr⟩:=Dz mu.o
 have zcf:=fZ mu.o
 obtain⟨l,el⟩:∃l:L (X×X×Z),l=[((w.heap.size+1+1),0,I 9),((w.heap.size+1+1),1,ze),((w.heap.size+1+1),2,nS),((w.heap.size+1+1),3,I n),((w.heap.size+1+1),4,J (p_ g1) T.length p1),((w.heap.size+1+1),5,J a2 R.length p2),((w.heap.size+1+1),6,nS),((w.heap.size+1+1),7,nS),((w.heap.size+1+1),8,ze),((w.heap.size+1+1),9,ze)]:=⟨_,rfl⟩
 have bi:∀x∈l,x.1=(w.heap.size+1+1):=qy
 have be:=Cl l w2 _ bi mu.o
 have hS:=cu.o.setU bi mu.o
 have cr:Bw w (Be w2 l):=Az l w2 fj.o (λx hx=>qz)
 obtain⟨V,eV⟩:=Aj (Be w2 l)
 rw[eV]at be cr hS
 rw[el]at be eV
 simp only[Be,List.foldl]at eV
 simp only[List.foldl,List.setIfInBounds_toArray,List.set_cons_zero,List.set_cons_succ]at be
 have HV:=Ad be
 have jz:=Ad cr
 have ew:=Ad hS
 clear be cr el bi hS
 go_wp2_with fail
 try rw[eV]
 obtain⟨y0,y1,y2,y3,y4,y5,y6,y7,y8,y9⟩:=Dz HV.o
 exact bR (v:=Y #[G #[I 9,ze,nS,I n,J (p_ g1) T.length p1,J a2 R.length p2,nS,nS,ze,ze],nS]) qco rfl (⟨jz.o,_,_,rfl,_,_,rfl,ew.o⟩)):P:=h
theorem qhq(h:P:=by
 obtain⟨k,hk,rfl,HA,rfl⟩:=hrel
 by_cases aj:k<s.size
 ·by_cases c1:s[k].toNat<33
  ·have e1:decide ((s[k].toNat:Int)<33)=true:=qh;have HF:Hd (Ez s=false):=Cs (λh=>by have:=h.2.2 k aj;omega);clear c1;go_wp2;go_ret;exact⟨qdc,rfl⟩
  ·have e1:decide ((s[k].toNat:Int)<33)=false:=qh
   by_cases c2:126<s[k].toNat
   ·have e2:decide ((126:Int)<s[k].toNat)=true:=qh;have HF:Hd (Ez s=false):=Cs (λh=>by have:=h.2.2 k aj;omega);clear c1 c2;go_wp2;go_ret;exact⟨qdc,rfl⟩
   ·have e2:decide ((126:Int)<s[k].toNat)=false:=qh
    have HB:Hd (∀j,(h:j<s.size)->j<k+1->33<=s[j].toNat/\s[j].toNat<=126):=λj h hj=>by
     rcases Nat.lt_or_ge j k with h'|h'
     ·exact HA.o j h h'
     ·obtain rfl:j=k:=qb;omega
    clear c1 c2;go_wp2;go_roundw
    case rel=>exact⟨k+1,qb,qj,HB,by first|trivial|rfl⟩
    case measure=>simp[intOf];omega
 ·have HF:Hd (Ez s=true):=Db ⟨qb,qb,λj h=>HA.o j h qb⟩;go_wp2;go_ret;exact⟨qdc,rfl⟩):P:=h
theorem qde(h:P:=by
 rw[eP]at zP po ⊢
 obtain⟨ye,yd,yb,xz,xy,xx,xw,xv,xu,xr⟩:=Dz zP
 have zcf:=fZ zP
 obtain⟨l,el⟩:∃l:L (X×X×Z),l=[(P,0,I d.c),(P,1,S d.t),(P,2,J b1 d.ch.length b2),(P,3,I d.n),(P,4,J b3 d.T.length b4),(P,5,J b5 d.R.length b6),(P,6,J b7 d.ran.length b8),(P,7,J b9 d.held.length Ld),(P,8,S d.A),(P,9,S d.B)]:=⟨_,rfl⟩
 have bi:∀x∈l,x.1=P:=qy
 have be:=Cl l wC _ bi zP
 have hS:=ow.setU bi zP
 have cr:Bw yz (Be wC l):=Az l wC bC (λx hx=>qz)
 obtain⟨V,eV⟩:=Aj (Be wC l)
 rw[eV]at be cr hS
 rw[el]at be eV
 simp only[Be,List.foldl]at eV
 simp only[List.foldl,List.setIfInBounds_toArray,List.set_cons_zero,List.set_cons_succ]at be
 have HV:=Ad be
 have jz:=Ad cr
 have ew:=Ad hS
 clear be cr el bi hS
 refine Lt.sp (i:=8) (λK hK=>?_)
 go_simp
 try rw[eV]
 refine hK.out _ _ (λh=>absurd rfl h) (λ_=>?_)
 clear hK K
 refine Lt.done qi ?_ _
 go_wp2_with fail
 go_meet
 exact⟨P,d,_,_,_,_,_,zs,kv,lv,rfl,HV.o,uj.o,ew.o,jl.o,jz.o⟩):P:=h
theorem qdf(h:P:=by
 rw[eP]at zP po ⊢
 obtain⟨ye,yd,yb,xz,xy,xx,xw,xv,xu,xr⟩:=Dz zP
 have zcf:=fZ zP
 obtain⟨l,el⟩:∃l:L (X×X×Z),l=[(P,0,I d.c),(P,1,S d.t),(P,2,J b1 d.ch.length b2),(P,3,I d.n),(P,4,J b3 d.T.length b4),(P,5,J b5 d.R.length b6),(P,6,J b7 d.ran.length b8),(P,7,J b9 d.held.length Ld),(P,8,S d.A),(P,9,S d.B)]:=⟨_,rfl⟩
 have bi:∀x∈l,x.1=P:=qy
 have be:=Cl l wC _ bi zP
 have hS:=ow.setU bi zP
 have cr:Bw w2 (Be wC l):=Az l wC bC (λx hx=>qz)
 obtain⟨V,eV⟩:=Aj (Be wC l)
 rw[eV]at be cr hS
 rw[el]at be eV
 simp only[Be,List.foldl]at eV
 simp only[List.foldl,List.setIfInBounds_toArray,List.set_cons_zero,List.set_cons_succ]at be
 have HV:=Ad be
 have jz:=Ad cr
 have ew:=Ad hS
 clear be cr el bi hS
 refine Lt.sp (i:=8) (λK hK=>?_)
 go_simp
 try rw[eV]
 refine hK.out _ _ (λh=>absurd rfl h) (λ_=>?_)
 clear hK K
 refine Lt.done qi ?_ _
 go_wp2_with fail
 go_meet
 exact⟨P,d,_,_,_,_,_,zs,kv,lv,rfl,HV.o,uj.o,ew.o,jz.o⟩):P:=h
theorem qhr(h:P:=by
 obtain⟨m,e1,we,rm⟩:∃m:X,((lo:Int)+(hi:Int)) / 2=(m:Int)∧lo≤m∧m<hi:=⟨(lo+hi) / 2,qb,qb,qb⟩
 obtain⟨b,off,rfl,c1⟩:=hc m qb
 obtain⟨v,hv⟩:=Aj (Au (nx l m) t)
 have HV:Hd (Au (nx l m) t=v):=hv
 have HN:Hd (∀W:World,Calls prog 129 #[S (nx l m),S t] W λe w'=>e=.returned (F v)∧W=w'):=λW=>by rw[←hv];exact Se _ _ W
 clear hc hv
 generalize nx l m=s at c1 HN
 have D9:(m:Int)<(l.length:Int):=qb
 cases v
 ·go_wp2_with (go_at_call 129;refine(HN.o _).mono ?_;rintro e w' ⟨rfl,rfl⟩)
  go_roundw
  case rel=>exact⟨lo,m,rfl,rfl,we,qb,HL.o,Tv jw.o HV.o,trivial⟩
  case measure=>simp[intOf];omega
 ·go_wp2_with (go_at_call 129;refine(HN.o _).mono ?_;rintro e w' ⟨rfl,rfl⟩)
  go_roundw
  case rel=>exact⟨m+1,hi,qj,rfl,qb,qb,Zo jw.o qb HV.o,HH.o,trivial⟩
  case measure=>simp[intOf];omega):P:=h
theorem qhs(h:P:=by
 by_cases c1:st<k
 ·rw[if_pos c1]
  by_cases c2:n'=0
  ·subst c2;have HR:Hd (s.extract st k=q):=by show _=_;rw[<- Ze aj hg c1];exact HI.o
   clear hg HI;go_wp2;go_ret;exact⟨by rw[<- HR.o];rfl,rfl⟩
  ·have HR:Hd (Bi s (n'-1) (k+1) (k+1)=q):=by show _=_;rw[<- Zd aj hg c1 c2];exact HI.o
   clear hg HI;go_wp2;go_roundw
   case rel=>exact Or.inl ⟨n'-1,k+1,k+1,qb,qb,Nat.le_refl _,qj,by rw[if_neg (Nat.lt_irrefl _)],qj,HR,by first|trivial|rfl⟩
   case measure=>simp[intOf];omega
 ·rw[if_neg c1];have HR:Hd (Bi s n' (k+1) (k+1)=q):=by show _=_;rw[<- Zc aj hg c1];exact HI.o
  clear hg HI;go_wp2;go_roundw
  case rel=>exact Or.inl ⟨n',k+1,k+1,qb,qb,Nat.le_refl _,qj,by rw[if_neg (Nat.lt_irrefl _)],qj,HR,by first|trivial|rfl⟩
  case measure=>simp[intOf];omega):P:=h
theorem qey(h:P:=by
 have fk:Bw w (w.alloc (O #[I 11,S t,I n] 139)):=aN _ _
 have G8:=hM.cell2.2.2.1
 have fg:=hM.bl fk
 obtain⟨c2,f2,zm,kh⟩:=fg.cell2
 have fm:B<=(w.alloc (O #[I 11,S t,I n] 139)).heap.size:=qh
 go_enter func173,ntmps173
 go_wp2_with (first|(go_at_call 172;refine(Cm B m (r) x cd pl st lk _ ?_ ?_ ?_).mono ?_;(focus(exact fg));(focus(exact fm));(focus(first|omega|(simp;omega)));rintro e w1 ⟨rfl,af,ko,cq⟩;have ik:B<=w1.heap.size:=(Nat.le_trans fm af.size);obtain⟨dd1,ee1,_,_⟩:=ko.cell2;have cn:w1.cell? ⟨w.heap.size,2,N⟩=M (I (n:Int)):=(by rw[World.cell?_of_block (cq w.heap.size qb)];simp[go_sem]);clear cq))
 go_ret
 exact⟨rfl,((KB.old fk hB).trans af).setM 2 kh _,ko.place _⟩):P:=h
theorem qht(h:P:=by
 have HL:=Ad hl
 obtain⟨c0,c1,c2,c3,c4,c5,c6,c7,c8,c9⟩:=Mi hrW7
 obtain⟨k1,k2,k3⟩:=A1.o.c
 clear hl d9 ho7 hrW7 hz7 hi7 h e1
 go_wp2_with fail
 refine HL.o.mono ?_
 rintro e w4 ⟨ce,x0,ax,nx,cx,x2,x3,x4,x5,x6,x7,x8,x9,rfl,gy⟩
 have bg:Bw w w4:=If.trans (ce.mono O5)
 have cm:w4.heap[w.heap.size+1+1]?=M zR:=by rw[ce.block _ hz1s];exact A1.o.z
 have HPO:=Ad gy
 have mu:=Ad cm
 have fj:=Ad bg
 obtain⟨z0,z1,z2,z3,z4,z5,z6,z7,z8,z9⟩:=Mi cm
 have fz:=fZ mu.o
 clear cm ce HL gy hsz7 bg If A1
 unfold r10
 go_wp2_with fail
 exact bR (v:=r10 x0 ax nx cx x2 x3 x4 x5 x6 x7 x8 x9) (by simp[results,results146,go_sem,r10,z0,z1,z2,z3,z4,z5,z6,z7,z8,z9]) rfl ⟨Ld fj.o uf,(Ul HPO.o ⟨_,mu.o⟩ _ _ _ _ _ _ _ _ _ _).mono O5⟩):P:=h
theorem qhu(h:P:=by
 have yu:Hd (Ef is s'):=To
 have mi:Hd (Cc B w2 m s'.stack (J a is.length cap) s'.pl s'.steps s'.looks):=ko
 clear hru To ko
 have aw:w2.heap[w.heap.size+1+1]?=M (O #[F false,I 0,ze,F false,ze,I 0] 194 (0,0)):=pd.o
 obtain⟨k0,k1,k2,k3,k4,k5⟩:=Xw aw
 have f0:=fZ aw
 clear aw
 unfold Bc
 go_wp2
 exact bR (v:=Bc false 0 ⟨#[]⟩ ji nm' s'.steps) qef rfl ⟨((((((gg.o).setB 0 t8 ue _).setB 1 t8 ue _).setB 2 t8 ue _).setB 3 t8 ue _).setB 4 t8 ue _).setB 5 t8 ue _,Or.inr ⟨_,HG.o,Or.inr ⟨ji,nm',s',mw.o,rfl,yu.o,(Cc.turn (Cc.turn (Cc.turn (Cc.turn (Cc.turn (Cc.turn ⟨mi.o,_,pd.o⟩ 0 _) 1 _) 2 _) 3 _) 4 _) 5 _).1⟩⟩⟩):P:=h
theorem qhv(h:P:=by
 by_cases c1:st<k
 ·by_cases c2:n'=0
  ·subst c2;have HR:Hd (s.extract st k=q):=by show _=_;rw[<- Ze aj hg c1];exact HI.o
   clear hg HI;go_wp2;go_ret;exact⟨by rw[<- HR.o];rfl,rfl⟩
  ·have HR:Hd (Bi s (n'-1) (k+1) (k+1)=q):=by show _=_;rw[<- Zd aj hg c1 c2];exact HI.o
   clear hg HI;go_wp2;go_roundw
   case rel=>exact⟨n'-1,k+1,k+1,qb,Nat.le_refl _,qb,qj,qj,qj,HR,by first|trivial|rfl⟩
   case measure=>simp[intOf];omega
 ·have HR:Hd (Bi s n' (k+1) (k+1)=q):=by show _=_;rw[<- Zc aj hg c1];exact HI.o
  clear hg HI;go_wp2;go_roundw
  case rel=>exact⟨n',k+1,k+1,qb,Nat.le_refl _,qb,qj,qj,qj,HR,by first|trivial|rfl⟩
  case measure=>simp[intOf];omega):P:=h
theorem qhw(h:P:=by
 rintro e w2 ⟨rfl,ag⟩
 have yx:Hd (KB B m w w2):=gg.o.trans ag
 have aw:w2.heap[w.heap.size]?=M (O #[F false,I 0,ze,F false,ze,I 0] 194 (0,0)):=(ag.keep _ _ 194 qd qb fj.o)
 obtain⟨k0,k1,k2,k3,k4,k5⟩:=Xw aw
 have f0:=fZ aw
 clear aw x0 x1 x2
 unfold Bc
 go_wp2
 exact bR (v:=Bc true 2 (Ep s.pl) false ⟨#[]⟩ ((s.steps:Int)+1)) qgi rfl ⟨((((((yx.o).setN 0 hB _).setN 1 hB _).setN 2 hB _).setN 3 hB _).setN 4 hB _).setN 5 hB _,Or.inl ⟨2,(Ep s.pl),s.steps+1,HR.o _ (.over fc.o),rfl⟩⟩):P:=h
theorem qhx(h:P:=by
 rintro e w2 ⟨rfl,ag⟩
 have yx:Hd (KB B m w w2):=gg.o.trans ag
 have aw:w2.heap[w.heap.size]?=M (O #[F false,I 0,ze,F false,ze,I 0] 194 (0,0)):=(ag.keep _ _ 194 qd qb fj.o)
 obtain⟨k0,k1,k2,k3,k4,k5⟩:=Xw aw
 have f0:=fZ aw
 clear aw x0 x1 x2
 unfold Bc
 go_wp2
 exact bR (v:=Bc true 3 ⟨#[]⟩ false ⟨#[]⟩ ((s.steps:Int)+1)) qbr rfl ⟨((((((yx.o).setN 0 hB _).setN 1 hB _).setN 2 hB _).setN 3 hB _).setN 4 hB _).setN 5 hB _,Or.inl ⟨3,⟨#[]⟩,s.steps+1,HR.o _ (.over fc.o),rfl⟩⟩):P:=h
theorem qhy(h:P:=by
 rintro e w1 ⟨af,g,cp,rfl,ah⟩
 have hg:=(ah.lt g rfl).1
 simp at hg
 have hb:=bt ak af
 have aq:=Ah ah (B':=w.heap.size) qh
 have c1:w1.cell? ⟨w.heap.size+1,0,N⟩=M nS:=Aa af qk
 have f1:w1.frozen? ⟨w.heap.size+1,0,N⟩=false:=by rw[af.frozen (p:=⟨w.heap.size+1,0,N⟩) qg];simp[go_sem]
 clear ak af ah
 go_wp2
 exact bR (v:=G #[J (p_ g) is.length cp]) (by simp[results,results107,go_sem,c1]) rfl ⟨hb.setCell (p:=⟨w.heap.size+1,0,N⟩) qg _,g,cp,rfl,Dd aq qb _⟩):P:=h
theorem qhz(h:P:=by
 have hg6:wc.heap.size≤g6:=(HO6.o.lt g6 rfl).1
 have gi:=bt Y6 Q5
 clear HA6 HO6
 go_wp2
 refine bR (v:=G #[I 0,I (m:Int),J (p_ g6) (ts.length+1) p6,J a2 rn p2,ze,ze]) qeg rfl ⟨Jb (gi.setCell (p:=⟨w.heap.size,1,N⟩) qg _) (Nat.le_succ _) _ _ _ _ _ _,KpS.yes (R:=w.heap.size+1) A2.o HK.o (Ix _ _ _ t6).symm (Ap HX6.o V6.o qd _) (Or.inr (zo Y6.size)) (Dn.set ⟨_,HR6.o⟩ _) _ _ _ _ _ _⟩):P:=h
theorem qia(h:P:=by
 go_wp2_with fail
 have hl:=Fc (s.pl:Int) sa s.stack.length cp ((s.steps:Int)+1) s.looks 2 q
 unfold Dw at hl
 refine(hl _).mono ?_
 rintro e w4 ⟨rfl,ce⟩
 have ie:=Ad (cu.o.bl ce)
 obtain⟨z0,z1,z2,z3,z4,z5,z6,z7,z8,z9⟩:=Mi ie.o.z
 have fz:=fZ ie.o.z
 clear hl ce
 unfold Ec
 go_wp2_with fail
 exact bR (v:=Ec (s.pl:Int) (J sa s.stack.length cp) ((s.steps:Int)+1) s.looks 2 q) qbq rfl ⟨Ld ie.o.b uf,Or.inl ⟨2,q,s.steps+1,fc.o,_,_,_,_,_,rfl⟩⟩):P:=h
theorem qib(h:P:=by
 clear hru
 have aw:w2.heap[w.heap.size+1+1]?=M (O #[F false,I 0,ze,F false,ze,I 0] 194 (0,0)):=pd.o
 obtain⟨k0,k1,k2,k3,k4,k5⟩:=Xw aw
 have f0:=fZ aw
 clear aw
 unfold Bc
 go_wp2
 exact bR (v:=Bc true c t false ⟨#[]⟩ n) qef rfl ⟨((((((gg.o).setB 0 t8 ue _).setB 1 t8 ue _).setB 2 t8 ue _).setB 3 t8 ue _).setB 4 t8 ue _).setB 5 t8 ue _,Or.inr ⟨_,HG.o,Or.inl ⟨c,t,n,mw.o,rfl⟩⟩⟩):P:=h
theorem qic(h:P:=by
 have D9:(m:Int)<(ss.length:Int):=qb
 cases v
 ·go_wp2_with fail;refine(HN.o _).mono ?_;rintro e w2 ⟨ag,rfl⟩;go_wp2_with fail;go_roundw
  case rel=>exact⟨lo,m,rfl,rfl,we,qb,HL.o,Tv jw.o HV.o,bt bc ag⟩
  case measure=>simp[intOf];omega
 ·go_wp2_with fail;refine(HN.o _).mono ?_;rintro e w2 ⟨ag,rfl⟩;go_wp2_with fail;go_roundw
  case rel=>exact⟨m+1,hi,qj,rfl,qb,qb,Zo jw.o (zo G0.o) HV.o,HH.o,bt bc ag⟩
  case measure=>simp[intOf];omega):P:=h
theorem qid(h:P:=by
 rw[eV]at be cr hS
 rw[el]at be eV
 simp only[Be,List.foldl]at eV
 simp only[List.foldl,List.setIfInBounds_toArray,List.set_cons_zero,List.set_cons_succ]at be
 have HV:=Ad be
 have jz:=Ad cr
 have ew:=Ad hS
 clear be cr el bi hS
 refine Lt.sp (i:=9) (λK hK=>?_)
 go_simp
 try rw[eV]
 refine hK.out _ _ (λh=>absurd rfl h) (λ_=>?_)
 clear hK K
 refine Lt.done qi ?_ _
 go_wp2_with fail
 go_meet
 exact⟨Q,d,_,_,_,_,_,zs,kv,lv,rfl,HV.o,uj.o,ew.o,pq.o,jz.o,po⟩):P:=h
theorem qez(h:P:=by
 go_enter func175,ntmps175
 go_wp2_with (first|(at_builtin;refine wpList_append_lies _ rfl (.tmp 23) (.tmp 24) 22 rfl B 9 i0 ze 1 16 underlying22 hi bo bm cm rfl qd _ _ _ rfl HO.o ⟨vb,0,N⟩ 1 1 [y] rfl rfl HN.o h1v qb qm qb hB _ rfl ?_;intro g' cp w2 k1 ae ct hlt';obtain⟨k2,k3⟩:=HB.o g' cp w2 k1 ae;have HLIE:Hd _:=ct;clear ae hlt' ct))
 go_ret
 exact⟨g',cp,rfl,k1,k2,k3,HLIE.o⟩):P:=h
theorem qie(h:P:=by
 obtain⟨z0,z1,z2,zf⟩:=Dx pa.o
 go_wp2_with fail
 obtain⟨y0,y1,y2,_⟩:=Dx (Bp pa.o (I 0) ze nS)
 exact bR (v:=Y #[G #[I 0,ze,nS],I (-1)]) (by simp[results,results98,go_sem,y0,y1,y2]) rfl ⟨_,_,_,ll.o,Or.inr ⟨bb,nb,rfl,rfl,(No.o.trans fy.o).set3 qb qb _ _ _,vt.o.set3 ⟨_,pa.o⟩ qd qd _ _ _⟩⟩):P:=h
theorem qif(h:P:=by
 obtain⟨z0,z1,z2,zf⟩:=Dx it.o
 go_wp2_with fail
 obtain⟨y0,y1,y2,_⟩:=Dx (Bp it.o (I 0) ze nS)
 exact bR (v:=Y #[G #[I 0,ze,nS],I (-1)]) (by simp[results,results122,go_sem,y0,y1,y2]) rfl (Or.inr ⟨_,_,_,.bad I0.o,rfl,(No.o.trans fy.o).set3 qb qb _ _ _,vt.o.set3 ⟨_,it.o⟩ qd qd _ _ _⟩)):P:=h
theorem qdg(h:P:=by
 show _=_
 rw[←eW]
 have:=Hj ((w.alloc (O #[I n,J (M ⟨tb,tf,N⟩) T.length tc,J qa R.length qc] 35)).alloc (O #[J sa ss.length c1,J ta ts.length c2] 43)) (O Qo 37)
 rwa [show((w.alloc (O #[I n,J (M ⟨tb,tf,N⟩) T.length tc,J qa R.length qc] 35)).alloc (O #[J sa ss.length c1,J ta ts.length c2] 43)).heap.size=w.heap.size+2 from qg]at this):P:=h
theorem qig(h:P:=by
 obtain⟨k0,k1,k2,k3,k4,k5⟩:=Xw aw
 have f0:=fZ aw
 clear aw x0 x1 x2
 unfold Bc
 go_wp2
 exact bR (v:=Bc true 2 (Ep s.pl) false ⟨#[]⟩ ((s.steps:Int)+1)) qgi rfl ⟨((((((yx.o).setN 0 hB _).setN 1 hB _).setN 2 hB _).setN 3 hB _).setN 4 hB _).setN 5 hB _,Or.inl ⟨2,(Ep s.pl),s.steps+1,HR.o _ (.over fc.o),rfl⟩⟩):P:=h
theorem qih(h:P:=by
 have h:=World.ownsRow_lit (base:=w.heap.size+1+1) (e:=139) (size:=3) ((w.alloc (O #[J (M ⟨b,off,N⟩) is.length cap] 92)).alloc (O #[nS] 92)) #[] 0 qg qm qg
 rw[show((w.alloc (O #[J (M ⟨b,off,N⟩) is.length cap] 92)).alloc (O #[nS] 92)).heap.size=w.heap.size+1+1 from qg]at h
 exact h):P:=h
theorem qii(h:P:=by
 intro i hi
 rcases Nat.lt_or_ge i k with hl|hl
 ·obtain⟨h1,h2,h3⟩:=h i hl
  simp only[List.getElem?_set];rw[if_neg qb,if_neg qb,if_neg qb,if_neg qb,if_neg qb,if_neg qb,if_neg qb,if_neg qb,if_neg qb];exact⟨h1,h2,h3⟩
 ·obtain rfl:i=k:=qb
  refine⟨?_,?_,?_⟩<;>simp[List.getElem?_set]<;>omega):P:=h
theorem qij(h:P:=by
 by_cases he:nm=s
 ·have pj:=Fd he;have HE:Hd (nm=s):=he;clear he;go_wp2;go_ret;exact⟨ak,Or.inl ⟨k,rfl,aj,by rw[EN.o];exact HE.o⟩⟩
 ·have pj:=Hh he;have HE:Hd (nm≠s):=he;clear he;go_wp2;go_roundw
  case rel=>exact⟨k+1,qb,qj,Cw HA.o (by rw[EN.o];exact HE.o),trivial⟩
  case measure=>simp[intOf];omega):P:=h
theorem qik(h:P:=by
 rw[af.block _ qg]
 have h:=Nx ((w.alloc (O #[J a is.length ac] 92)).alloc (O #[I c,S t,J ca nc cc] 121)) (O #[nS,nS,ze] 95)
 rw[show((w.alloc (O #[J a is.length ac] 92)).alloc (O #[I c,S t,J ca nc cc] 121)).heap.size=w.heap.size+1+1 from qg]at h
 exact h):P:=h
theorem qil(h:P:=by
 rintro e w1 ⟨af,r,rfl,hr⟩
 rcases hr with hr|hr
 ·go_wp2
  go_ret;exact⟨bc.trans (af.mono bc.size),-1,rfl,Or.inl qb⟩
 ·have B3:0≤r:=qb
  go_wp2;go_roundw
  case rel=>exact⟨k+1,_,qb,qj,rfl,qb,qb,bc.trans (af.mono bc.size),Cw HK.o (by rw[EI.o];omega)⟩
  case measure=>simp[intOf];omega):P:=h
theorem qim(h:P:=by
 have HD:=Ad (show Ba ss ts C.n m1 s1 st (.run is [] []) m2 s2 (.bad b)/\Df W0.heap.size C w5 b v/\KQ W0.heap.size h mb C av kv r r2 w w5 from ⟨hd5,hf5,nz.o.1.trans nz.o.2.1 nz.o.2.2 bh.o jq⟩)
 clear jq hd5 hf5 hK
 unfold Lh
 dsimp only
 clear K
 go_wp2_with fail
 exact⟨rfl,Or.inr ⟨b,v,r2,m2,s2,rfl,HD.o.2.2,.rfell HB.o HD.o.1,HD.o.2.1⟩⟩):P:=h
theorem qfa(h:P:=by
 rw[show(decide ((t.size:Int)<=0)&&decide (0<=n)&&decide (n<=2000))=false from qed]
 clear hz
 go_enter func68,ntmps68
 go_wp2_with (first|(go_at_call 93;refine((Hw.o) _).mono ?_;rintro e w' ⟨rfl,rfl⟩))
 go_ret
 exact⟨aN _ _,rfl⟩):P:=h
theorem qin(h:P:=by
 intro i hi
 rcases Nat.lt_or_ge i k with hl|hl
 ·obtain⟨h1,h2,h3⟩:=h i hl
  simp only[List.getElem?_set];rw[if_neg qb,if_neg qb,if_neg qb,if_neg qb,if_neg qb,if_neg qb,if_neg qb,if_neg qb,if_neg qb];exact⟨h1,h2,h3⟩
 ·obtain rfl:i=k:=qb
  simp[List.getElem?_set];omega):P:=h
theorem qfb(h:P:=by
 rw[show(decide ((t.size:Int)<=0)&&decide (0<=n)&&decide (n<=200))=false from qed]
 clear hz
 go_enter func68,ntmps68
 go_wp2_with (first|(go_at_call 93;refine((Hw.o) _).mono ?_;rintro e w' ⟨rfl,rfl⟩))
 go_ret
 exact⟨aN _ _,rfl⟩):P:=h
theorem qdh(h:P:=by
 show _=_
 rw[←eW]
 have:=Hj (w.alloc (O #[I n,J (M ⟨tb,tf,N⟩) T.length tc,J qa R.length qc] 35)) (O #[J sa ss.length c1,J ta ts.length c2] 43)
 rw[show(w.alloc (O #[I n,J (M ⟨tb,tf,N⟩) T.length tc,J qa R.length qc] 35)).heap.size=w.heap.size+1 from qg]at this
 exact Sl this):P:=h
theorem qio(h:P:=by
 rw[show(decide ((t.size:Int)<=0)&&decide (0<=n)&&decide (n<=0))=false from qed]
 clear hz
 go_enter func68,ntmps68
 go_wp2_with (first|(go_at_call 93;refine((Hw.o) _).mono ?_;rintro e w' ⟨rfl,rfl⟩))
 go_ret
 exact⟨aN _ _,rfl⟩):P:=h
theorem qip(h:P:=by
 rw[show(decide ((t.size:Int)<=2000)&&decide (0<=n)&&decide (n<=0))=false from qed]
 go_enter func68,ntmps68
 go_wp2_with (first|(go_at_call 93;refine((Hw.o) _).mono ?_;rintro e w' ⟨rfl,rfl⟩))
 go_ret
 exact⟨aN _ _,rfl⟩):P:=h
theorem qiq(h:P:=by
 have hw:Region.wanted o (yielded ops a.tmps)=true:=qbh
 rw[if_pos hw]
 refine wp_append_own w s x t ho base e i z size bytes ht hi hz hsize hby hzs cz _ dl xs hs ah ad m c news hx hl l8 h1 h63 hbytes hbase λv' w' h2 h3 h4=>?_
 obtain⟨g,cap,rfl⟩:=Nb h2 (λe=>by have:=(h4.1 e).1;cases this)
 exact h g cap w' h2 h3):P:=h
theorem qir(h:P:=by
 have:=Hj (w.alloc (O #[I n,J (p_ tb) T.length tc,J qa R.length qc] 35)) (O #[J sa ss.length c1,J ta ts.length c2] 43)
 rw[show(w.alloc (O #[I n,J (p_ tb) T.length tc,J qa R.length qc] 35)).heap.size=w.heap.size+1 from qg]at this
 exact Sl this):P:=h
theorem qis(h:P:=by
 go_simp
 refine hK.out _ _ (λh=>absurd rfl h) (λ_=>?_)
 clear hK K F3
 refine Lt.done qi ?_ _
 go_wp2
 go_roundw
 case rel=>exact⟨k+1,_,qb,qj,HNP.o,Cw HA.o (by rw[ES.o];exact im),hbP7.setCell (p:=⟨P,1,N⟩) (Nat.le_refl _) _,by simpa using hs7⟩
 case measure=>simp[intOf];omega):P:=h
theorem qfc(h:P:=by
 have fs:Bw w w2:=(aN _ _).grown ae qg (λk hk=>(dm.lt k hk).1)
 rw[Nat.zero_add,List.nil_append]at ba
 obtain⟨g,cp,rfl⟩:=Nb ba (λe=>by have:=(dp.1 e).1;cases this)
 clear ae dm hn dp
 go_wp2
 go_ret
 exact⟨fs,g,cp,rfl,ba⟩):P:=h
theorem qit(h:P:=by
 intro i hi
 have hi':i<len:=by simpa using hi
 obtain⟨h1,h2,h3,_⟩:=hf i hi'
 rw[E3 i hi']
 obtain⟨b,off,spot⟩:=a
 have pe:spot=N:=by
  have:=World.cell?_spot (hf 0 qb).1;simpa [Addr.add] using this
 subst pe
 simp only[Addr.add_lit]at h1 h2 h3
 exact⟨b,off,rfl,h1,h2,h3⟩):P:=h
theorem qiu(h:P:=by
 go_enter func131,ntmps131
 go_wp2_with fail
 go_quiet (first|(go_at_call 152;exact Calls.quiet_of_same (Pz _ _))|(go_at_call 153;exact Calls.quiet_of_same (Nc _ _)))
 go_wp2
 go_ret
 exact⟨below_drewN (aN _ _) _,by simp[e1,e2];try rfl⟩):P:=h
theorem qiv(h:P:=by
 obtain⟨g',oc,hv'⟩:∃g cap,v'=J (p_ g) (k+1) cap:=by
  rcases ba.2 with⟨_,h0⟩|⟨g,cap,cur,hv,_⟩
  ·omega
  ·exact⟨g,cap,hv⟩
 rw[HS.o,hv']at ba
 exact⟨⟨k+1,_,_,qb,qj,hv',ba,fs⟩,qak⟩):P:=h
theorem qiw(h:P:=by
 have s1:=HS.o.bl hV
 have hb:=wt.o.trans (hV.mono bp)
 exact has_any h sa ta c1 c2 ss ts nm V (by rw[cH s1.blk];rfl) (by rw[cH s1.blk];rfl) (HE.o.rs.bl hb) (HE.o.rt.bl hb) (zo HE.o.l1) (zo HE.o.l2)):P:=h
theorem qix(h:P:=by
 have h:=Bg (w.alloc (O #[J a is.length cap] 92)) (O #[F false,I 0,ze,F false,ze,I 0] 194)
 rw[show(w.alloc (O #[J a is.length cap] 92)).heap.size=w.heap.size+1 from qg]at h
 exact h):P:=h
theorem qfd(h:P:=by rcases(show o=0\/o=1\/o=2\/o=3\/o=4\/o=5\/o=6\/o=7\/o=8\/o=9\/o=10\/o=11\/o=12\/o=13\/o=14\/o=15 from qb)with rfl|rfl|rfl|rfl|rfl|rfl|rfl|rfl|rfl|rfl|rfl|rfl|rfl|rfl|rfl|rfl<;>rfl):P:=h
theorem qiy(h:P:=by
 have hlI:¬ (lo:Int)<(ss.length:Int):=qb
 have HE:Hd (¬ Eg l t):=λh=>ym (by have:=(Nf jw.o HL.o HH.o h).1;have:=G0.o;omega)
 clear ym
 go_wp2_with fail
 go_ret2
 exact⟨bc,lo,Or.inl ⟨rfl,hle,HL.o,HH.o,Ed HE.o⟩⟩):P:=h
theorem qiz(h:P:=by
 clear ah aq ag am
 go_wp2
 go_roundw
 case rel=>exact⟨k+1,_,qb,qj,(((HO.o.stored _ _).1.stored _ _).1.stored _ _).1,ut,((lz.setCell (Nat.le_refl _) _).setCell (Nat.le_refl _) _).setCell (Nat.le_refl _) _⟩
 case measure=>simp[intOf];omega):P:=h
theorem qja(h:P:=by
 go_simp
 refine hK.out _ _ (λh=>absurd rfl h) (λ_=>?_)
 clear hK K F3
 refine Lt.done qi ?_ _
 go_wp2
 go_roundw
 case rel=>exact⟨k+1,_,qb,qj,HNP.o,hbP7.setCell (p:=⟨P,2,N⟩) po _⟩
 case measure=>simp[intOf];omega):P:=h
theorem qap(h:P:=by
 have HS:Hd (Co (s.data.toList.take (k+1))=hstep (Co (s.data.toList.take k)) s[k].toNat):=by rw[take_snocV s k aj];exact hash_snoc _ _
 go_wp2
 go_round
 case rel=>exact⟨k+1,qb,qj,by rw[HS.o];rfl⟩
 case measure=>simp[intOf];omega):P:=h
theorem qfe(h:P:=by
 simp only[Value.agg.injEq,Array.mk.injEq,List.cons.injEq,Value.int.injEq,Value.string.injEq,Value.slice.injEq,true_and,and_true]at h3
 obtain⟨rfl,rfl,rfl,rfl,rfl⟩:=h3
 exact⟨qd,λV tx qv hk hs=>key _ V tx qv (Fq _ _) noB hs⟩):P:=h
theorem qjb(h:P:=by
 show _=_
 rw[←eW,←eQ]
 have:=Hj (w.alloc (O #[J a is.length ac] 92)) (O #[I 0,ze,nS] 121)
 rwa [show(w.alloc (O #[J a is.length ac] 92)).heap.size=w.heap.size+1 from qg]at this):P:=h
theorem qjc(h:P:=by
 clear he HI
 go_wp2
 go_roundw
 case rel=>exact Or.inr ⟨by first|trivial|rfl,by subst ek;go_num,HR,by first|trivial|rfl,by first|exact⟨_,rfl⟩|trivial,by first|exact⟨_,rfl⟩|trivial⟩
 case measure=>simp[intOf];omega):P:=h
theorem qjd(h:P:=by
 subst hn
 intro i hi
 obtain⟨h1,h2,h3⟩:=hf i hi
 refine⟨g,0,rfl,?_,?_,?_⟩
 ·rw[Nat.zero_add,h.cellAt _ qb];exact h1
 ·rw[Nat.zero_add,h.cellAt _ qb];exact h2
 ·rw[Nat.zero_add,h.cellAt _ qb];exact h3):P:=h
theorem qje(h:P:=by
 have ek:k=n:=qb
 subst ek
 have HEQ:=Ad (show is=js from ix_ext (C8.o.trans HLB.o.symm) (λj hj=>HN.o j (zo C8.o)))
 clear HN
 go_wp2
 go_ret
 exact⟨hB,true,rfl,by simp only[true_iff];exact HEQ.o⟩):P:=h
theorem qbe(h:P:=by
 go_wp2
 go_loopw [1,5] (λk i wr=>i=I 0∧k=I (K:Int)∧w=wr) (λ_ i _=>0)
 case atStart=>exact⟨rfl,rfl,rfl⟩
 case round=>
  obtain⟨rfl,rfl,rfl⟩:=hrel;go_wp2;go_ret;exact⟨rfl,rfl⟩):P:=h
theorem qjf(h:P:=by
 have HD:Hd (Kp w _ _ wr.drew):=HK.o.bl (Below.refl _ _).drew
 go_wp2
 go_region
 all_goals
  go_wp2;go_roundw
  case rel=>exact⟨m+1,qb,qj,Nl HA.o HV.o,HD.o⟩
  case measure=>simp[intOf];omega):P:=h
theorem qff(h:P:=by
 go_wp2
 go_loopw [1,5] (λk i wr=>i=I 0/\k=I (K:Int)/\w=wr) (λ_ i _=>0)
 case atStart=>exact⟨rfl,rfl,rfl⟩
 case round=>
  obtain⟨rfl,rfl,rfl⟩:=hrel;go_wp2;go_ret;exact⟨rfl,rfl⟩):P:=h
theorem qjg(h:P:=by exact bR (v:=G #[J (p_ g) is.length cp]) (by simp[results,results69,go_sem,c1]) rfl ⟨hB.setCell (p:=⟨w.heap.size+1,0,N⟩) qg _,g,cp,rfl,Dd M6.o qb _⟩):P:=h
theorem qjh(h:P:=by rwa [show((w.alloc (O #[I n,J (p_ tb) T.length tc,J qa R.length qc] 35)).alloc (O #[J sa ss.length c1,J ta ts.length c2] 43)).heap.size=w.heap.size+2 from qg]at this):P:=h
theorem qji(h:P:=by
 have hne:∀b,(Value.slice (p_ g) is.length cp).ownBlock=M b→b≠w.heap.size+1+1:=λb hb=>by cases hb;show g≠_;omega
 exact Jv (Jv (Jv ky.o hne _) hne _) hne _):P:=h
theorem qjj(h:P:=by
 rw[if_pos qb,if_neg qb,if_pos qb,if_neg qb,if_neg qb,show i*3 / 3=i from qb,show(i*3+1) / 3=i from qb,show(i*3+2) / 3=i from qb]
 exact⟨rfl,rfl,rfl⟩):P:=h
theorem qjk(h:P:=by
 go_wp2_with fail
 go_roundw
 case rel=>exact⟨k+1,q,qb,qj,rfl,Or.inr (by rw[Nat.add_sub_cancel];exact HQ.o.symm),fa.o,HA1.o,z0,z1,z2,bg⟩
 case measure=>simp[intOf];omega):P:=h
theorem qjl(h:P:=by
 unfold Qp
 rw[e,List.length_append,List.length_singleton]
 exact((Gy (Gy (Gy (Gy (Gy (Gy (Gy (Gy (Gy (Gy ⟨h1.1,h2⟩ 0 _) 1 _) 2 _) 3 _) 4 _) 5 _) 6 _) 7 _) 8 _) 9 _)).1):P:=h
theorem qjm(h:P:=by
 clear hz
 go_enter func68,ntmps68
 go_wp2_with (first|(go_at_call 93;refine((Hw.o) _).mono ?_;rintro e w' ⟨rfl,rfl⟩))
 go_ret
 exact⟨aN _ _,rfl⟩):P:=h
theorem qjn(h:P:=by
 clear hn
 go_enter func68,ntmps68
 go_wp2_with (first|(go_at_call 93;refine((Hw.o) _).mono ?_;rintro e w' ⟨rfl,rfl⟩))
 go_ret
 exact⟨aN _ _,rfl⟩):P:=h
theorem qfg(h:P:=by rcases(show o=1\/o=2\/o=3\/o=4\/o=5\/o=6\/o=7\/o=8\/o=9\/o=10\/o=11 from qb)with rfl|rfl|rfl|rfl|rfl|rfl|rfl|rfl|rfl|rfl|rfl<;>rfl):P:=h
theorem qjo(h:P:=by
 go_enter func67,ntmps67
 go_wp2_with (first|(go_at_call 47;refine(Cd g.name _ hn).mono ?_;rintro e w9 ⟨rfl,rfl⟩;rw[e1]))
 go_ret
 exact⟨ak,false,rfl,Ed HH.o⟩):P:=h
theorem qjp(h:P:=by
 refine⟨R5.o.1,?_⟩
 rcases R5.o.2 with⟨h2,_⟩|⟨g',cap,cur,hv,hg,hh,r⟩
 ·cases h2
 ·cases hv
  exact Or.inr ⟨g,cp,cur,rfl,hg,by rw[bc.block g hgP];exact hh,r⟩):P:=h
theorem qjq(h:P:=by
 by_cases hn:Ar (Bu s.stack)
 ·by_cases hk:s.looks=200
  ·rw[Ie hf ho hn hk]at h;cases h
  ·rw[Kc hf ho hn hk]at h;cases h
 ·rw[Lw hf ho hn]at h;cases h):P:=h
theorem qdi(h:P:=by
 rintro w ⟨r1,r2⟩
 obtain⟨y0,y1,y2,y3,y4,y5,y6,y7,y8,y9⟩:=Fe r1
 obtain⟨z0,z1,z2,z3,z4,z5,z6,z7,z8,z9⟩:=Fe r2
 go_simp
 first|done|with_reducible rfl):P:=h
theorem qjr(h:P:=by
 generalize nx ts k=x at *
 have d3:decide ((2002:Int)<(x.size:Int))=true:=qh
 unfold maxLen at gh
 go_wp2_with fail
 go_ret
 exact⟨bc,false,rfl,Ed HN.o⟩):P:=h
theorem qjs(h:P:=by
 obtain rfl:j=k:=qb
 simp only[if_neg (show ¬ i=j from qb),if_true]
 intro b e1 e2
 obtain⟨zs,k1,_⟩:=h.code i t7
 have:=(k1.lt b e1).2
 have:=(ho.lt b e2).1
 omega):P:=h
theorem qjt(h:P:=by
 go_wp2_with (first|(go_at_call 83;refine(Dm g.name _ T5).mono ?_;rintro e w9 ⟨rfl,rfl⟩;rw[e1]))
 go_ret
 exact⟨bc.alloc bc.size _,false,rfl,Ed HO.o⟩):P:=h
theorem qfh(h:P:=by exact((hB.setCell (p:=⟨w.heap.size+1,0,N⟩) qg _).setCell (p:=⟨w.heap.size+1,1,N⟩) qg _).setCell (p:=⟨w.heap.size+1,2,N⟩) qg _):P:=h
theorem qju(h:P:=by
 go_enter func24,ntmps24
 go_wp2_with (first|(go_at_call 44;refine(Kr _ _ qb qb).mono ?_;rintro e w9 ⟨rfl,rfl⟩))
 go_ret
 exact⟨ak,rfl⟩):P:=h
theorem qjv(h:P:=by
 have d3:decide ((200:Int)<(gs.length:Int))=true:=qh
 go_wp2
 go_ret
 exact⟨bj,false,rfl,Ed (λk=>by have:=k.2.2.1;simp only at this;omega)⟩):P:=h
theorem qjw(h:P:=by
 intro i hi
 obtain⟨h1,h2,h3⟩:=hm i hi
 exact⟨by rw[h.cellAt _ qb];exact h1,by rw[h.cellAt _ qb];exact h2,by rw[h.cellAt _ qb];exact h3⟩):P:=h
theorem qjx(h:P:=by
 have:=Yk (ts:=ts) (ms:=ms) (st:=st) Z3.o.1 (by rw[Z3.o.2.1];exact HF.o.2.2.2.1) (by rw[Z3.o.2.1];exact HF.o.2.1)
 rw[Z3.o.2.1]at this;exact this):P:=h
theorem qjy(h:P:=by
 rw[ij.o b (λq2=>?_),vp.o b cur q]
 have q3:=ui.o
 rw[←q2,vp.o b cur q,q]at q3
 injection q3 with q3;injection q3 with _ q3;exact absurd q3 qd):P:=h
theorem qjz(h:P:=by
 rw[hne b (λe=>by
  subst e;rw[hg]at hb;injection hb with hb;injection hb with _ hb
  rcases hT with e|e<;>rw[e]at hb<;>exact absurd hb qd)]
 exact hb):P:=h
theorem qdj(h:P:=by
 have hb:=World.block_lt_of_cell? _ _ h
 rw[World.cell?_alloc_lt _ _ _ qh,World.cell?_alloc_lt _ _ _ qh,World.cell?_alloc_lt _ _ _ hb];exact h):P:=h
theorem qka(h:P:=by
 rintro e w1 ⟨af,r,rfl,hr⟩
 have bj:=bt ak af
 clear ak af
 go_wp2
 all_goals go_ret
 ·exact⟨bj,-1,rfl,qb⟩
 ·exact⟨bj,r,rfl,qb⟩):P:=h
theorem qkb(h:P:=by
 go_wp2_with fail
 refine(HN.o _).mono ?_
 rintro e w2 ⟨ag,rfl⟩
 go_wp2_with fail
 go_ret2
 exact⟨bt bc ag,lo,true,rfl,hle,HL.o,HH.o,Gp HE.o⟩):P:=h
theorem qkc(h:P:=by
 go_wp2_with fail
 refine(HN.o _).mono ?_
 rintro e w2 ⟨ag,rfl⟩
 go_wp2_with fail
 go_ret2
 exact⟨bt bc ag,lo,false,rfl,hle,HL.o,HH.o,Ed HE.o⟩):P:=h
theorem qfi(h:P:=by
 rintro w ⟨s1,s2,s3,s4⟩
 obtain⟨x0,x1,x2⟩:=Bb s4
 have y0:=cK s1 0
 obtain⟨n0,-,n2,-⟩:=Kh s2
 go_simp
 first|done|with_reducible rfl):P:=h
theorem qkd(h:P:=by
 go_wp2
 go_roundw
 case rel=>exact⟨m+1,qb,qj,congrArg (Value.int .i64) (zo HE.o),bg⟩
 case measure=>simp[intOf];omega):P:=h
theorem qke(h:P:=by
 go_wp2
 go_roundw
 case rel=>exact⟨k+1,_,qb,qj,rfl,qb,qb,bc.trans (af.mono bc.size)⟩
 case measure=>simp[intOf];omega):P:=h
theorem qkf(h:P:=by
 have ek:k=is.length:=qb
 subst ek
 rw[List.take_of_length_le qb]at ah
 go_wp2
 go_ret
 exact⟨am,ao,cp,rfl,Pp qb ah⟩):P:=h
theorem qkg(h:P:=by
 go_wp2_with fail
 refine(Tryz.strings_Compare _ t _).mono ?_
 rintro e w2 ⟨rfl,rfl⟩
 go_wp2
 go_ret
 exact⟨aN _ _,rfl⟩):P:=h
theorem qkh(h:P:=by
 have hs:=World.cells?_some hc
 exact⟨t,by simpa using hs.2.2 0 qb,by simpa using hs.2.2 1 qb,by simpa using hs.2.2 2 qb,S9⟩):P:=h
theorem qki(h:P:=by
 have h:=Cx (K+3*m+2) W qb F4
 rw[show((K+3*m+2:X):Int)=((K+3*m:X):Int)+1+1 from qb]at h
 exact h):P:=h
theorem qkj(h:P:=by rw[hne _ (λe=>by have q2:=q.rs.sh;rw[e,hg]at q2;injection q2 with q2;injection q2 with _ q2;exact absurd q2 qd)];exact q.rs.sh):P:=h
theorem qkk(h:P:=by rw[hne _ (λe=>by have q2:=q.rs.bd;rw[e,hg]at q2;injection q2 with q2;injection q2 with _ q2;exact absurd q2 qd)];exact q.rs.bd):P:=h
theorem qkl(h:P:=by
 go_upto_region 16 with fail
 go_wp2_with fail
 exact⟨⟨i+1,ms1,s1,av1,kv1,vs1,r1,qb,qj,px.o⟩,qak⟩):P:=h
theorem qkm(h:P:=by
 rintro w ⟨s1,s2⟩
 obtain⟨q0,q1,q2,q3,q4,q5⟩:=Ho s1
 obtain⟨r0,r1,r2⟩:=Bb s2
 go_simp
 first|done|with_reducible rfl):P:=h
theorem qbj(h:P:=by
 rintro w ⟨s1,s2,s3,s4⟩
 obtain⟨x0,x1,x2⟩:=Bb s4
 obtain⟨n0,-,n2,-⟩:=Kh s2
 go_simp
 first|done|with_reducible rfl):P:=h
theorem qkn(h:P:=by
 refine⟨h.1,?_⟩
 rcases h.2 with h|⟨g,cap,cur,hv,hg,r⟩
 ·exact Or.inl h
 ·exact Or.inr ⟨g,cap,cur,hv,Nat.le_trans hB hg,r⟩):P:=h
theorem qbk(h:P:=by
 rintro w ⟨s1,s2,s3,s4⟩
 obtain⟨l0,l1,l2,-⟩:=Dx s1
 obtain⟨x0,x1,x2,-⟩:=Dx s2
 go_simp
 first|done|with_reducible rfl):P:=h
theorem qko(h:P:=by
 rintro e w' ⟨he,hb,hk,ys,ho,hm⟩
 exact⟨he,hb,λb hl hne=>hk b hl (λe=>hne (by subst e;rfl)),ys,⟨ho,hr.top⟩,hm⟩):P:=h
theorem qfj(h:P:=by
 simp only[Oh,List.cons.injEq,and_true,true_and]at h
 obtain⟨rfl,rfl,rfl,rfl,rfl⟩:=h
 exact⟨rfl,rfl,Fq _ _,rfl,rfl⟩):P:=h
theorem qkp(h:P:=by
 rw[eT.out]at hk
 rw[el]at b1
 have hlI:(l:Int)+1<=50:=qb
 clear el
 go_wp2_with fail
 go_meet
 case rel=>exact⟨rfl,rfl⟩):P:=h
theorem qkq(h:P:=by
 rintro w ⟨r1,r2⟩
 obtain⟨p0,p1,p2,-⟩:=Dx r1
 obtain⟨q0,q1,q2,-⟩:=Dx r2
 go_simp
 first|done|with_reducible rfl):P:=h
theorem qkr(h:P:=by
 have d2:((out.size:Int) != (n:Int))=true:=qh
 go_wp2
 go_ret
 exact⟨bj,false,rfl,Ed (λk=>h2 k.2.1)⟩):P:=h
theorem qks(h:P:=by
 refine⟨h.1,?_⟩
 rcases h.2 with k|⟨g,cap,cur,e,hg,r⟩
 ·exact Or.inl k
 ·exact Or.inr ⟨g,cap,cur,e,qb,r⟩):P:=h
theorem qkt(h:P:=by
 cases hv
 refine Or.inr ⟨g,cap,cur,rfl,hg,?_,r⟩
 rw[Dj w ⟨b,j,N⟩ v g (λe=>hb e.symm)];exact hh):P:=h
theorem qku(h:P:=by
 rcases h:out.toList with _|⟨x,l⟩
 ·exfalso
  apply ho;rw[ByteArray.toList_eq]at h;exact WideShapes.bytes_inj h
 ·rfl):P:=h
theorem qfk(h:P:=by
 intro i hi
 obtain⟨b,off,ha,h1,h2,h3⟩:=h i hi
 exact⟨b,off,ha,Aa hb h1,Aa hb h2,Aa hb h3⟩):P:=h
theorem qkv(h:P:=by
 rintro w ⟨s1,s2⟩
 obtain⟨x0,x1,x2⟩:=Bb s1
 obtain⟨y0,y1⟩:=Ft s2
 go_simp
 first|done|with_reducible rfl):P:=h
theorem qbl(h:P:=by
 rintro w ⟨r1,r2⟩
 obtain⟨p0,p1,p2,-⟩:=Dx r1
 obtain⟨s0,s1⟩:=Ft r2
 go_simp
 first|done|with_reducible rfl):P:=h
theorem qkw(h:P:=by
 go_wp2_with fail
 go_roundw
 case rel=>exact⟨k+1,qb,qj,qae,px⟩
 case measure=>simp[intOf];omega):P:=h
theorem qkx(h:P:=by
 clear tz Le zn
 unfold Lh
 go_wp2_with fail
 exact⟨rfl,Or.inr ⟨v,bb,_,r2,rfl,.bad I0.o,vr.o.2,vr.o.1⟩⟩):P:=h
theorem qky(h:P:=by
 rintro e w' ⟨he,hb,hk,ys,ho,hm⟩
 exact⟨he,hb,λb hl hne=>hk b hl (λe=>hne (by subst e;rfl)),ys,ho,hm⟩):P:=h
theorem qcg(h:P:=by
 intro i h
 have:f i=Classical.choose (G9 i h):=by simp only[f,dif_pos h]
 rw[this];exact Classical.choose_spec (G9 i h)):P:=h
theorem qkz(h:P:=by
 rintro w ⟨r1,r2⟩
 obtain⟨p0,p1⟩:=Ft r1
 obtain⟨q0,q1⟩:=Ft r2
 go_simp
 first|done|with_reducible rfl):P:=h
theorem qla(h:P:=by
 go_wp2_with (go_at_call 47;refine(HN.o _).mono ?_;rintro e w' ⟨rfl,rfl⟩)
 go_ret
 exact⟨am,qad⟩):P:=h
theorem qlb(h:P:=by
 go_wp2
 go_region
 all_goals
  go_wp2;go_ret;exact⟨by repeat (first|exact am|apply Below.drew),qad⟩):P:=h
theorem qlc(h:P:=by
 have:=Yk (ts:=ts) (ms:=ms) (st:=st) h3 (by rw[h4];exact h1) (by rw[h4];exact h0)
 rw[h4]at this;exact this):P:=h
theorem qld(h:P:=by
 go_wp2
 go_ret
 exact⟨bc,_,rfl,by refine Or.inr ⟨qb,qb,qb,λi hi=>HK.o i qb⟩⟩):P:=h
theorem qle(h:P:=by
 clear ke km
 go_wp2
 go_ret
 exact⟨rfl,(((KB.old HBA.o hB).trans af).drew.trans ag).setM 2 kh _,Gt.o.place _⟩):P:=h
theorem qlf(h:P:=by
 rcases Nat.lt_or_ge w.heap.size w1.heap.size with h'|h'
 ·exact h'
 ·rw[Array.getElem?_eq_none h']at aw;cases aw):P:=h
theorem qlg(h:P:=by rw[Dj w1 ⟨m,2,N⟩ _ _ qh];exact af.keep _ _ 194 qd qb je.o):P:=h
theorem qlh(h:P:=by
 rcases ah.2 with⟨hv,h0⟩|⟨g,cap,cur,hv,_⟩
 ·exact⟨N,0,by rw[hv,h0]⟩
 ·exact⟨_,_,hv⟩):P:=h
theorem qfl(h:P:=by
 have AF:Hd _:=e
 clear e h
 go_wp2_with fail
 go_meet
 case rel=>exact⟨rfl,up,by rw[AF.o];exact lp,V4⟩):P:=h
theorem qfm(h:P:=by
 go_enter func92,ntmps92
 go_wp2
 go_ret
 exact⟨aN _ _,_,rfl,qb⟩):P:=h
theorem qfn(h:P:=by
 go_enter func42,ntmps42
 go_wp2
 go_ret
 exact⟨aN _ _,_,rfl,qb⟩):P:=h
theorem qli(h:P:=by
 have HA0:Hd _:=hA0
 clear hA0
 go_wp2_with fail
 go_meet
 case rel=>exact⟨congrArg Value.string HA0.o,rfl⟩):P:=h
theorem qlj(h:P:=by
 rcases Nat.lt_or_ge i' k with h|h
 ·exact HK.o i' h
 ·obtain rfl:i'=k:=qb;rw[<- HI.o];exact hb):P:=h
theorem qlk(h:P:=by exact⟨ys,k1.same λb eb=>hk b (k1.own.lt b eb).2 (λe'=>Ra k1.own k0.own qd b eb e'.symm)⟩):P:=h
theorem qfo(h:P:=by
 rcases th with r|r
 ·left;rw[EXV.o,←r];exact q
 ·right;rw[r]at q;cases q;exact Nat.le_refl _):P:=h
theorem qll(h:P:=by
 rw[gG,gG,List.getElem?_map,Jr h]
 rfl):P:=h
theorem qlm(h:P:=by
 obtain⟨zs,cv,lv,qr⟩:=q.rs.qs
 obtain⟨cs,c1⟩:=Bd qr.row b o
 rw[c1];exact hsb b cs _ c1):P:=h
theorem qln(h:P:=by
 unfold Re
 generalize u.toNat=m
 by_cases h1:m=32<;>by_cases h2:m=10<;>simp[h1,h2]<;>omega):P:=h
theorem qfp(h:P:=by
 rintro w ⟨s1,s2,s3,s4⟩
 obtain⟨x0,x1,x2⟩:=Bb s4
 go_simp
 first|done|with_reducible rfl):P:=h
theorem qlo(h:P:=by
 rintro w ⟨s1,s2,s3,s4⟩
 obtain⟨q0,q1,q2⟩:=Bb s4
 go_simp
 first|done|with_reducible rfl):P:=h
theorem qlp(h:P:=by
 rintro e w' ⟨rfl,rfl⟩
 exact⟨rfl,Below.refl _ _,λ_ _ _=>rfl,xs,ah,λi hi=>qb⟩):P:=h
theorem qlq(h:P:=by
 go_wp2
 go_ret
 exact⟨bj,false,rfl,Ed (λk=>by have:=k.1;rw[EV.o]at this;cases this)⟩):P:=h
theorem qlr(h:P:=by
 go_enter func149,ntmps149
 go_wp2
 go_ret
 exact⟨rfl,aN _ _⟩):P:=h
theorem qls(h:P:=by
 go_enter func131,ntmps131
 go_wp2
 go_ret
 exact⟨aN _ _,rfl⟩):P:=h
theorem qlt(h:P:=by
 rcases Cz tw with⟨h,_⟩|⟨g',c',h⟩
 ·exact⟨_,_,_,h⟩
 ·exact⟨_,_,_,h⟩):P:=h
theorem qlu(h:P:=by
 rintro e w' ⟨rfl,rfl⟩
 exact⟨rfl,Below.refl _ _,λ_ _ _=>rfl,xs,hr,λi hi=>qb⟩):P:=h
theorem qlv(h:P:=by exact Li (Li (Li (Ah A3.o qb) qb _) qb _) qb _):P:=h
theorem qlw(h:P:=by exact Li (Li (Li (Ah ws.o qb) qb _) qb _) qb _):P:=h
theorem qau(h:P:=by
 rintro w ⟨s1,s2,s3⟩
 obtain⟨q0,q1,q2⟩:=Bb s3
 go_simp
 first|done|with_reducible rfl):P:=h
theorem qlx(h:P:=by
 rcases Nat.lt_or_ge b w.heap.size with h'|h'
 ·exact h'
 ·rw[Array.getElem?_eq_none h']at h;cases h):P:=h
theorem qly(h:P:=by
 rintro w s1
 obtain⟨q0,q1,q2,q3,q4,q5⟩:=Ho s1
 go_simp
 first|done|with_reducible rfl):P:=h
theorem qlz(h:P:=by
 rw[←Y8,←eP]
 exact⟨Nx _ _,[],World.ownsRow_nil _ _ 136 3,λi hi=>qb⟩):P:=h
theorem qma(h:P:=by
 simp[Value.ownBlock]at q
 subst q
 rcases hl with q|q
 ·exact Or.inl q
 ·exact Or.inr qb):P:=h
theorem qbm(h:P:=by
 rintro w ⟨s1,s2⟩
 obtain⟨x0,x1,x2⟩:=Bb s2
 go_simp
 first|done|with_reducible rfl):P:=h
theorem qmb(h:P:=by
 rintro w ⟨s1,s2⟩
 obtain⟨q0,q1,q2⟩:=Bb s2
 go_simp
 first|done|with_reducible rfl):P:=h
theorem qfq(h:P:=by
 have hl:=h.1
 exact⟨xs[j]'qb,by rw[h.cellAt j hj];exact Jr _⟩):P:=h
theorem qmc(h:P:=by
 apply List.ext_getElem?
 intro i
 by_cases h:i<n<;>simp[madeCells,Value.cells,h,Nat.mod_one]):P:=h
theorem qmd(h:P:=by unfold qx;rw[gG,List.getElem?_append_left h,gG]):P:=h
theorem qav(h:P:=by
 rintro w ⟨s1,s2⟩
 obtain⟨t0,t1,-⟩:=La s2
 go_simp
 first|done|with_reducible rfl):P:=h
theorem qme(h:P:=by
 rcases Nat.lt_or_ge j k with q|q
 ·exact HN.o j q
 ·obtain rfl:j=k:=qb
  exact he):P:=h
theorem qmf(h:P:=by
 have em:m=n:=qb
 subst em
 go_wp2
 go_ret
 exact⟨rfl,bc,HK.o,ys,HR.o,HM.o⟩):P:=h
theorem qdk(h:P:=by
 have em:m=n:=qb
 subst em
 go_wp2
 go_ret
 exact⟨rfl,bc,HK.o,ys,HO.o,HM.o⟩):P:=h
theorem qmg(h:P:=by have q:=k.sh;rw[hb]at q;injection q with q;injection q with _ q;exact absurd q qd):P:=h
theorem qmh(h:P:=by have q:=k.bd;rw[hb]at q;injection q with q;injection q with _ q;exact absurd q qd):P:=h
theorem qch(h:P:=by
 obtain⟨cs,c1⟩:=Bd ho b q
 rw[hne b (J3 b cs _ he c1),k2 b (ho.lt b q).2 (hx b q)]):P:=h
theorem qfr(h:P:=by
 have ek:k=is.length:=qb
 subst ek
 go_wp2
 go_ret
 exact⟨am,_,rfl,_,ah,T7⟩):P:=h
theorem qfs(h:P:=by
 go_wp2_with fail
 go_region
 all_goals
  go_wp2;go_ret;exact⟨hB.drew,false,rfl,X0.o⟩):P:=h
theorem qci(h:P:=by have q:=k.bd;rw[e]at hb;rw[hb]at q;injection q with q;injection q with _ q;exact hT q):P:=h
theorem qmi(h:P:=by exact(((ws.o.set qb _).set qb _).set qb _).wide qb qg):P:=h
theorem qmj(h:P:=by exact(((ky.o.set qb _).set qb _).set qb _).wide qb qg):P:=h
theorem qmk(h:P:=by
 clear au gv aw
 go_wp2_with fail
 go_ret
 exact Or.inr ⟨rfl,_,_,HF.o,gj.o,HD.o⟩):P:=h
theorem qml(h:P:=by
 rw[List.length_map]
 exact Jv (Jv (Jv C0.o HV.o _) HV.o _) HV.o _):P:=h
theorem qmm(h:P:=by
 obtain⟨cs,c1⟩:=Bd qr.row b o
 rw[c1];exact kT b cs _ qd qd c1):P:=h
theorem qmn(h:P:=by
 obtain⟨AJ,⟨es,cl,h1,h2⟩,h3⟩:=h
 exact⟨AJ,⟨es,cl,he.trans h1,h2⟩,h3⟩):P:=h
theorem qmo(h:P:=by exact⟨rfl,(((Below.refl _ _).drew.alloc (Nat.le_refl _) _).trans (af.mono qg))⟩):P:=h
theorem qmp(h:P:=by
 rw[hd]at this
 rcases this with⟨e,_⟩|⟨_,_,_,e,_⟩<;>simp at e
 exact e.2.1):P:=h
theorem qmq(h:P:=by
 rcases ph.2 with⟨e,h0⟩|⟨g,cap,cur,e,_⟩
 ·omega
 ·exact⟨g,cap,e⟩):P:=h
theorem qft(h:P:=by
 go_wp2
 go_ret
 exact⟨(aN _ _).alloc qg _,rfl⟩):P:=h
theorem qdl(h:P:=by
 rintro w s1
 obtain⟨q0,q1,q2⟩:=Bb s1
 go_simp
 first|done|with_reducible rfl):P:=h
theorem qdm(h:P:=by
 obtain⟨zs,cv,lv,qr⟩:=q.rs.qs
 subst e
 exact Ae qr.row qd hg o):P:=h
theorem qmr(h:P:=by
 have bg:=bt ak ag
 clear hr ak ag
 go_wp2
 go_ret2
 exact⟨bg,r,b,rfl,HR.o⟩):P:=h
theorem qms(h:P:=by
 go_wp2_with fail
 go_meet
 case rel=>exact⟨rfl,up,by rw[AF.o];exact ja,C6⟩):P:=h
theorem qmt(h:P:=by refine⟨?_,?_,?_,?_,?_,?_,?_,?_,?_,?_⟩<;>rw[cH h]<;>rfl):P:=h
theorem qmu(h:P:=by
 unfold Ao at hp
 simp only[Bool.and_eq_true,decide_eq_true_eq]at hp
 exact hp.1.1):P:=h
theorem qmv(h:P:=by rw[World.cell?_of_block (cq w.heap.size qb (λe=>hne e.symm))];exact k1):P:=h
theorem qmw(h:P:=by
 simp only[if_neg (show ¬ i=k from qb)]
 exact⟨zs,hsame k1 qd,k2⟩):P:=h
theorem qmx(h:P:=by exact hk b (k2.own.lt b eb).2 (λe'=>Ra k2.own k0.own qd b eb e'.symm)):P:=h
theorem qdn(h:P:=by simp only[Da,List.length_singleton,List.mem_singleton,exists_eq_left];omega):P:=h
theorem qfu(h:P:=by
 obtain⟨x0,x1,x2⟩:=Bb s2
 go_simp
 first|done|with_reducible rfl):P:=h
theorem qal(h:P:=by
 intro w hSw
 try dsimp only at hSw
 go_simp
 first|done|with_reducible rfl):P:=h
theorem qac(h:P:=by
 go_enter func165,ntmps165
 go_wp2
 go_ret2
 exact⟨rfl,rfl⟩):P:=h
theorem qdo(h:P:=by
 have em:m=n:=qb
 subst em
 go_wp2
 go_ret
 exact⟨rfl,bc⟩):P:=h
theorem qfv(h:P:=by
 go_enter func153,ntmps153
 go_wp2
 go_ret
 exact⟨rfl,rfl⟩):P:=h
theorem qfw(h:P:=by
 go_enter func101,ntmps101
 go_wp2
 go_ret
 exact⟨rfl,rfl⟩):P:=h
theorem qaa(h:P:=by
 go_enter func93,ntmps93
 go_wp2
 go_ret2
 exact⟨rfl,rfl⟩):P:=h
theorem qfx(h:P:=by
 go_enter func44,ntmps44
 go_wp2
 go_ret
 exact⟨rfl,rfl⟩):P:=h
theorem qfy(h:P:=by
 go_wp2
 go_ret
 exact⟨Below.refl _ _,-1,rfl,Or.inl qb⟩):P:=h
theorem qfz(h:P:=by
 clear he HI
 go_wp2
 go_ret
 exact⟨by rw[<- HR.o];rfl,rfl⟩):P:=h
theorem qga(h:P:=by exact Or.inl (Or.inr (Or.inr (Or.inr (Or.inr (Or.inr q)))))):P:=h
theorem qgb(h:P:=by exact Or.inl (Or.inr (Or.inr (Or.inr (Or.inr (Or.inl q)))))):P:=h
theorem qdp(h:P:=by
 rintro e w' ⟨rfl,rfl⟩
 exact⟨rfl,Below.refl _ _⟩):P:=h
theorem qgc(h:P:=by simpa [List.getElem?_take,List.getElem?_drop] using this):P:=h
theorem qdq(h:P:=by
 go_wp2
 go_ret
 exact⟨bg,-1,rfl,Or.inl qb⟩):P:=h
theorem qgd(h:P:=by
 intro g' ai w' h1 h2 h3 h4
 exact h g' ai w' h1 h2 h3):P:=h
theorem qdr(h:P:=by exact Or.inl (Bl C (u:=r.uv) qu e)):P:=h
theorem qcj(h:P:=by exact Or.inl (Bl C (u:=r.tx) qu e)):P:=h
theorem qck(h:P:=by exact Or.inl (Bl C (u:=r.su) qu e)):P:=h
theorem qds(h:P:=by exact Or.inl (Bl C (u:=r.qv) qu e)):P:=h
theorem qdt(h:P:=by exact Or.inl (Bl C (u:=r.nv) qu e)):P:=h
theorem qdu(h:P:=by exact Or.inl (Bl C (u:=r.ev) qu e)):P:=h
theorem qdv(h:P:=by exact Or.inl (Bl C (u:=r.dv) qu e)):P:=h
theorem qdw(h:P:=by
 rintro w s1
 go_simp
 first|done|with_reducible rfl):P:=h
theorem qdx(h:P:=by
 intro g' ai w' h1 h2 h3 h4
 exact h g' ai w' h1 h2):P:=h
theorem qbn(h:P:=by exact⟨N,0,by rw[h0],λi hi=>qb⟩):P:=h
theorem qge(h:P:=by exact Or.inl (Or.inr (Or.inr (Or.inr (Or.inl q))))):P:=h
theorem qgf(h:P:=by
 go_ret
 exact⟨bc,true,rfl,Gp HO.o⟩):P:=h
theorem qdy(h:P:=by
 unfold Fo at *
 rw[jB hm]
 rfl):P:=h
theorem qdz(h:P:=by
 go_wp2_with fail
 go_ret
 exact⟨rfl,HB.o⟩):P:=h
theorem qgg(h:P:=by
 go_ret
 exact⟨hB.drew,false,rfl,X0.o⟩):P:=h
theorem qea(h:P:=by
 show _=_
 rw[<- eW];exact Sl (Hj _ _)):P:=h
theorem qbo(h:P:=by
 show _=_
 rw[<- eW];exact Bg _ _):P:=h
theorem qam(h:P:=by
 go_simp
 first|done|with_reducible rfl):P:=h
theorem qcl(h:P:=by exact Or.inl (Or.inr (Or.inr (Or.inl e)))):P:=h
theorem qbp(h:P:=by
 go_wp2
 go_ret
 exact⟨am,rfl⟩):P:=h
theorem qag(h:P:=by
 go_wp2
 go_ret
 exact⟨rfl,rfl⟩):P:=h
theorem qeb(h:P:=by exact⟨N,0,by rw[e,h0]⟩):P:=h
theorem qcm(h:P:=by exact Or.inl (Or.inr (Or.inl e))):P:=h
theorem qcn(h:P:=by rw[←eW];exact Ay (Ay (Ai _ _) (Ai _ _)) (Ai _ _)):P:=h
theorem qec(h:P:=by simp[results,results166,go_sem,Ec,k0,k1,k2,k3,k4,k5,k6,k7,k8,k9]):P:=h
theorem qbq(h:P:=by simp[results,results146,go_sem,Ec,z0,z1,z2,z3,z4,z5,z6,z7,z8,z9]):P:=h
theorem qed(h:P:=by rw[Bool.eq_false_iff];simp only[ne_eq,Bool.and_eq_true,decide_eq_true_eq];omega):P:=h
theorem qco(h:P:=by simp[results,results31,go_sem,y0,y1,y2,y3,y4,y5,y6,y7,y8,y9]):P:=h
theorem qgh(h:P:=by simp[results,results27,go_sem,y0,y1,y2,y3,y4,y5,y6,y7,y8,y9]):P:=h
theorem qee(h:P:=by simp[results,results7,go_sem,y0,y1,y2,y3,y4,y5,y6,y7,y8,y9]):P:=h
theorem qgi(h:P:=by simp[results,results154,go_sem,Bc,Ep,k0,k1,k2,k3,k4,k5]):P:=h
theorem qgj(h:P:=by simp only[Km,Bool.and_eq_true,decide_eq_true_eq]at fw;simp;omega):P:=h
theorem qgk(h:P:=by rw[World.cell?_alloc_lt _ _ _ (World.block_lt_of_cell? _ _ h)];exact h):P:=h
theorem qgl(h:P:=by simp[results,results142,go_sem,Ou,v0,v1,v2,v3,v4,v5]):P:=h
theorem qgm(h:P:=by simp[results,results171,go_sem,Bc,k0,k1,k2,k3,k4,k5]):P:=h
theorem qbr(h:P:=by simp[results,results154,go_sem,Bc,k0,k1,k2,k3,k4,k5]):P:=h
theorem qef(h:P:=by simp[results,results156,go_sem,Bc,k0,k1,k2,k3,k4,k5]):P:=h
theorem qbs(h:P:=by rw[<- eW];exact Ay (Ai _ _) (Ai _ _)):P:=h
theorem qeg(h:P:=by simp[results,results168,go_sem,r0,r1,r2,r3,r4,r5]):P:=h
theorem qeh(h:P:=by simp[results,results159,go_sem,r0,r1,r2,r3,r4,r5]):P:=h
theorem qgn(h:P:=by rw[<- eq];exact Wt s.name t y s.code.length p W):P:=h
theorem qgo(h:P:=by rw[←eW];exact aN _ _):P:=h
theorem qei(h:P:=by rw[←e3];exact aN _ _):P:=h
theorem qaw(h:P:=by rw[←e6];exact aN _ _):P:=h
theorem qcp(h:P:=by rintro e;apply hne;rw[hv];simp[Value.ownBlock,e]):P:=h
theorem qej(h:P:=by simp only[Bool.and_eq_true,decide_eq_true_eq];omega):P:=h
theorem qbt(h:P:=by rw[List.length_append,List.length_singleton];omega):P:=h
theorem qcq(h:P:=by rw[Nat.zero_add,List.nil_append]at kw;exact kw):P:=h
theorem qcr(h:P:=by show _=_;rw[←eW];exact Sl (Sl (Hj _ _))):P:=h
theorem qgp(h:P:=by simp[results,results119,go_sem,Sk,resA]):P:=h
theorem qgq(h:P:=by simp[results,results135,go_sem,Sk,resA]):P:=h
theorem qgr(h:P:=by show _=_;rw[←eW,←eQ];exact Sl (Hj _ _)):P:=h
theorem qgs(h:P:=by simp[results,results97,go_sem,y0,y1,y2]):P:=h
theorem qaq(h:P:=by simp[results,results70,go_sem,y0,y1,y2]):P:=h
theorem qgt(h:P:=by simp[results,results58,go_sem,z0,z1,z2]):P:=h
theorem qgu(h:P:=by rw[cH cu.o.blk,←EQV.o];rfl):P:=h
theorem qgv(h:P:=by rw[<- eq];exact Wu s.name s.text t W):P:=h
theorem qbf(h:P:=by rw[Lib.alloc_old _ _ _ (Ag H8)];exact H8):P:=h
theorem qgw(h:P:=by rw[ag.block _ (Ag d6.o)];exact d6.o):P:=h
theorem qek(h:P:=by rw[List.length_append,List.length_singleton]):P:=h
theorem qgx(h:P:=by rw[<- eq];exact Fp x n W hx0 h1 h8):P:=h
theorem qel(h:P:=by show _=_;rw[←eW];exact Sl (Hj _ _)):P:=h
theorem qcs(h:P:=by show _=_;rw[←e6,←eRR];exact Hj _ _):P:=h
theorem qgy(h:P:=by rw[he,decide_eq_false_iff_not];exact hz):P:=h
theorem qgz(h:P:=by simp only[Nat.min_def];split<;>omega):P:=h
theorem qax(h:P:=by rw[<- eU];exact(Below.refl _ _).drew):P:=h
theorem qay(h:P:=by simp[results,results150,go_sem]):P:=h
theorem qbu(h:P:=by rw[←eU];exact(Below.refl _ _).drew):P:=h
theorem qab(h:P:=by rw[←eD];exact(Below.refl _ _).drew):P:=h
theorem qbg(h:P:=by rw[cH cu.o.blk];rfl):P:=h
theorem qbv(h:P:=by rw[cH wo.o.blk];rfl):P:=h
theorem qaf(h:P:=by intro u hu;simp at hu;subst hu;rfl):P:=h
theorem qha(h:P:=by simp[Lib.compareBytes,Op.bytesLess]):P:=h
theorem qem(h:P:=by intro u hu;simp at hu;rw[hu];rfl):P:=h
theorem qhb(h:P:=by rw[he,decide_eq_true_eq];exact hz):P:=h
theorem qen(h:P:=by rw[bc.block _ hwP];exact KB5.o):P:=h
theorem qeo(h:P:=by rw[hne _ (Ne.symm hHb)];exact di):P:=h
theorem qhc(h:P:=by rw[decide_eq_false_iff_not];omega):P:=h
theorem qbw(h:P:=by rw[←eW];exact heapW_old2 _ _ _):P:=h
theorem qbx(h:P:=by rw[←eW];exact heapW_new2 _ _ _):P:=h
theorem qaz(h:P:=by rw[<- eW];exact Ai _ _):P:=h
theorem qep(h:P:=by rw[jB iu];rfl):P:=h
theorem qhd(h:P:=by rw[←e4];exact Ai _ _):P:=h
theorem qhe(h:P:=by rw[←e5];exact Ai _ _):P:=h
theorem qhf(h:P:=by rw[cH h.blk];rfl):P:=h
theorem qeq(h:P:=by rw[e,cH h];rfl):P:=h
theorem qhg(h:P:=by rw[List.length_append];omega):P:=h
theorem qar(h:P:=by simpa [Value.ownBlock] using q):P:=h
theorem qct(h:P:=by simpa [Value.ownBlock] using e):P:=h
theorem qhh(h:P:=by rw[cH B4];rfl):P:=h
theorem qer(h:P:=by rw[cH iu];rfl):P:=h
theorem qhi(h:P:=by rw[←eX,←eq];simp[go_sem]):P:=h
theorem qhj(h:P:=by rw[←eW,←eq];simp[go_sem]):P:=h
theorem qhk(h:P:=by rw[cH kbr];rfl):P:=h
theorem qba(h:P:=by rw[cH hm];rfl):P:=h
theorem qhl(h:P:=by rw[←edt];exact HMD.o.t2):P:=h
theorem qaj(h:P:=by rw[cH h];rfl):P:=h
theorem qes(h:P:=by rw[IntKind.wrap_i64];omega):P:=h
theorem qet(h:P:=by simp only[Vo]at k;omega):P:=h
theorem qby(h:P:=by simp[Value.ownBlock]at e):P:=h
theorem qeu(h:P:=by rw[<- fm];exact mi.o):P:=h
theorem qbh(h:P:=by simp[Region.wanted,ru]):P:=h
theorem qan(h:P:=by rw[<- eW];simp[go_sem]):P:=h
theorem qcu(h:P:=by rw[hmm];split<;>omega):P:=h
theorem qev(h:P:=by unfold World.alloc;simp):P:=h
theorem qew(h:P:=by simp[Act.eval,Act.put]):P:=h
theorem qcv(h:P:=by rw[EML.o];exact t6):P:=h
theorem qbb(h:P:=by rw[EM.o];exact aj):P:=h
theorem qex(h:P:=by rw[ESM.o];exact hq):P:=h
theorem qcw(h:P:=by rw[Ux];omega):P:=h
theorem qcx(h:P:=by simp[Value.oneCell']):P:=h
theorem qcy(h:P:=by simpa using am.size):P:=h
theorem qz(h:P:=by rw[bi x hx];omega):P:=h
theorem qm(h:P:=by unfold maxLen;omega):P:=h
theorem qak(h:P:=by simp[intOf];omega):P:=h
theorem qas(h:P:=by rw[EM.o];omega):P:=h
theorem qcz(h:P:=by rw[ah.1];omega):P:=h
theorem qda(h:P:=by simp at hk;omega):P:=h
theorem qbz(h:P:=by rw[q,bi x hx]):P:=h
theorem qdb(h:P:=by rw[<- eW];simp):P:=h
theorem qad(h:P:=by rw[HC.o];rfl):P:=h
theorem qca(h:P:=by simp at h;omega):P:=h
theorem qdc(h:P:=by rw[HF.o];rfl):P:=h
theorem qao(h:P:=by rw[cm];omega):P:=h
theorem qcb(h:P:=by rw[←eW];simp):P:=h
theorem qcc(h:P:=by simp;try omega):P:=h
theorem qdd(h:P:=by simpa using ik):P:=h
theorem qcd(h:P:=by simpa using hc):P:=h
theorem qce(h:P:=by simpa using hj):P:=h
theorem qcf(h:P:=by decide +kernel):P:=h
theorem qbc(h:P:=by simpa using hn):P:=h
theorem qy(h:P:=by rw[el];simp):P:=h
theorem qk(h:P:=by simp[go_sem]):P:=h
theorem qbd(h:P:=by simpa using h):P:=h
theorem qh(h:P:=by simp;omega):P:=h
theorem qah(h:P:=by simp[Av]):P:=h
theorem qat(h:P:=by injection e):P:=h
theorem qu(h:P:=by simp[Od]):P:=h
theorem qi(h:P:=by kernel_rfl):P:=h
theorem qai(h:P:=by simp at hi):P:=h
theorem qbi(h:P:=by simp[Mh]):P:=h
theorem qq(h:P:=by simp[*]):P:=h
theorem qw(h:P:=by cases q):P:=h
theorem qt(h:P:=by cases e):P:=h
theorem qae(h:P:=by trivial):P:=h
theorem qd(h:P:=by decide):P:=h
theorem qj(h:P:=by go_num):P:=h
theorem qb(h:P:=by omega):P:=h
theorem qg(h:P:=by simp):P:=h
theorem qo(h:P:=by rfl):P:=h
end Go.Proofs.YtoakjccojifagaaGreatDoor
