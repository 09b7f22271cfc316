import Derived.Below
import Derived.BigQuiet
import Derived.Carry
import Derived.ChangeOld
import Derived.Deep.AppendLies
import Derived.Deep.CutBlock
import Derived.Deep.DeepCutAuto
import Derived.Deep.DeepHandedRow
import Derived.Deep.LoopGhost
import Derived.Deep.QuietTactic
import Derived.Deep.RegionHeld
import Derived.Deep.RegionHeld3
import Derived.Deep.RegionLaw
import Derived.Deep.RegionWith
import Derived.Deep.Slices
import Derived.Deep.Strs
import Derived.DeepKeys5
import Derived.Defers
import Derived.Ground.Names2Prog
import Derived.Ground.SlgnProg
import Derived.LaidSub
import Derived.Laws.AppendOwnNone
import Derived.Laws.CopyOwn
import Derived.Laws.CopyRow
import Derived.Lib.AppendIntMem
import Derived.Lib.Builder
import Derived.Lib.ItoaNum
import Derived.Lib.LaidTab
import Derived.Lib.SmallJoins
import Derived.MakeChecks
import Derived.Maps.AppendAt
import Derived.Maps.OwnSet
import Derived.Maps.Views
import Derived.OpenShut
import Derived.OpenVars
import Derived.ProofKit
import Derived.Recover
import Derived.Shelf.LaysM
import Derived.Shelf.SlSorted.Search
import Derived.Shelf.Slices.Clone
import Derived.Shelf.Slices.Turned
import Derived.Shelf.SlicesE.Clone
import Derived.Shelf.Small.Strs
import Derived.Shelf.Spec.SlicesInsertGrow
import Derived.Shelf.Strconv.Itoa0
import Derived.Shelf.Strconv.Itoa1
import Derived.Shelf.Strconv.Itoa2
import Derived.Shelf.Strconv.Itoa3
import Derived.SliceStrings
import Derived.WalkKit
import Derived.WalkLawsBesides
import Derived.WalkMore
import Derived.WalkSpells
namespace Go.Proofs.YtfgoholldpeabaaGreatDoor
set_option linter.unusedVariables false
set_option linter.unusedSimpArgs false
variable {P:Prop}
theorem qgy (h:P:=by
 have tz:xs.length=R.length*3:=r.row.1
 have ne:∀ {e sz n:Nat} {u:Value} {ys:List Value},w.ownsRow B e sz u n ys->e≠97->∀ b,u.ownBlock=some b->v.ownBlock≠some b:=fun q he=>apart q r.row he
 refine⟨_,fun i=>if i<R.length then cv i else c,fun i=>if i<R.length then lv i else d,by rw[List.length_append];exact Al ho ht qd x,fun i hi=>?_,fun i hi=>?_,fun i hi=>?_,fun i j td hj b e=>?_,fun i j td hj b e=>?_⟩
 · rw[List.length_append,List.length_singleton] at hi
   rcases Nat.lt_or_ge i R.length with k|k
   · obtain⟨a,b,e⟩:=r.fil i k
     rw[if_pos k,if_pos k,qx_lt k];refine⟨?_,?_,?_⟩<;>rw[List.getElem?_append_left qb]<;>assumption
   · obtain rfl:i=R.length:=qb
     rw[if_neg qb,if_neg qb,qx_at];refine⟨?_,?_,?_⟩
     · rw[List.getElem?_append_right qb,show R.length*3-xs.length=0 from qb];rfl
     · rw[List.getElem?_append_right qb,show R.length*3+1-xs.length=1 from qb];rfl
     · rw[List.getElem?_append_right qb,show R.length*3+2-xs.length=2 from qb];rfl
 · rw[List.length_append,List.length_singleton] at hi
   rcases Nat.lt_or_ge i R.length with k|k
   · obtain⟨ys,a,b⟩:=r.code i k
     show ∃ ys,World.ownsRow _ _ _ _ (if i<R.length then cv i else c) _ _/\_;rw[if_pos k,qx_lt k];exact⟨ys,Dc a hg (ne a qd) hb qd,b⟩
   · obtain rfl:i=R.length:=qb
     show ∃ ys,World.ownsRow _ _ _ _ (if R.length<R.length then cv R.length else c) _ _/\_;rw[if_neg qb,qx_at];exact⟨zs,Dc h1 hg (ne h1 qd) hb qd,h2⟩
 · rw[List.length_append,List.length_singleton] at hi
   rcases Nat.lt_or_ge i R.length with k|k
   · obtain⟨ys,a,b⟩:=r.look i k
     show ∃ ys,World.ownsRow _ _ _ _ (if i<R.length then lv i else d) _ _/\_;rw[if_pos k,qx_lt k];exact⟨ys,Dc a hg (ne a qd) hb qd,b⟩
   · obtain rfl:i=R.length:=qb
     show ∃ ys,World.ownsRow _ _ _ _ (if R.length<R.length then lv R.length else d) _ _/\_;rw[if_neg qb,qx_at];exact⟨us,Dc h3 hg (ne h3 qd) hb qd,h4⟩
 · rw[List.length_append,List.length_singleton] at hj
   have hi:i<R.length:=qb;simp only[if_pos hi] at e
   rcases Nat.lt_or_ge j R.length with k|k
   · simp only[if_pos k];exact r.apc i j td k b e
   · simp only[if_neg (show ¬ j<R.length from qb)];exact hc i hi b e
 · rw[List.length_append,List.length_singleton] at hj
   have hi:i<R.length:=qb;simp only[if_pos hi] at e
   rcases Nat.lt_or_ge j R.length with k|k
   · simp only[if_pos k];exact r.apl i j td k b e
   · simp only[if_neg (show ¬ j<R.length from qb)];exact hd i hi b e):P:=h
theorem qgz (h:P:=by
 obtain⟨x0,x1,x2,xf⟩:=Ea HQ.o
 go_wp2_with fail
 clear x0 x1 x2 xf
 refine(O6.o w2 gi.o).mono ?_
 rintro e w9 ⟨N4,g1,p1,v2,rfl,o1,o2⟩
 obtain⟨a2,p2,rfl,_⟩:=o2.sl
 have HZ9:=hid (Ab N4 HZ.o)
 have HB9:=hid (bt gi.o N4)
 have D8:=hid (show Fs w9 w.heap.size (.slice (p_ g1) T.length p1) (.slice a2 R.length p2) T R from ⟨Ah o1.own (zo gi.o.size),⟨g1,p1,rfl⟩,o2.recO.base (zo gi.o.size)⟩)
 have hs9:=N4.size
 clear N4 o1 o2 HQ HP HZ O6 gi
 obtain⟨L6,L5,L4,L2,L1,L0,Le,K9,K8,K7⟩:=Fc HZ9.o
 have zcf:=fZ HZ9.o
 obtain⟨l,el⟩:∃ l:List (Nat × Nat × Value),l=[((w.heap.size+1+1),0,I 9),((w.heap.size+1+1),1,ze),((w.heap.size+1+1),2,nS),((w.heap.size+1+1),3,I n),((w.heap.size+1+1),4,.slice (p_ g1) T.length p1),((w.heap.size+1+1),5,.slice a2 R.length p2),((w.heap.size+1+1),6,nS),((w.heap.size+1+1),7,nS),((w.heap.size+1+1),8,ze),((w.heap.size+1+1),9,ze)]:=⟨_,rfl⟩
 have dr:∀ x∈l,x.1=(w.heap.size+1+1):=qab
 have cm:=Ds l w9 _ dr HZ9.o
 have hS:=D8.o.setU dr HZ9.o
 have fc:Bw w (Cf w9 l):=Br l w9 HB9.o (fun x hx=>qag)
 obtain⟨V,eV⟩:=Ai (Cf w9 l)
 rw[eV] at cm fc hS
 rw[el] at cm eV
 simp only[Cf,List.foldl] at eV
 simp only[List.foldl,List.setIfInBounds_toArray,List.set_cons_zero,List.set_cons_succ] at cm
 have HV:=hid cm
 have mn:=hid fc
 have ji:=hid hS
 clear cm fc el dr hS
 go_wp2_with fail
 try rw[eV]
 obtain⟨y0,y1,y2,y3,y4,y5,y6,y7,y8,y9⟩:=Fc HV.o
 exact bR (v:=.agg #[I 9,ze,nS,I n,.slice (p_ g1) T.length p1,.slice a2 R.length p2,nS,nS,ze,ze]) qfu rfl ⟨mn.o,_,rfl,_,_,rfl,ji.o⟩):P:=h
theorem qha (h:P:=by
 rintro e w2 ⟨ag,g1,p1,v2,rfl,o1,o2⟩
 obtain⟨a2,p2,rfl,_⟩:=o2.sl
 have pd:=hid (Ab ag pg.o)
 have gi:=hid (bt fw.o ag)
 have cw:=hid (show Fs w2 w.heap.size (.slice (p_ g1) T.length p1) (.slice a2 R.length p2) T R from ⟨Ah o1.own (zo fw.o.size),⟨g1,p1,rfl⟩,o2.recO.base (zo fw.o.size)⟩)
 have gp:=ag.size
 clear ag o1 o2 fw pg lz
 obtain⟨L6,L5,L4,L2,L1,L0,Le,K9,K8,K7⟩:=Fc pd.o
 have zcf:=fZ pd.o
 obtain⟨l,el⟩:∃ l:List (Nat × Nat × Value),l=[((w.heap.size+1+1),0,I 9),((w.heap.size+1+1),1,ze),((w.heap.size+1+1),2,nS),((w.heap.size+1+1),3,I n),((w.heap.size+1+1),4,.slice (p_ g1) T.length p1),((w.heap.size+1+1),5,.slice a2 R.length p2),((w.heap.size+1+1),6,nS),((w.heap.size+1+1),7,nS),((w.heap.size+1+1),8,ze),((w.heap.size+1+1),9,ze)]:=⟨_,rfl⟩
 have dr:∀ x∈l,x.1=(w.heap.size+1+1):=qab
 have cm:=Ds l w2 _ dr pd.o
 have hS:=cw.o.setU dr pd.o
 have fc:Bw w (Cf w2 l):=Br l w2 gi.o (fun x hx=>qag)
 obtain⟨V,eV⟩:=Ai (Cf w2 l)
 rw[eV] at cm fc hS
 rw[el] at cm eV
 simp only[Cf,List.foldl] at eV
 simp only[List.foldl,List.setIfInBounds_toArray,List.set_cons_zero,List.set_cons_succ] at cm
 have HV:=hid cm
 have mn:=hid fc
 have ji:=hid hS
 clear cm fc el dr hS
 go_wp2_with fail
 try rw[eV]
 obtain⟨y0,y1,y2,y3,y4,y5,y6,y7,y8,y9⟩:=Fc HV.o
 exact bR (v:=.tuple #[.agg #[I 9,ze,nS,I n,.slice (p_ g1) T.length p1,.slice a2 R.length p2,nS,nS,ze,ze],nS]) qds rfl (⟨mn.o,_,_,rfl,_,_,rfl,ji.o⟩)):P:=h
theorem qhb (h:P:=by
 obtain⟨k,hk,rfl,HA,rfl⟩:=hrel
 by_cases aj:k<s.size
 ·by_cases c1:s[k].toNat<33
  ·have e1:decide ((s[k].toNat:Int)<33)=true:=qh;have HF:Hd (Fk s=false):=Ck (fun h=>by have:=h.2.2 k aj;omega);clear c1;go_wp2;go_ret;exact⟨qcy,rfl⟩
  ·have e1:decide ((s[k].toNat:Int)<33)=false:=qh
   by_cases c2:126<s[k].toNat
   ·have e2:decide ((126:Int)<s[k].toNat)=true:=qh;have HF:Hd (Fk s=false):=Ck (fun h=>by have:=h.2.2 k aj;omega);clear c1 c2;go_wp2;go_ret;exact⟨qcy,rfl⟩
   ·have e2:decide ((126:Int)<s[k].toNat)=false:=qh
    have HB:Hd (∀ j,(h:j<s.size)->j<k+1->33<=s[j].toNat/\s[j].toNat<=126):=fun j h hj=>by
     rcases Nat.lt_or_ge j k with h'|h'
     ·exact HA.o j h h'
     ·obtain rfl:j=k:=qb;omega
    clear c1 c2;go_wp2;go_roundw
    case rel=>exact⟨k+1,qb,qj,HB,by first|trivial|rfl⟩
    case measure=>simp[intOf];omega
 ·have HF:Hd (Fk s=true):=Cu ⟨qb,qb,fun j h=>HA.o j h qb⟩;go_wp2;go_ret;exact⟨qcy,rfl⟩):P:=h
theorem qel (h:P:=by
 rw[eP] at zP uq ⊢
 obtain⟨L6,L5,L4,L2,L1,L0,Le,K9,K8,K7⟩:=Fc zP
 have zcf:=fZ zP
 obtain⟨l,el⟩:∃ l:List (Nat × Nat × Value),l=[(P,0,I d.c),(P,1,.string d.t),(P,2,.slice b1 d.ch.length b2),(P,3,I d.n),(P,4,.slice b3 d.T.length b4),(P,5,.slice b5 d.R.length b6),(P,6,.slice b7 d.ran.length b8),(P,7,.slice b9 d.held.length Pz),(P,8,.string d.A),(P,9,.string d.B)]:=⟨_,rfl⟩
 have dr:∀ x∈l,x.1=P:=qab
 have cm:=Ds l wC _ dr zP
 have hS:=ow.setU dr zP
 have fc:Bw P0 (Cf wC l):=Br l wC bC (fun x hx=>qag)
 obtain⟨V,eV⟩:=Ai (Cf wC l)
 rw[eV] at cm fc hS
 rw[el] at cm eV
 simp only[Cf,List.foldl] at eV
 simp only[List.foldl,List.setIfInBounds_toArray,List.set_cons_zero,List.set_cons_succ] at cm
 have HV:=hid cm
 have mn:=hid fc
 have ji:=hid hS
 clear cm fc el dr hS
 refine Lt.sp (i:=7) (fun K hK=>?_)
 go_simp
 try rw[eV]
 refine hK.out _ _ (fun h=>absurd rfl h) (fun _=>?_)
 clear hK K
 refine Lt.done qi ?_ _
 go_wp2_with fail
 go_meet
 exact⟨P,d,_,_,_,_,_,zs,kv,lv,rfl,HV.o,yn.o,ji.o,jl.o,mn.o⟩):P:=h
theorem qem (h:P:=by
 rw[eP] at zP uq ⊢
 obtain⟨L6,L5,L4,L2,L1,L0,Le,K9,K8,K7⟩:=Fc zP
 have zcf:=fZ zP
 obtain⟨l,el⟩:∃ l:List (Nat × Nat × Value),l=[(P,0,I d.c),(P,1,.string d.t),(P,2,.slice b1 d.ch.length b2),(P,3,I d.n),(P,4,.slice b3 d.T.length b4),(P,5,.slice b5 d.R.length b6),(P,6,.slice b7 d.ran.length b8),(P,7,.slice b9 d.held.length Pz),(P,8,.string d.A),(P,9,.string d.B)]:=⟨_,rfl⟩
 have dr:∀ x∈l,x.1=P:=qab
 have cm:=Ds l wC _ dr zP
 have hS:=ow.setU dr zP
 have fc:Bw w2 (Cf wC l):=Br l wC bC (fun x hx=>qag)
 obtain⟨V,eV⟩:=Ai (Cf wC l)
 rw[eV] at cm fc hS
 rw[el] at cm eV
 simp only[Cf,List.foldl] at eV
 simp only[List.foldl,List.setIfInBounds_toArray,List.set_cons_zero,List.set_cons_succ] at cm
 have HV:=hid cm
 have mn:=hid fc
 have ji:=hid hS
 clear cm fc el dr hS
 refine Lt.sp (i:=7) (fun K hK=>?_)
 go_simp
 try rw[eV]
 refine hK.out _ _ (fun h=>absurd rfl h) (fun _=>?_)
 clear hK K
 refine Lt.done qi ?_ _
 go_wp2_with fail
 go_meet
 exact⟨P,d,_,_,_,_,_,zs,kv,lv,rfl,HV.o,yn.o,ji.o,mn.o⟩):P:=h
theorem qhc (h:P:=by
 obtain⟨m,e1,vr,sw⟩:∃ m:Nat,((lo:Int)+(hi:Int)) / 2=(m:Int)∧lo ≤ m∧m<hi:=⟨(lo+hi) / 2,qb,qb,qb⟩
 obtain⟨b,off,rfl,c1⟩:=hc m qb
 obtain⟨v,hv⟩:=Ai (Ar (nx l m) t)
 have HV:Hd (Ar (nx l m) t=v):=hv
 have HN:Hd (∀ W:World,Calls prog 140 #[.string (nx l m),.string t] W fun e w'=>e=.returned (.bool v)∧W=w'):=fun W=>by rw[← hv];exact Rk _ _ W
 clear hc hv
 generalize nx l m=s at c1 HN
 have M8:(m:Int)<(l.length:Int):=qb
 cases v
 · go_wp2_with (go_at_call 140;refine(HN.o _).mono ?_;rintro e w' ⟨rfl,rfl⟩)
   go_roundw
   case rel=>exact⟨lo,m,rfl,rfl,vr,qb,HL.o,Te jk.o HV.o,trivial⟩
   case measure=>simp[intOf];omega
 · go_wp2_with (go_at_call 140;refine(HN.o _).mono ?_;rintro e w' ⟨rfl,rfl⟩)
   go_roundw
   case rel=>exact⟨m+1,hi,qj,rfl,qb,qb,Yy jk.o qb HV.o,HH.o,trivial⟩
   case measure=>simp[intOf];omega):P:=h
theorem qhd (h:P:=by
 by_cases c1:st<k
 ·rw[if_pos c1]
  by_cases c2:n'=0
  ·subst c2;have HR:Hd (s.extract st k=q):=by show _=_;rw[<- Yp aj hg c1];exact HI.o
   clear hg HI;go_wp2;go_ret;exact⟨by rw[<- HR.o];rfl,rfl⟩
  ·have HR:Hd (Bj s (n'-1) (k+1) (k+1)=q):=by show _=_;rw[<- Yo aj hg c1 c2];exact HI.o
   clear hg HI;go_wp2;go_roundw
   case rel=>exact Or.inl ⟨n'-1,k+1,k+1,qb,qb,Nat.le_refl _,qj,by rw[if_neg (Nat.lt_irrefl _)],qj,HR,by first|trivial|rfl⟩
   case measure=>simp[intOf];omega
 ·rw[if_neg c1];have HR:Hd (Bj s n' (k+1) (k+1)=q):=by show _=_;rw[<- Yn aj hg c1];exact HI.o
  clear hg HI;go_wp2;go_roundw
  case rel=>exact Or.inl ⟨n',k+1,k+1,qb,qb,Nat.le_refl _,qj,by rw[if_neg (Nat.lt_irrefl _)],qj,HR,by first|trivial|rfl⟩
  case measure=>simp[intOf];omega):P:=h
theorem qen (h:P:=by
 have fe:Bw w (w.alloc (.cells #[I 11,.string t,I n] 128)):=aN _ _
 have ue:=hM.cell2.2.2.1
 have fb:=hM.bl fe
 obtain⟨c2,f2,wu,jr⟩:=fb.cell2
 have eg:B<=(w.alloc (.cells #[I 11,.string t,I n] 128)).heap.size:=qh
 go_enter func174,ntmps174
 go_wp2_with (first|(go_at_call 173;refine(Cg B m (r) x cd pl st lk _ ?_ ?_ ?_).mono ?_;(focus (exact fb));(focus (exact eg));(focus (first|omega|(simp;omega)));rintro e w1 ⟨rfl,af,jv,ce⟩;have gp:B<=w1.heap.size:=(Nat.le_trans eg af.size);obtain⟨dd1,ee1,_,_⟩:=jv.cell2;have cn:w1.cell? ⟨w.heap.size,2,none⟩=some (I (n:Int)):=(by rw[World.cell?_of_block (ce w.heap.size qb)];simp[go_sem]);clear ce))
 go_ret
 exact⟨rfl,((KB.old fe hB).trans af).setM 2 jr _,jv.place _⟩):P:=h
theorem qhe (h:P:=by
 have HL:=hid hl
 obtain⟨c0,c1,c2,c3,c4,c5,c6,c7,c8,c9⟩:=Mw Y4
 obtain⟨k1,k2,k3⟩:=F7.o.c
 clear hl d7 ho7 Y4 hz7 hi7 h e1
 go_wp2_with fail
 refine HL.o.mono ?_
 rintro e w4 ⟨cj,x0,ax,nx,cx,x2,x3,x4,x5,x6,x7,x8,x9,rfl,gj⟩
 have be:Bw w w4:=F5.trans (cj.mono G7)
 have bv:w4.heap[w.heap.size+1+1]?=some zR:=by rw[cj.block _ hz1s];exact F7.o.z
 have HPO:=hid gj
 have pd:=hid bv
 have gi:=hid be
 obtain⟨z0,z1,z2,z3,z4,z5,z6,z7,z8,z9⟩:=Mw bv
 have fz:=fZ pd.o
 clear bv cj HL gj hsz7 be F5 F7
 unfold r10
 go_wp2_with fail
 exact bR (v:=r10 x0 ax nx cx x2 x3 x4 x5 x6 x7 x8 x9) (by simp[results,results114,go_sem,r10,z0,z1,z2,z3,z4,z5,z6,z7,z8,z9]) rfl ⟨Pz gi.o th,(Tt HPO.o ⟨_,pd.o⟩ _ _ _ _ _ _ _ _ _ _).mono G7⟩):P:=h
theorem qhf (h:P:=by
 have xj:Hd (Eb is s'):=Q8
 have l5:Hd (Cd B w2 m s'.stack (.slice a is.length cap) s'.pl s'.steps s'.looks):=jv
 clear hru Q8 jv
 have au:w2.heap[w.heap.size+1+1]?=some (.cells #[.bool false,I 0,ze,.bool false,ze,I 0] 165 (0,0)):=ol.o
 obtain⟨k0,k1,k2,k3,k4,k5⟩:=Zo au
 have f0:=fZ au
 clear au
 unfold Az
 go_wp2
 exact bR (v:=Az false 0 ⟨#[]⟩ jh nm' s'.steps) qdt rfl ⟨((((((fs.o).setB 0 te tg _).setB 1 te tg _).setB 2 te tg _).setB 3 te tg _).setB 4 te tg _).setB 5 te tg _,Or.inr ⟨_,HG.o,Or.inr ⟨jh,nm',s',ky.o,rfl,xj.o,(Cd.turn (Cd.turn (Cd.turn (Cd.turn (Cd.turn (Cd.turn ⟨l5.o,_,ol.o⟩ 0 _) 1 _) 2 _) 3 _) 4 _) 5 _).1⟩⟩⟩):P:=h
theorem qhg (h:P:=by
 by_cases c1:st<k
 ·by_cases c2:n'=0
  ·subst c2;have HR:Hd (s.extract st k=q):=by show _=_;rw[<- Yp aj hg c1];exact HI.o
   clear hg HI;go_wp2;go_ret;exact⟨by rw[<- HR.o];rfl,rfl⟩
  ·have HR:Hd (Bj s (n'-1) (k+1) (k+1)=q):=by show _=_;rw[<- Yo aj hg c1 c2];exact HI.o
   clear hg HI;go_wp2;go_roundw
   case rel=>exact⟨n'-1,k+1,k+1,qb,Nat.le_refl _,qb,qj,qj,qj,HR,by first|trivial|rfl⟩
   case measure=>simp[intOf];omega
 ·have HR:Hd (Bj s n' (k+1) (k+1)=q):=by show _=_;rw[<- Yn aj hg c1];exact HI.o
  clear hg HI;go_wp2;go_roundw
  case rel=>exact⟨n',k+1,k+1,qb,Nat.le_refl _,qb,qj,qj,qj,HR,by first|trivial|rfl⟩
  case measure=>simp[intOf];omega):P:=h
theorem qhh (h:P:=by
 obtain⟨xs,u1⟩:=k.us
 obtain⟨ys,d1,d2⟩:=k.df
 obtain⟨zs,cv,lv,qr⟩:=k.qs
 have aux:∀ {e sz n:Nat} {u:Value} {ys:List Value},w.ownsRow B e sz u n ys->(e=9\/e=97\/e=4)->u.ownBlock=some b->B<=b/\∃ cs T,w.heap[b]?=some (.cells cs T (0,0))/\(T=9\/T=97\/T=4):=fun ho he q=>by
   obtain⟨hB,cs,c1⟩:=Dr ho q;exact⟨hB,cs,_,c1,he⟩
 simp only[Np,List.mem_cons,List.not_mem_nil,or_false] at hu
 rcases hu with rfl|rfl|rfl|rfl|rfl|rfl|rfl
 · exact aux k.tx (Or.inl rfl) q
 · exact aux k.su (Or.inl rfl) q
 · exact aux qr.row (Or.inr (Or.inl rfl)) q
 · exact aux k.ran (Or.inl rfl) q
 · exact aux k.held (Or.inl rfl) q
 · exact aux u1 (Or.inr (Or.inr rfl)) q
 · exact aux d1 (Or.inr (Or.inr rfl)) q):P:=h
theorem qhi (h:P:=by
 rcases e with e|e|e|⟨u,hu,e⟩
 · exact Or.inl (Or.inl e)
 · exact Or.inl (Or.inr (Or.inl e))
 · exact Or.inl (Or.inr (Or.inr (Or.inl e)))
 · simp only[Np,List.mem_cons,List.not_mem_nil,or_false] at hu
   rcases hu with rfl|rfl|rfl|rfl|rfl|rfl|rfl
   · exact Or.inl (An C (u:=r.tx) qq e)
   · exact Or.inl (An C (u:=r.su) qq e)
   · rcases hl b e with q|q;exact Or.inl (An C (u:=r.qv) qq q);exact Or.inr q
   · exact Or.inl (An C (u:=r.nv) qq e)
   · exact Or.inl (An C (u:=r.ev) qq e)
   · exact Or.inl (An C (u:=r.uv) qq e)
   · exact Or.inl (An C (u:=r.dv) qq e)):P:=h
theorem qhj (h:P:=by
 rcases e with e|e|e|⟨u,hu,e⟩
 · exact Or.inl (Or.inl e)
 · exact Or.inl (Or.inr (Or.inl e))
 · exact Or.inl (Or.inr (Or.inr (Or.inl e)))
 · simp only[Np,List.mem_cons,List.not_mem_nil,or_false] at hu
   rcases hu with rfl|rfl|rfl|rfl|rfl|rfl|rfl
   · exact Or.inl (An C (u:=r.tx) qq e)
   · exact Or.inl (An C (u:=r.su) qq e)
   · exact Or.inl (An C (u:=r.qv) qq e)
   · rcases hl b e with q|q;exact Or.inl (An C (u:=r.nv) qq q);exact Or.inr q
   · exact Or.inl (An C (u:=r.ev) qq e)
   · exact Or.inl (An C (u:=r.uv) qq e)
   · exact Or.inl (An C (u:=r.dv) qq e)):P:=h
theorem qhk (h:P:=by
 rcases e with e|e|e|⟨u,hu,e⟩
 · exact Or.inl (Or.inl e)
 · exact Or.inl (Or.inr (Or.inl e))
 · exact Or.inl (Or.inr (Or.inr (Or.inl e)))
 · simp only[Np,List.mem_cons,List.not_mem_nil,or_false] at hu
   rcases hu with rfl|rfl|rfl|rfl|rfl|rfl|rfl
   · exact Or.inl (An C (u:=r.tx) qq e)
   · exact Or.inl (An C (u:=r.su) qq e)
   · exact Or.inl (An C (u:=r.qv) qq e)
   · exact Or.inl (An C (u:=r.nv) qq e)
   · rcases hl b e with q|q;exact Or.inl (An C (u:=r.ev) qq q);exact Or.inr q
   · exact Or.inl (An C (u:=r.uv) qq e)
   · exact Or.inl (An C (u:=r.dv) qq e)):P:=h
theorem qhl (h:P:=by
 rintro e w2 ⟨rfl,ag⟩
 have xq:Hd (KB B m w w2):=fs.o.trans ag
 have au:w2.heap[w.heap.size]?=some (.cells #[.bool false,I 0,ze,.bool false,ze,I 0] 165 (0,0)):=(ag.keep _ _ 165 qd qb gi.o)
 obtain⟨k0,k1,k2,k3,k4,k5⟩:=Zo au
 have f0:=fZ au
 clear au x0 x1 x2
 unfold Az
 go_wp2
 exact bR (v:=Az true 2 (Er s.pl) false ⟨#[]⟩ ((s.steps:Int)+1)) qfv rfl ⟨((((((xq.o).setN 0 hB _).setN 1 hB _).setN 2 hB _).setN 3 hB _).setN 4 hB _).setN 5 hB _,Or.inl ⟨2,(Er s.pl),s.steps+1,HR.o _ (.over fj.o),rfl⟩⟩):P:=h
theorem qhm (h:P:=by
 rintro e w2 ⟨rfl,ag⟩
 have xq:Hd (KB B m w w2):=fs.o.trans ag
 have au:w2.heap[w.heap.size]?=some (.cells #[.bool false,I 0,ze,.bool false,ze,I 0] 165 (0,0)):=(ag.keep _ _ 165 qd qb gi.o)
 obtain⟨k0,k1,k2,k3,k4,k5⟩:=Zo au
 have f0:=fZ au
 clear au x0 x1 x2
 unfold Az
 go_wp2
 exact bR (v:=Az true 3 ⟨#[]⟩ false ⟨#[]⟩ ((s.steps:Int)+1)) qbp rfl ⟨((((((xq.o).setN 0 hB _).setN 1 hB _).setN 2 hB _).setN 3 hB _).setN 4 hB _).setN 5 hB _,Or.inl ⟨3,⟨#[]⟩,s.steps+1,HR.o _ (.over fj.o),rfl⟩⟩):P:=h
theorem qhn (h:P:=by
 rintro e w1 ⟨af,g,cp,rfl,ah⟩
 have hg:=(ah.lt g rfl).1
 simp at hg
 have hb:=bt ak af
 have aq:=Ah ah (B':=w.heap.size) qh
 have c1:w1.cell? ⟨w.heap.size+1,0,none⟩=some nS:=Aa af qk
 have f1:w1.frozen? ⟨w.heap.size+1,0,none⟩=false:=by rw[af.frozen (p:=⟨w.heap.size+1,0,none⟩) qg];simp[go_sem]
 clear ak af ah
 go_wp2
 exact bR (v:=.agg #[.slice (p_ g) is.length cp]) (by simp[results,results125,go_sem,c1]) rfl ⟨hb.setCell (p:=⟨w.heap.size+1,0,none⟩) qg _,g,cp,rfl,Da aq qb _⟩):P:=h
theorem qho (h:P:=by
 have hg6:wc.heap.size ≤ g6:=(HO6.o.lt g6 rfl).1
 have fy:=bt S7 N7
 clear HA6 HO6
 go_wp2
 refine bR (v:=.agg #[I 0,I (m:Int),.slice (p_ g6) (ts.length+1) p6,.slice a2 rn p2,ze,ze]) qdu rfl ⟨Ig (fy.setCell (p:=⟨w.heap.size,1,none⟩) qg _) (Nat.le_succ _) _ _ _ _ _ _,KpS.yes (R:=w.heap.size+1) yo.o HK.o (Ib _ _ _ sy).symm (Al HX6.o T0.o qd _) (Or.inr (zo S7.size)) (Dk.set ⟨_,HR6.o⟩ _) _ _ _ _ _ _⟩):P:=h
theorem qhp (h:P:=by
 go_wp2_with fail
 have hl:=Eo (s.pl:Int) sa s.stack.length cp ((s.steps:Int)+1) s.looks 2 q
 unfold Dt at hl
 refine(hl _).mono ?_
 rintro e w4 ⟨rfl,cj⟩
 have ib:=hid (cw.o.bl cj)
 obtain⟨z0,z1,z2,z3,z4,z5,z6,z7,z8,z9⟩:=Mw ib.o.z
 have fz:=fZ ib.o.z
 clear hl cj
 unfold Dx
 go_wp2_with fail
 exact bR (v:=Dx (s.pl:Int) (.slice sa s.stack.length cp) ((s.steps:Int)+1) s.looks 2 q) qbo rfl ⟨Pz ib.o.b th,Or.inl ⟨2,q,s.steps+1,fj.o,_,_,_,_,_,rfl⟩⟩):P:=h
theorem qhq (h:P:=by
 clear hru
 have au:w2.heap[w.heap.size+1+1]?=some (.cells #[.bool false,I 0,ze,.bool false,ze,I 0] 165 (0,0)):=ol.o
 obtain⟨k0,k1,k2,k3,k4,k5⟩:=Zo au
 have f0:=fZ au
 clear au
 unfold Az
 go_wp2
 exact bR (v:=Az true c t false ⟨#[]⟩ n) qdt rfl ⟨((((((fs.o).setB 0 te tg _).setB 1 te tg _).setB 2 te tg _).setB 3 te tg _).setB 4 te tg _).setB 5 te tg _,Or.inr ⟨_,HG.o,Or.inl ⟨c,t,n,ky.o,rfl⟩⟩⟩):P:=h
theorem qhr (h:P:=by
 have M8:(m:Int)<(ss.length:Int):=qb
 cases v
 ·go_wp2_with fail;refine(HN.o _).mono ?_;rintro e w2 ⟨ag,rfl⟩;go_wp2_with fail;go_roundw
  case rel=>exact⟨lo,m,rfl,rfl,vr,qb,HL.o,Te jk.o HV.o,bt bc ag⟩
  case measure=>simp[intOf];omega
 ·go_wp2_with fail;refine(HN.o _).mono ?_;rintro e w2 ⟨ag,rfl⟩;go_wp2_with fail;go_roundw
  case rel=>exact⟨m+1,hi,qj,rfl,qb,qb,Yy jk.o (zo zr.o) HV.o,HH.o,bt bc ag⟩
  case measure=>simp[intOf];omega):P:=h
theorem qeo (h:P:=by
 go_enter func176,ntmps176
 go_wp2_with (first|(at_builtin;refine wpList_append_lies _ rfl (.tmp 23) (.tmp 24) 22 rfl B 9 i0 ze 1 16 underlying22 hi bp bh bv rfl qd _ _ _ rfl HO.o ⟨vb,0,none⟩ 1 1 [y] rfl rfl HN.o h1v qb qm qb hB _ rfl ?_;intro g' cp w2 k1 ae ct hlt';obtain⟨k2,k3⟩:=HB.o g' cp w2 k1 ae;have HLIE:Hd _:=ct;clear ae hlt' ct))
 go_ret
 exact⟨g',cp,rfl,k1,k2,k3,HLIE.o⟩):P:=h
theorem qhs (h:P:=by
 obtain⟨z0,z1,z2,zf⟩:=Ea og.o
 go_wp2_with fail
 obtain⟨y0,y1,y2,_⟩:=Ea (Bi og.o (I 0) ze nS)
 exact bR (v:=.tuple #[.agg #[I 0,ze,nS],I (-1)]) (by simp[results,results71,go_sem,y0,y1,y2]) rfl ⟨_,_,_,ki.o,Or.inr ⟨bb,nb,rfl,rfl,(J8.o.trans fl.o).set3 qb qb _ _ _,vj.o.set3 ⟨_,og.o⟩ qd qd _ _ _⟩⟩):P:=h
theorem qht (h:P:=by
 obtain⟨z0,z1,z2,zf⟩:=Ea ig.o
 go_wp2_with fail
 obtain⟨y0,y1,y2,_⟩:=Ea (Bi ig.o (I 0) ze nS)
 exact bR (v:=.tuple #[.agg #[I 0,ze,nS],I (-1)]) (by simp[results,results90,go_sem,y0,y1,y2]) rfl (Or.inr ⟨_,_,_,.bad Ge.o,rfl,(J8.o.trans fl.o).set3 qb qb _ _ _,vj.o.set3 ⟨_,ig.o⟩ qd qd _ _ _⟩)):P:=h
theorem qch (h:P:=by
 show _=_
 rw[← eW]
 have:=Gq ((w.alloc (.cells #[I n,.slice (some ⟨tb,tf,none⟩) T.length tc,.slice qa R.length qc] 34)).alloc (.cells #[.slice sa ss.length c1,.slice ta ts.length c2] 42)) (.cells z10 36)
 rwa [show ((w.alloc (.cells #[I n,.slice (some ⟨tb,tf,none⟩) T.length tc,.slice qa R.length qc] 34)).alloc (.cells #[.slice sa ss.length c1,.slice ta ts.length c2] 42)).heap.size=w.heap.size+2 from qg] at this):P:=h
theorem qhu (h:P:=by
 obtain⟨k0,k1,k2,k3,k4,k5⟩:=Zo au
 have f0:=fZ au
 clear au x0 x1 x2
 unfold Az
 go_wp2
 exact bR (v:=Az true 2 (Er s.pl) false ⟨#[]⟩ ((s.steps:Int)+1)) qfv rfl ⟨((((((xq.o).setN 0 hB _).setN 1 hB _).setN 2 hB _).setN 3 hB _).setN 4 hB _).setN 5 hB _,Or.inl ⟨2,(Er s.pl),s.steps+1,HR.o _ (.over fj.o),rfl⟩⟩):P:=h
theorem qhv (h:P:=by
 rintro e w1 ⟨af,r,rfl,hr⟩
 rcases hr with hr|hr
 · go_wp2
   go_ret;exact⟨bc.trans (af.mono bc.size),-1,rfl,Or.inl qb⟩
 · have A6:0 ≤ r:=qb
   have lj:r ≤ q:=qb;go_wp2;go_roundw
   case rel=>exact⟨k+1,_,qb,qj,rfl,qb,qb,bc.trans (af.mono bc.size),Cp HK.o (by rw[EI.o];omega)⟩
   case measure=>simp[intOf];omega):P:=h
theorem qhw (h:P:=by
 have h:=World.ownsRow_lit (base:=w.heap.size+1+1) (e:=128) (size:=3) ((w.alloc (.cells #[.slice (some ⟨b,off,none⟩) is.length cap] 94)).alloc (.cells #[nS] 94)) #[] 0 qg qm qg
 rw[show ((w.alloc (.cells #[.slice (some ⟨b,off,none⟩) is.length cap] 94)).alloc (.cells #[nS] 94)).heap.size=w.heap.size+1+1 from qg] at h
 exact h):P:=h
theorem qhx (h:P:=by
 intro i hi
 rcases Nat.lt_or_ge i k with hl|hl
 · obtain⟨h1,h2,h3⟩:=h i hl
   simp only[List.getElem?_set];rw[if_neg qb,if_neg qb,if_neg qb,if_neg qb,if_neg qb,if_neg qb,if_neg qb,if_neg qb,if_neg qb];exact⟨h1,h2,h3⟩
 · obtain rfl:i=k:=qb
   refine⟨?_,?_,?_⟩<;>simp[List.getElem?_set]<;>omega):P:=h
theorem qhy (h:P:=by
 by_cases he:nm=s
 ·have oy:=Cw he;have HE:Hd (nm=s):=he;clear he;go_wp2;go_ret;exact⟨ak,Or.inl ⟨k,rfl,aj,by rw[EN.o];exact HE.o⟩⟩
 ·have oy:=Gl he;have HE:Hd (nm≠s):=he;clear he;go_wp2;go_roundw
  case rel=>exact⟨k+1,qb,qj,Cp HA.o (by rw[EN.o];exact HE.o),trivial⟩
  case measure=>simp[intOf];omega):P:=h
theorem qhz (h:P:=by
 rw[af.block _ qg]
 have h:=Ni ((w.alloc (.cells #[.slice a is.length ac] 94)).alloc (.cells #[I c,.string t,.slice ca nc cc] 105)) (.cells #[nS,nS,ze] 97)
 rw[show ((w.alloc (.cells #[.slice a is.length ac] 94)).alloc (.cells #[I c,.string t,.slice ca nc cc] 105)).heap.size=w.heap.size+1+1 from qg] at h
 exact h):P:=h
theorem qia (h:P:=by
 have HD:=hid (show Bc ss ts C.n m1 s1 st (.run is [] []) m2 s2 (.bad b)/\Db W0.heap.size C w5 b v/\KQ W0.heap.size h mb C av kv r r2 w w5 from ⟨hd5,hf5,my.o.1.trans my.o.2.1 my.o.2.2 cq.o jg⟩)
 clear jg hd5 hf5 hK
 unfold Kq
 dsimp only
 clear K
 go_wp2_with fail
 exact⟨rfl,Or.inr ⟨b,v,r2,m2,s2,rfl,HD.o.2.2,.rfell HB.o HD.o.1,HD.o.2.1⟩⟩):P:=h
theorem qep (h:P:=by
 rw[show (decide ((t.size:Int)<=0) && decide (0<=n) && decide (n<=2000))=false from qdr]
 clear hz
 go_enter func65,ntmps65
 go_wp2_with (first|(go_at_call 84;refine((Hw.o) _).mono ?_;rintro e w' ⟨rfl,rfl⟩))
 go_ret
 exact⟨aN _ _,rfl⟩):P:=h
theorem qib (h:P:=by
 intro i hi
 rcases Nat.lt_or_ge i k with hl|hl
 · obtain⟨h1,h2,h3⟩:=h i hl
   simp only[List.getElem?_set];rw[if_neg qb,if_neg qb,if_neg qb,if_neg qb,if_neg qb,if_neg qb,if_neg qb,if_neg qb,if_neg qb];exact⟨h1,h2,h3⟩
 · obtain rfl:i=k:=qb
   simp[List.getElem?_set];omega):P:=h
theorem qeq (h:P:=by
 rw[show (decide ((t.size:Int)<=0) && decide (0<=n) && decide (n<=200))=false from qdr]
 clear hz
 go_enter func65,ntmps65
 go_wp2_with (first|(go_at_call 84;refine((Hw.o) _).mono ?_;rintro e w' ⟨rfl,rfl⟩))
 go_ret
 exact⟨aN _ _,rfl⟩):P:=h
theorem qci (h:P:=by
 show _=_
 rw[← eW]
 have:=Gq (w.alloc (.cells #[I n,.slice (some ⟨tb,tf,none⟩) T.length tc,.slice qa R.length qc] 34)) (.cells #[.slice sa ss.length c1,.slice ta ts.length c2] 42)
 rw[show (w.alloc (.cells #[I n,.slice (some ⟨tb,tf,none⟩) T.length tc,.slice qa R.length qc] 34)).heap.size=w.heap.size+1 from qg] at this
 exact Rt this):P:=h
theorem qic (h:P:=by
 rw[show (decide ((t.size:Int)<=0) && decide (0<=n) && decide (n<=0))=false from qdr]
 clear hz
 go_enter func65,ntmps65
 go_wp2_with (first|(go_at_call 84;refine((Hw.o) _).mono ?_;rintro e w' ⟨rfl,rfl⟩))
 go_ret
 exact⟨aN _ _,rfl⟩):P:=h
theorem qid (h:P:=by
 rw[show (decide ((t.size:Int)<=2000) && decide (0<=n) && decide (n<=0))=false from qdr]
 go_enter func65,ntmps65
 go_wp2_with (first|(go_at_call 84;refine((Hw.o) _).mono ?_;rintro e w' ⟨rfl,rfl⟩))
 go_ret
 exact⟨aN _ _,rfl⟩):P:=h
theorem qie (h:P:=by
 have hw:Region.wanted o (yielded ops a.tmps)=true:=qbz
 rw[if_pos hw]
 refine wp_append_own w s x t ho base e i z size bytes ht hi hz hsize hby hzs de _ dl xs hs ah ad m c news hx hl lm h1 h63 hbytes hbase fun v' w' h2 h3 h4=>?_
 obtain⟨g,cap,rfl⟩:=Ml h2 (fun e=>by have:=(h4.1 e).1;cases this)
 exact h g cap w' h2 h3):P:=h
theorem qig (h:P:=by
 go_simp
 refine hK.out _ _ (fun h=>absurd rfl h) (fun _=>?_)
 clear hK K C9
 refine Lt.done qi ?_ _
 go_wp2
 go_roundw
 case rel=>exact⟨k+1,_,qb,qj,HNP.o,Cp HA.o (by rw[ES.o];exact gk),hbP7.setCell (p:=⟨P,1,none⟩) (Nat.le_refl _) _,by simpa using hs7⟩
 case measure=>simp[intOf];omega):P:=h
theorem qer (h:P:=by
 have fg:Bw w w2:=(aN _ _).grown ae qg (fun k hk=>(dm.lt k hk).1)
 rw[Nat.zero_add,List.nil_append] at ba
 obtain⟨g,cp,rfl⟩:=Ml ba (fun e=>by have:=(dp.1 e).1;cases this)
 clear ae dm hn dp
 go_wp2
 go_ret
 exact⟨fg,g,cp,rfl,ba⟩):P:=h
theorem qih (h:P:=by
 intro i hi
 have hi':i<len:=by simpa using hi
 obtain⟨h1,h2,h3,_⟩:=hf i hi'
 rw[A9 i hi']
 obtain⟨b,off,spot⟩:=a
 have oo:spot=none:=by
   have:=World.cell?_spot (hf 0 qb).1;simpa [Addr.add] using this
 subst oo
 simp only[Addr.add_lit] at h1 h2 h3
 exact⟨b,off,rfl,h1,h2,h3⟩):P:=h
theorem qii (h:P:=by
 go_enter func142,ntmps142
 go_wp2_with fail
 go_quiet (first|(go_at_call 158;exact Calls.quiet_of_same (Pi _ _))|(go_at_call 159;exact Calls.quiet_of_same (Mn _ _)))
 go_wp2
 go_ret
 exact⟨below_drewN (aN _ _) _,by simp[e1,e2];try rfl⟩):P:=h
theorem qij (h:P:=by
 obtain⟨g',nr,Q5⟩:∃ g cap,v'=.slice (p_ g) (k+1) cap:=by
  rcases ba.2 with ⟨_,h0⟩|⟨g,cap,cur,hv,_⟩
  ·omega
  ·exact⟨g,cap,hv⟩
 rw[HS.o,Q5] at ba
 exact⟨⟨k+1,_,_,qb,qj,Q5,ba,fg⟩,qar⟩):P:=h
theorem qik (h:P:=by
 have s1:=HS.o.bl hV
 have hb:=rm.o.trans (hV.mono bj)
 exact has_any h sa ta c1 c2 ss ts nm V (by rw[cH s1.blk];rfl) (by rw[cH s1.blk];rfl) (HE.o.rs.bl hb) (HE.o.rt.bl hb) (zo HE.o.l1) (zo HE.o.l2)):P:=h
theorem qil (h:P:=by
 have h:=Be (w.alloc (.cells #[.slice a is.length cap] 94)) (.cells #[.bool false,I 0,ze,.bool false,ze,I 0] 165)
 rw[show (w.alloc (.cells #[.slice a is.length cap] 94)).heap.size=w.heap.size+1 from qg] at h
 exact h):P:=h
theorem qes (h:P:=by rcases (show o=0\/o=1\/o=2\/o=3\/o=4\/o=5\/o=6\/o=7\/o=8\/o=9\/o=10\/o=11\/o=12\/o=13\/o=14\/o=15 from qb) with rfl|rfl|rfl|rfl|rfl|rfl|rfl|rfl|rfl|rfl|rfl|rfl|rfl|rfl|rfl|rfl<;>rfl):P:=h
theorem qim (h:P:=by
 have hlI:¬ (lo:Int)<(ss.length:Int):=qb
 have HE:Hd (¬ Ec l t):=fun h=>wv (by have:=(Mp jk.o HL.o HH.o h).1;have:=zr.o;omega)
 clear wv
 go_wp2_with fail
 go_ret2
 exact⟨bc,lo,Or.inl ⟨rfl,hle,HL.o,HH.o,Dy HE.o⟩⟩):P:=h
theorem qin (h:P:=by
 clear ah aq ag am
 go_wp2
 go_roundw
 case rel=>exact⟨k+1,_,qb,qj,(((HO.o.stored _ _).1.stored _ _).1.stored _ _).1,uh,((kw.setCell (Nat.le_refl _) _).setCell (Nat.le_refl _) _).setCell (Nat.le_refl _) _⟩
 case measure=>simp[intOf];omega):P:=h
theorem qio (h:P:=by
 go_simp
 refine hK.out _ _ (fun h=>absurd rfl h) (fun _=>?_)
 clear hK K C9
 refine Lt.done qi ?_ _
 go_wp2
 go_roundw
 case rel=>exact⟨k+1,_,qb,qj,HNP.o,hbP7.setCell (p:=⟨P,2,none⟩) uq _⟩
 case measure=>simp[intOf];omega):P:=h
theorem qao (h:P:=by
 have HS:Hd (Cx (s.data.toList.take (k+1))=hstep (Cx (s.data.toList.take k)) s[k].toNat):=by rw[take_snocV s k aj];exact hash_snoc _ _
 go_wp2
 go_round
 case rel=>exact⟨k+1,qb,qj,by rw[HS.o];rfl⟩
 case measure=>simp[intOf];omega):P:=h
theorem qip (h:P:=by
 show _=_
 rw[← eW,← eQ]
 have:=Gq (w.alloc (.cells #[.slice a is.length ac] 94)) (.cells #[I 0,ze,nS] 105)
 rwa [show (w.alloc (.cells #[.slice a is.length ac] 94)).heap.size=w.heap.size+1 from qg] at this):P:=h
theorem qiq (h:P:=by
 clear he HI
 go_wp2
 go_roundw
 case rel=>exact Or.inr ⟨by first|trivial|rfl,by subst ek;go_num,HR,by first|trivial|rfl,by first|exact⟨_,rfl⟩|trivial,by first|exact⟨_,rfl⟩|trivial⟩
 case measure=>simp[intOf];omega):P:=h
theorem qir (h:P:=by
 subst hn
 intro i hi
 obtain⟨h1,h2,h3⟩:=hf i hi
 refine⟨g,0,rfl,?_,?_,?_⟩
 · rw[Nat.zero_add,h.cellAt _ qb];exact h1
 · rw[Nat.zero_add,h.cellAt _ qb];exact h2
 · rw[Nat.zero_add,h.cellAt _ qb];exact h3):P:=h
theorem qis (h:P:=by
 have ek:k=n:=qb
 subst ek
 have HEQ:=hid (show is=js from ix_ext (zt.o.trans HLB.o.symm) (fun j hj=>HN.o j (zo zt.o)))
 clear HN
 go_wp2
 go_ret
 exact⟨hB,true,rfl,by simp only[true_iff];exact HEQ.o⟩):P:=h
theorem qbc (h:P:=by
 go_wp2
 go_loopw [1,5] (fun k i wr=>i=I 0∧k=I (K:Int)∧w=wr) (fun _ i _=>0)
 case atStart=>exact⟨rfl,rfl,rfl⟩
 case round=>
   obtain⟨rfl,rfl,rfl⟩:=hrel;go_wp2;go_ret;exact⟨rfl,rfl⟩):P:=h
theorem qit (h:P:=by
 have HD:Hd (Kp w _ _ wr.drew):=HK.o.bl (Below.refl _ _).drew
 go_wp2
 go_region
 all_goals
  go_wp2;go_roundw
  case rel=>exact⟨m+1,qb,qj,Mx HA.o HV.o,HD.o⟩
  case measure=>simp[intOf];omega):P:=h
theorem qet (h:P:=by
 go_wp2
 go_loopw [1,5] (fun k i wr=>i=I 0/\k=I (K:Int)/\w=wr) (fun _ i _=>0)
 case atStart=>exact⟨rfl,rfl,rfl⟩
 case round=>
   obtain⟨rfl,rfl,rfl⟩:=hrel;go_wp2;go_ret;exact⟨rfl,rfl⟩):P:=h
theorem qiu (h:P:=by exact bR (v:=.agg #[.slice (p_ g) is.length cp]) (by simp[results,results66,go_sem,c1]) rfl ⟨hB.setCell (p:=⟨w.heap.size+1,0,none⟩) qg _,g,cp,rfl,Da J4.o qb _⟩):P:=h
theorem qiv (h:P:=by
 have hne:∀ b,(Value.slice (p_ g) is.length cp).ownBlock=some b→b≠w.heap.size+1+1:=fun b hb=>by cases hb;show g≠_;omega
 exact Jd (Jd (Jd kd.o hne _) hne _) hne _):P:=h
theorem qiw (h:P:=by
 rw[if_pos qb,if_neg qb,if_pos qb,if_neg qb,if_neg qb,show i*3 / 3=i from qb,show (i*3+1) / 3=i from qb,show (i*3+2) / 3=i from qb]
 exact⟨rfl,rfl,rfl⟩):P:=h
theorem qix (h:P:=by
 intro v' b e q
 obtain⟨_,v,k1,k2⟩:=hk
 unfold Fj at k1
 rw[cH k1] at e
 have e':v'=v:=by simpa using e.symm
 subst e'
 obtain⟨_,cur,hh⟩:=Dr k2 q
 exact keep b _ 9 qd hh):P:=h
theorem qiy (h:P:=by
 go_wp2_with fail
 go_roundw
 case rel=>exact⟨k+1,q,qb,qj,rfl,Or.inr (by rw[Nat.add_sub_cancel];exact HQ.o.symm),d6.o,HA1.o,z0,z1,z2,be⟩
 case measure=>simp[intOf];omega):P:=h
theorem qiz (h:P:=by
 intro v' b e q
 obtain⟨_,v,k1,k2⟩:=hk
 unfold Fj at k1
 rw[cH k1] at e
 have e':v'=v:=by simpa using e.symm
 subst e'
 exact ne b (fun e=>Ad k2 qd tb (e▸q))):P:=h
theorem qja (h:P:=by
 unfold Rp
 rw[e,List.length_append,List.length_singleton]
 exact((Gg (Gg (Gg (Gg (Gg (Gg (Gg (Gg (Gg (Gg ⟨h1.1,h2⟩ 0 _) 1 _) 2 _) 3 _) 4 _) 5 _) 6 _) 7 _) 8 _) 9 _)).1):P:=h
theorem qjb (h:P:=by
 clear hz
 go_enter func65,ntmps65
 go_wp2_with (first|(go_at_call 84;refine((Hw.o) _).mono ?_;rintro e w' ⟨rfl,rfl⟩))
 go_ret
 exact⟨aN _ _,rfl⟩):P:=h
theorem qjc (h:P:=by
 clear hn
 go_enter func65,ntmps65
 go_wp2_with (first|(go_at_call 84;refine((Hw.o) _).mono ?_;rintro e w' ⟨rfl,rfl⟩))
 go_ret
 exact⟨aN _ _,rfl⟩):P:=h
theorem qeu (h:P:=by rcases (show o=1\/o=2\/o=3\/o=4\/o=5\/o=6\/o=7\/o=8\/o=9\/o=10\/o=11 from qb) with rfl|rfl|rfl|rfl|rfl|rfl|rfl|rfl|rfl|rfl|rfl<;>rfl):P:=h
theorem qjd (h:P:=by
 go_enter func64,ntmps64
 go_wp2_with (first|(go_at_call 23;refine(Bx g.name _ hn).mono ?_;rintro e w9 ⟨rfl,rfl⟩;rw[e1]))
 go_ret
 exact⟨ak,false,rfl,Dy HH.o⟩):P:=h
theorem qje (h:P:=by
 unfold Go.Proofs.YtfgoholldpeabaaGreatDoor.fd at *
 rw[List.find?_append]
 cases hf:ms.find? (fun e=>decide (e.1=nm)) with
 | some x=>rw[hf] at k;simpa using k
 | none=>rw[hf] at k;cases k):P:=h
theorem qjf (h:P:=by
 refine⟨On.o.1,?_⟩
 rcases On.o.2 with ⟨h2,_⟩|⟨g',cap,cur,hv,hg,hh,r⟩
 · cases h2
 · cases hv
   exact Or.inr ⟨g,cp,cur,rfl,hg,by rw[bc.block g hgP];exact hh,r⟩):P:=h
theorem qjg (h:P:=by
 by_cases hn:Am (Bp s.stack)
 ·by_cases hk:s.looks=200
  ·rw[Hi hf ho hn hk] at h;cases h
  ·rw[Jm hf ho hn hk] at h;cases h
 ·rw[Ld hf ho hn] at h;cases h):P:=h
theorem qjh (h:P:=by
 generalize nx ts k=x at *
 have d3:decide ((2002:Int)<(x.size:Int))=true:=qh
 unfold maxLen at fx
 go_wp2_with fail
 go_ret
 exact⟨bc,false,rfl,Dy HN.o⟩):P:=h
theorem qji (h:P:=by
 obtain rfl:j=k:=qb
 simp only[if_neg (show ¬ i=j from qb),if_true]
 intro b e1 e2
 obtain⟨zs,k1,_⟩:=h.code i td
 have:=(k1.lt b e1).2
 have:=(ho.lt b e2).1
 omega):P:=h
theorem qjj (h:P:=by
 rintro w ⟨s1,s2,s3,s4⟩
 have p0:=Ho s3
 obtain⟨x0,x1,x2⟩:=Bb s4
 have y0:=cK s1 0
 obtain⟨n0,-,n2,-⟩:=Lk s2
 go_simp
 first|done|with_reducible rfl):P:=h
theorem qjk (h:P:=by
 go_wp2_with (first|(go_at_call 106;refine(Dg g.name _ R5).mono ?_;rintro e w9 ⟨rfl,rfl⟩;rw[e1]))
 go_ret
 exact⟨bc.alloc bc.size _,false,rfl,Dy HO.o⟩):P:=h
theorem qev (h:P:=by exact((hB.setCell (p:=⟨w.heap.size+1,0,none⟩) qg _).setCell (p:=⟨w.heap.size+1,1,none⟩) qg _).setCell (p:=⟨w.heap.size+1,2,none⟩) qg _):P:=h
theorem qjl (h:P:=by
 go_enter func21,ntmps21
 go_wp2_with (first|(go_at_call 44;refine(Jz _ _ qb qb).mono ?_;rintro e w9 ⟨rfl,rfl⟩))
 go_ret
 exact⟨ak,rfl⟩):P:=h
theorem qjm (h:P:=by
 have d3:decide ((200:Int)<(gs.length:Int))=true:=qh
 go_wp2
 go_ret
 exact⟨bg,false,rfl,Dy (fun k=>by have:=k.2.2.1;simp only at this;omega)⟩):P:=h
theorem qjn (h:P:=by
 intro i hi
 obtain⟨h1,h2,h3⟩:=hm i hi
 exact⟨by rw[h.cellAt _ qb];exact h1,by rw[h.cellAt _ qb];exact h2,by rw[h.cellAt _ qb];exact h3⟩):P:=h
theorem qjo (h:P:=by
 have:=Xu (ts:=ts) (ms:=ms) (st:=st) X0.o.1 (by rw[X0.o.2.1];exact HF.o.2.2.2.1) (by rw[X0.o.2.1];exact HF.o.2.1)
 rw[X0.o.2.1] at this;exact this):P:=h
theorem qew (h:P:=by
 simp only[Jb,List.cons.injEq,and_true,true_and] at h1
 obtain⟨rfl,rfl,rfl,rfl,rfl⟩:=h1
 exact⟨_,_,_,_,_,_,_,_,_,_,_,_,_,_,_,_,_,_,_,_,rfl⟩):P:=h
theorem qjp (h:P:=by
 rw[gu.o b (fun q2=>?_),vg.o b cur q]
 have q3:=I9.o
 rw[← q2,vg.o b cur q,q] at q3
 injection q3 with q3;injection q3 with _ q3;exact absurd q3 qd):P:=h
theorem qjq (h:P:=by
 rw[hne b (fun e=>by
   subst e;rw[hg] at hb;injection hb with hb;injection hb with _ hb
   rcases hT with e|e<;>rw[e] at hb<;>exact absurd hb qd)]
 exact hb):P:=h
theorem qda (h:P:=by
 have hb:=World.block_lt_of_cell? _ _ h
 rw[World.cell?_alloc_lt _ _ _ qh,World.cell?_alloc_lt _ _ _ qh,World.cell?_alloc_lt _ _ _ hb];exact h):P:=h
theorem qjr (h:P:=by
 rintro e w1 ⟨af,r,rfl,hr⟩
 have bg:=bt ak af
 clear ak af
 go_wp2
 all_goals go_ret
 · exact⟨bg,-1,rfl,qb⟩
 · exact⟨bg,r,rfl,qb⟩):P:=h
theorem qjs (h:P:=by
 go_wp2_with fail
 refine(HN.o _).mono ?_
 rintro e w2 ⟨ag,rfl⟩
 go_wp2_with fail
 go_ret2
 exact⟨bt bc ag,lo,true,rfl,hle,HL.o,HH.o,Fy HE.o⟩):P:=h
theorem qjt (h:P:=by
 go_wp2_with fail
 refine(HN.o _).mono ?_
 rintro e w2 ⟨ag,rfl⟩
 go_wp2_with fail
 go_ret2
 exact⟨bt bc ag,lo,false,rfl,hle,HL.o,HH.o,Dy HE.o⟩):P:=h
theorem qju (h:P:=by
 rw[List.length_append,List.length_singleton,show Ax (st++[nm])=Ax st++[.string nm] from qai]
 exact Aj ho (fun b q=>ru b (hgh b q))):P:=h
theorem qjv (h:P:=by
 go_wp2
 go_roundw
 case rel=>exact⟨m+1,qb,qj,congrArg (Value.int .i64) (zo HE.o),be⟩
 case measure=>simp[intOf];omega):P:=h
theorem qjw (h:P:=by
 go_wp2
 go_roundw
 case rel=>exact⟨k+1,_,qb,qj,rfl,qb,qb,bc.trans (af.mono bc.size)⟩
 case measure=>simp[intOf];omega):P:=h
theorem qjx (h:P:=by
 have ek:k=is.length:=qb
 subst ek
 rw[List.take_of_length_le qb] at ah
 go_wp2
 go_ret
 exact⟨am,ao,cp,rfl,strs_own qb ah⟩):P:=h
theorem qjy (h:P:=by
 go_wp2_with fail
 refine(Tryz.strings_Compare _ t _).mono ?_
 rintro e w2 ⟨rfl,rfl⟩
 go_wp2
 go_ret
 exact⟨aN _ _,rfl⟩):P:=h
theorem qjz (h:P:=by
 have hs:=World.cells?_some hc
 exact⟨t,by simpa using hs.2.2 0 qb,by simpa using hs.2.2 1 qb,by simpa using hs.2.2 2 qb,Q6⟩):P:=h
theorem qkb (h:P:=by
 rintro w ⟨s1,s2⟩
 obtain⟨-,-,u2,u3,u4,-,-,u7,u8⟩:=ck9 s1
 obtain⟨x0,x1,x2⟩:=Bb s2
 go_simp
 first|done|with_reducible rfl):P:=h
theorem qkc (h:P:=by
 have h:=Cq (K+3*m+2) W qb Do
 rw[show ((K+3*m+2:Nat):Int)=((K+3*m:Nat):Int)+1+1 from qb] at h
 exact h):P:=h
theorem qkd (h:P:=by
 refine Below.setCell (p:=⟨h,4,none⟩) (((Below.refl B w).alloc hB _).grown hg qh (fun b q=>?_)) s.hB _
 exact(Lb s.stk b q).1):P:=h
theorem qke (h:P:=by rw[hne _ (fun e=>by have q2:=q.rs.sh;rw[e,hg] at q2;injection q2 with q2;injection q2 with _ q2;exact absurd q2 qd)];exact q.rs.sh):P:=h
theorem qkf (h:P:=by rw[hne _ (fun e=>by have q2:=q.rs.bd;rw[e,hg] at q2;injection q2 with q2;injection q2 with _ q2;exact absurd q2 qd)];exact q.rs.bd):P:=h
theorem qkg (h:P:=by
 intro b e e'
 obtain rfl:g3=b:=qby
 rcases ct with hl|hl
 · exact h.ne g3 hl e'
 · have:=(ot.lt g3 e').2;omega):P:=h
theorem qkh (h:P:=by
 intro b e e'
 obtain rfl:g3=b:=by simpa [Value.ownBlock] using e'
 rcases ct with hl|hl
 · exact h.ne g3 e hl
 · have:=(os.lt g3 e).2;omega):P:=h
theorem qki (h:P:=by
 go_upto_region 16 with fail
 go_wp2_with fail
 exact⟨⟨i+1,ms1,s1,av1,kv1,vs1,r1,qb,qj,ph.o⟩,qar⟩):P:=h
theorem qkj (h:P:=by
 rintro w ⟨s1,s2⟩
 obtain⟨q0,q1,q2,q3,q4,q5⟩:=Gw s1
 obtain⟨r0,r1,r2⟩:=Bb s2
 go_simp
 first|done|with_reducible rfl):P:=h
theorem qkk (h:P:=by
 refine⟨h.1,?_⟩
 rcases h.2 with h|⟨g,cap,cur,hv,hg,r⟩
 ·exact Or.inl h
 ·exact Or.inr ⟨g,cap,cur,hv,Nat.le_trans hB hg,r⟩):P:=h
theorem qbi (h:P:=by
 rintro w ⟨s1,s2,s3,s4⟩
 obtain⟨l0,l1,l2,-⟩:=Ea s1
 obtain⟨x0,x1,x2,-⟩:=Ea s2
 go_simp
 first|done|with_reducible rfl):P:=h
theorem qkl (h:P:=by
 rintro e w' ⟨he,hb,hk,ys,ho,hm⟩
 exact⟨he,hb,fun b hl hne=>hk b hl (fun e=>hne (by subst e;rfl)),ys,⟨ho,hr.top⟩,hm⟩):P:=h
theorem qex (h:P:=by
 simp only[Jb,List.cons.injEq,and_true,true_and] at h
 obtain⟨rfl,rfl,rfl,rfl,rfl⟩:=h
 exact⟨rfl,rfl,Kt _ _,rfl,rfl⟩):P:=h
theorem qkm (h:P:=by
 rw[eT.out] at hk
 rw[el] at b1
 have hlI:(l:Int)+1<=50:=qb
 clear el
 go_wp2_with fail
 go_meet
 case rel=>exact⟨rfl,rfl⟩):P:=h
theorem qkn (h:P:=by
 rintro w ⟨r1,r2⟩
 obtain⟨p0,p1,p2,-⟩:=Ea r1
 obtain⟨q0,q1,q2,-⟩:=Ea r2
 go_simp
 first|done|with_reducible rfl):P:=h
theorem qko (h:P:=by
 have d2:((out.size:Int) != (n:Int))=true:=qh
 go_wp2
 go_ret
 exact⟨bg,false,rfl,Dy (fun k=>h2 k.2.1)⟩):P:=h
theorem qkp (h:P:=by
 refine⟨h.1,?_⟩
 rcases h.2 with k|⟨g,cap,cur,e,hg,r⟩
 ·exact Or.inl k
 ·exact Or.inr ⟨g,cap,cur,e,qb,r⟩):P:=h
theorem qkq (h:P:=by
 cases hv
 refine Or.inr ⟨g,cap,cur,rfl,hg,?_,r⟩
 rw[hC w ⟨b,j,none⟩ v g (fun e=>hb e.symm)];exact hh):P:=h
theorem qkr (h:P:=by
 rcases h:out.toList with _|⟨x,l⟩
 · exfalso
   apply ho;rw[ByteArray.toList_eq] at h;exact WideShapes.bytes_inj h
 · rfl):P:=h
theorem qey (h:P:=by
 intro i hi
 obtain⟨b,off,ha,h1,h2,h3⟩:=h i hi
 exact⟨b,off,ha,Aa hb h1,Aa hb h2,Aa hb h3⟩):P:=h
theorem qks (h:P:=by
 rintro w ⟨s1,s2⟩
 obtain⟨x0,x1,x2⟩:=Bb s1
 obtain⟨y0,y1⟩:=Fr s2
 go_simp
 first|done|with_reducible rfl):P:=h
theorem qbj (h:P:=by
 rintro w ⟨r1,r2⟩
 obtain⟨p0,p1,p2,-⟩:=Ea r1
 obtain⟨s0,s1⟩:=Fr r2
 go_simp
 first|done|with_reducible rfl):P:=h
theorem qkt (h:P:=by rw[ne R (fun e=>by subst e;rw[tb] at rb;injection rb with rb;injection rb with _ rb;exact absurd rb qd)];exact rb):P:=h
theorem qku (h:P:=by
 go_wp2_with fail
 go_roundw
 case rel=>exact⟨k+1,qb,qj,qae,ph⟩
 case measure=>simp[intOf];omega):P:=h
theorem qkv (h:P:=by
 clear sr I2 yb
 unfold Kq
 go_wp2_with fail
 exact⟨rfl,Or.inr ⟨v,bb,_,r2,rfl,.bad Ge.o,vi.o.2,vi.o.1⟩⟩):P:=h
theorem qkw (h:P:=by
 rintro w ⟨s1,s2,s3,s4⟩
 have p0:=Ho s3
 obtain⟨x0,x1,x2⟩:=Bb s4
 go_simp
 first|done|with_reducible rfl):P:=h
theorem qkx (h:P:=by
 rintro e w' ⟨he,hb,hk,ys,ho,hm⟩
 exact⟨he,hb,fun b hl hne=>hk b hl (fun e=>hne (by subst e;rfl)),ys,ho,hm⟩):P:=h
theorem qcj (h:P:=by
 intro i h
 have:f i=Classical.choose (E9 i h):=by simp only[f,dif_pos h]
 rw[this];exact Classical.choose_spec (E9 i h)):P:=h
theorem qky (h:P:=by
 rintro w ⟨r1,r2⟩
 obtain⟨p0,p1⟩:=Fr r1
 obtain⟨q0,q1⟩:=Fr r2
 go_simp
 first|done|with_reducible rfl):P:=h
theorem qkz (h:P:=by
 go_wp2_with (go_at_call 23;refine(HN.o _).mono ?_;rintro e w' ⟨rfl,rfl⟩)
 go_ret
 exact⟨am,qad⟩):P:=h
theorem qla (h:P:=by
 go_wp2
 go_region
 all_goals
  go_wp2;go_ret;exact⟨by repeat (first|exact am|apply Below.drew),qad⟩):P:=h
theorem qlb (h:P:=by
 have:=Xu (ts:=ts) (ms:=ms) (st:=st) h3 (by rw[h4];exact h1) (by rw[h4];exact h0)
 rw[h4] at this;exact this):P:=h
theorem qlc (h:P:=by rw[hne b (fun e=>ho ((fun e=>Or.inr (Or.inl e)) e)),k2 b hb (fun e=>ho (An C (u:=r.qv) qq e))]):P:=h
theorem qld (h:P:=by
 go_wp2
 go_ret
 exact⟨bc,_,rfl,by refine Or.inr ⟨qb,qb,qb,fun i hi=>HK.o i qb⟩⟩):P:=h
theorem qle (h:P:=by
 clear jq kj
 go_wp2
 go_ret
 exact⟨rfl,(((KB.old HBA.o hB).trans af).drew.trans ag).setM 2 jr _,E5.o.place _⟩):P:=h
theorem qlf (h:P:=by
 rcases Nat.lt_or_ge w.heap.size w1.heap.size with h'|h'
 ·exact h'
 ·rw[Array.getElem?_eq_none h'] at au;cases au):P:=h
theorem qlg (h:P:=by rw[hC w1 ⟨m,2,none⟩ _ _ qh];exact af.keep _ _ 165 qd qb iq.o):P:=h
theorem qlh (h:P:=by
 rcases ah.2 with ⟨hv,h0⟩|⟨g,cap,cur,hv,_⟩
 ·exact⟨none,0,by rw[hv,h0]⟩
 ·exact⟨_,_,hv⟩):P:=h
theorem qez (h:P:=by
 have E:Hd _:=e
 clear e h
 go_wp2_with fail
 go_meet
 case rel=>exact⟨rfl,t8,by rw[E.o];exact ks,S9⟩):P:=h
theorem qfa (h:P:=by
 go_enter func83,ntmps83
 go_wp2
 go_ret
 exact⟨aN _ _,_,rfl,qb⟩):P:=h
theorem qfb (h:P:=by
 go_enter func42,ntmps42
 go_wp2
 go_ret
 exact⟨aN _ _,_,rfl,qb⟩):P:=h
theorem qli (h:P:=by
 have HA0:Hd _:=hA0
 clear hA0
 go_wp2_with fail
 go_meet
 case rel=>exact⟨congrArg Value.string HA0.o,rfl⟩):P:=h
theorem qlj (h:P:=by
 rcases Nat.lt_or_ge i' k with h|h
 ·exact HK.o i' h
 ·obtain rfl:i'=k:=qb;rw[<- HI.o];exact hb):P:=h
theorem qlk (h:P:=by exact⟨ys,k1.same fun b eb=>hk b (k1.own.lt b eb).2 (fun e'=>Qk k1.own k0.own qd b eb e'.symm)⟩):P:=h
theorem qll (h:P:=by exact⟨ca,cn,cc,e,Aj ho fun b' q=>by obtain⟨_,cur,hh⟩:=Dr ho q;exact hk b' cur hh⟩):P:=h
theorem qlm (h:P:=by refine⟨?_,?_,?_,?_,?_,?_,fun j=>fH s.blk j⟩<;>rw[cH s.blk]<;>rfl):P:=h
theorem qfc (h:P:=by
 rcases si with r|r
 · left;rw[EXV.o,← r];exact q
 · right;rw[r] at q;cases q;exact Nat.le_refl _):P:=h
theorem qln (h:P:=by
 rw[gG,gG,List.getElem?_map,Iu h]
 rfl):P:=h
theorem qlo (h:P:=by
 obtain⟨zs,cv,lv,qr⟩:=q.rs.qs
 obtain⟨cs,c1⟩:=Ba qr.row b o
 rw[c1];exact hsb b cs _ c1):P:=h
theorem qlp (h:P:=by
 unfold Qo
 generalize u.toNat=m
 by_cases h1:m=32<;>by_cases h2:m=10<;>simp[h1,h2]<;>omega):P:=h
theorem qlq (h:P:=by
 rintro w ⟨s1,s2,s3,s4⟩
 obtain⟨q0,q1,q2⟩:=Bb s4
 go_simp
 first|done|with_reducible rfl):P:=h
theorem qlr (h:P:=by
 rintro e w' ⟨rfl,rfl⟩
 exact⟨rfl,Below.refl _ _,fun _ _ _=>rfl,xs,ah,fun i hi=>qb⟩):P:=h
theorem qls (h:P:=by
 go_wp2
 go_ret
 exact⟨bg,false,rfl,Dy (fun k=>by have:=k.1;rw[EV.o] at this;cases this)⟩):P:=h
theorem qlt (h:P:=by
 go_enter func142,ntmps142
 go_wp2
 go_ret
 exact⟨aN _ _,rfl⟩):P:=h
theorem qlu (h:P:=by
 go_enter func117,ntmps117
 go_wp2
 go_ret
 exact⟨rfl,aN _ _⟩):P:=h
theorem qlv (h:P:=by
 rcases Cs sq with ⟨h,_⟩|⟨g',c',h⟩
 · exact⟨_,_,_,h⟩
 · exact⟨_,_,_,h⟩):P:=h
theorem qlw (h:P:=by
 rintro e w' ⟨rfl,rfl⟩
 exact⟨rfl,Below.refl _ _,fun _ _ _=>rfl,xs,hr,fun i hi=>qb⟩):P:=h
theorem qlx (h:P:=by exact Kr (Kr (Kr (Ah yq.o qb) qb _) qb _) qb _):P:=h
theorem qly (h:P:=by exact Kr (Kr (Kr (Ah wb.o qb) qb _) qb _) qb _):P:=h
theorem qat (h:P:=by
 rintro w ⟨s1,s2,s3⟩
 obtain⟨q0,q1,q2⟩:=Bb s3
 go_simp
 first|done|with_reducible rfl):P:=h
theorem qlz (h:P:=by
 rcases Nat.lt_or_ge b w.heap.size with h'|h'
 ·exact h'
 ·rw[Array.getElem?_eq_none h'] at h;cases h):P:=h
theorem qma (h:P:=by rw[hne b (fun e=>ho (Or.inl e)),k2 b hb (fun e=>ho (An C (u:=r.nv) qq e))]):P:=h
theorem qmb (h:P:=by rw[hne b (fun e=>ho (Or.inl e)),k2 b hb (fun e=>ho (An C (u:=r.ev) qq e))]):P:=h
theorem qmc (h:P:=by
 rintro w s1
 obtain⟨q0,q1,q2,q3,q4,q5⟩:=Gw s1
 go_simp
 first|done|with_reducible rfl):P:=h
theorem qmd (h:P:=by
 rw[← W9,← eP]
 exact⟨Ni _ _,[],World.ownsRow_nil _ _ 125 3,fun i hi=>qb⟩):P:=h
theorem qme (h:P:=by
 simp[Value.ownBlock] at q
 subst q
 rcases hl with q|q
 · exact Or.inl q
 · exact Or.inr qb):P:=h
theorem qmf (h:P:=by
 rintro w ⟨s1,s2⟩
 obtain⟨q0,q1,q2⟩:=Bb s2
 go_simp
 first|done|with_reducible rfl):P:=h
theorem qmg (h:P:=by
 apply List.ext_getElem?
 intro i
 by_cases h:i<n<;>simp[madeCells,Value.cells,h,Nat.mod_one]):P:=h
theorem qmh (h:P:=by unfold qx;rw[gG,List.getElem?_append_left h,gG]):P:=h
theorem qdb (h:P:=by
 rintro w ⟨s1,s2⟩
 obtain⟨t0,t1,-⟩:=Kj s2
 go_simp
 first|done|with_reducible rfl):P:=h
theorem qmi (h:P:=by
 rcases Nat.lt_or_ge j k with q|q
 · exact HN.o j q
 · obtain rfl:j=k:=qb
   exact he):P:=h
theorem qmj (h:P:=by
 have em:m=n:=qb
 subst em
 go_wp2
 go_ret
 exact⟨rfl,bc,HK.o,ys,HR.o,HM.o⟩):P:=h
theorem qdc (h:P:=by
 have em:m=n:=qb
 subst em
 go_wp2
 go_ret
 exact⟨rfl,bc,HK.o,ys,HO.o,HM.o⟩):P:=h
theorem qmk (h:P:=by have q:=k.sh;rw[hb] at q;injection q with q;injection q with _ q;exact absurd q qd):P:=h
theorem qml (h:P:=by have q:=k.bd;rw[hb] at q;injection q with q;injection q with _ q;exact absurd q qd):P:=h
theorem qau (h:P:=by
 obtain⟨cs,c1⟩:=Ba ho b q
 rw[hne b (G8 b cs _ he c1),k2 b (ho.lt b q).2 (hx b q)]):P:=h
theorem qfe (h:P:=by
 have ek:k=is.length:=qb
 subst ek
 go_wp2
 go_ret
 exact⟨am,_,rfl,_,ah,R8⟩):P:=h
theorem qff (h:P:=by
 go_wp2_with fail
 go_region
 all_goals
   go_wp2;go_ret;exact⟨hB.drew,false,rfl,U1.o⟩):P:=h
theorem qmm (h:P:=by have q:=k.sh;rw[e] at hb;rw[hb] at q;injection q with q;injection q with _ q;exact hT q):P:=h
theorem qbd (h:P:=by have q:=k.bd;rw[e] at hb;rw[hb] at q;injection q with q;injection q with _ q;exact hT q):P:=h
theorem qmn (h:P:=by exact(((wb.o.set qb _).set qb _).set qb _).wide qb qg):P:=h
theorem qmo (h:P:=by exact(((kd.o.set qb _).set qb _).set qb _).wide qb qg):P:=h
theorem qmp (h:P:=by
 clear aw gh au
 go_wp2_with fail
 go_ret
 exact Or.inr ⟨rfl,_,_,HF.o,fu.o,HD.o⟩):P:=h
theorem qmq (h:P:=by rw[hk g aj (fun e=>Dk.ne (T:=149) ⟨_,h2.blk⟩ ot qd e.symm)];exact h2.blk):P:=h
theorem qmr (h:P:=by rw[hk g aj (fun e=>Dk.ne (T:=149) ⟨_,h2.blk⟩ os qd e.symm)];exact h2.blk):P:=h
theorem qms (h:P:=by
 rw[List.length_map]
 exact Jd (Jd (Jd zm.o HV.o _) HV.o _) HV.o _):P:=h
theorem qmt (h:P:=by
 obtain⟨cs,c1⟩:=Ba qr.row b o
 rw[c1];exact kT b cs _ qd qd c1):P:=h
theorem qmu (h:P:=by
 obtain⟨D,⟨es,cl,h1,h2⟩,h3⟩:=h
 exact⟨D,⟨es,cl,he.trans h1,h2⟩,h3⟩):P:=h
theorem qmv (h:P:=by exact⟨rfl,(((Below.refl _ _).drew.alloc (Nat.le_refl _) _).trans (af.mono qg))⟩):P:=h
theorem qmw (h:P:=by
 rw[hd] at this
 rcases this with ⟨e,_⟩|⟨_,_,_,e,_⟩<;>simp at e
 exact e.2.1):P:=h
theorem qmx (h:P:=by
 rcases ou.2 with ⟨e,h0⟩|⟨g,cap,cur,e,_⟩
 · omega
 · exact⟨g,cap,e⟩):P:=h
theorem qfg (h:P:=by
 go_wp2
 go_ret
 exact⟨(aN _ _).alloc qg _,rfl⟩):P:=h
theorem qdd (h:P:=by
 rintro w s1
 obtain⟨q0,q1,q2⟩:=Bb s1
 go_simp
 first|done|with_reducible rfl):P:=h
theorem qde (h:P:=by
 obtain⟨zs,cv,lv,qr⟩:=q.rs.qs
 subst e
 exact Ad qr.row qd hg o):P:=h
theorem qmy (h:P:=by
 have be:=bt ak ag
 clear hr ak ag
 go_wp2
 go_ret2
 exact⟨be,r,b,rfl,HR.o⟩):P:=h
theorem qmz (h:P:=by
 go_wp2_with fail
 go_meet
 case rel=>exact⟨rfl,t8,by rw[E.o];exact io,zn⟩):P:=h
theorem qna (h:P:=by refine⟨?_,?_,?_,?_,?_,?_,?_,?_,?_,?_⟩<;>rw[cH h]<;>rfl):P:=h
theorem qnb (h:P:=by
 unfold Au at hp
 simp only[Bool.and_eq_true,decide_eq_true_eq] at hp
 exact hp.1.1):P:=h
theorem qnc (h:P:=by rw[World.cell?_of_block (ce w.heap.size qb (fun e=>hne e.symm))];exact k1):P:=h
theorem qnd (h:P:=by
 have q:=s.stk
 rw[List.length_append,List.length_singleton] at q
 exact Tu q):P:=h
theorem qne (h:P:=by
 simp only[if_neg (show ¬ i=k from qb)]
 exact⟨zs,hsame k1 qd,k2⟩):P:=h
theorem qnf (h:P:=by exact hk b (k2.own.lt b eb).2 (fun e'=>Qk k2.own k0.own qd b eb e'.symm)):P:=h
theorem qdf (h:P:=by simp only[Ct,List.length_singleton,List.mem_singleton,exists_eq_left];omega):P:=h
theorem qak (h:P:=by
 intro w hSw
 try dsimp only at hSw
 go_simp
 first|done|with_reducible rfl):P:=h
theorem qfh (h:P:=by exact⟨_,_,_,_,_,_,_,_,_,_,_,_,_,_,_,_,_,_,_,_,rfl⟩):P:=h
theorem qac (h:P:=by
 go_enter func134,ntmps134
 go_wp2
 go_ret2
 exact⟨rfl,rfl⟩):P:=h
theorem qdg (h:P:=by
 have em:m=n:=qb
 subst em
 go_wp2
 go_ret
 exact⟨rfl,bc⟩):P:=h
theorem qfi (h:P:=by
 go_enter func159,ntmps159
 go_wp2
 go_ret
 exact⟨rfl,rfl⟩):P:=h
theorem qfj (h:P:=by
 go_enter func119,ntmps119
 go_wp2
 go_ret
 exact⟨rfl,rfl⟩):P:=h
theorem qz (h:P:=by
 go_enter func84,ntmps84
 go_wp2
 go_ret2
 exact⟨rfl,rfl⟩):P:=h
theorem qfk (h:P:=by
 go_enter func44,ntmps44
 go_wp2
 go_ret
 exact⟨rfl,rfl⟩):P:=h
theorem qfl (h:P:=by
 go_wp2
 go_ret
 exact⟨Below.refl _ _,-1,rfl,Or.inl qb⟩):P:=h
theorem qfm (h:P:=by
 clear he HI
 go_wp2
 go_ret
 exact⟨by rw[<- HR.o];rfl,rfl⟩):P:=h
theorem qfn (h:P:=by exact Or.inl (Or.inr (Or.inr (Or.inr (Or.inr (Or.inr q)))))):P:=h
theorem qfo (h:P:=by exact Or.inl (Or.inr (Or.inr (Or.inr (Or.inr (Or.inl q)))))):P:=h
theorem qdh (h:P:=by
 rintro e w' ⟨rfl,rfl⟩
 exact⟨rfl,Below.refl _ _⟩):P:=h
theorem qfp (h:P:=by simpa [List.getElem?_take,List.getElem?_drop] using this):P:=h
theorem qdi (h:P:=by
 go_wp2
 go_ret
 exact⟨be,-1,rfl,Or.inl qb⟩):P:=h
theorem qfq (h:P:=by
 intro g' ai w' h1 h2 h3 h4
 exact h g' ai w' h1 h2 h3):P:=h
theorem qdj (h:P:=by
 rintro w s1
 go_simp
 first|done|with_reducible rfl):P:=h
theorem qdk (h:P:=by
 intro g' ai w' h1 h2 h3 h4
 exact h g' ai w' h1 h2):P:=h
theorem qbk (h:P:=by exact⟨none,0,by rw[h0],fun i hi=>qb⟩):P:=h
theorem qfr (h:P:=by exact Or.inl (Or.inr (Or.inr (Or.inr (Or.inl q))))):P:=h
theorem qfs (h:P:=by
 go_ret
 exact⟨bc,true,rfl,Fy HO.o⟩):P:=h
theorem qdl (h:P:=by
 unfold Fj at *
 rw[jB hm]
 rfl):P:=h
theorem qdm (h:P:=by subst e;exact Ad ho qd hh q):P:=h
theorem qdn (h:P:=by
 go_wp2_with fail
 go_ret
 exact⟨rfl,HB.o⟩):P:=h
theorem qft (h:P:=by
 go_ret
 exact⟨hB.drew,false,rfl,U1.o⟩):P:=h
theorem qdo (h:P:=by
 show _=_
 rw[<- eW];exact Rt (Gq _ _)):P:=h
theorem qbl (h:P:=by
 show _=_
 rw[<- eW];exact Be _ _):P:=h
theorem qbm (h:P:=by
 go_simp
 first|done|with_reducible rfl):P:=h
theorem qbn (h:P:=by
 go_wp2
 go_ret
 exact⟨am,rfl⟩):P:=h
theorem qah (h:P:=by
 go_wp2
 go_ret
 exact⟨rfl,rfl⟩):P:=h
theorem qdp (h:P:=by exact⟨none,0,by rw[e,h0]⟩):P:=h
theorem qck (h:P:=by rw[← eW];exact Ay (Ay (Ag _ _) (Ag _ _)) (Ag _ _)):P:=h
theorem qdq (h:P:=by simp[results,results135,go_sem,Dx,k0,k1,k2,k3,k4,k5,k6,k7,k8,k9]):P:=h
theorem qbo (h:P:=by simp[results,results114,go_sem,Dx,z0,z1,z2,z3,z4,z5,z6,z7,z8,z9]):P:=h
theorem qdr (h:P:=by rw[Bool.eq_false_iff];simp only[ne_eq,Bool.and_eq_true,decide_eq_true_eq];omega):P:=h
theorem qds (h:P:=by simp[results,results54,go_sem,y0,y1,y2,y3,y4,y5,y6,y7,y8,y9]):P:=h
theorem qfu (h:P:=by simp[results,results6,go_sem,y0,y1,y2,y3,y4,y5,y6,y7,y8,y9]):P:=h
theorem qfv (h:P:=by simp[results,results160,go_sem,Az,Er,k0,k1,k2,k3,k4,k5]):P:=h
theorem qfw (h:P:=by simp only[Kn,Bool.and_eq_true,decide_eq_true_eq] at ft;simp;omega):P:=h
theorem qfx (h:P:=by rw[World.cell?_alloc_lt _ _ _ (World.block_lt_of_cell? _ _ h)];exact h):P:=h
theorem qfy (h:P:=by simp[results,results153,go_sem,Nz,v0,v1,v2,v3,v4,v5]):P:=h
theorem qfz (h:P:=by simp[results,results172,go_sem,Az,k0,k1,k2,k3,k4,k5]):P:=h
theorem qbp (h:P:=by simp[results,results160,go_sem,Az,k0,k1,k2,k3,k4,k5]):P:=h
theorem qdt (h:P:=by simp[results,results162,go_sem,Az,k0,k1,k2,k3,k4,k5]):P:=h
theorem qbq (h:P:=by rw[<- eW];exact Ay (Ag _ _) (Ag _ _)):P:=h
theorem qdu (h:P:=by simp[results,results137,go_sem,r0,r1,r2,r3,r4,r5]):P:=h
theorem qdv (h:P:=by simp[results,results165,go_sem,r0,r1,r2,r3,r4,r5]):P:=h
theorem qga (h:P:=by rw[<- eq];exact We s.name t y s.code.length p W):P:=h
theorem qgb (h:P:=by rw[← eW];exact aN _ _):P:=h
theorem qdw (h:P:=by rw[← e3];exact aN _ _):P:=h
theorem qav (h:P:=by rw[← e6];exact aN _ _):P:=h
theorem qcl (h:P:=by rintro e;apply hne;rw[hv];simp[Value.ownBlock,e]):P:=h
theorem qdx (h:P:=by simp only[Bool.and_eq_true,decide_eq_true_eq];omega):P:=h
theorem qaw (h:P:=by rw[List.length_append,List.length_singleton];omega):P:=h
theorem qcm (h:P:=by rw[Nat.zero_add,List.nil_append] at nj;exact nj):P:=h
theorem qcn (h:P:=by show _=_;rw[← eW];exact Rt (Rt (Gq _ _))):P:=h
theorem qgc (h:P:=by simp[results,results146,go_sem,Rs,resA]):P:=h
theorem qgd (h:P:=by simp[results,results87,go_sem,Rs,resA]):P:=h
theorem qge (h:P:=by show _=_;rw[← eW,← eQ];exact Rt (Gq _ _)):P:=h
theorem qgf (h:P:=by simp[results,results70,go_sem,y0,y1,y2]):P:=h
theorem qap (h:P:=by simp[results,results50,go_sem,y0,y1,y2]):P:=h
theorem qgg (h:P:=by simp[results,results77,go_sem,z0,z1,z2]):P:=h
theorem qgh (h:P:=by rw[cH cw.o.blk,← EQV.o];rfl):P:=h
theorem qgi (h:P:=by rw[<- eq];exact Wf s.name s.text t W):P:=h
theorem qbe (h:P:=by rw[Lib.alloc_old _ _ _ (Af F3)];exact F3):P:=h
theorem qgj (h:P:=by rw[ag.block _ (Af fk.o)];exact fk.o):P:=h
theorem qdy (h:P:=by rw[List.length_append,List.length_singleton]):P:=h
theorem qgk (h:P:=by rw[<- eq];exact Fe x n W hx0 h1 h8):P:=h
theorem qdz (h:P:=by show _=_;rw[← eW];exact Rt (Gq _ _)):P:=h
theorem qbr (h:P:=by show _=_;rw[← e6,← eRR];exact Gq _ _):P:=h
theorem qea (h:P:=by rw[ru b (hkb b q).1];exact(hkb b q).2):P:=h
theorem qgl (h:P:=by rw[he,decide_eq_false_iff_not];exact hz):P:=h
theorem qgm (h:P:=by simp only[Nat.min_def];split<;>omega):P:=h
theorem qax (h:P:=by rw[<- eU];exact(Below.refl _ _).drew):P:=h
theorem qay (h:P:=by simp[results,results156,go_sem]):P:=h
theorem qaa (h:P:=by rw[← eD];exact(Below.refl _ _).drew):P:=h
theorem qbf (h:P:=by rw[cH cw.o.blk];rfl):P:=h
theorem qbs (h:P:=by rw[cH wa.o.blk];rfl):P:=h
theorem qbt (h:P:=by rw[← eU];exact(Below.refl _ _).drew):P:=h
theorem qaf (h:P:=by intro u hu;simp at hu;subst hu;rfl):P:=h
theorem qgn (h:P:=by simp[Lib.compareBytes,Op.bytesLess]):P:=h
theorem qeb (h:P:=by intro u hu;simp at hu;rw[hu];rfl):P:=h
theorem qgo (h:P:=by rw[he,decide_eq_true_eq];exact hz):P:=h
theorem qec (h:P:=by rw[bc.block _ hwP];exact KB5.o):P:=h
theorem qbu (h:P:=by rw[hne _ (Ne.symm hHb)];exact dj):P:=h
theorem qgp (h:P:=by rw[decide_eq_false_iff_not];omega):P:=h
theorem qbv (h:P:=by rw[← eW];exact heapW_old2 _ _ _):P:=h
theorem qbw (h:P:=by rw[← eW];exact heapW_new2 _ _ _):P:=h
theorem qgq (h:P:=by rw[← eRR];exact HF.o.bel.size):P:=h
theorem qaz (h:P:=by rw[<- eW];exact Ag _ _):P:=h
theorem qbx (h:P:=by rw[jB ii];rfl):P:=h
theorem qco (h:P:=by rw[cH h.blk];rfl):P:=h
theorem qgr (h:P:=by rw[← e5];exact Ag _ _):P:=h
theorem qed (h:P:=by rw[e,cH h];rfl):P:=h
theorem qgs (h:P:=by rw[List.length_append];omega):P:=h
theorem qaq (h:P:=by simpa [Value.ownBlock] using q):P:=h
theorem qby (h:P:=by simpa [Value.ownBlock] using e):P:=h
theorem qgt (h:P:=by rw[cH zh];rfl):P:=h
theorem qee (h:P:=by rw[cH ii];rfl):P:=h
theorem qgu (h:P:=by rw[← eX,← eq];simp[go_sem]):P:=h
theorem qgv (h:P:=by rw[← eW,← eq];simp[go_sem]):P:=h
theorem qgw (h:P:=by rw[cH kbr];rfl):P:=h
theorem qba (h:P:=by rw[cH hm];rfl):P:=h
theorem qgx (h:P:=by rw[← edt];exact HMD.o.t2):P:=h
theorem qaj (h:P:=by rw[cH h];rfl):P:=h
theorem qef (h:P:=by rw[IntKind.wrap_i64];omega):P:=h
theorem qeg (h:P:=by simp only[Wq] at k;omega):P:=h
theorem qbg (h:P:=by simp[Value.ownBlock] at e):P:=h
theorem qeh (h:P:=by rw[<- eg];exact l5.o):P:=h
theorem qbz (h:P:=by simp[Region.wanted,se]):P:=h
theorem qal (h:P:=by rw[<- eW];simp[go_sem]):P:=h
theorem qcp (h:P:=by rw[hmm];split<;>omega):P:=h
theorem qcq (h:P:=by rw[← eW];simp[go_sem]):P:=h
theorem qei (h:P:=by unfold World.alloc;simp):P:=h
theorem qej (h:P:=by simp[Act.eval,Act.put]):P:=h
theorem qcr (h:P:=by rw[EML.o];exact sy):P:=h
theorem qca (h:P:=by rw[EM.o];exact aj):P:=h
theorem qek (h:P:=by rw[ESM.o];exact hq):P:=h
theorem qcs (h:P:=by rw[Ue];omega):P:=h
theorem qct (h:P:=by simp[Value.oneCell']):P:=h
theorem qcu (h:P:=by simpa using am.size):P:=h
theorem qm (h:P:=by unfold maxLen;omega):P:=h
theorem qag (h:P:=by rw[dr x hx];omega):P:=h
theorem qar (h:P:=by simp[intOf];omega):P:=h
theorem qcb (h:P:=by rw[EM.o];omega):P:=h
theorem qcv (h:P:=by rw[ah.1];omega):P:=h
theorem qcw (h:P:=by simp at hk;omega):P:=h
theorem qcx (h:P:=by rw[<- eW];simp):P:=h
theorem qad (h:P:=by rw[HC.o];rfl):P:=h
theorem qcc (h:P:=by simp at h;omega):P:=h
theorem qcy (h:P:=by rw[HF.o];rfl):P:=h
theorem qcd (h:P:=by rw[← eW];simp):P:=h
theorem qce (h:P:=by simp;try omega):P:=h
theorem qam (h:P:=by rw[bv];omega):P:=h
theorem qcz (h:P:=by simpa using gp):P:=h
theorem qcf (h:P:=by simpa using hj):P:=h
theorem qcg (h:P:=by decide +kernel):P:=h
theorem qbb (h:P:=by simpa using hn):P:=h
theorem qk (h:P:=by simp[go_sem]):P:=h
theorem qab (h:P:=by rw[el];simp):P:=h
theorem qas (h:P:=by simpa using h):P:=h
theorem qh (h:P:=by simp;omega):P:=h
theorem qan (h:P:=by injection e):P:=h
theorem qai (h:P:=by simp[Ax]):P:=h
theorem qq (h:P:=by simp[Np]):P:=h
theorem qi (h:P:=by kernel_rfl):P:=h
theorem qy (h:P:=by simp at hi):P:=h
theorem qbh (h:P:=by simp[Ma]):P:=h
theorem qo (h:P:=by simp[*]):P:=h
theorem qu (h:P:=by cases e):P:=h
theorem qae (h:P:=by trivial):P:=h
theorem qw (h:P:=by cases q):P:=h
theorem qd (h:P:=by decide):P:=h
theorem qj (h:P:=by go_num):P:=h
theorem qb (h:P:=by omega):P:=h
theorem qg (h:P:=by simp):P:=h
theorem qt (h:P:=by rfl):P:=h
end Go.Proofs.YtfgoholldpeabaaGreatDoor
