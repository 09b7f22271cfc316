import Derived.Test.YtbkkjodaaijimaaGreatDoorBvC
import Derived.Test.YtbkkjodaaijimaaGreatDoorBvI
namespace Go.Proofs.YtbkkjodaaijimaaGreatDoor
open _root_.Go.Proofs.Tryz Go.RowKit Go.Deep
open Value renaming slice->J,string->S,agg->G
open Option renaming some->M,none->N
open Obj renaming cells->O
open Go renaming Value->Z,World->E
open Ending renaming returned->H
open _root_ renaming List->L,Nat->X
set_option linter.unusedVariables false
set_option linter.unusedSimpArgs false
set_option maxHeartbeats 8000000
set_option maxRecDepth 100000
variable {B:X} {w w':E} {b:Hm} {l:L Z} {R:L T3} {n:Int} {T:L By} {ss:L S2} {ts:L T2} {nm:By} {d:BD} {u cv:Z}
theorem Jh.kept(h:Jh B w b l)(hk:∀(e sz n:X)(u:Z)(xs:L Z),w.ownsRow B e sz u n xs->e≠54->w'.ownsRow B e sz u n xs):Jh B w' b l:=by
 cases b with
 | circle ch=>obtain⟨cv,a,b⟩:=h;exact⟨cv,hk _ _ _ _ _ a qd,b⟩
 | deep nm=>exact h
 | clash A B=>exact h
 | full=>exact h
theorem Jh.base{B0:X}(h:Jh B w b l)(hB:B0<=B):Jh B0 w b l:=by
 cases b with
 | circle ch=>obtain⟨cv,a,b⟩:=h;exact⟨cv,Ah a hB,b⟩
 | deep nm=>exact h
 | clash A B=>exact h
 | full=>exact h
theorem Ex.keptE{v:Z}(h:Ex w B v R)(hk:∀(e sz n:X)(u:Z)(xs:L Z),w.ownsRow B e sz u n xs->e≠54->w'.ownsRow B e sz u n xs):Ex w' B v R:=by
 obtain⟨xs,cv,lv,r⟩:=h;exact⟨xs,cv,lv,hk _ _ _ _ _ r.row qd,r.fil,λi hi=>by obtain⟨ys,a,b⟩:=r.code i hi;exact⟨ys,hk _ _ _ _ _ a qd,b⟩,λi hi=>by obtain⟨ys,a,b⟩:=r.look i hi;exact⟨ys,hk _ _ _ _ _ a qd,b⟩,r.apc,r.apl⟩
def Hl(B:X)(n:Int)(ss:L S2)(ts:L T2)(T:L By)(R:L T3)(nm:By)(v:Z)(w':E):Prop:=
 (¬ (Ke n T R/\Ic ss ts=0/\Ar nm)/\Zk B n T R v w')\/((Ke n T R/\Ic ss ts=0/\Ar nm)/\∃m:X,n=(m:Int)/\BuildI B m ss ts T R nm v w')
section
variable {B B0:X} {n:Int} {ss:L S2} {ts:L T2} {T:L By} {R:L T3} {nm:By} {v:Z} {w w':E}
theorem Hl.kept(h:Hl B n ss ts T R nm v w)(hk:∀(e sz n:X)(u:Z)(xs:L Z),w.ownsRow B e sz u n xs->e≠54->w'.ownsRow B e sz u n xs):Hl B n ss ts T R nm v w':=by
 rcases h with⟨h0,tx,qv,e,hs⟩|⟨h0,m,hm,ms',s',a,bi,⟨d,tx,qv,nv,ev,ea,e,h1,h2,h3,h4,h5⟩|⟨b,x,y,cv,tx,qv,A,B',ea,h1,e,hs,h2⟩⟩
 ·exact Or.inl ⟨h0,tx,qv,e,hk _ _ _ _ _ hs.txt qd,hs.txa,hs.rcs.keptE hk⟩
 ·exact Or.inr ⟨h0,m,hm,ms',s',a,bi,Or.inl ⟨d,tx,qv,nv,ev,ea,e,hk _ _ _ _ _ h1 qd,h2.keptE hk,hk _ _ _ _ _ h3 qd,hk _ _ _ _ _ h4 qd,h5⟩⟩
 ·exact Or.inr ⟨h0,m,hm,ms',s',a,bi,Or.inr ⟨b,x,y,cv,tx,qv,A,B',ea,h1.kept hk,e,⟨hk _ _ _ _ _ hs.txt qd,hs.txa,hs.rcs.keptE hk⟩,h2⟩⟩
theorem Hl.bl(h:Hl B n ss ts T R nm v w)(hb:Bw w w'):Hl B n ss ts T R nm v w':=h.kept λ_ _ _ _ _ ho _=>Ab ho hb
theorem Hl.base(h:Hl B n ss ts T R nm v w)(hB:B0<=B):Hl B0 n ss ts T R nm v w:=by
 rcases h with⟨h0,tx,qv,e,hs⟩|⟨h0,m,hm,ms',s',a,bi,⟨d,tx,qv,nv,ev,ea,e,h1,h2,h3,h4,h5⟩|⟨b,x,y,cv,tx,qv,A,B',ea,h1,e,hs,h2⟩⟩
 ·exact Or.inl ⟨h0,tx,qv,e,hs.base hB⟩
 ·exact Or.inr ⟨h0,m,hm,ms',s',a,bi,Or.inl ⟨d,tx,qv,nv,ev,ea,e,Ah h1 hB,h2.base hB,Ah h3 hB,Ah h4 hB,h5⟩⟩
 ·exact Or.inr ⟨h0,m,hm,ms',s',a,bi,Or.inr ⟨b,x,y,cv,tx,qv,A,B',ea,h1.base hB,e,hs.base hB,h2⟩⟩
theorem Hl.setU{h0:X}{cs:Array Z}{l:L (X×X×Z)}(h:Hl B n ss ts T R nm v w)(hh:∀x∈l,x.1=h0)(hk:w.heap[h0]?=M (O cs 54 (0,0))):Hl B n ss ts T R nm v (Cu w l):=h.kept λ_ _ _ _ _ ho he=>Dy ho hh hk (λe=>he e.symm)
theorem Hl.form(h:Hl B n ss ts T R nm v w):∃(xc:Int)(yt:By)(ca:Option Addr)(cn cc:X)(m:Int)(ta:Option Addr)(tn tc:X)(qa:Option Addr)(qn qc:X)(na:Option Addr)(nn nc:X)(ea:Option Addr)(en ec:X)(At Bt:By),v=G #[I xc,S yt,J ca cn cc,I m,J ta tn tc,J qa qn qc,J na nn nc,J ea en ec,S At,S Bt]:=by
 rcases h with⟨h0,tx,qv,rfl,hs⟩|⟨h0,m,hm,ms',s',a,bi,⟨d,tx,qv,nv,ev,_,rfl,h1,h2,h3,h4,h5⟩|⟨b,x,y,cv,tx,qv,A,B',_,h1,rfl,hs,h2⟩⟩
 ·obtain⟨a1,b1,rfl⟩:=Ay hs.txt
  obtain⟨xs,c,l,r⟩:=hs.rcs;obtain⟨a2,b2,rfl⟩:=Ay r.row;exact qey
 ·obtain⟨a1,b1,rfl⟩:=Ay h1
  obtain⟨xs,c,l,r⟩:=h2;obtain⟨a2,b2,rfl⟩:=Ay r.row;obtain⟨a3,b3,rfl⟩:=Ay h3;obtain⟨a4,b4,rfl⟩:=Ay h4;exact qey
 ·obtain⟨a1,b1,rfl⟩:=Ay hs.txt
  obtain⟨xs,c,l,r⟩:=hs.rcs;obtain⟨a2,b2,rfl⟩:=Ay r.row
  cases b with
  | circle ch=>
    obtain⟨cv',a,e⟩:=h1;obtain⟨a3,b3,rfl⟩:=Ay a;simp only[List.cons.injEq,and_true,true_and]at e;obtain⟨rfl,rfl,rfl,rfl,rfl⟩:=e;exact qey
  | deep nm'=>
    exact qen
  | clash AM AK=>
    exact qen
  | full=>
    exact qen
end
structure ArgB (w:E) (n:Int) (tb tf:X) (qa sa ta:Option Addr) (T:L By) (R:L T3) (ss:L S2) (ts:L T2) (nm:By):Prop where
 tab:Kd w
 pow:Lj w
 st:Nm w (M ⟨tb,tf,N⟩) T qa R
 rz:Qt w qa R
 lr:R.length≤1048576
 lk:∀i,i<R.length→(qx R i).code.length≤1048576∧(qx R i).looks.length≤1048576
 sp:Lv w sa ss ta ts
 sm:Fj ss ts
 nm:nm.size<=9223372036854775807
theorem ArgB.bl{tb tf:X}{qa sa ta:Option Addr}(h:ArgB w n tb tf qa sa ta T R ss ts nm)(hb:Bw w w'):ArgB w' n tb tf qa sa ta T R ss ts nm:=⟨h.tab.bl hb,h.pow.bl hb,h.st.bl hb,h.rz.bl hb,h.lr,h.lk,h.sp.bl hb,h.sm,h.nm⟩
theorem all1_any(n:Int)(tb tf tc nb nc:X)(qa sa ta:Option Addr)(qc c1 c2:X)(T:L By)(R:L T3)(ss:L S2)(ts:L T2)(nm:By)(w:E)(h:ArgB w n tb tf qa sa ta T R ss ts nm)(ig:w.heap[nb]?=M (O #[S nm] 9 (0,0))):Calls prog 66 #[G #[I n,J (M ⟨tb,tf,N⟩) T.length tc,J qa R.length qc],G #[J sa ss.length c1,J ta ts.length c2],J (p_ nb) 1 nc] w λe w'=>Bw w w'/\∃v u,e=H (.tuple #[v,u])/\Hl w.heap.size n ss ts T R nm v w':=by
 by_cases hv:Ke n T R/\Ic ss ts=0
 ·obtain⟨m,rfl⟩:=Int.eq_ofNat_of_zero_le (show 0<=n by have:=hv.1.1;omega)
  refine(allB_yes m tb tf tc nb nc qa sa ta qc c1 c2 T R ss ts nm w h.tab h.pow h.st h.rz h.lr h.lk h.sp h.sm hv.1 hv.2 ig h.nm).mono ?_;rintro e w' ⟨hb,v,u,he,⟨gg,hp⟩|⟨hy,hp⟩⟩
  ·exact⟨hb,v,u,he,Or.inl ⟨λq=>gg q.2.2,hp⟩⟩
  ·exact⟨hb,v,u,he,Or.inr ⟨⟨hv.1,hv.2,hy⟩,m,rfl,hp⟩⟩
 ·refine(allB_no n tb tf tc nb nc qa sa ta qc c1 c2 T R ss ts nm w h.tab h.st h.rz h.lr h.lk h.sp h.sm hv).mono ?_
  rintro e w' ⟨hb,v,u,he,hp⟩;exact⟨hb,v,u,he,Or.inl ⟨λq=>hv ⟨q.1,q.2.1⟩,hp⟩⟩
theorem Wb(n:Int)(tb tf tc nb nc:X)(qa sa ta:Option Addr)(qc c1 c2:X)(T:L By)(R:L T3)(ss:L S2)(ts:L T2)(nm:By)(w:E)(ha:ArgB w n tb tf qa sa ta T R ss ts nm)(ig:w.heap[nb]?=M (O #[S nm] 9 (0,0))):Calls prog 47 #[G #[I n,J (M ⟨tb,tf,N⟩) T.length tc,J qa R.length qc],G #[J sa ss.length c1,J ta ts.length c2],J (p_ nb) 1 nc] w λe w'=>Bw w w'/\∃v,e=H v/\Hl w.heap.size n ss ts T R nm v w':=by
 obtain⟨W,eW⟩:=Aj (((w.alloc (O #[I n,J (M ⟨tb,tf,N⟩) T.length tc,J qa R.length qc] 35)).alloc (O #[J sa ss.length c1,J ta ts.length c2] 40)).alloc (O z10 54));have bn:Bw w W:=qcj;have HQ:Hd (W.heap[w.heap.size]?=M (O #[I n,J (M ⟨tb,tf,N⟩) T.length tc,J qa R.length qc] 35 (0,0))):=qcm
 have HP:Hd (W.heap[w.heap.size+1]?=M (O #[J sa ss.length c1,J ta ts.length c2] 40 (0,0))):=by
  exact qch
 have HZ:Hd (W.heap[w.heap.size+1+1]?=M (O z10 54 (0,0))):=by
  exact qcg
 have vg:w.heap.size+1+1<W.heap.size:=Ag HZ.o;have my:=Ac bn;have HAR:=Ac (ha.bl bn);obtain⟨q0,q1,q2,qf⟩:=Dw HQ.o;obtain⟨x0,x1⟩:=Fq HP.o;have HAL:=Ac (all1_any n tb tf tc nb nc qa sa ta qc c1 c2 T R ss ts nm W HAR.o (Ad bn ig));clear ha ig bn;go_enter func47,ntmps47;go_wp2_with fail;clear eW q0 q1 q2 qf x0 x1;refine HAL.o.mono ?_;rintro e w1 ⟨af,v,u,rfl,hpo⟩;obtain⟨xc,yt,ca,cn,cc,m,mz,tn,xx,P4,qn,P3,na,nn,S7,ea,en,ec,At,Bt,rfl⟩:=hpo.form;have HPO:=Ac (hpo.base (show w.heap.size<=W.heap.size from qb));have oc:=Ac (Ad af HZ.o);have ff:=Ac (bt my.o af);have d9:=af.size;clear af hpo HAL HQ HP HZ my HAR
 go_upto_region 2 with fail
 obtain⟨w2,e2⟩:=Aj (w1.alloc (O #[I xc,S yt,J ca cn cc,I m,J mz tn xx,J P4 qn P3,J na nn S7,J ea en ec,S At,S Bt] 54));obtain⟨RR,eRR⟩:=Aj w1.heap.size;have ag:=aB e2;have iu:=Ac (nW e2 eRR);rw[e2,eRR];have hR1:W.heap.size<=RR:=qb;have HPO2:=Ac (HPO.o.bl ag);have n9:=Ac (Ad ag oc.o);have fw:=Ac (bt ff.o ag);clear e2 eRR ag HPO oc ff;obtain⟨k0,k1,k2,k3,k4,k5,k6,k7,k8,k9⟩:=Fz iu.o;obtain⟨zc0,zc1,zc2,zc3,zc4,zc5,zc6,zc7,zc8,zc9⟩:=Fz n9.o;have zcf:=fZ n9.o;obtain⟨l,el⟩:∃l:L (X×X×Z),l=[((w.heap.size+1+1),0,I xc),((w.heap.size+1+1),1,S yt),((w.heap.size+1+1),2,J ca cn cc),((w.heap.size+1+1),3,I m),((w.heap.size+1+1),4,J mz tn xx),((w.heap.size+1+1),5,J P4 qn P3),((w.heap.size+1+1),6,J na nn S7),((w.heap.size+1+1),7,J ea en ec),((w.heap.size+1+1),8,S At),((w.heap.size+1+1),9,S Bt)]:=⟨_,rfl⟩;have fk:∀x∈l,x.1=(w.heap.size+1+1):=qah;have d6:=Ep l w2 _ fk n9.o;have hS:=HPO2.o.setU fk n9.o;have gu:Bw w (Cu w2 l):=Cm l w2 fw.o (λx hx=>qam);obtain⟨V,eV⟩:=Aj (Cu w2 l);rw[eV]at d6 gu hS;rw[el]at d6 eV;simp only[Cu,List.foldl]at eV;simp only[List.foldl,List.setIfInBounds_toArray,List.set_cons_zero,List.set_cons_succ]at d6;have HV:=Ac d6;have px:=Ac gu;have oo:=Ac hS;clear d6 gu el fk hS;go_wp2_with fail
 try rw[eV]
 obtain⟨y0,y1,y2,y3,y4,y5,y6,y7,y8,y9⟩:=Fz HV.o;exact bR (v:=G #[I xc,S yt,J ca cn cc,I m,J mz tn xx,J P4 qn P3,J na nn S7,J ea en ec,S At,S Bt]) (by simp[results,results47,go_sem,y0,y1,y2,y3,y4,y5,y6,y7,y8,y9]) rfl ⟨px.o,_,rfl,oo.o⟩
theorem Vt(n:Int)(tb tf tc:X)(qa sa ta:Option Addr)(qc c1 c2:X)(T:L By)(R:L T3)(ss:L S2)(ts:L T2)(nm:By)(w:E)(ha:ArgB w n tb tf qa sa ta T R ss ts nm):Calls prog 27 #[G #[I n,J (M ⟨tb,tf,N⟩) T.length tc,J qa R.length qc],G #[J sa ss.length c1,J ta ts.length c2],S nm] w λe w'=>Bw w w'/\∃v,e=H v/\Hl w.heap.size n ss ts T R nm v w':=by
 obtain⟨W,eW⟩:=Aj (((w.alloc (O #[I n,J (M ⟨tb,tf,N⟩) T.length tc,J qa R.length qc] 35)).alloc (O #[J sa ss.length c1,J ta ts.length c2] 40)).alloc (O z10 54));have bn:Bw w W:=qcj;have HQ:Hd (W.heap[w.heap.size]?=M (O #[I n,J (M ⟨tb,tf,N⟩) T.length tc,J qa R.length qc] 35 (0,0))):=qcm
 have HP:Hd (W.heap[w.heap.size+1]?=M (O #[J sa ss.length c1,J ta ts.length c2] 40 (0,0))):=by
  exact qch
 have HZ:Hd (W.heap[w.heap.size+1+1]?=M (O z10 54 (0,0))):=by
  exact qcg
 have vg:w.heap.size+1+1<W.heap.size:=Ag HZ.o;have my:=Ac bn;have HAR:=Ac (ha.bl bn);obtain⟨q0,q1,q2,qf⟩:=Dw HQ.o;obtain⟨x0,x1⟩:=Fq HP.o;obtain⟨AB,eN⟩:=Aj (W.alloc (O #[S nm] 9));have C9:=aB eN;have HAL:=Ac (Wb n tb tf tc W.heap.size 1 qa sa ta qc c1 c2 T R ss ts nm AB (HAR.o.bl C9) (by rw[←eN];exact Hc _ _));have HZN:=Ac (Ad C9 HZ.o);have HBN:=Ac (bt my.o C9);have hsN:=C9.size;clear ha bn C9;go_enter func27,ntmps27;go_wp2_with fail;clear eW eN q0 q1 q2 qf x0 x1;refine HAL.o.mono ?_;rintro e w1 ⟨af,v,rfl,hpo⟩;obtain⟨xc,yt,ca,cn,cc,m,mz,tn,xx,P4,qn,P3,na,nn,S7,ea,en,ec,At,Bt,rfl⟩:=hpo.form;have HPO:=Ac (hpo.base (show w.heap.size<=AB.heap.size from qb));have oc:=Ac (Ad af HZN.o);have ff:=Ac (bt HBN.o af);have d9:=af.size;clear af hpo HAL HQ HP HZ my HAR HZN HBN;obtain⟨zc0,zc1,zc2,zc3,zc4,zc5,zc6,zc7,zc8,zc9⟩:=Fz oc.o;have zcf:=fZ oc.o;obtain⟨l,el⟩:∃l:L (X×X×Z),l=[((w.heap.size+1+1),0,I xc),((w.heap.size+1+1),1,S yt),((w.heap.size+1+1),2,J ca cn cc),((w.heap.size+1+1),3,I m),((w.heap.size+1+1),4,J mz tn xx),((w.heap.size+1+1),5,J P4 qn P3),((w.heap.size+1+1),6,J na nn S7),((w.heap.size+1+1),7,J ea en ec),((w.heap.size+1+1),8,S At),((w.heap.size+1+1),9,S Bt)]:=⟨_,rfl⟩;have fk:∀x∈l,x.1=(w.heap.size+1+1):=qah;have d6:=Ep l w1 _ fk oc.o;have hS:=HPO.o.setU fk oc.o;have gu:Bw w (Cu w1 l):=Cm l w1 ff.o (λx hx=>qam);obtain⟨V,eV⟩:=Aj (Cu w1 l);rw[eV]at d6 gu hS;rw[el]at d6 eV;simp only[Cu,List.foldl]at eV;simp only[List.foldl,List.setIfInBounds_toArray,List.set_cons_zero,List.set_cons_succ]at d6;have HV:=Ac d6;have px:=Ac gu;have oo:=Ac hS;clear d6 gu el fk hS;go_wp2_with fail
 try rw[eV]
 obtain⟨y0,y1,y2,y3,y4,y5,y6,y7,y8,y9⟩:=Fz HV.o;exact bR (v:=G #[I xc,S yt,J ca cn cc,I m,J mz tn xx,J P4 qn P3,J na nn S7,J ea en ec,S At,S Bt]) (by simp[results,results27,go_sem,y0,y1,y2,y3,y4,y5,y6,y7,y8,y9]) rfl ⟨px.o,_,rfl,oo.o⟩
def txF:Hm→ByteArray
 | .deep nm=>nm
 | _=>⟨#[]⟩
def chF:Hm→L By
 | .circle ch=>ch
 | _=>[]
def Me(n:Int)(ss:L S2)(ts:L T2)(T:L By)(R:L T3)(nm:By)(d:BD):Prop:=
 (¬ (Ke n T R∧Ic ss ts=0∧Ar nm)∧d=⟨9,⟨#[]⟩,[],n,T,R,[],[],⟨#[]⟩,⟨#[]⟩⟩)∨
 ((Ke n T R∧Ic ss ts=0∧Ar nm)∧∃ms' s' a,Bc ss ts n.toNat [] ⟨T,R,[],[]⟩ [] (.make nm) ms' s' a∧
   ((∃m,a=.ok m∧d=⟨m.c,m.t,[],n,s'.T,s'.R,s'.ran,s'.held,⟨#[]⟩,⟨#[]⟩⟩)∨(∃b,a=.bad b∧d=⟨Jw b,txF b,chF b,n,T,R,[],[],clA b,clB b⟩)))
theorem Me.uniq{d':BD}(h:Me n ss ts T R nm d)(k:Me n ss ts T R nm d')(hv:Ic ss ts=0→SpV ss ts):d'=d:=by
 rcases h with⟨h0,rfl⟩|⟨h0,ms,s,a,hb,h1⟩
 ·rcases k with⟨k0,rfl⟩|⟨k0,_⟩
  ·rfl
  ·exact absurd k0 h0
 ·rcases k with⟨k0,_⟩|⟨k0,br,s2,a2,kb,k1⟩
  ·exact absurd h0 k0
  ·have L9:=hv h0.2.1
   obtain⟨rfl,rfl,rfl⟩:=Bc.unique L9.ascS L9.ascT hb kb
   rcases h1 with⟨m,rfl,rfl⟩|⟨b,rfl,rfl⟩
   ·rcases k1 with⟨m2,e,rfl⟩|⟨b2,e,_⟩
    ·cases e;rfl
    ·cases e
   ·rcases k1 with⟨m2,e,_⟩|⟨b2,e,rfl⟩
    ·cases e
    ·cases e;rfl
theorem Lf(w:E)(lo:X):w.ownsRow lo 9 1 nS ([]:L By).length (Aq []):=World.ownsRow_nil _ _ _ _
theorem apt4{a b c e:Z}(h1:∀x,a.ownBlock=M x→b.ownBlock≠M x)(h2:∀x,a.ownBlock=M x→c.ownBlock≠M x)(h3:∀x,a.ownBlock=M x→e.ownBlock≠M x)(h4:∀x,b.ownBlock=M x→c.ownBlock≠M x)(h5:∀x,b.ownBlock=M x→e.ownBlock≠M x)(h6:∀x,c.ownBlock=M x→e.ownBlock≠M x):Hp [a,b,c,e]:=by
 unfold Hp;refine List.Pairwise.cons (λu hu=>?_) (List.Pairwise.cons (λu hu=>?_) (List.Pairwise.cons (λu hu=>?_) (List.Pairwise.cons (λu hu=>by simp at hu) List.Pairwise.nil)))
 ·simp only[List.mem_cons,List.not_mem_nil,or_false]at hu
  rcases hu with rfl|rfl|rfl
  ·exact h1
  ·exact h2
  ·exact h3
 ·simp only[List.mem_cons,List.not_mem_nil,or_false]at hu
  rcases hu with rfl|rfl
  ·exact h4
  ·exact h5
 ·simp only[List.mem_cons,List.not_mem_nil,or_false]at hu
  subst hu;exact h6
theorem noB:∀x,nS.ownBlock=M x→u.ownBlock≠M x:=λx e=>qbg
theorem noC:∀x,u.ownBlock=M x→nS.ownBlock≠M x:=λx e=>by simp[Value.ownBlock]
theorem Jh.says{x y A B':Z}(h:Jh B w b [x,y,cv,I 0,nS,nS,nS,nS,A,B']):x=I (Jw b)∧y=S (txF b)∧w.ownsRow B 9 1 cv (chF b).length (Aq (chF b))∧A=S (clA b)∧B'=S (clB b):=by
 cases b with
 | circle ch=>
   obtain⟨cv',a,e⟩:=h;simp only[List.cons.injEq,and_true,true_and]at e;obtain⟨rfl,rfl,rfl,rfl,rfl⟩:=e;exact⟨rfl,rfl,a,rfl,rfl⟩
 | deep nm'=>
   exact qeo
 | clash AM AK=>
   exact qeo
 | full=>
   exact qeo
theorem Hl.bo{v:Z}(h:Hl B n ss ts T R nm v w):∃d cv tx qv nv ev zs kv lv,Me n ss ts T R nm d∧BO w B d v cv tx qv nv ev zs kv lv:=by
 rcases h with⟨h0,tx,qv,rfl,hs⟩|⟨h0,m,rfl,ms',s',a,bi,⟨d,tx,qv,nv,ev,rfl,rfl,h1,⟨zs,kv,lv,h2⟩,h3,h4,h5⟩|⟨b,x,y,cv,tx,qv,A,B',rfl,h1,rfl,hs,h2⟩⟩
 ·obtain⟨zs,kv,lv,r⟩:=hs.rcs
  exact⟨⟨9,⟨#[]⟩,[],n,T,R,[],[],⟨#[]⟩,⟨#[]⟩⟩,nS,tx,qv,nS,nS,zs,kv,lv,Or.inl ⟨h0,rfl⟩,rfl,Lf _ _,hs.txt,r,Lf _ _,Lf _ _,apt4 noB noB noB noC noC noC⟩
 ·refine⟨⟨d.c,d.t,[],m,s'.T,s'.R,s'.ran,s'.held,⟨#[]⟩,⟨#[]⟩⟩,nS,tx,qv,nv,ev,zs,kv,lv,Or.inr ⟨h0,ms',s',_,bi,Or.inl ⟨d,rfl,rfl⟩⟩,rfl,Lf _ _,h1,h2,h3,h4,?_⟩
  exact List.Pairwise.cons (λu _=>noB) h5
 ·obtain⟨rfl,rfl,ho,rfl,rfl⟩:=h1.says
  obtain⟨zs,kv,lv,r⟩:=hs.rcs;exact⟨⟨Jw b,txF b,chF b,m,T,R,[],[],clA b,clB b⟩,cv,tx,qv,nS,nS,zs,kv,lv,Or.inr ⟨h0,ms',s',_,bi,Or.inr ⟨b,rfl,rfl⟩⟩,rfl,ho,hs.txt,r,Lf _ _,Lf _ _,apt4 h2 noC noC noC noC noC⟩
structure BW (w:E) (lo:X) (d:BD) (cv tx qv nv ev:Z) (zs:L Z) (kv lv:X→Z):Prop where
 ch:w.ownsRow lo 9 1 cv d.ch.length (Aq d.ch)
 txs:w.ownsRow lo 9 1 tx d.T.length (Aq d.T)
 rq:Jd w lo qv d.R zs kv lv
 ran:w.ownsRow lo 9 1 nv d.ran.length (Aq d.ran)
 held:w.ownsRow lo 9 1 ev d.held.length (Aq d.held)
abbrev bV(d:BD)(cv tx qv nv ev:Z):Array Z:=#[I d.c,S d.t,cv,I d.n,tx,qv,nv,ev,S d.A,S d.B]
theorem BO.bw{lo:X}{v tx qv nv ev:Z}{zs:L Z}{kv lv:X→Z}(h:BO w lo d v cv tx qv nv ev zs kv lv):BW w lo d cv tx qv nv ev zs kv lv:=⟨h.ch,h.txs,h.rq,h.ran,h.held⟩
section
variable {w w':E} {lo:X} {d:BD} {cv tx qv nv ev:Z} {zs:L Z} {kv lv:X→Z}
theorem BW.kept(h:BW w lo d cv tx qv nv ev zs kv lv)(hk:∀(e sz n:X)(u:Z)(xs:L Z),w.ownsRow lo e sz u n xs→e≠54→w'.ownsRow lo e sz u n xs):BW w' lo d cv tx qv nv ev zs kv lv:=
 ⟨hk _ _ _ _ _ h.ch qd,hk _ _ _ _ _ h.txs qd,⟨hk _ _ _ _ _ h.rq.row qd,h.rq.fil,λi hi=>by obtain⟨ys,a,b⟩:=h.rq.code i hi;exact⟨ys,hk _ _ _ _ _ a qd,b⟩,λi hi=>by obtain⟨ys,a,b⟩:=h.rq.look i hi;exact⟨ys,hk _ _ _ _ _ a qd,b⟩,h.rq.apc,h.rq.apl⟩,hk _ _ _ _ _ h.ran qd,hk _ _ _ _ _ h.held qd⟩
theorem BW.bl(h:BW w lo d cv tx qv nv ev zs kv lv)(hb:Bw w w'):BW w' lo d cv tx qv nv ev zs kv lv:=h.kept λ_ _ _ _ _ ho _=>Ab ho hb
theorem BW.setU{h0:X}{cs:Array Z}{l:L (X×X×Z)}(h:BW w lo d cv tx qv nv ev zs kv lv)(hh:∀x∈l,x.1=h0)(hk:w.heap[h0]?=M (O cs 54 (0,0))):BW (Cu w l) lo d cv tx qv nv ev zs kv lv:=h.kept λ_ _ _ _ _ ho he=>Dy ho hh hk (λe=>he e.symm)
theorem BW.slices(h:BW w lo d cv tx qv nv ev zs kv lv):(∃a c,cv=J a d.ch.length c)∧(∃a c,tx=J a d.T.length c)∧(∃a c,qv=J a d.R.length c)∧(∃a c,nv=J a d.ran.length c)∧∃a c,ev=J a d.held.length c:=⟨Ay h.ch,Ay h.txs,Ay h.rq.row,Ay h.ran,Ay h.held⟩
end
theorem Vk(n:Int)(tb tc:X)(qa sa ta:Option Addr)(qc c1 c2:X)(T:L By)(R:L T3)(ss:L S2)(ts:L T2)(nm:By)(w:E)(de:Nm w (p_ tb) T qa R)(zh:Uo w qa R)(hr:R.length≤1048576)(jx:∀i,i<R.length→(qx R i).code.length≤1048576∧(qx R i).looks.length≤1048576)(xy:Lv w sa ss ta ts)(lx:Fj ss ts)(cm:nm.size<=9223372036854775807):Calls prog 22 #[G #[I n,J (p_ tb) T.length tc,J qa R.length qc],G #[J sa ss.length c1,J ta ts.length c2],S nm] w λe w'=>Bw w w'∧∃d cv tx qv nv ev zs kv lv,e=H (G (bV d cv tx qv nv ev))∧Me n ss ts T R nm d∧BW w' w.heap.size d cv tx qv nv ev zs kv lv:=by
 by_cases hv:Ke n T R∧Ic ss ts=0∧Ar nm
 ·obtain⟨m,rfl⟩:=Int.eq_ofNat_of_zero_le (show 0<=n by have:=hv.1.1;omega)
  refine(Vj m tb qa sa ta tc qc c1 c2 T R ss ts nm w hv.1 hv.2.1 hv.2.2 de zh xy lx).mono ?_;rintro e w' ⟨hb,ms',s',a,bi,⟨d,tx,qv,nv,ev,rfl,rfl,hs,h3,h4⟩|⟨b,x,y,cv,tx,qv,A,B',rfl,h1,rfl,hs⟩⟩
  ·obtain⟨zs,kv,lv,r⟩:=hs.rcs
   exact⟨hb,⟨d.c,d.t,[],m,s'.T,s'.R,s'.ran,s'.held,⟨#[]⟩,⟨#[]⟩⟩,_,_,_,_,_,zs,kv,lv,rfl,Or.inr ⟨hv,ms',s',_,bi,Or.inl ⟨d,rfl,rfl⟩⟩,Lf _ _,hs.txt,r,h3,h4⟩
  ·obtain⟨rfl,rfl,ho,rfl,rfl⟩:=h1.says
   obtain⟨zs,kv,lv,r⟩:=hs.rcs;exact⟨hb,⟨Jw b,txF b,chF b,m,T,R,[],[],clA b,clB b⟩,_,_,_,_,_,zs,kv,lv,rfl,Or.inr ⟨hv,ms',s',_,bi,Or.inr ⟨b,rfl,rfl⟩⟩,ho,hs.txt,r,Lf _ _,Lf _ _⟩
 ·refine(Yf n tb 0 tc qa sa ta qc c1 c2 T R ss ts nm w de zh hr jx xy lx cm hv).mono ?_
  rintro e w' ⟨hb,v,rfl,tx,qv,rfl,hs⟩;obtain⟨zs,kv,lv,r⟩:=hs.rcs;exact⟨hb,⟨9,⟨#[]⟩,[],n,T,R,[],[],⟨#[]⟩,⟨#[]⟩⟩,_,_,_,_,_,zs,kv,lv,rfl,Or.inl ⟨hv,rfl⟩,Lf _ _,hs.txt,r,Lf _ _,Lf _ _⟩
end Go.Proofs.YtbkkjodaaijimaaGreatDoor
