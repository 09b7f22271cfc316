import Derived.Test.YtoakjccojifagaaGreatDoorBaC
namespace Go.Proofs.YtoakjccojifagaaGreatDoor
open _root_.Go.Proofs.Tryz Go.RowKit Go.Deep
open Value renaming slice->J,string->S,agg->G
open Option renaming some->M,none->N
open Obj renaming cells->O
open Go renaming Value->Z,World->E
open _root_ renaming List->L,Nat->X
set_option linter.unusedVariables false
set_option linter.unusedSimpArgs false
set_option maxHeartbeats 8000000
set_option maxRecDepth 100000
def Jo(B:X)(n:Int)(ss:L S2)(ts:L T2)(T:L By)(R:L T3)(xs:L By)(v:Z)(w':E):Prop:=
 ∃d cv tx qv nv ev zs kv lv,Jn n ss ts T R xs d∧BO w' B d v cv tx qv nv ev zs kv lv
section
variable {B B0:X} {n:Int} {ss:L S2} {ts:L T2} {T:L By} {R:L T3} {xs:L By} {v:Z} {w w':E}
theorem Jo.kept(h:Jo B n ss ts T R xs v w)(hk:∀(e sz n:X)(u:Z)(xs:L Z),w.ownsRow B e sz u n xs->e≠37->w'.ownsRow B e sz u n xs):Jo B n ss ts T R xs v w':=by
 obtain⟨d,cv,tx,qv,nv,ev,zs,kv,lv,hd,h⟩:=h;exact⟨d,cv,tx,qv,nv,ev,zs,kv,lv,hd,h.eq,hk _ _ _ _ _ h.ch qd,hk _ _ _ _ _ h.txs qd,⟨hk _ _ _ _ _ h.rq.row qd,h.rq.fil,λi hi=>by obtain⟨ys,a,b⟩:=h.rq.code i hi;exact⟨ys,hk _ _ _ _ _ a qd,b⟩,λi hi=>by obtain⟨ys,a,b⟩:=h.rq.look i hi;exact⟨ys,hk _ _ _ _ _ a qd,b⟩,h.rq.apc,h.rq.apl⟩,hk _ _ _ _ _ h.ran qd,hk _ _ _ _ _ h.held qd,h.ap⟩
theorem Jo.bl(h:Jo B n ss ts T R xs v w)(hb:Bw w w'):Jo B n ss ts T R xs v w':=h.kept λ_ _ _ _ _ ho _=>Ac ho hb
theorem Jo.base(h:Jo B n ss ts T R xs v w)(hB:B0<=B):Jo B0 n ss ts T R xs v w:=by
 obtain⟨d,cv,tx,qv,nv,ev,zs,kv,lv,hd,h⟩:=h;exact⟨d,cv,tx,qv,nv,ev,zs,kv,lv,hd,h.eq,Ah h.ch hB,Ah h.txs hB,⟨Ah h.rq.row hB,h.rq.fil,λi hi=>by obtain⟨ys,a,b⟩:=h.rq.code i hi;exact⟨ys,Ah a hB,b⟩,λi hi=>by obtain⟨ys,a,b⟩:=h.rq.look i hi;exact⟨ys,Ah a hB,b⟩,h.rq.apc,h.rq.apl⟩,Ah h.ran hB,Ah h.held hB,h.ap⟩
theorem Jo.setU{h0:X}{cs:Array Z}{l:L (X×X×Z)}(h:Jo B n ss ts T R xs v w)(hh:∀x∈l,x.1=h0)(hk:w.heap[h0]?=M (O cs 37 (0,0))):Jo B n ss ts T R xs v (Be w l):=h.kept λ_ _ _ _ _ ho he=>Cf ho hh hk (λe=>he e.symm)
theorem Jo.form(h:Jo B n ss ts T R xs v w):∃(xc:Int)(yt:By)(ca:Option Addr)(cn cc:X)(m:Int)(ta:Option Addr)(tn tc:X)(qa:Option Addr)(qn qc:X)(na:Option Addr)(nn nc:X)(ea:Option Addr)(en ec:X)(At Bt:By),v=G #[I xc,S yt,J ca cn cc,I m,J ta tn tc,J qa qn qc,J na nn nc,J ea en ec,S At,S Bt]:=by
 obtain⟨d,cv,tx,qv,nv,ev,zs,kv,lv,hd,h⟩:=h;obtain⟨⟨a1,b1,e1⟩,⟨a2,b2,e2⟩,⟨a3,b3,e3⟩,⟨a4,b4,e4⟩,⟨a5,b5,e5⟩⟩:=h.bw.slices;have h0:=h.eq;rw[e1,e2,e3,e4,e5]at h0;exact⟨_,_,_,_,_,_,_,_,_,_,_,_,_,_,_,_,_,_,_,_,h0⟩
end
structure ArgL (w:E) (n:Int) (tb tf:X) (qa sa ta:Option Addr) (T:L By) (R:L T3) (ss:L S2) (ts:L T2) (na:Option Addr) (xs:L By):Prop where
 tab:Kk w
 pow:Lq w
 st:Mc w (M ⟨tb,tf,N⟩) T qa R
 rz:Rk w qa R
 lr:R.length≤1048576
 lk:∀i,i<R.length→(qx R i).code.length≤1048576∧(qx R i).looks.length≤1048576
 sp:Lm w sa ss ta ts
 sm:Ew ss ts
 nl:xs.length≤1048576
 ns:Ca w na xs
 nn:∀i,(nx xs i).size≤9223372036854775807
theorem ArgL.bl{w w':E}{n:Int}{tb tf:X}{qa sa ta na:Option Addr}{T:L By}{R:L T3}{ss:L S2}{ts:L T2}{xs:L By}(h:ArgL w n tb tf qa sa ta T R ss ts na xs)(hb:Bw w w'):ArgL w' n tb tf qa sa ta T R ss ts na xs:=⟨h.tab.bl hb,h.pow.bl hb,h.st.bl hb,h.rz.bl hb,h.lr,h.lk,h.sp.bl hb,h.sm,h.nl,h.ns.bl hb,h.nn⟩
theorem all_any(n:Int)(tb tf tc nc:X)(na qa sa ta:Option Addr)(qc c1 c2:X)(T:L By)(R:L T3)(ss:L S2)(ts:L T2)(xs:L By)(w:E)(h:ArgL w n tb tf qa sa ta T R ss ts na xs):Calls prog 31 #[G #[I n,J (M ⟨tb,tf,N⟩) T.length tc,J qa R.length qc],G #[J sa ss.length c1,J ta ts.length c2],J na xs.length nc] w λe w'=>Bw w w'/\∃v u,e=.returned (.tuple #[v,u])/\Jo w.heap.size n ss ts T R xs v w':=by
 by_cases hv:Il n T R/\Gu ss ts=0/\xs.length≤200
 ·obtain⟨m,rfl⟩:=Int.eq_ofNat_of_zero_le (show 0<=n by have:=hv.1.1;omega)
  exact allA_yes m tb tf tc nc na xs qa sa ta qc c1 c2 T R ss ts w h.tab h.pow h.st h.rz h.lr h.lk h.sp h.sm hv.1 hv.2.1 hv.2.2 h.ns h.nn
 ·refine(allA_no n tb tf tc xs.length nc na (zo h.nl) qa sa ta qc c1 c2 T R ss ts w h.tab h.st h.rz h.lr h.lk h.sp h.sm hv).mono ?_
  rintro e w' ⟨hb,v,u,he,tx,qv,rfl,hs⟩;obtain⟨zs,kv,lv,r⟩:=hs.rcs;exact⟨hb,_,u,he,⟨9,⟨#[]⟩,[],n,T,R,[],[],⟨#[]⟩,⟨#[]⟩⟩,nS,tx,qv,nS,nS,zs,kv,lv,Or.inl ⟨hv,rfl⟩,rfl,Fq _ _,hs.txt,r,Fq _ _,Fq _ _,apt4 noB noB noB noC noC noC⟩
theorem implAll_any(n:Int)(tb tf tc nc:X)(na0:Option Addr)(qa sa ta:Option Addr)(qc c1 c2:X)(T:L By)(R:L T3)(ss:L S2)(ts:L T2)(xs:L By)(w:E)(ha:ArgL w n tb tf qa sa ta T R ss ts na0 xs):Calls prog 11 #[G #[I n,J (M ⟨tb,tf,N⟩) T.length tc,J qa R.length qc],G #[J sa ss.length c1,J ta ts.length c2],J na0 xs.length nc] w λe w'=>Bw w w'/\∃v,e=.returned v/\Jo w.heap.size n ss ts T R xs v w':=by
 obtain⟨W,eW⟩:=Aj (((w.alloc (O #[I n,J (M ⟨tb,tf,N⟩) T.length tc,J qa R.length qc] 35)).alloc (O #[J sa ss.length c1,J ta ts.length c2] 43)).alloc (O Qo 37));have bq:Bw w W:=qcn;have HQ:Hd (W.heap[w.heap.size]?=M (O #[I n,J (M ⟨tb,tf,N⟩) T.length tc,J qa R.length qc] 35 (0,0))):=qcr
 have HP:Hd (W.heap[w.heap.size+1]?=M (O #[J sa ss.length c1,J ta ts.length c2] 43 (0,0))):=by
  exact qdh
 have HZ:Hd (W.heap[w.heap.size+1+1]?=M (O Qo 37 (0,0))):=by
  exact qdg
 have B6:w.heap.size+1+1<W.heap.size:=Ag HZ.o;have oo:=Ad bq;have HAR:=Ad (ha.bl bq);obtain⟨q0,q1,q2,qf⟩:=Dx HQ.o;obtain⟨x0,x1⟩:=Ft HP.o;have HAL:=Ad (all_any n tb tf tc nc na0 qa sa ta qc c1 c2 T R ss ts xs W HAR.o);obtain⟨xm,exm⟩:=Aj xs.length;rw[exm]at HAL ⊢;clear exm;clear ha bq;go_enter func11,ntmps11;go_wp2_with fail;clear eW q0 q1 q2 qf x0 x1;refine HAL.o.mono ?_;rintro e w1 ⟨af,v,u,rfl,hpo⟩;obtain⟨xc,yt,ca,cn,cc,m,nk,tn,wu,J0,qn,I9,na,nn,N9,ea,en,ec,At,Bt,rfl⟩:=hpo.form;have HPO:=Ad (hpo.base (show w.heap.size<=W.heap.size from qb));have o8:=Ad (Ab af HZ.o);have d7:=Ad (bt oo.o af);have fm:=af.size;clear af hpo HAL HQ HP HZ oo HAR
 go_upto_region 2 with fail
 obtain⟨w2,e2⟩:=Aj (w1.alloc (O #[I xc,S yt,J ca cn cc,I m,J nk tn wu,J J0 qn I9,J na nn N9,J ea en ec,S At,S Bt] 37));obtain⟨RR,eRR⟩:=Aj w1.heap.size;have ag:=aB e2;have jo:=Ad (nW e2 eRR);rw[e2,eRR];have HPO2:=Ad (HPO.o.bl ag);have mu:=Ad (Ab ag o8.o);have fj:=Ad (bt d7.o ag);clear e2 eRR ag HPO o8 d7;obtain⟨k0,k1,k2,k3,k4,k5,k6,k7,k8,k9⟩:=Dz jo.o;obtain⟨ye,yd,yb,xz,xy,xx,xw,xv,xu,xr⟩:=Dz mu.o;have zcf:=fZ mu.o;obtain⟨l,el⟩:∃l:L (X×X×Z),l=[((w.heap.size+1+1),0,I xc),((w.heap.size+1+1),1,S yt),((w.heap.size+1+1),2,J ca cn cc),((w.heap.size+1+1),3,I m),((w.heap.size+1+1),4,J nk tn wu),((w.heap.size+1+1),5,J J0 qn I9),((w.heap.size+1+1),6,J na nn N9),((w.heap.size+1+1),7,J ea en ec),((w.heap.size+1+1),8,S At),((w.heap.size+1+1),9,S Bt)]:=⟨_,rfl⟩;have bi:∀x∈l,x.1=(w.heap.size+1+1):=qy;have be:=Cl l w2 _ bi mu.o;have hS:=HPO2.o.setU bi mu.o;have cr:Bw w (Be w2 l):=Az l w2 fj.o (λx hx=>qz);obtain⟨V,eV⟩:=Aj (Be w2 l);rw[eV]at be cr hS;rw[el]at be eV;simp only[Be,List.foldl]at eV;simp only[List.foldl,List.setIfInBounds_toArray,List.set_cons_zero,List.set_cons_succ]at be;have HV:=Ad be;have jz:=Ad cr;have ew:=Ad hS;clear be cr el bi hS;go_wp2_with fail
 try rw[eV]
 obtain⟨y0,y1,y2,y3,y4,y5,y6,y7,y8,y9⟩:=Dz HV.o;exact bR (v:=G #[I xc,S yt,J ca cn cc,I m,J nk tn wu,J J0 qn I9,J na nn N9,J ea en ec,S At,S Bt]) (by simp[results,results11,go_sem,y0,y1,y2,y3,y4,y5,y6,y7,y8,y9]) rfl ⟨jz.o,_,rfl,ew.o⟩
end Go.Proofs.YtoakjccojifagaaGreatDoor
