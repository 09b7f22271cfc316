import Derived.Test.YtnflkpmmfpfhlaaGreatDoorBvO
namespace Go.Proofs.YtnflkpmmfpfhlaaGreatDoor
open Value renaming slice->J,string->S,bool->F,agg->G,tuple->Y
open Option renaming some->M,none->N
open Obj renaming cells->O
open Go renaming Value->Z,World->E
open Ending renaming returned->H
open _root_ renaming List->L,Nat->X
set_option maxHeartbeats 8000000
set_option maxRecDepth 100000
open _root_.Go.Proofs.Tryz Go.RowKit Go.Deep
set_option linter.unusedVariables false
set_option linter.unusedSimpArgs false
def TryP(B h:X)(sv tv:Z)(n:X)(ss:L S2)(ts:L T2)(ms:Mm)(s:Sb)(st:L By)(v:Hv)(is:L I3)(w:E)(e:Ending)(w':E):Prop:=
 ∃ms' s' a,Az ss ts n ms s st (.tri is 0 s.R.length) ms' s' a/\((∃c t r v',a=.hit c t/\e=H (Y #[G #[I c,S t,nS],I r])/\0<=r/\Dn B (Cx h v) (Cx h v') w w'/\Gd B h sv tv n w' ms' s' st v'/\v'.u=[r.toNat])\/(∃v',a=.none/\e=H (Y #[G #[I 0,ze,nS],I (-1)])/\Dn B (Cx h v) (Cx h v') w w'/\Gd B h sv tv n w' ms' s' st v'/\v'.u=[])\/(∃b nv,a=.bad b/\e=H (Y #[G #[I 0,ze,nS],I (-1)])/\Dn B (Cx h v) (ownD h nv) w w'/\Gj B h st.length nv w' b))
theorem getA_rr{n:X}{T:L By}{t A:By}{ok:Bool}(ha:Hf (T.map (Ap n)))(h:Gh n T t A ok):A=Mc n T t/\(rrB A->ok=true):=by
 obtain⟨h1,h2⟩:=getA_of ha h;refine⟨h1,λhr=>h2.2 ?_⟩
 rcases Classical.em (Got n T t)with k|k
 ·exact k
 ·rw[h1,getA_none k]at hr;exact absurd hr rr_empty
theorem try_any(W0:E)(h:X)(sa ta:Option Addr)(c1 c2 n:X)(ss:L S2)(ts:L T2)(hE:Jf W0 sa ta ss ts)(st:L By)(hM:Oj W0 h (J sa ss.length c1) (J ta ts.length c2) n ss ts st)(h1:1<=n)(h8:n<=8)(ms:Mm)(s:Sb)(v:Hv)(a:Option Addr)(ac:X)(is:L I3)(w:E)(hb:Bw W0 w)(hs:Gd W0.heap.size h (J sa ss.length c1) (J ta ts.length c2) n w ms s st v)(hu:v.u=[])(hi:Gs ss ts ms st)(fw:Fy n s)(d8:Ls W0.heap.size w a is)(E8:is.length<=1048576)(hph:ms.length+200*s.R.length<=400200*Dp ts ms st)(Q9:Pr ts ms s st):Calls prog 82 #[.pointer (p_ h),G #[J a is.length ac]] w λe w'=>TryP W0.heap.size h (J sa ss.length c1) (J ta ts.length c2) n ss ts ms s st v is w e w':=by
 obtain⟨m,em⟩:=Aj s.R.length;have EM:=Ab em;obtain⟨W,eW⟩:=Aj ((w.alloc (O #[J a is.length ac] 70)).alloc (O #[I 0,ze,nS] 65));have HW:Hd (Bw w W):=by show Below _ _ _;rw[←eW];exact(aN _ _).alloc qi _
 obtain⟨Q,eQ⟩:=Aj w.heap.size;have HP0:Hd (W.heap[Q]?=M (O #[J a is.length ac] 70 (0,0))):=qgw
 have jk:Hd (W.heap[Q+1]?=M (O #[I 0,ze,nS] 65 (0,0))):=by
  exact qjo
 have HN:Hd (∀b,Q<=b->¬ Cx h v b):=λb hb=>hs.not qg;have gh:W0.heap.size<=w.heap.size:=hb.size;have O2:Hd (Dn W0.heap.size (Cx h v) (Cx h v) w W):=Dn.of_below HW.o gh;have N6:=Ab (hs.bl HW.o);have py:=Ab (hb.trans (HW.o.mono gh));have HCW:=Ab (d8.belowB (HW.o.mono gh));have HI0:=Ab hi;have tz:=Ab fw;have HM:=Ab hM;have HE:=Ab hE;have HPH:=Ab hph;have HCN0:=Ab Q9;have td:m<=2000:=by rw[←em];exact fw.2.1
 obtain⟨qa0,qc0,eq0⟩:∃a cap,v.qv=J a s.R.length cap:=by obtain⟨xs,cv,lv,r⟩:=hs.rcs;exact Al r.row
 have k4:W.cell? ⟨h,4,N⟩=M (J qa0 m qc0):=by rw[cH N6.o.blk,←em,←eq0];rfl
 clear hs hb hi fw hM hE em hph d8 eq0 Q9;go_enter func82,ntmps82;go_wp2_with fail
 try rw[eQ]
 clear eW k4
 go_loopw [7] (λi wr=>∃(k:X)(ms':Mm)(s':Sb)(v':Hv),k<=m/\i=I k/\Hd (∀ce s2 a,Az ss ts n ms' s' st (.tri is k m) ce s2 a->Az ss ts n ms s st (.tri is 0 m) ce s2 a)/\Hd (Gs ss ts ms' st)/\Hd (Fy n s')/\Hd (m<=s'.R.length)/\Hd (400200*Dp ts ms st+ms'.length<=ms.length+200*k+400200*Dp ts ms' st)/\Hd (Pr ts ms' s' st)/\Hd (Dn W0.heap.size (Cx h v) (Cx h v') W wr)/\Hd (Gd W0.heap.size h (J sa ss.length c1) (J ta ts.length c2) n wr ms' s' st v')/\Hd (v'.u=[])) (λi _=>m-(intOf i).toNat)
 case atStart=>exact⟨0,ms,s,v,Nat.zero_le _,rfl,(λ_ _ _ k=>k),HI0,tz,Nat.le_of_eq EM.o.symm,(by show _<=_;omega:400200*Dp ts ms st+ms.length<=ms.length+200*0+400200*Dp ts ms st),HCN0,Dn.refl _,N6,Ab hu⟩
 case round=>
  obtain⟨k,ms',s',v',hk,rfl,gt,HI,HK,HML,HC,ou,gi,HS,HU⟩:=hrel;have jl:=Ab (py.o.trans gi.o.bel);have bx:=jl.o.size;have ja:=Ab (gi.o.blk jk.o (HN.o _ qg))
  by_cases ai:k<m
  rotate_left 1
  ·have fs:¬ (k:Int)<(m:Int):=qg
   have HY:=Ab (gt.o _ _ _ (.tend (ss:=ss) (ts:=ts) (n:=n) (ms:=ms') (s:=s') (st:=st) (is:=is) (i:=k) (m:=m) qg));obtain⟨z0,z1,z2,zf⟩:=Ci ja.o;go_wp2_with fail;obtain⟨y0,y1,y2,_⟩:=Ci (Ba ja.o (I 0) ze nS);exact bR (v:=Y #[G #[I 0,ze,nS],I (-1)]) qgx rfl ⟨ms',s',.none,by rw[EM.o];exact HY.o,Or.inr (Or.inl ⟨v',rfl,rfl,(O2.o.trans gi.o).set3 qg qg _ _ _,HS.o.set3 ⟨_,ja.o⟩ qh _ _ _,HU.o⟩)⟩
  have fs:(k:Int)<(m:Int):=qg;have jn:(0:Int)<=(k:Int):=qg;have hkr:=Nat.lt_of_lt_of_le ai HML.o;obtain⟨xs,cv,lw,ry⟩:=HS.o.rcs;obtain⟨qa,qc,eqv⟩:=Al ry.row;have hro:Eo wr W0.heap.size (J qa s'.R.length qc) s'.R:=⟨xs,cv,lw,by rw[←eqv];exact ry⟩;obtain⟨b,ca,cc,la,lc,rfl,g1,g2,g3,xv,hrG⟩:=hro.at hkr;obtain⟨zs,l1,l2⟩:=ry.look k hkr;obtain⟨zh,B7,el,_⟩:=Gl l1 l2
  have yq:lw k=J la (qx s'.R k).looks.length lc:=by
   have f2:=(ry.fil k hkr).2.1;have du:=ry.row;rw[eqv]at du;obtain⟨b',q,c2⟩:=Cv du f2
   cases q;rw[g2]at c2;exact(Option.some.inj c2).symm
  rw[yq]at l1;(have k4:wr.cell? ⟨h,4,N⟩=M (J (p_ b) s'.R.length qc):=by rw[cH HS.o.blk,←eqv];rfl);have EQV:=Ab eqv;have pi:=Ab (HK.o.2.2 k hkr);have oy:Hd (Wn n s' is k↔((qx s'.R k).code=is/\rrB (Mc n s'.T (qx s'.R k).out))):=Iff.rfl;have HOTH:Hd (¬ Wn n s' is k->∀ce s2 a,Az ss ts n ms' s' st (.tri is (k+1) m) ce s2 a->Az ss ts n ms s st (.tri is 0 m) ce s2 a):=λq1 ce s2 a q2=>gt.o _ _ _ (.tother ai q1 q2);have wo:Hd (Wn n s' is k->∀ce s2,Az ss ts n ms' s' st (.holds (qx s'.R k).looks 0) ce s2 .yes->Az ss ts n ms s st (.tri is 0 m) ce ⟨s2.T,s2.R,s2.ran,s2.held,s2.us++[k]⟩ (.hit (rdC (Mc n s'.T (qx s'.R k).out)) (rdT (Mc n s'.T (qx s'.R k).out)))):=λq1 ce s2 q2=>gt.o _ _ _ (.thit ai q1 q2);have je:Hd (Wn n s' is k->∀ms1 s1,Az ss ts n ms' s' st (.holds (qx s'.R k).looks 0) ms1 s1 .no->∀ce s2 a,Az ss ts n ms1 s1 st (.tri is (k+1) m) ce s2 a->Az ss ts n ms s st (.tri is 0 m) ce s2 a):=λq1 ms1 s1 q2 ce s2 a q3=>gt.o _ _ _ (.tno ai q1 q2 q3);have wu:Hd (Wn n s' is k->∀ms1 s1 b,Az ss ts n ms' s' st (.holds (qx s'.R k).looks 0) ms1 s1 (.bad b)->Az ss ts n ms s st (.tri is 0 m) ms1 s1 (.bad b)):=λq1 ms1 s1 b q2=>gt.o _ _ _ (.tbad ai q1 q2);obtain⟨ra,rb,rx_,erx⟩:∃x y z,qx s'.R k=⟨x,y,z⟩:=⟨_,_,_,rfl⟩;rw[erx]at g1 g2 g3 xv hrG l1 l2 pi oy wo je wu;dsimp only at g1 g2 g3 xv hrG l1 l2 pi oy wo je wu;have HL1:=Ab l1;have S6:=Ab l2;have iy:=Ab xv;clear l1 l2 xv hrG yq el hro ry erx gt;obtain⟨C,eC⟩:=Aj wr.heap.size;obtain⟨wC,eWC⟩:=Aj (wr.alloc (O #[J ca ra.length cc,J la rb.length lc,S rx_] 73));(have HBC:Hd (Bw wr wC):=by show Below _ _ _;rw[←eWC];exact aN _ _);have G7:=Ab (nW eWC eC);have tr:=Ab (HS.o.bl HBC.o);have D6:=Ab (gi.o.trans (Dn.of_below HBC.o bx));have J3:=Ab (jl.o.trans (HBC.o.mono bx));have HP0C:=Ab (D6.o.blk HP0.o (HN.o _ (Nat.le_refl _)));have G2:=Ab (Af ja.o HBC.o);have A0:=J3.o.size;have HR3C:=Ab (iy.o.bl HBC.o);have wm:=Ab (Ad HL1.o HBC.o);have HCC:=Ab (HCW.o.belowB D6.o.bel);obtain⟨d0,d1,d2⟩:=Bb G7.o;have p0:=Jh HP0C.o;(have hral:ra.length<=1048576:=by have:ra.length<=200:=(Gz pi.o.1).2;omega);go_wp2_with fail;clear eWC d0 d1 d2 p0 g1 g2 g3 k4;refine(l5Same_any ca a cc ac ra is wC HR3C.o HCC.o.1 hral E8).mono ?_;rintro e w1 ⟨ag,bb,rfl,hbb⟩;replace tr:=Ab (tr.o.bl ag);replace G7:=Ab (Af G7.o ag);replace G2:=Ab (Af G2.o ag);replace D6:=Ab (D6.o.trans (Dn.of_below ag A0));replace J3:=Ab (J3.o.trans (Below.mono ag A0));replace wm:=Ab (Ad wm.o ag);replace A0:=Nat.le_trans A0 ag.size;have HBI:=Ab hbb;clear ag hbb HR3C HCC HP0C;cases bb
  ·have HNA:Hd (¬ Wn n s' is k):=λq=>by have:=HBI.o.2 (oy.o.1 q).1;cases this
   clear HBI;go_wp2_with fail;go_roundw
   case rel=>exact⟨k+1,ms',s',v',qg,qm,HOTH.o HNA.o,HI,HK,HML,(by have:=HC.o;show _<=_;omega:400200*Dp ts ms st+ms'.length<=ms.length+200*(k+1)+400200*Dp ts ms' st),ou,D6,tr,HU⟩
   case measure=>simp[intOf];omega
  have S0:Hd (ra=is):=HBI.o.1 rfl;clear HBI;obtain⟨g1,p1,etx⟩:=tr.o.txa;(have di:Hd (∀V,Bw w1 V->Cu V (p_ g1) s'.T):=λV hV=>by have:=tr.o.txt;rw[etx]at this;exact Ya (Ad this hV));have l7:=Ab HK.o.1;go_wp2_with fail;refine Lt.begin 99 (λw'=>w'.cell? ⟨h,2,N⟩=M (I n)/\w'.cell? ⟨h,3,N⟩=M (J (p_ g1) s'.T.length p1)/\w'.cell? ⟨h,4,N⟩=M (J (p_ b) s'.R.length qc)/\w'.heap[C]?=M (O #[J ca ra.length cc,J la rb.length lc,S rx_] 73 (0,0))) qk ?_;obtain⟨wD,eD⟩:=Aj w1.drew;rw[eD];have dr:Bw w1 wD:=qaf;clear eD;replace tr:=Ab (tr.o.bl dr);replace G7:=Ab (Af G7.o dr);replace G2:=Ab (Af G2.o dr);replace D6:=Ab (D6.o.trans (Dn.of_below dr A0));replace J3:=Ab (J3.o.trans (Below.mono dr A0));replace wm:=Ab (Ad wm.o dr);replace A0:=Nat.le_trans A0 dr.size;have gz:(λw'=>w'.cell? ⟨h,2,N⟩=M (I n)/\w'.cell? ⟨h,3,N⟩=M (J (p_ g1) s'.T.length p1)/\w'.cell? ⟨h,4,N⟩=M (J (p_ b) s'.R.length qc)/\w'.heap[C]?=M (O #[J ca ra.length cc,J la rb.length lc,S rx_] 73 (0,0))) wD:=⟨(by rw[cH tr.o.blk];rfl),(by rw[cH tr.o.blk,←etx];rfl),(by rw[cH tr.o.blk,←EQV.o];rfl),G7.o⟩;have HD1:=Ab dr;change K 0 _
  iterate 6
   refine Lt.ti (v:=?_) gz ?_ ?_;rotate_left 1
   ·exact qme
   simp only[gX]
  refine Lt.sp (i:=6) (λK hK=>?_);go_simp;refine(l4Get_any n (p_ g1) (p_ b) p1 s'.R.length qc s'.T rx_ _ h1 h8 (di.o _ HD1.o) (zo l7.o.1) l7.o.2.1 l7.o.2.2).mono ?_;rintro e wG ⟨zy,A,ok,rfl,hgo⟩;have HGO:=Ab (getA_rr l7.o.2.2 hgo);replace tr:=Ab (tr.o.bl zy);replace G7:=Ab (Af G7.o zy);replace G2:=Ab (Af G2.o zy);replace D6:=Ab (D6.o.trans (Dn.of_below zy A0));replace J3:=Ab (J3.o.trans (Below.mono zy A0));replace wm:=Ab (Ad wm.o zy);replace A0:=Nat.le_trans A0 zy.size;have xe:(λw'=>w'.cell? ⟨h,2,N⟩=M (I n)/\w'.cell? ⟨h,3,N⟩=M (J (p_ g1) s'.T.length p1)/\w'.cell? ⟨h,4,N⟩=M (J (p_ b) s'.R.length qc)/\w'.heap[C]?=M (O #[J ca ra.length cc,J la rb.length lc,S rx_] 73 (0,0))) wG:=⟨(by rw[cH tr.o.blk];rfl),(by rw[cH tr.o.blk,←etx];rfl),(by rw[cH tr.o.blk,←EQV.o];rfl),G7.o⟩;refine hK.out _ _ (λ_=>xe) (λ_=>?_);clear hK K hgo
  try simp only[gX]
  change K 7 _
  iterate 5
   refine Lt.ti (v:=?_) xe ?_ ?_;rotate_left 1
   ·exact qme
   simp only[gX]
  refine Lt.done qk ?_ _;clear zy HD1 di;obtain⟨eA,hAok⟩:=HGO.o;have EA:=Ab eA;have HAO:=Ab hAok;clear eA hAok;(have hAs:A.size<=2002:=by rw[EA.o];exact Yy l7.o.2.1);go_wp2_with fail;refine(Qad A wG hAs).mono ?_;rintro e w2 ⟨af,hrd⟩;replace tr:=Ab (tr.o.bl af);replace G7:=Ab (Af G7.o af);replace G2:=Ab (Af G2.o af);replace D6:=Ab (D6.o.trans (Dn.of_below af A0));replace J3:=Ab (J3.o.trans (Below.mono af A0));replace wm:=Ab (Ad wm.o af);replace A0:=Nat.le_trans A0 af.size;clear af
  rcases hrd with⟨zn,rfl⟩|⟨zn,rfl⟩
  rotate_left 1
  ·have HNA:Hd (¬ Wn n s' is k):=λq=>zn (by rw[EA.o];exact(oy.o.1 q).2)
   clear zn HAO;cases ok
   all_goals
    go_wp2_with fail;obtain⟨w3,e3⟩:=Aj (w2.alloc (O #[I 0,ze,nS] 65));have au:Bw w2 w3:=qei;rw[e3];clear e3;replace tr:=Ab (tr.o.bl au);replace D6:=Ab (D6.o.trans (Dn.of_below au A0));go_roundw
    case rel=>exact⟨k+1,ms',s',v',qg,qm,HOTH.o HNA.o,HI,HK,HML,(by have:=HC.o;show _<=_;omega:400200*Dp ts ms st+ms'.length<=ms.length+200*(k+1)+400200*Dp ts ms' st),ou,D6,tr,HU⟩
    case measure=>simp[intOf];omega
  obtain rfl:=HAO.o zn;have HAP:Hd (Wn n s' is k):=oy.o.2 ⟨S0.o,by rw[←EA.o];exact zn⟩;obtain⟨rc,erc⟩:=Aj (rdC A);obtain⟨rt,ert⟩:=Aj (rdT A);rw[erc,ert];have ERC:=Ab (And.intro erc ert);clear erc ert zn HAO;obtain⟨d,ed⟩:=Aj w2.heap.size
  go_upto_region 9 with fail
  obtain⟨w3,e3⟩:=Aj (w2.alloc (O #[I rc,S rt,nS] 65));have au:Bw w2 w3:=qei;have HD:=Ab (nW e3 ed);have HND:Hd (¬ Cx h v' d):=tr.o.not qg;rw[e3]
  try rw[ed]
  clear e3;replace tr:=Ab (tr.o.bl au);replace G7:=Ab (Af G7.o au);replace D6:=Ab (D6.o.trans (Dn.of_below au A0));replace J3:=Ab (J3.o.trans (Below.mono au A0));replace wm:=Ab (Ad wm.o au);clear au;obtain⟨d0,d1,d2⟩:=Bb G7.o;go_wp2_with fail;clear d0 d1 d2;refine(holds_any W0 h sa ta c1 c2 n ss ts HE.o st HM.o h1 h8 ms' s' v' ca la ra.length cc lc rb zs rx_ w3 J3.o tr.o HU.o HI.o HK.o ⟨pi.o.2.2.1,λj hj=>(pi.o.2.2.2 j hj).1⟩ wm.o S6.o (λi hi=>by have:=(pi.o.2.2.2 i hi).2;show(gx rb i).sum.size<=_;rw[this];omega) (by have:=HC.o;have:=HPH.o;have:=pi.o.2.2.1;have:rb.length<=200:=this;have:=EM.o;omega) ou.o).mono ?_;rintro e w4 ⟨ce,s2,a2,bv,⟨y,v2,rfl,rfl,cm,dp,yk⟩|⟨bf,nb,rfl,rfl,cm,tg⟩⟩;rotate_left 1
  ·have jr:=Ab (wu.o HAP.o _ _ _ bv)
   have fj:=Ab (D6.o.trans cm);have wt:=Ab tg;have mz:=Ab (fj.o.blk jk.o (HN.o _ qg));clear bv cm tg;obtain⟨k9,_,_⟩:=wt.o.cells;obtain⟨z0,z1,z2,zf⟩:=Ci mz.o;go_wp2_with fail;obtain⟨y0,y1,y2,_⟩:=Ci (Ba mz.o (I 0) ze nS);exact bR (v:=Y #[G #[I 0,ze,nS],I (-1)]) qgx rfl ⟨_,_,_,by rw[EM.o];exact jr.o,Or.inr (Or.inr ⟨bf,nb,rfl,rfl,(O2.o.trans fj.o).set3 qg qg _ _ _,wt.o.set3 ⟨_,mz.o⟩ qh qh _ _ _⟩)⟩
  have fj:=Ab (D6.o.trans cm);have ct:=Ab dp;have Ge:=Ab yk;clear yk;have mz:=Ab (fj.o.blk jk.o (HN.o _ qg));have HDX:=Ab (cm.blk HD.o HND.o);have jr:=Ab bv;clear bv cm dp;cases y
  ·have re:=Ab (je.o HAP.o _ _ jr.o)
   obtain⟨i1,i2,i3,i4⟩:=Az.inv HE.o.v jr.o HI.o HK.o ⟨pi.o.2.2.1,λj hj=>(pi.o.2.2.2 j hj).1⟩ (λb q=>qz);have xz:=Az.cost HE.o.v jr.o HI.o HK.o ⟨pi.o.2.2.1,λj hj=>(pi.o.2.2.2 j hj).1⟩ (λb q=>qz);have B4:=Ab (Az.cntM HE.o.v jr.o HI.o HK.o ⟨pi.o.2.2.1,λj hj=>(pi.o.2.2.2 j hj).1⟩ (λb q=>qz) rfl ou.o);have J0:=Ab i1;have ft:=Ab i2;have HML2:=Ab (Nat.le_trans HML.o i3.len);(have HC2:Hd (400200*Dp ts ms st+ce.length<=ms.length+200*(k+1)+400200*Dp ts ce st):=by have:=HC.o;have:rb.length<=200:=pi.o.2.2.1;show _<=_;simp only[Pq]at xz;omega);have k9:=cK ct.o.blk 9;clear i1 i2 i3 i4 xz;go_wp2_with fail;go_roundw
   case rel=>exact⟨k+1,ce,s2,v2,qg,qm,re.o,J0,ft,HML2,HC2,B4,fj,ct,Ge⟩
   case measure=>simp[intOf];omega
  ·have re:=Ab (wo.o HAP.o _ _ jr.o)
   rw[←EA.o,ERC.o.1,ERC.o.2]at re;obtain⟨x0,x1,x2⟩:=Bb HDX.o;obtain⟨z0,z1,z2,zf⟩:=Ci mz.o;go_wp2_with fail;obtain⟨y0,y1,y2,_⟩:=Ci (Ba mz.o (I rc) (S rt) nS);exact bR (v:=Y #[G #[I rc,S rt,nS],I k]) qgx rfl ⟨_,_,_,by rw[EM.o];exact re.o,Or.inl ⟨_,_,_,⟨v2.tx,v2.qv,v2.mv,v2.kv,v2.nv,v2.ev,v2.u++[k]⟩,rfl,rfl,jn,(O2.o.trans fj.o).set3 qg qg _ _ _,(ct.o.set3 ⟨_,mz.o⟩ qh _ _ _).pend [k],by show v2.u++[k]=_;rw[Ge.o];rfl⟩⟩
theorem equal_any(a a':Option Addr)(ic jc:X)(is js:L I3)(w:E)(hc:Cn w a is)(pa:Cn w a' js)(hl:is.length≤1048576)(M3:js.length≤1048576):Calls prog 144 #[J a is.length ic,J a' js.length jc] w λe w'=>Bw w w'∧∃b,e=H (F b)∧(b=true↔is=js):=by
 by_cases hn:is.length=js.length
 ·obtain⟨n,D1⟩:∃n,Hd (is.length=n):=⟨_,rfl⟩
  have HLB:=Ab (hn.symm.trans D1.o);rw[D1.o]at hl ⊢;rw[HLB.o]at M3 ⊢;clear hn;have U3:((n:Int) != (n:Int))=false:=qi;go_enter func144,ntmps144;go_wp2
  go_loopw [13] (λi wr=>∃k:X,k≤n∧i=I k∧Hd (∀j,j<k→ix is j=ix js j)∧Bw w wr) (λi _=>n-(intOf i).toNat)
  case atStart=>exact⟨0,Nat.zero_le _,rfl,(λj hj=>qg),Below.refl _ _⟩
  case round=>
   obtain⟨k,hk,rfl,HN,hB⟩:=hrel
   by_cases ai:k<n
   ·obtain⟨b,off,rfl,e1,e2,e3⟩:=(hc.bl (hB.drew)) k (zo D1.o)
    obtain⟨b',bz,rfl,f1,f2,f3⟩:=(pa.bl (hB.drew)) k (zo HLB.o);have fs:(k:Int)<(n:Int):=qg;have jn:(0:Int)≤(k:Int):=qg;have oq:Hd (ix is k≠ix js k→(false=true↔is=js)):=λhne=>⟨λh=>(by cases h),λe=>absurd (by rw[e]) hne⟩
    have zb:Hd (ix is k=ix js k→∀j,j<k+1→ix is j=ix js j):=λhe j hj=>by
     exact qmu
    generalize ix is k=x at *;generalize ix js k=y at *;obtain⟨x0,x1,x2⟩:=x;obtain⟨y0,y1,y2⟩:=y;dsimp only at e1 e2 e3 f1 f2 f3
    by_cases h0:x0=y0
    ·subst h0
     by_cases h1:x1=y1
     ·subst h1
      by_cases h2:x2=y2
      ·subst h2
       have S4:=Ab (zb.o rfl);clear zb oq HN;go_wp2_with fail;go_region
       all_goals
        go_wp2;exact⟨⟨k+1,qg,qm,S4.o,hB.drew⟩,qap⟩
      ·have hq:=h2
       have dd:=hq;have D0:=Ab (oq.o (λe=>hq qax));clear zb oq HN hq h2;exact qfw
     ·have hq:=h1
      have dd:¬ (x1.toList=y1.toList):=λe=>hq (Ur e);have D0:=Ab (oq.o (λe=>hq qax));clear zb oq HN hq h1;exact qfw
    ·have hq:=h0
     have dd:=hq;have D0:=Ab (oq.o (λe=>hq qax));clear zb oq HN hq h0;exact qfw
   ·exact qjr
 ·have U3:((is.length:Int) != (js.length:Int))=true:=qj
  have D0:Hd (false=true↔is=js):=⟨λh=>(by cases h),λe=>absurd (by rw[e]) hn⟩;go_enter func144,ntmps144;go_wp2;go_ret;exact⟨Below.refl _ _,false,rfl,D0.o⟩
def Fre(h mb:X)(C:Fr)(av kv:Z)(r:Rv)(b:X):Prop:=b≠h/\b≠mb/\av.ownBlock≠M b/\kv.ownBlock≠M b/\¬ Lc C r b
def TyK(T:TypeId):Prop:=T≠165/\T≠133/\T≠136/\T≠9/\T≠73/\T≠4
instance (T:TypeId):Decidable (TyK T):=by unfold TyK;infer_instance
section
variable {B h mb k:X} {C:Fr} {sv tv:Z} {ss:L S2} {ts:L T2} {w w':E} {ms:Mm} {mk st:L By} {al:X} {av kv av' kv':Z} {vs:By->Z} {s s':Sb} {r r':Rv}
theorem BS.fresh(q:BS B h mb k C sv tv ss ts w ms mk st al av kv vs s r){b:X}(hb:w.heap.size<=b):Fre h mb C av kv r b:=
 ⟨λe=>by have:=q.mkr.lt (Or.inl e);omega,λe=>by have:=q.mkr.lt (Or.inr (Or.inl e));omega,λe=>by have:=q.mkr.lt (Or.inr (Or.inr (Or.inl e)));omega,λe=>by have:=q.mkr.lt (Or.inr (Or.inr (Or.inr e)));omega,λe=>by have:=(q.rs.lt e).2;omega⟩
theorem BS.freK(q:BS B h mb k C sv tv ss ts w ms mk st al av kv vs s r){b:X}{T:TypeId}{cs:Array Z}(hb:w.heap[b]?=M (O cs T (0,0)))(hT:TyK T):Fre h mb C av kv r b:=
 ⟨λe=>q.mkr.far hb hT.1 hT.2.2.2.1 (Or.inl e) rfl,λe=>q.mkr.far hb hT.1 hT.2.2.2.1 (Or.inr (Or.inl e)) rfl,λe=>q.mkr.far hb hT.1 hT.2.2.2.1 (Or.inr (Or.inr (Or.inl e))) rfl,λe=>q.mkr.far hb hT.1 hT.2.2.2.1 (Or.inr (Or.inr (Or.inr e))) rfl,q.rs.far hb hT.2⟩
theorem KQ.fre(K:KQ B h mb C av kv r r' w w')(ha:Am w av av')(hk:Am w kv kv'){b:X}(hb:b<w.heap.size)(f:Fre h mb C av kv r b):Fre h mb C av' kv' r' b:=
 ⟨f.1,f.2.1,λe=>by rcases ha b e with q|q;exact f.2.2.1 q;omega,λe=>by rcases hk b e with q|q;exact f.2.2.2.1 q;omega,λe=>by rcases K.new b e with q|q;exact f.2.2.2.2 q;omega⟩
theorem KQ.keepF(K:KQ B h mb C av kv r r' w w'){b:X}{o:Obj}(hb:w.heap[b]?=M o)(f:Fre h mb C av kv r b):w'.heap[b]?=M o:=by rw[K.keep b (Ag hb) f.1 f.2.1 f.2.2.1 f.2.2.2.1 f.2.2.2.2];exact hb
theorem KQ.blkK(K:KQ B h mb C av kv r r' w w')(q:BS B h mb k C sv tv ss ts w ms mk st al av kv vs s r){b:X}{T:TypeId}{cs:Array Z}(hb:w.heap[b]?=M (O cs T (0,0)))(hT:TyK T):w'.heap[b]?=M (O cs T (0,0)):=K.keepF hb (q.freK hb hT)
theorem KQ.ownK(K:KQ B h mb C av kv r r' w w')(q:BS B h mb k C sv tv ss ts w ms mk st al av kv vs s r){B' e sz n:X}{u:Z}{xs:L Z}(ho:w.ownsRow B' e sz u n xs)(hT:TyK e):w'.ownsRow B' e sz u n xs:=An ho λb o=>by
 obtain⟨cs,c1⟩:=Bd ho b o;rw[c1];exact K.blkK q c1 hT
theorem Vi{w:E}{B n g cap i:X}{xs:L Bool}(h:w.ownsRow B 4 1 (J (p_ g) n cap) n (xs.map Value.bool))(hi:i<n)(v:Bool):(w.setCell ⟨g,i,N⟩ (F v)).ownsRow B 4 1 (J (p_ g) n cap) n ((xs.set i v).map Value.bool):=by
 rcases h.2 with⟨e,_⟩|⟨g',c',cur,e,hB,hh,h1,h2,h3,h4⟩
 ·simp at e
 ·simp only[Value.slice.injEq,Option.some.injEq,Addr.mk.injEq,and_true,true_and]at e
  obtain⟨rfl,rfl⟩:=e;have hl:=h.1;rw[List.length_map]at hl;refine⟨by rw[List.length_map,List.length_set];exact hl,Or.inr ⟨g,cap,cur.setIfInBounds i (F v),rfl,hB,jB hh _,h1,h2,by rw[Array.size_setIfInBounds];exact h3,?_⟩⟩;rw[Array.toList_setIfInBounds,List.map_set,←h4,List.take_set]
theorem BS.setDf(q:BS B h mb k C sv tv ss ts w ms mk st al av kv vs s r){g n cap i:X}(hd:r.dv=J (p_ g) n cap)(hi:i<s.R.length)(hn:NoH ss ts C.n ms (qx s.R i).looks):BS B h mb k C sv tv ss ts (w.setCell ⟨g,i,N⟩ (F true)) ms mk st al av kv vs s r/\KQ B h mb C av kv r r w (w.setCell ⟨g,i,N⟩ (F true)):=by
 obtain⟨f,f1,f2⟩:=q.rs.sn;obtain⟨xs,u1,u9⟩:=q.rs.us;obtain⟨ys,d1,d2⟩:=q.rs.df;have hob:r.dv.ownBlock=M g:=by rw[hd];rfl
 obtain⟨yv,cs,hg⟩:=Dh d1 hob;have ht:Dl w g 4:=⟨_,hg⟩;have hne:∀b,b≠g->(w.setCell ⟨g,i,N⟩ (F true)).heap[b]?=w.heap[b]?:=λb e=>Dm w ⟨g,i,N⟩ _ b e
 have E5:n=s.R.length:=by
  have:=d1.2;exact qne
 subst E5;rw[hd]at d1;have hd':=Vi d1 hi true;rw[←hd]at hd';refine q.upd ((Below.refl B w).setCell (p:=⟨g,i,N⟩) yv _) (λb hb ho=>hne b (λe=>ho (e▸Bk C (u:=r.dv) qy hob))) ?_ (λb o=>Or.inl o) (Lr.same λb o=>hne b (λe=>?_)) (Nat.le_refl _)
 ·refine⟨q.rs.lb,q.rs.wd,?_,?_,⟨f,f1.same (hne _ (λe=>f1.notCells (e▸hg))),f2⟩,Ak q.rs.tx ht qh _,Ak q.rs.su ht qh _,q.rs.qs.kept (λb o=>hne b (λe=>?_)) (λb cs' T hT hb=>?_),Ak q.rs.ran ht qh _,Ak q.rs.held ht qh _,⟨xs,An u1 (λb o=>hne b (λe=>q.rs.ud b o (e▸hob))),u9⟩,⟨ys.set i true,hd',λj hj=>?_⟩,q.rs.ud,q.rs.ap⟩
  ·exact qky
  ·exact qkx
  ·exact qdl
  ·exact qkm
  ·rw[List.getElem?_set]at hj
   split at hj
   ·rename_i e;subst e;exact hn
   ·exact d2 j hj
 ·exact qdl
theorem usSet{xs:L Bool}{us:L X}(h:∀j:X,xs[j]?=M true <-> j∈us){i:X}(hi:i<xs.length):∀j:X,(xs.set i true)[j]?=M true <-> j∈us++[i]:=λj=>by
 rw[List.getElem?_set,List.mem_append,List.mem_singleton]
 by_cases e:i=j
 ·subst e;simp[hi]
 ·rw[if_neg e,h j];exact⟨Or.inl,λq=>q.elim id (λq=>absurd q.symm e)⟩
theorem BS.setUs(q:BS B h mb k C sv tv ss ts w ms mk st al av kv vs s r){g n cap i:X}(hd:r.uv=J (p_ g) n cap)(hi:i<s.R.length):BS B h mb k C sv tv ss ts (w.setCell ⟨g,i,N⟩ (F true)) ms mk st al av kv vs ⟨s.T,s.R,s.ran,s.held,s.us++[i]⟩ r/\KQ B h mb C av kv r r w (w.setCell ⟨g,i,N⟩ (F true)):=by
 obtain⟨f,f1,f2⟩:=q.rs.sn;obtain⟨xs,u1,u9⟩:=q.rs.us;obtain⟨ys,d1,d2⟩:=q.rs.df;have hob:r.uv.ownBlock=M g:=by rw[hd];rfl
 obtain⟨yv,cs,hg⟩:=Dh u1 hob;have ht:Dl w g 4:=⟨_,hg⟩;have hne:∀b,b≠g->(w.setCell ⟨g,i,N⟩ (F true)).heap[b]?=w.heap[b]?:=λb e=>Dm w ⟨g,i,N⟩ _ b e
 have E5:n=s.R.length:=by
  have:=u1.2;exact qne
 subst E5;have lq:i<xs.length:=by have:=u1.1;rw[List.length_map]at this;omega
 rw[hd]at u1;have hd':=Vi u1 hi true;rw[←hd]at hd';refine q.upd ((Below.refl B w).setCell (p:=⟨g,i,N⟩) yv _) (λb hb ho=>hne b (λe=>ho (e▸Bk C (u:=r.uv) qy hob))) ?_ (λb o=>Or.inl o) (Lr.same λb o=>hne b (λe=>?_)) (Nat.le_refl _)
 ·refine⟨q.rs.lb,q.rs.wd,?_,?_,⟨f,f1.same (hne _ (λe=>f1.notCells (e▸hg))),f2⟩,Ak q.rs.tx ht qh _,Ak q.rs.su ht qh _,q.rs.qs.kept (λb o=>hne b (λe=>?_)) (λb cs' T hT hb=>?_),Ak q.rs.ran ht qh _,Ak q.rs.held ht qh _,⟨xs.set i true,hd',usSet u9 lq⟩,⟨ys,An d1 (λb o=>hne b (λe=>q.rs.ud b (e▸hob) o)),d2⟩,q.rs.ud,q.rs.ap⟩
  ·exact qky
  ·exact qkx
  ·exact qdl
  ·exact qkm
 ·exact qdl
end
def TakeB(B h mb:X)(C:Fr)(sv tv:Z)(ss:L S2)(ts:L T2)(ms:Mm)(s:Sb)(st:L By)(av kv:Z)(r:Rv)(is:L I3)(w:E)(e:Ending)(w':E):Prop:=
 (∃ms' s' av' kv' vs' r',((∃c t,Az ss ts C.n ms s st (.tri is 0 s.R.length) ms' s' (.hit c t)/\e=H (Y #[G #[I c,S t,nS],F true]))\/(Az ss ts C.n ms s st (.tri is 0 s.R.length) ms' s' .none/\e=H (Y #[G #[I 0,ze,nS],F false])))/\Lu B h mb C sv tv ss ts w' ms' st av' kv' vs' s' r'/\KQ B h mb C av kv r r' w w'/\Am w av av'/\Am w kv kv'/\r'.sn+400200*Dp ts ms st<=r.sn+200*s.R.length+400200*Dp ts ms' st)\/
 (∃b v r' ms' s',e=Lm v/\KQ B h mb C av kv r r' w w'/\Az ss ts C.n ms s st (.tri is 0 s.R.length) ms' s' (.bad b)/\Dj B C w' b v)
section
variable {B h mb k:X} {C:Fr} {sv tv:Z} {ss:L S2} {ts:L T2} {w w':E} {ms:Mm} {mk st:L By} {al:X} {av kv:Z} {vs:By->Z} {s:Sb} {r r':Rv}
theorem KQ.recAt(K:KQ B h mb C av kv r r' w w')(q:BS B h mb k C sv tv ss ts w ms mk st al av kv vs s r){i:X}(hi:i<s.R.length):∃g cp ca cc la lc,r.qv=J (p_ g) s.R.length cp/\w'.cell? ⟨g,i*3,N⟩=M (J ca (qx s.R i).code.length cc)/\w'.cell? ⟨g,i*3+1,N⟩=M (J la (qx s.R i).looks.length lc)/\w'.cell? ⟨g,i*3+2,N⟩=M (S (qx s.R i).out)/\Cn w' ca (qx s.R i).code/\∃ys,w'.ownsRow B 115 3 (J la (qx s.R i).looks.length lc) (qx s.R i).looks.length ys/\Bx (qx s.R i).looks (qx s.R i).looks.length ys:=by
 obtain⟨xs,cv,lv,qr⟩:=q.rs.qs;obtain⟨f1,f2,f3⟩:=qr.fil i hi;obtain⟨ys,k1,k2⟩:=qr.code i hi;obtain⟨zs,l1,l2⟩:=qr.look i hi;have k1':=K.ownK q k1 qh;have l1':=K.ownK q l1 qh;obtain⟨ca,cc,e1,r1⟩:=Qh k1' k2;obtain⟨la,lc,e2⟩:=Al l1';rw[e1]at f1;rw[e2]at f2 l1'
 rcases qr.row.2 with⟨_,h0⟩|⟨g,cp,cur,e,hB,hh,h1,h2,h3,h4⟩
 ·omega
 ·obtain⟨cs',b',c'⟩:=K.old g _ cp cur e hh
  have at_:∀j u,j<s.R.length*3->xs[j]?=M u->w'.cell? ⟨g,j,N⟩=M u:=λj u hj hx=>by
   rw[cH b',c' j hj,←Array.getElem?_toList];rw[←h4,List.getElem?_take,if_pos hj]at hx;exact hx
  exact⟨g,cp,ca,cc,la,lc,e,at_ _ _ qg f1,at_ _ _ qg f2,at_ _ _ qg f3,r1,zs,l1',l2⟩
theorem BS.dfAt(q:BS B h mb k C sv tv ss ts w ms mk st al av kv vs s r){i:X}(hi:i<s.R.length):∃g cp b,r.dv=J (p_ g) s.R.length cp/\w.cell? ⟨g,i,N⟩=M (F b)/\(b=true->NoH ss ts C.n ms (qx s.R i).looks)/\∀j,w.frozen? ⟨g,j,N⟩=false:=by
 obtain⟨ys,d1,d2⟩:=q.rs.df;obtain⟨a,cap,e⟩:=Al d1;have hl:=d1.1;rw[List.length_map]at hl;have hy:i<ys.length:=qg;rw[e]at d1;obtain⟨g,rfl,hc⟩:=Cv (j:=i) (u:=F ys[i]) d1 (by rw[List.getElem?_map,Hq hy];rfl);obtain⟨_,cs,hh⟩:=Dh d1 (b:=g) rfl;exact⟨g,cap,ys[i],e,hc,λhb=>d2 i (by rw[Hq hy,hb]),λj=>fH hh j⟩
theorem BS.usAt(q:BS B h mb k C sv tv ss ts w ms mk st al av kv vs s r){i:X}(hi:i<s.R.length):∃g cp b,r.uv=J (p_ g) s.R.length cp/\w.cell? ⟨g,i,N⟩=M (F b)/\∀j,w.frozen? ⟨g,j,N⟩=false:=by
 obtain⟨ys,d1,u9⟩:=q.rs.us;obtain⟨a,cap,e⟩:=Al d1;have hl:=d1.1;rw[List.length_map]at hl;have hy:i<ys.length:=qg;rw[e]at d1;obtain⟨g,rfl,hc⟩:=Cv (j:=i) (u:=F ys[i]) d1 (by rw[List.getElem?_map,Hq hy];rfl);obtain⟨_,cs,hh⟩:=Dh d1 (b:=g) rfl;exact⟨g,cap,ys[i],e,hc,λj=>fH hh j⟩
theorem BS.get(q:BS B h mb k C sv tv ss ts w ms mk st al av kv vs s r)(fw:Fy C.n s)(t:By):Calls prog 145 #[.pointer (p_ C.hs),S t] w λe w'=>w=w'/\∃A ok,e=H (Y #[S A,F ok])/\A=Mc C.n s.T t/\A.size<=2002:=by
 obtain⟨ta,tc,e1⟩:=Al q.rs.tx;obtain⟨sa,sc,e2⟩:=Al q.rs.su;obtain⟨zs,cv,lv,qr⟩:=q.rs.qs;obtain⟨ra,rc,e3⟩:=Al qr.row;have h1:=q.rs.tx;rw[e1]at h1;have h2:=q.rs.su;rw[e2]at h2;have dp:=q.rs.sh;rw[e1,e2,e3]at dp;refine(get_any C.n C.hs ta ra sa tc s.R.length rc sc s.T t w dp (Nc (by rw[List.length_map]) h2) (Nc rfl h1) (zo fw.1.1) fw.1.2.2).mono ?_;rintro e w' ⟨rfl,A,ok,rfl,hg⟩;obtain⟨k1,_⟩:=getA_rr fw.1.2.2 hg;exact⟨rfl,A,ok,rfl,k1,by rw[k1];exact Yy fw.1.2.1⟩
end
end Go.Proofs.YtnflkpmmfpfhlaaGreatDoor
