import Derived.Test.YtoihflimijabjaaGreatDoorBaA
namespace Go.Proofs.YtoihflimijabjaaGreatDoor
open Value renaming slice->J,string->S,agg->G,tuple->Y
open Option renaming some->M,none->N
open Obj renaming cells->O
open Go renaming World->E
open Ending renaming returned->H
open _root_ renaming List->L,Nat->X
set_option maxHeartbeats 8000000
set_option maxRecDepth 100000
open _root_.Go.Proofs.Tryz Go.RowKit Go.Deep
set_option linter.unusedVariables false
set_option linter.unusedSimpArgs false
def TryP(B h:X)(sv tv:Value)(n:X)(ss:L S2)(ts:L T2)(ms:Mm)(s:Sb)(st:L By)(v:Hv)(is:L I3)(w:E)(e:Ending)(w':E):Prop:=
 ∃ms' s' a,Ca ss ts n ms s st (.tri is 0 s.R.length) ms' s' a/\((∃c t r v',a=.hit c t/\e=H (Y #[G #[I c,S t,nS],I r])/\0<=r/\Cp B (Bs h v) (Bs h v') w w'/\Fl B h sv tv n w' ms' s' st v')\/(∃v',a=.none/\e=H (Y #[G #[I 0,ze,nS],I (-1)])/\Cp B (Bs h v) (Bs h v') w w'/\Fl B h sv tv n w' ms' s' st v')\/(∃b nv,a=.bad b/\e=H (Y #[G #[I 0,ze,nS],I (-1)])/\Cp B (Bs h v) (Vd h nv) w w'/\Fk B h st.length nv w' b))
theorem getA_rr{n:X}{T:L By}{t A:By}{ok:Bool}(ha:Fg (T.map (Ap n)))(h:Dt n T t A ok):A=Nu n T t/\(rrB A->ok=true):=by
 obtain⟨h1,h2⟩:=getA_of ha h;refine⟨h1,λhr=>h2.2 ?_⟩
 rcases Classical.em (Got n T t)with k|k
 ·exact k
 ·rw[h1,getA_none k]at hr;exact absurd hr rr_empty
theorem try_any(W0:E)(h:X)(sa ta:Option Addr)(c1 c2 n:X)(ss:L S2)(ts:L T2)(hE:EnvS W0 sa ta ss ts)(st:L By)(hM:Ly W0 h (J sa ss.length c1) (J ta ts.length c2) n ss ts st)(h1:1<=n)(h8:n<=8)(ms:Mm)(s:Sb)(v:Hv)(a:Option Addr)(ac:X)(is:L I3)(w:E)(hb:Bw W0 w)(hs:Fl W0.heap.size h (J sa ss.length c1) (J ta ts.length c2) n w ms s st v)(hi:Fj ss ts ms st)(cm:Ka n s)(gn:Oh W0.heap.size w a is)(A4:is.length<=1048576)(J4:ms.length+200*s.R.length<=400200*Hj ts ms st)(A5:Mb ts ms s st):Calls prog 96 #[.pointer (p_ h),G #[J a is.length ac]] w λe w'=>TryP W0.heap.size h (J sa ss.length c1) (J ta ts.length c2) n ss ts ms s st v is w e w':=by
 obtain⟨m,em⟩:=Aj s.R.length;have EM:=Ad em;obtain⟨W,eW⟩:=Aj ((w.alloc (O #[J a is.length ac] 53)).alloc (O #[I 0,ze,nS] 134));have HW:Hd (Bw w W):=by show Below _ _ _;rw[←eW];exact(aN _ _).alloc qi _
 obtain⟨Q,eQ⟩:=Aj w.heap.size;have HP0:Hd (W.heap[Q]?=M (O #[J a is.length ac] 53 (0,0))):=qff
 have yb:Hd (W.heap[Q+1]?=M (O #[I 0,ze,nS] 134 (0,0))):=by
  exact qin
 have HN:Hd (∀b,Q<=b->¬ Bs h v b):=λb hb=>hs.not qg;have aj:W0.heap.size<=w.heap.size:=hb.size;have ue:Hd (Cp W0.heap.size (Bs h v) (Bs h v) w W):=Cp.of_below HW.o aj;have Id:=Ad (hs.bl HW.o);have N7:=Ad (hb.trans (HW.o.mono aj));have HCW:=Ad (gn.belowB (HW.o.mono aj));have HI0:=Ad hi;have xh:=Ad cm;have HM:=Ad hM;have HE:=Ad hE;have HPH:=Ad J4;have N6:=Ad A5;have hm2:m<=2000:=by rw[←em];exact cm.2.1
 have P9:Q+1<W.heap.size:=Bq yb.o;obtain⟨qa0,qc0,eq0⟩:∃a cap,v.qv=J a s.R.length cap:=by obtain⟨xs,cv,lv,r⟩:=hs.rcs;exact Ax r.row
 have k4:W.cell? ⟨h,4,N⟩=M (J qa0 m qc0):=by rw[cH Id.o.blk,←em,←eq0];rfl
 clear hs hb hi cm hM hE em J4 gn eq0 A5;go_enter func96,ntmps96;go_wp2_with fail
 try rw[eQ]
 clear eW k4
 go_loopw [7] (λi wr=>∃(k:X)(ms':Mm)(s':Sb)(v':Hv),k<=m/\i=I k/\Hd (∀d7 s2 a,Ca ss ts n ms' s' st (.tri is k m) d7 s2 a->Ca ss ts n ms s st (.tri is 0 m) d7 s2 a)/\Hd (Fj ss ts ms' st)/\Hd (Ka n s')/\Hd (m<=s'.R.length)/\Hd (400200*Hj ts ms st+ms'.length<=ms.length+200*k+400200*Hj ts ms' st)/\Hd (Mb ts ms' s' st)/\Hd (Cp W0.heap.size (Bs h v) (Bs h v') W wr)/\Hd (Fl W0.heap.size h (J sa ss.length c1) (J ta ts.length c2) n wr ms' s' st v')) (λi _=>m-(intOf i).toNat)
 case atStart=>exact⟨0,ms,s,v,Nat.zero_le _,rfl,(λ_ _ _ k=>k),HI0,xh,Nat.le_of_eq EM.o.symm,(by show _<=_;omega:400200*Hj ts ms st+ms.length<=ms.length+200*0+400200*Hj ts ms st),N6,Cp.refl _,Id⟩
 case round=>
  obtain⟨k,ms',s',v',hk,rfl,fb,HI,HK,HML,HC,ug,fk,HS⟩:=hrel;have n7:=Ad (N7.o.trans fk.o.bel);have bo:W0.heap.size<=wr.heap.size:=n7.o.size;have kz:=Ad (fk.o.blk yb.o (HN.o _ qg))
  by_cases au:k<m
  rotate_left 1
  ·have gi:¬ (k:Int)<(m:Int):=qg
   have HY:=Ad (fb.o _ _ _ (.tend (ss:=ss) (ts:=ts) (n:=n) (ms:=ms') (s:=s') (st:=st) (is:=is) (i:=k) (m:=m) qg));obtain⟨z0,z1,z2,zf⟩:=Jp kz.o;go_wp2_with fail;obtain⟨y0,y1,y2,_⟩:=Jp (Cx kz.o (I 0) ze nS);exact bR (v:=Y #[G #[I 0,ze,nS],I (-1)]) qfg rfl ⟨ms',s',.none,by rw[EM.o];exact HY.o,Or.inr (Or.inl ⟨v',rfl,rfl,(ue.o.trans fk.o).set3 qg qg _ _ _,HS.o.set3 ⟨_,kz.o⟩ qh _ _ _⟩)⟩
  have gi:(k:Int)<(m:Int):=qg;have fe:(0:Int)<=(k:Int):=qg;have A3:k<s'.R.length:=Nat.lt_of_lt_of_le au HML.o;obtain⟨xs,cv,lw,pm⟩:=HS.o.rcs;obtain⟨qa,qc,eqv⟩:=Ax pm.row;have hro:Gr wr W0.heap.size (J qa s'.R.length qc) s'.R:=⟨xs,cv,lw,by rw[←eqv];exact pm⟩;obtain⟨b,ca,cc,la,lc,rfl,g1,g2,g3,T6,hrG⟩:=hro.at A3;obtain⟨zs,l1,l2⟩:=pm.look k A3;obtain⟨G1,G0,el,_⟩:=Hl l1 l2
  have D2:lw k=J la (qx s'.R k).looks.length lc:=by
   have f2:=(pm.fil k A3).2.1;have io:=pm.row;rw[eqv]at io;obtain⟨b',q,c2⟩:=Bi io f2
   cases q;rw[g2]at c2;exact(Option.some.inj c2).symm
  rw[D2]at l1;(have k4:wr.cell? ⟨h,4,N⟩=M (J (p_ b) s'.R.length qc):=by rw[cH HS.o.blk,←eqv];rfl);have EQV:=Ad eqv;have vg:=Ad (HK.o.2.2 k A3);have N8:Hd (Apt n s' is k↔((qx s'.R k).code=is/\rrB (Nu n s'.T (qx s'.R k).out))):=Iff.rfl;have HOTH:Hd (¬ Apt n s' is k->∀d7 s2 a,Ca ss ts n ms' s' st (.tri is (k+1) m) d7 s2 a->Ca ss ts n ms s st (.tri is 0 m) d7 s2 a):=λq1 d7 s2 a q2=>fb.o _ _ _ (.tother au q1 q2);have HHIT:Hd (Apt n s' is k->∀d7 s2,Ca ss ts n ms' s' st (.holds (qx s'.R k).looks 0) d7 s2 .yes->Ca ss ts n ms s st (.tri is 0 m) d7 s2 (.hit (rdC (Nu n s'.T (qx s'.R k).out)) (rdT (Nu n s'.T (qx s'.R k).out)))):=λq1 d7 s2 q2=>fb.o _ _ _ (.thit au q1 q2);have md:Hd (Apt n s' is k->∀ms1 s1,Ca ss ts n ms' s' st (.holds (qx s'.R k).looks 0) ms1 s1 .no->∀d7 s2 a,Ca ss ts n ms1 s1 st (.tri is (k+1) m) d7 s2 a->Ca ss ts n ms s st (.tri is 0 m) d7 s2 a):=λq1 ms1 s1 q2 d7 s2 a q3=>fb.o _ _ _ (.tno au q1 q2 q3);have HBAD:Hd (Apt n s' is k->∀ms1 s1 b,Ca ss ts n ms' s' st (.holds (qx s'.R k).looks 0) ms1 s1 (.bad b)->Ca ss ts n ms s st (.tri is 0 m) ms1 s1 (.bad b)):=λq1 ms1 s1 b q2=>fb.o _ _ _ (.tbad au q1 q2);obtain⟨ra,rb,rx_,erx⟩:∃x y z,qx s'.R k=⟨x,y,z⟩:=⟨_,_,_,rfl⟩;rw[erx]at g1 g2 g3 T6 hrG l1 l2 vg N8 HHIT md HBAD;dsimp only at g1 g2 g3 T6 hrG l1 l2 vg N8 HHIT md HBAD;have HL1:=Ad l1;have ip:=Ad l2;have ky:=Ad T6;clear l1 l2 T6 hrG D2 el hro pm erx fb;obtain⟨C,eC⟩:=Aj wr.heap.size;obtain⟨wC,eWC⟩:=Aj (wr.alloc (O #[J ca ra.length cc,J la rb.length lc,S rx_] 56));(have R7:Hd (Bw wr wC):=by show Below _ _ _;rw[←eWC];exact aN _ _);have gw:=Ad (nW eWC eC);have HNC:Hd (¬ Bs h v' C):=HS.o.not qg;have pd:=Ad (HS.o.bl R7.o);have vt:=Ad (fk.o.trans (Cp.of_below R7.o bo));have yj:=Ad (n7.o.trans (R7.o.mono bo));have HP0C:=Ad (vt.o.blk HP0.o (HN.o _ (Nat.le_refl _)));have tg:=Ad (Ac kz.o R7.o);have pz:W0.heap.size<=wC.heap.size:=yj.o.size;have HR3C:=Ad (ky.o.bl R7.o);have rr:=Ad (Ae HL1.o R7.o);have HCC:=Ad (HCW.o.belowB vt.o.bel);obtain⟨d0,d1,d2⟩:=Ab gw.o;have p0:=Dx HP0C.o;(have hral:ra.length<=1048576:=by have:ra.length<=200:=(Fz vg.o.1).2;omega);go_wp2_with fail;clear eWC d0 d1 d2 p0 g1 g2 g3 k4;refine(Zv ca a cc ac ra is wC HR3C.o HCC.o.1 hral A4).mono ?_;rintro e w1 ⟨ah,bb,rfl,hbb⟩;replace pd:=Ad (pd.o.bl ah);replace gw:=Ad (Ac gw.o ah);replace tg:=Ad (Ac tg.o ah);replace vt:=Ad (vt.o.trans (Cp.of_below ah pz));replace yj:=Ad (yj.o.trans (Below.mono ah pz));replace rr:=Ad (Ae rr.o ah);replace pz:W0.heap.size<=w1.heap.size:=Nat.le_trans pz ah.size;have HBI:=Ad hbb;clear ah hbb HR3C HCC HP0C;cases bb
  ·have t9:Hd (¬ Apt n s' is k):=λq=>by have:=HBI.o.2 (N8.o.1 q).1;cases this
   clear HBI;go_wp2_with fail;go_roundw
   case rel=>exact⟨k+1,ms',s',v',qg,qp,HOTH.o t9.o,HI,HK,HML,(by have:=HC.o;show _<=_;omega:400200*Hj ts ms st+ms'.length<=ms.length+200*(k+1)+400200*Hj ts ms' st),ug,vt,pd⟩
   case measure=>simp[intOf];omega
  have HSAME:Hd (ra=is):=HBI.o.1 rfl;clear HBI;obtain⟨g1,p1,etx⟩:=pd.o.txa;(have gu:Hd (∀V,Bw w1 V->Cs V (p_ g1) s'.T):=λV hV=>by have:=pd.o.txt;rw[etx]at this;exact Gx (Ae this hV));have jl:=Ad HK.o.1;go_wp2_with fail;have W4:Hd (Bw w1 w1):=Below.refl _ _;refine Lt.begin 99 (λw'=>w'.cell? ⟨h,2,N⟩=M (I n)/\w'.cell? ⟨h,3,N⟩=M (J (p_ g1) s'.T.length p1)/\w'.cell? ⟨h,4,N⟩=M (J (p_ b) s'.R.length qc)/\w'.heap[C]?=M (O #[J ca ra.length cc,J la rb.length lc,S rx_] 56 (0,0))) qk ?_;obtain⟨wD,eD⟩:=Aj w1.drew;rw[eD];have ao:Bw w1 wD:=qq;clear eD;replace pd:=Ad (pd.o.bl ao);replace gw:=Ad (Ac gw.o ao);replace tg:=Ad (Ac tg.o ao);replace vt:=Ad (vt.o.trans (Cp.of_below ao pz));replace yj:=Ad (yj.o.trans (Below.mono ao pz));replace rr:=Ad (Ae rr.o ao);replace pz:W0.heap.size<=wD.heap.size:=Nat.le_trans pz ao.size;have aw:(λw'=>w'.cell? ⟨h,2,N⟩=M (I n)/\w'.cell? ⟨h,3,N⟩=M (J (p_ g1) s'.T.length p1)/\w'.cell? ⟨h,4,N⟩=M (J (p_ b) s'.R.length qc)/\w'.heap[C]?=M (O #[J ca ra.length cc,J la rb.length lc,S rx_] 56 (0,0))) wD:=⟨(by rw[cH pd.o.blk];rfl),(by rw[cH pd.o.blk,←etx];rfl),(by rw[cH pd.o.blk,←EQV.o];rfl),gw.o⟩;have jf:=Ad ao;change K 0 _
  iterate 6
   refine Lt.ti (v:=?_) aw ?_ ?_;rotate_left 1
   ·exact qkj
   simp only[gX]
  refine Lt.sp (i:=6) (λK hK=>?_);go_simp;refine(Tu n (p_ g1) (p_ b) p1 s'.R.length qc s'.T rx_ _ h1 h8 (gu.o _ jf.o) (zo jl.o.1) jl.o.2.1 jl.o.2.2).mono ?_;rintro e wG ⟨hbG,A,ok,rfl,hgo⟩;have HGO:=Ad (getA_rr jl.o.2.2 hgo);replace pd:=Ad (pd.o.bl hbG);replace gw:=Ad (Ac gw.o hbG);replace tg:=Ad (Ac tg.o hbG);replace vt:=Ad (vt.o.trans (Cp.of_below hbG pz));replace yj:=Ad (yj.o.trans (Below.mono hbG pz));replace rr:=Ad (Ae rr.o hbG);replace pz:W0.heap.size<=wG.heap.size:=Nat.le_trans pz hbG.size;have bj:(λw'=>w'.cell? ⟨h,2,N⟩=M (I n)/\w'.cell? ⟨h,3,N⟩=M (J (p_ g1) s'.T.length p1)/\w'.cell? ⟨h,4,N⟩=M (J (p_ b) s'.R.length qc)/\w'.heap[C]?=M (O #[J ca ra.length cc,J la rb.length lc,S rx_] 56 (0,0))) wG:=⟨(by rw[cH pd.o.blk];rfl),(by rw[cH pd.o.blk,←etx];rfl),(by rw[cH pd.o.blk,←EQV.o];rfl),gw.o⟩;refine hK.out _ _ (λ_=>bj) (λ_=>?_);clear hK K hgo
  try simp only[gX]
  change K 7 _
  iterate 5
   refine Lt.ti (v:=?_) bj ?_ ?_;rotate_left 1
   ·exact qkj
   simp only[gX]
  refine Lt.done qk ?_ _;clear hbG jf gu;obtain⟨eA,hAok⟩:=HGO.o;have EA:=Ad eA;have HAO:=Ad hAok;clear eA hAok;(have hAs:A.size<=2002:=by rw[EA.o];exact getA_size jl.o.2.1);go_wp2_with fail;refine(Ut A wG hAs).mono ?_;rintro e w2 ⟨a9,dr⟩;replace pd:=Ad (pd.o.bl a9);replace gw:=Ad (Ac gw.o a9);replace tg:=Ad (Ac tg.o a9);replace vt:=Ad (vt.o.trans (Cp.of_below a9 pz));replace yj:=Ad (yj.o.trans (Below.mono a9 pz));replace rr:=Ad (Ae rr.o a9);replace pz:W0.heap.size<=w2.heap.size:=Nat.le_trans pz a9.size;clear a9
  rcases dr with⟨hrr,rfl⟩|⟨hrr,rfl⟩
  rotate_left 1
  ·have t9:Hd (¬ Apt n s' is k):=λq=>hrr (by rw[EA.o];exact(N8.o.1 q).2)
   clear hrr HAO;cases ok
   all_goals
    go_wp2_with fail;obtain⟨w3,e3⟩:=Aj (w2.alloc (O #[I 0,ze,nS] 134));have bh:Bw w2 w3:=qcn;rw[e3];clear e3;replace pd:=Ad (pd.o.bl bh);replace vt:=Ad (vt.o.trans (Cp.of_below bh pz));replace pz:W0.heap.size<=w3.heap.size:=Nat.le_trans pz bh.size;go_roundw
    case rel=>exact⟨k+1,ms',s',v',qg,qp,HOTH.o t9.o,HI,HK,HML,(by have:=HC.o;show _<=_;omega:400200*Hj ts ms st+ms'.length<=ms.length+200*(k+1)+400200*Hj ts ms' st),ug,vt,pd⟩
    case measure=>simp[intOf];omega
  obtain rfl:=HAO.o hrr;have HAP:Hd (Apt n s' is k):=N8.o.2 ⟨HSAME.o,by rw[←EA.o];exact hrr⟩;obtain⟨rc,erc⟩:=Aj (rdC A);obtain⟨rt,ert⟩:=Aj (rdT A);rw[erc,ert];have ERC:=Ad (And.intro erc ert);clear erc ert hrr HAO;obtain⟨d,ed⟩:=Aj w2.heap.size
  go_upto_region 9 with fail
  obtain⟨w3,e3⟩:=Aj (w2.alloc (O #[I rc,S rt,nS] 134));have bh:Bw w2 w3:=qcn;have HD:=Ad (nW e3 ed);have HND:Hd (¬ Bs h v' d):=pd.o.not qg;rw[e3]
  try rw[ed]
  clear e3;replace pd:=Ad (pd.o.bl bh);replace gw:=Ad (Ac gw.o bh);replace tg:=Ad (Ac tg.o bh);replace vt:=Ad (vt.o.trans (Cp.of_below bh pz));replace yj:=Ad (yj.o.trans (Below.mono bh pz));replace rr:=Ad (Ae rr.o bh);replace pz:W0.heap.size<=w3.heap.size:=Nat.le_trans pz bh.size;clear bh;obtain⟨d0,d1,d2⟩:=Ab gw.o;go_wp2_with fail;clear d0 d1 d2;refine(holds_any W0 h sa ta c1 c2 n ss ts HE.o st HM.o h1 h8 ms' s' v' ca la ra.length cc lc rb zs rx_ w3 yj.o pd.o HI.o HK.o ⟨vg.o.2.2.1,λj hj=>(vg.o.2.2.2 j hj).1⟩ rr.o ip.o (λi hi=>by have:=(vg.o.2.2.2 i hi).2;show(gx rb i).sum.size<=_;rw[this];omega) (by have:=HC.o;have:=HPH.o;have:=vg.o.2.2.1;have:rb.length<=200:=this;have:=EM.o;omega) ug.o).mono ?_;rintro e w4 ⟨d7,s2,a2,di,⟨y,v2,rfl,rfl,cu,dx⟩|⟨bf,nb,rfl,rfl,cu,nj⟩⟩;rotate_left 1
  ·have jg:=Ad (HBAD.o HAP.o _ _ _ di)
   have dp:=Ad (vt.o.trans cu);have ko:=Ad nj;have fj:=Ad (dp.o.blk yb.o (HN.o _ qg));clear di cu nj;obtain⟨k9,_,_⟩:=ko.o.cells;obtain⟨z0,z1,z2,zf⟩:=Jp fj.o;go_wp2_with fail;obtain⟨y0,y1,y2,_⟩:=Jp (Cx fj.o (I 0) ze nS);exact bR (v:=Y #[G #[I 0,ze,nS],I (-1)]) qfg rfl ⟨_,_,_,by rw[EM.o];exact jg.o,Or.inr (Or.inr ⟨bf,nb,rfl,rfl,(ue.o.trans dp.o).set3 qg qg _ _ _,ko.o.set3 ⟨_,fj.o⟩ qh qh _ _ _⟩)⟩
  have dp:=Ad (vt.o.trans cu);have fo:=Ad dx;have fj:=Ad (dp.o.blk yb.o (HN.o _ qg));have HDX:=Ad (cu.blk HD.o HND.o);have jg:=Ad di;clear di cu dx;cases y
  ·have M2:=Ad (md.o HAP.o _ _ jg.o)
   obtain⟨i1,i2,i3,i4⟩:=Ca.inv HE.o.v jg.o HI.o HK.o ⟨vg.o.2.2.1,λj hj=>(vg.o.2.2.2 j hj).1⟩ (λb q=>qz);have jx:=Ca.cost HE.o.v jg.o HI.o HK.o ⟨vg.o.2.2.1,λj hj=>(vg.o.2.2.2 j hj).1⟩ (λb q=>qz);have N4:=Ad (Ca.cntM HE.o.v jg.o HI.o HK.o ⟨vg.o.2.2.1,λj hj=>(vg.o.2.2.2 j hj).1⟩ (λb q=>qz) rfl ug.o);have zr:=Ad i1;have lu:=Ad i2;have HML2:Hd (m<=s2.R.length):=Nat.le_trans HML.o i3.len;(have zu:Hd (400200*Hj ts ms st+d7.length<=ms.length+200*(k+1)+400200*Hj ts d7 st):=by have:=HC.o;have:rb.length<=200:=vg.o.2.2.1;show _<=_;simp only[Qi]at jx;omega);have k9:=cK fo.o.blk 9;clear i1 i2 i3 i4 jx;go_wp2_with fail;go_roundw
   case rel=>exact⟨k+1,d7,s2,v2,qg,qp,M2.o,zr,lu,HML2,zu,N4,dp,fo⟩
   case measure=>simp[intOf];omega
  ·have M2:=Ad (HHIT.o HAP.o _ _ jg.o)
   rw[←EA.o,ERC.o.1,ERC.o.2]at M2;obtain⟨x0,x1,x2⟩:=Ab HDX.o;obtain⟨z0,z1,z2,zf⟩:=Jp fj.o;go_wp2_with fail;obtain⟨y0,y1,y2,_⟩:=Jp (Cx fj.o (I rc) (S rt) nS);exact bR (v:=Y #[G #[I rc,S rt,nS],I k]) qfg rfl ⟨_,_,_,by rw[EM.o];exact M2.o,Or.inl ⟨_,_,_,v2,rfl,rfl,fe,(ue.o.trans dp.o).set3 qg qg _ _ _,fo.o.set3 ⟨_,fj.o⟩ qh _ _ _⟩⟩
end Go.Proofs.YtoihflimijabjaaGreatDoor
