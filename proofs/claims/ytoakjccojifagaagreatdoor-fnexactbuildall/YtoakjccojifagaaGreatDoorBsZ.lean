import Derived.Test.YtoakjccojifagaaGreatDoorBsY
namespace Go.Proofs.YtoakjccojifagaaGreatDoor
open Value renaming slice->J,string->S,agg->G,tuple->Y
open Option renaming some->M,none->N
open Obj renaming cells->O
open Go renaming World->E
open Ending renaming returned->H
open _root_ renaming List->L,Nat->X
set_option maxHeartbeats 8000000
set_option maxRecDepth 100000
open _root_.Go.Proofs.Tryz Go.RowKit Go.Deep
set_option linter.unusedVariables false
set_option linter.unusedSimpArgs false
def TryP(B h:X)(sv tv:Value)(n:X)(ss:L S2)(ts:L T2)(ms:Mm)(s:Sb)(st:L By)(v:Hv)(is:L I3)(w:E)(e:Ending)(w':E):Prop:=
 ∃ms' s' a,Ba ss ts n ms s st (.tri is 0 s.R.length) ms' s' a/\((∃c t r v',a=.hit c t/\e=H (Y #[G #[I c,S t,nS],I r])/\0<=r/\Dc B (Cj h v) (Cj h v') w w'/\Gb B h sv tv n w' ms' s' st v')\/(∃v',a=.none/\e=H (Y #[G #[I 0,ze,nS],I (-1)])/\Dc B (Cj h v) (Cj h v') w w'/\Gb B h sv tv n w' ms' s' st v')\/(∃b nv,a=.bad b/\e=H (Y #[G #[I 0,ze,nS],I (-1)])/\Dc B (Cj h v) (Zh h nv) w w'/\Fz B h st.length nv w' b))
theorem getA_rr{n:X}{T:L By}{t A:By}{ok:Bool}(ha:Fu (T.map (Aq n)))(h:Fh n T t A ok):A=Ly n T t/\(Za A->ok=true):=by
 obtain⟨h1,h2⟩:=getA_of ha h;refine⟨h1,λhr=>h2.2 ?_⟩
 rcases Classical.em (Got n T t)with k|k
 ·exact k
 ·rw[h1,getA_none k]at hr;exact absurd hr rr_empty
theorem try_any(W0:E)(h:X)(sa ta:Option Addr)(c1 c2 n:X)(ss:L S2)(ts:L T2)(hE:He W0 sa ta ss ts)(st:L By)(hM:Ob W0 h (J sa ss.length c1) (J ta ts.length c2) n ss ts st)(h1:1<=n)(h8:n<=8)(ms:Mm)(s:Sb)(v:Hv)(a:Option Addr)(ac:X)(is:L I3)(w:E)(hb:Bw W0 w)(hs:Gb W0.heap.size h (J sa ss.length c1) (J ta ts.length c2) n w ms s st v)(hi:Fy ss ts ms st)(fw:Gi n s)(du:Lp W0.heap.size w a is)(E4:is.length<=1048576)(hph:ms.length+200*s.R.length<=400200*Dh ts ms st)(P7:Pf ts ms s st):Calls prog 97 #[.pointer (p_ h),G #[J a is.length ac]] w λe w'=>TryP W0.heap.size h (J sa ss.length c1) (J ta ts.length c2) n ss ts ms s st v is w e w':=by
 obtain⟨m,em⟩:=Aj s.R.length;have EM:=Ad em;obtain⟨W,eW⟩:=Aj ((w.alloc (O #[J a is.length ac] 92)).alloc (O #[I 0,ze,nS] 121));have HW:Hd (Bw w W):=by show Below _ _ _;rw[←eW];exact(aN _ _).alloc qg _
 obtain⟨Q,eQ⟩:=Aj w.heap.size;have HP0:Hd (W.heap[Q]?=M (O #[J a is.length ac] 92 (0,0))):=qgr
 have jp:Hd (W.heap[Q+1]?=M (O #[I 0,ze,nS] 121 (0,0))):=by
  exact qjb
 have HN:Hd (∀b,Q<=b->¬ Cj h v b):=λb hb=>hs.not qb;have gi:W0.heap.size<=w.heap.size:=hb.size;have No:Hd (Dc W0.heap.size (Cj h v) (Cj h v) w W):=Dc.of_below HW.o gi;have M2:=Ad (hs.bl HW.o);have I7:=Ad (hb.trans (HW.o.mono gi));have HCW:=Ad (du.belowB (HW.o.mono gi));have HI0:=Ad hi;have sj:=Ad fw;have HM:=Ad hM;have HE:=Ad hE;have HPH:=Ad hph;have HCN0:=Ad P7;have rm:m<=2000:=by rw[←em];exact fw.2.1
 obtain⟨qa0,qc0,eq0⟩:∃a cap,v.qv=J a s.R.length cap:=by obtain⟨xs,cv,lv,r⟩:=hs.rcs;exact Ax r.row
 have k4:W.cell? ⟨h,4,N⟩=M (J qa0 m qc0):=by rw[cH M2.o.blk,←em,←eq0];rfl
 clear hs hb hi fw hM hE em hph du eq0 P7;go_enter func97,ntmps97;go_wp2_with fail
 try rw[eQ]
 clear eW k4
 go_loopw [7] (λi wr=>∃(k:X)(ms':Mm)(s':Sb)(v':Hv),k<=m/\i=I k/\Hd (∀bv s2 a,Ba ss ts n ms' s' st (.tri is k m) bv s2 a->Ba ss ts n ms s st (.tri is 0 m) bv s2 a)/\Hd (Fy ss ts ms' st)/\Hd (Gi n s')/\Hd (m<=s'.R.length)/\Hd (400200*Dh ts ms st+ms'.length<=ms.length+200*k+400200*Dh ts ms' st)/\Hd (Pf ts ms' s' st)/\Hd (Dc W0.heap.size (Cj h v) (Cj h v') W wr)/\Hd (Gb W0.heap.size h (J sa ss.length c1) (J ta ts.length c2) n wr ms' s' st v')) (λi _=>m-(intOf i).toNat)
 case atStart=>exact⟨0,ms,s,v,Nat.zero_le _,rfl,(λ_ _ _ k=>k),HI0,sj,Nat.le_of_eq EM.o.symm,(by show _<=_;omega:400200*Dh ts ms st+ms.length<=ms.length+200*0+400200*Dh ts ms st),HCN0,Dc.refl _,M2⟩
 case round=>
  obtain⟨k,ms',s',v',hk,rfl,ig,HI,HK,HML,HC,om,gj,HS⟩:=hrel;have wt:=Ad (I7.o.trans gj.o.bel);have bp:W0.heap.size<=wr.heap.size:=wt.o.size;have je:=Ad (gj.o.blk jp.o (HN.o _ qb))
  by_cases aj:k<m
  rotate_left 1
  ·have iy:¬ (k:Int)<(m:Int):=qb
   have HY:=Ad (ig.o _ _ _ (.tend (ss:=ss) (ts:=ts) (n:=n) (ms:=ms') (s:=s') (st:=st) (is:=is) (i:=k) (m:=m) qb));obtain⟨z0,z1,z2,zf⟩:=Dx je.o;go_wp2_with fail;obtain⟨y0,y1,y2,_⟩:=Dx (Bp je.o (I 0) ze nS);exact bR (v:=Y #[G #[I 0,ze,nS],I (-1)]) qgs rfl ⟨ms',s',.none,by rw[EM.o];exact HY.o,Or.inr (Or.inl ⟨v',rfl,rfl,(No.o.trans gj.o).set3 qb qb _ _ _,HS.o.set3 ⟨_,je.o⟩ qd _ _ _⟩)⟩
  have iy:(k:Int)<(m:Int):=qb;have jr:(0:Int)<=(k:Int):=qb;have hkr:k<s'.R.length:=Nat.lt_of_lt_of_le aj HML.o;obtain⟨xs,cv,lw,um⟩:=HS.o.rcs;obtain⟨qa,qc,eqv⟩:=Ax um.row;have hro:Fx wr W0.heap.size (J qa s'.R.length qc) s'.R:=⟨xs,cv,lw,by rw[←eqv];exact um⟩;obtain⟨b,ca,cc,la,lc,rfl,g1,g2,g3,wv,hrG⟩:=hro.at hkr;obtain⟨zs,l1,l2⟩:=um.look k hkr;obtain⟨Of,X5,el,_⟩:=Gc l1 l2
  have ym:lw k=J la (qx s'.R k).looks.length lc:=by
   have f2:=(um.fil k hkr).2.1;have gt:=um.row;rw[eqv]at gt;obtain⟨b',q,c2⟩:=Cv gt f2
   cases q;rw[g2]at c2;exact(Option.some.inj c2).symm
  rw[ym]at l1;(have k4:wr.cell? ⟨h,4,N⟩=M (J (p_ b) s'.R.length qc):=by rw[cH HS.o.blk,←eqv];rfl);have EQV:=Ad eqv;have pc:=Ad (HK.o.2.2 k hkr);have jl:Hd (Vp n s' is k↔((qx s'.R k).code=is/\Za (Ly n s'.T (qx s'.R k).out))):=Iff.rfl;have HOTH:Hd (¬ Vp n s' is k->∀bv s2 a,Ba ss ts n ms' s' st (.tri is (k+1) m) bv s2 a->Ba ss ts n ms s st (.tri is 0 m) bv s2 a):=λq1 bv s2 a q2=>ig.o _ _ _ (.tother aj q1 q2);have vq:Hd (Vp n s' is k->∀bv s2,Ba ss ts n ms' s' st (.holds (qx s'.R k).looks 0) bv s2 .yes->Ba ss ts n ms s st (.tri is 0 m) bv s2 (.hit (rdC (Ly n s'.T (qx s'.R k).out)) (rdT (Ly n s'.T (qx s'.R k).out)))):=λq1 bv s2 q2=>ig.o _ _ _ (.thit aj q1 q2);have jk:Hd (Vp n s' is k->∀ms1 s1,Ba ss ts n ms' s' st (.holds (qx s'.R k).looks 0) ms1 s1 .no->∀bv s2 a,Ba ss ts n ms1 s1 st (.tri is (k+1) m) bv s2 a->Ba ss ts n ms s st (.tri is 0 m) bv s2 a):=λq1 ms1 s1 q2 bv s2 a q3=>ig.o _ _ _ (.tno aj q1 q2 q3);have vv:Hd (Vp n s' is k->∀ms1 s1 b,Ba ss ts n ms' s' st (.holds (qx s'.R k).looks 0) ms1 s1 (.bad b)->Ba ss ts n ms s st (.tri is 0 m) ms1 s1 (.bad b)):=λq1 ms1 s1 b q2=>ig.o _ _ _ (.tbad aj q1 q2);obtain⟨ra,rb,rx_,erx⟩:∃x y z,qx s'.R k=⟨x,y,z⟩:=⟨_,_,_,rfl⟩;rw[erx]at g1 g2 g3 wv hrG l1 l2 pc jl vq jk vv;dsimp only at g1 g2 g3 wv hrG l1 l2 pc jl vq jk vv;have Z6:=Ad l1;have R6:=Ad l2;have it:=Ad wv;clear l1 l2 wv hrG ym el hro um erx ig;obtain⟨C,eC⟩:=Aj wr.heap.size;obtain⟨wC,eWC⟩:=Aj (wr.alloc (O #[J ca ra.length cc,J la rb.length lc,S rx_] 95));(have HBC:Hd (Bw wr wC):=by show Below _ _ _;rw[←eWC];exact aN _ _);have S0:=Ad (nW eWC eC);have sd:=Ad (HS.o.bl HBC.o);have C9:=Ad (gj.o.trans (Dc.of_below HBC.o bp));have I6:=Ad (wt.o.trans (HBC.o.mono bp));have HP0C:=Ad (C9.o.blk HP0.o (HN.o _ (Nat.le_refl _)));have F9:=Ad (Af je.o HBC.o);have As:W0.heap.size<=wC.heap.size:=I6.o.size;have HR3C:=Ad (it.o.bl HBC.o);have vo:=Ad (Ac Z6.o HBC.o);have HCC:=Ad (HCW.o.belowB C9.o.bel);obtain⟨d0,d1,d2⟩:=Bb S0.o;have p0:=Jk HP0C.o;(have hral:ra.length<=1048576:=by have:ra.length<=200:=(Gx pc.o.1).2;omega);go_wp2_with fail;clear eWC d0 d1 d2 p0 g1 g2 g3 k4;refine(l5Same_any ca a cc ac ra is wC HR3C.o HCC.o.1 hral E4).mono ?_;rintro e w1 ⟨af,bb,rfl,hbb⟩;replace sd:=Ad (sd.o.bl af);replace S0:=Ad (Af S0.o af);replace F9:=Ad (Af F9.o af);replace C9:=Ad (C9.o.trans (Dc.of_below af As));replace I6:=Ad (I6.o.trans (Below.mono af As));replace vo:=Ad (Ac vo.o af);replace As:W0.heap.size<=w1.heap.size:=Nat.le_trans As af.size;have HBI:=Ad hbb;clear af hbb HR3C HCC HP0C;cases bb
  ·have HNA:Hd (¬ Vp n s' is k):=λq=>by have:=HBI.o.2 (jl.o.1 q).1;cases this
   clear HBI;go_wp2_with fail;go_roundw
   case rel=>exact⟨k+1,ms',s',v',qb,qj,HOTH.o HNA.o,HI,HK,HML,(by have:=HC.o;show _<=_;omega:400200*Dh ts ms st+ms'.length<=ms.length+200*(k+1)+400200*Dh ts ms' st),om,C9,sd⟩
   case measure=>simp[intOf];omega
  have Q7:Hd (ra=is):=HBI.o.1 rfl;clear HBI;obtain⟨g1,p1,etx⟩:=sd.o.txa;(have fc:Hd (∀V,Bw w1 V->Ca V (p_ g1) s'.T):=λV hV=>by have:=sd.o.txt;rw[etx]at this;exact Wz (Ac this hV));have pq:=Ad HK.o.1;go_wp2_with fail;refine Lt.begin 99 (λw'=>w'.cell? ⟨h,2,N⟩=M (I n)/\w'.cell? ⟨h,3,N⟩=M (J (p_ g1) s'.T.length p1)/\w'.cell? ⟨h,4,N⟩=M (J (p_ b) s'.R.length qc)/\w'.heap[C]?=M (O #[J ca ra.length cc,J la rb.length lc,S rx_] 95 (0,0))) qi ?_;obtain⟨wD,eD⟩:=Aj w1.drew;rw[eD];have dj:Bw w1 wD:=qab;clear eD;replace sd:=Ad (sd.o.bl dj);replace S0:=Ad (Af S0.o dj);replace F9:=Ad (Af F9.o dj);replace C9:=Ad (C9.o.trans (Dc.of_below dj As));replace I6:=Ad (I6.o.trans (Below.mono dj As));replace vo:=Ad (Ac vo.o dj);replace As:W0.heap.size<=wD.heap.size:=Nat.le_trans As dj.size;have ia:(λw'=>w'.cell? ⟨h,2,N⟩=M (I n)/\w'.cell? ⟨h,3,N⟩=M (J (p_ g1) s'.T.length p1)/\w'.cell? ⟨h,4,N⟩=M (J (p_ b) s'.R.length qc)/\w'.heap[C]?=M (O #[J ca ra.length cc,J la rb.length lc,S rx_] 95 (0,0))) wD:=⟨(by rw[cH sd.o.blk];rfl),(by rw[cH sd.o.blk,←etx];rfl),(by rw[cH sd.o.blk,←EQV.o];rfl),S0.o⟩;have HD1:=Ad dj;change K 0 _
  iterate 6
   refine Lt.ti (v:=?_) ia ?_ ?_;rotate_left 1
   ·exact qlo
   simp only[gX]
  refine Lt.sp (i:=6) (λK hK=>?_);go_simp;refine(l4Get_any n (p_ g1) (p_ b) p1 s'.R.length qc s'.T rx_ _ h1 h8 (fc.o _ HD1.o) (zo pq.o.1) pq.o.2.1 pq.o.2.2).mono ?_;rintro e wG ⟨zv,A,ok,rfl,hgo⟩;have HGO:=Ad (getA_rr pq.o.2.2 hgo);replace sd:=Ad (sd.o.bl zv);replace S0:=Ad (Af S0.o zv);replace F9:=Ad (Af F9.o zv);replace C9:=Ad (C9.o.trans (Dc.of_below zv As));replace I6:=Ad (I6.o.trans (Below.mono zv As));replace vo:=Ad (Ac vo.o zv);replace As:W0.heap.size<=wG.heap.size:=Nat.le_trans As zv.size;have wg:(λw'=>w'.cell? ⟨h,2,N⟩=M (I n)/\w'.cell? ⟨h,3,N⟩=M (J (p_ g1) s'.T.length p1)/\w'.cell? ⟨h,4,N⟩=M (J (p_ b) s'.R.length qc)/\w'.heap[C]?=M (O #[J ca ra.length cc,J la rb.length lc,S rx_] 95 (0,0))) wG:=⟨(by rw[cH sd.o.blk];rfl),(by rw[cH sd.o.blk,←etx];rfl),(by rw[cH sd.o.blk,←EQV.o];rfl),S0.o⟩;refine hK.out _ _ (λ_=>wg) (λ_=>?_);clear hK K hgo
  try simp only[gX]
  change K 7 _
  iterate 5
   refine Lt.ti (v:=?_) wg ?_ ?_;rotate_left 1
   ·exact qlo
   simp only[gX]
  refine Lt.done qi ?_ _;clear zv HD1 fc;obtain⟨eA,hAok⟩:=HGO.o;have EA:=Ad eA;have HAO:=Ad hAok;clear eA hAok;(have hAs:A.size<=2002:=by rw[EA.o];exact Xs pq.o.2.1);go_wp2_with fail;refine(Yv A wG hAs).mono ?_;rintro e w2 ⟨ag,hrd⟩;replace sd:=Ad (sd.o.bl ag);replace S0:=Ad (Af S0.o ag);replace F9:=Ad (Af F9.o ag);replace C9:=Ad (C9.o.trans (Dc.of_below ag As));replace I6:=Ad (I6.o.trans (Below.mono ag As));replace vo:=Ad (Ac vo.o ag);replace As:W0.heap.size<=w2.heap.size:=Nat.le_trans As ag.size;clear ag
  rcases hrd with⟨zl,rfl⟩|⟨zl,rfl⟩
  rotate_left 1
  ·have HNA:Hd (¬ Vp n s' is k):=λq=>zl (by rw[EA.o];exact(jl.o.1 q).2)
   clear zl HAO;cases ok
   all_goals
    go_wp2_with fail;obtain⟨w3,e3⟩:=Aj (w2.alloc (O #[I 0,ze,nS] 121));have au:Bw w2 w3:=qei;rw[e3];clear e3;replace sd:=Ad (sd.o.bl au);replace C9:=Ad (C9.o.trans (Dc.of_below au As));go_roundw
    case rel=>exact⟨k+1,ms',s',v',qb,qj,HOTH.o HNA.o,HI,HK,HML,(by have:=HC.o;show _<=_;omega:400200*Dh ts ms st+ms'.length<=ms.length+200*(k+1)+400200*Dh ts ms' st),om,C9,sd⟩
    case measure=>simp[intOf];omega
  obtain rfl:=HAO.o zl;have vz:Hd (Vp n s' is k):=jl.o.2 ⟨Q7.o,by rw[←EA.o];exact zl⟩;obtain⟨rc,erc⟩:=Aj (rdC A);obtain⟨rt,ert⟩:=Aj (rdT A);rw[erc,ert];have ERC:=Ad (And.intro erc ert);clear erc ert zl HAO;obtain⟨d,ed⟩:=Aj w2.heap.size
  go_upto_region 9 with fail
  obtain⟨w3,e3⟩:=Aj (w2.alloc (O #[I rc,S rt,nS] 121));have au:Bw w2 w3:=qei;have HD:=Ad (nW e3 ed);have HND:Hd (¬ Cj h v' d):=sd.o.not qb;rw[e3]
  try rw[ed]
  clear e3;replace sd:=Ad (sd.o.bl au);replace S0:=Ad (Af S0.o au);replace C9:=Ad (C9.o.trans (Dc.of_below au As));replace I6:=Ad (I6.o.trans (Below.mono au As));replace vo:=Ad (Ac vo.o au);clear au;obtain⟨d0,d1,d2⟩:=Bb S0.o;go_wp2_with fail;clear d0 d1 d2;refine(holds_any W0 h sa ta c1 c2 n ss ts HE.o st HM.o h1 h8 ms' s' v' ca la ra.length cc lc rb zs rx_ w3 I6.o sd.o HI.o HK.o ⟨pc.o.2.2.1,λj hj=>(pc.o.2.2.2 j hj).1⟩ vo.o R6.o (λi hi=>by have:=(pc.o.2.2.2 i hi).2;show(gx rb i).sum.size<=_;rw[this];omega) (by have:=HC.o;have:=HPH.o;have:=pc.o.2.2.1;have:rb.length<=200:=this;have:=EM.o;omega) om.o).mono ?_;rintro e w4 ⟨bv,s2,a2,bu,⟨y,v2,rfl,rfl,ci,di⟩|⟨bf,nb,rfl,rfl,ci,rv⟩⟩;rotate_left 1
  ·have ll:=Ad (vv.o vz.o _ _ _ bu)
   have fy:=Ad (C9.o.trans ci);have vt:=Ad rv;have pa:=Ad (fy.o.blk jp.o (HN.o _ qb));clear bu ci rv;obtain⟨k9,_,_⟩:=vt.o.cells;obtain⟨z0,z1,z2,zf⟩:=Dx pa.o;go_wp2_with fail;obtain⟨y0,y1,y2,_⟩:=Dx (Bp pa.o (I 0) ze nS);exact bR (v:=Y #[G #[I 0,ze,nS],I (-1)]) qgs rfl ⟨_,_,_,by rw[EM.o];exact ll.o,Or.inr (Or.inr ⟨bf,nb,rfl,rfl,(No.o.trans fy.o).set3 qb qb _ _ _,vt.o.set3 ⟨_,pa.o⟩ qd qd _ _ _⟩)⟩
  have fy:=Ad (C9.o.trans ci);have cu:=Ad di;have pa:=Ad (fy.o.blk jp.o (HN.o _ qb));have HDX:=Ad (ci.blk HD.o HND.o);have ll:=Ad bu;clear bu ci di;cases y
  ·have px:=Ad (jk.o vz.o _ _ ll.o)
   obtain⟨i1,i2,i3,i4⟩:=Ba.inv HE.o.v ll.o HI.o HK.o ⟨pc.o.2.2.1,λj hj=>(pc.o.2.2.2 j hj).1⟩ (λb q=>qw);have xd:=Ba.cost HE.o.v ll.o HI.o HK.o ⟨pc.o.2.2.1,λj hj=>(pc.o.2.2.2 j hj).1⟩ (λb q=>qw);have A8:=Ad (Ba.cntM HE.o.v ll.o HI.o HK.o ⟨pc.o.2.2.1,λj hj=>(pc.o.2.2.2 j hj).1⟩ (λb q=>qw) rfl om.o);have I2:=Ad i1;have gg:=Ad i2;have HML2:Hd (m<=s2.R.length):=Nat.le_trans HML.o i3.len;(have HC2:Hd (400200*Dh ts ms st+bv.length<=ms.length+200*(k+1)+400200*Dh ts bv st):=by have:=HC.o;have:rb.length<=200:=pc.o.2.2.1;show _<=_;simp only[Pe]at xd;omega);have k9:=cK cu.o.blk 9;clear i1 i2 i3 i4 xd;go_wp2_with fail;go_roundw
   case rel=>exact⟨k+1,bv,s2,v2,qb,qj,px.o,I2,gg,HML2,HC2,A8,fy,cu⟩
   case measure=>simp[intOf];omega
  ·have px:=Ad (vq.o vz.o _ _ ll.o)
   rw[←EA.o,ERC.o.1,ERC.o.2]at px;obtain⟨x0,x1,x2⟩:=Bb HDX.o;obtain⟨z0,z1,z2,zf⟩:=Dx pa.o;go_wp2_with fail;obtain⟨y0,y1,y2,_⟩:=Dx (Bp pa.o (I rc) (S rt) nS);exact bR (v:=Y #[G #[I rc,S rt,nS],I k]) qgs rfl ⟨_,_,_,by rw[EM.o];exact px.o,Or.inl ⟨_,_,_,v2,rfl,rfl,jr,(No.o.trans fy.o).set3 qb qb _ _ _,cu.o.set3 ⟨_,pa.o⟩ qd _ _ _⟩⟩
end Go.Proofs.YtoakjccojifagaaGreatDoor
