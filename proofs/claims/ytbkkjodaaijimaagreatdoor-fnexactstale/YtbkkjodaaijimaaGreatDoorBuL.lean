import Derived.Test.YtbkkjodaaijimaaGreatDoorBsY
import Derived.Test.YtbkkjodaaijimaaGreatDoorBuI
namespace Go.Proofs.YtbkkjodaaijimaaGreatDoor
open Value renaming slice->J,string->S,bool->F,agg->G,tuple->Y
open Option renaming some->M,none->N
open Obj renaming cells->O
open Go renaming Value->Z,World->E
open Ending renaming returned->H
open _root_ renaming List->L,Nat->X
set_option maxHeartbeats 8000000
set_option maxRecDepth 100000
open _root_.Go.Proofs.Tryz Go.RowKit Go.Deep
set_option linter.unusedVariables false
set_option linter.unusedSimpArgs false
def TryP(B h:X)(sv tv:Z)(n:X)(ss:L S2)(ts:L T2)(ms:Mm)(s:Sb)(st:L By)(v:Hv)(is:L I3)(w:E)(e:Ending)(w':E):Prop:=
 ∃ms' s' a,Bc ss ts n ms s st (.tri is 0 s.R.length) ms' s' a/\((∃c t r v',a=.hit c t/\e=H (Y #[G #[I c,S t,nS],I r])/\0<=r/\Cw B (Bz h v) (Bz h v') w w'/\Fy B h sv tv n w' ms' s' st v')\/(∃v',a=.none/\e=H (Y #[G #[I 0,ze,nS],I (-1)])/\Cw B (Bz h v) (Bz h v') w w'/\Fy B h sv tv n w' ms' s' st v')\/(∃b nv,a=.bad b/\e=H (Y #[G #[I 0,ze,nS],I (-1)])/\Cw B (Bz h v) (Yo h nv) w w'/\Fx B h st.length nv w' b))
theorem getA_rr{n:X}{T:L By}{t A:By}{ok:Bool}(ha:Fs (T.map (Av n)))(h:Ff n T t A ok):A=Lq n T t/\(Yh A->ok=true):=by
 obtain⟨h1,h2⟩:=getA_of ha h;refine⟨h1,λhr=>h2.2 ?_⟩
 rcases Classical.em (Got n T t)with k|k
 ·exact k
 ·rw[h1,getA_none k]at hr;exact absurd hr rr_empty
theorem try_any(W0:E)(h:X)(sa ta:Option Addr)(c1 c2 n:X)(ss:L S2)(ts:L T2)(hE:Hn W0 sa ta ss ts)(st:L By)(hM:Nw W0 h (J sa ss.length c1) (J ta ts.length c2) n ss ts st)(h1:1<=n)(h8:n<=8)(ms:Mm)(s:Sb)(v:Hv)(a:Option Addr)(ac:X)(is:L I3)(w:E)(hb:Bw W0 w)(hs:Fy W0.heap.size h (J sa ss.length c1) (J ta ts.length c2) n w ms s st v)(hi:Fv ss ts ms st)(ft:Jz n s)(dj:Kc W0.heap.size w a is)(zq:is.length<=1048576)(T9:ms.length+200*s.R.length<=400200*Db ts ms st)(J4:Ku ts ms s st):Calls prog 88 #[.pointer (p_ h),G #[J a is.length ac]] w λe w'=>TryP W0.heap.size h (J sa ss.length c1) (J ta ts.length c2) n ss ts ms s st v is w e w':=by
 obtain⟨m,em⟩:=Aj s.R.length;have EM:=Ac em;obtain⟨W,eW⟩:=Aj ((w.alloc (O #[J a is.length ac] 91)).alloc (O #[I 0,ze,nS] 120));have HW:Hd (Bw w W):=by show Below _ _ _;rw[←eW];exact(aN _ _).alloc qg _
 obtain⟨Q,eQ⟩:=Aj w.heap.size;have HP0:Hd (W.heap[Q]?=M (O #[J a is.length ac] 91 (0,0))):=qfx
 have jr:Hd (W.heap[Q+1]?=M (O #[I 0,ze,nS] 120 (0,0))):=by
  exact qil
 have HN:Hd (∀b,Q<=b->¬ Bz h v b):=λb hb=>hs.not qb;have fy:W0.heap.size<=w.heap.size:=hb.size;have H9:Hd (Cw W0.heap.size (Bz h v) (Bz h v) w W):=Cw.of_below HW.o fy;have yp:=Ac (hs.bl HW.o);have E4:=Ac (hb.trans (HW.o.mono fy));have HCW:=Ac (dj.belowB (HW.o.mono fy));have HI0:=Ac hi;have pi:=Ac ft;have HM:=Ac hM;have HE:=Ac hE;have HPH:=Ac T9;have HCN0:=Ac J4;have rd:m<=2000:=by rw[←em];exact ft.2.1
 have hQW:Q+1<W.heap.size:=Ag jr.o;obtain⟨qa0,qc0,eq0⟩:∃a cap,v.qv=J a s.R.length cap:=by obtain⟨xs,cv,lv,r⟩:=hs.rcs;exact Ay r.row
 have k4:W.cell? ⟨h,4,N⟩=M (J qa0 m qc0):=by rw[cH yp.o.blk,←em,←eq0];rfl
 clear hs hb hi ft hM hE em T9 dj eq0 J4;go_enter func88,ntmps88;go_wp2_with fail
 try rw[eQ]
 clear eW k4
 go_loopw [7] (λi wr=>∃(k:X)(ms':Mm)(s':Sb)(v':Hv),k<=m/\i=I k/\Hd (∀br s2 a,Bc ss ts n ms' s' st (.tri is k m) br s2 a->Bc ss ts n ms s st (.tri is 0 m) br s2 a)/\Hd (Fv ss ts ms' st)/\Hd (Jz n s')/\Hd (m<=s'.R.length)/\Hd (400200*Db ts ms st+ms'.length<=ms.length+200*k+400200*Db ts ms' st)/\Hd (Ku ts ms' s' st)/\Hd (Cw W0.heap.size (Bz h v) (Bz h v') W wr)/\Hd (Fy W0.heap.size h (J sa ss.length c1) (J ta ts.length c2) n wr ms' s' st v')) (λi _=>m-(intOf i).toNat)
 case atStart=>exact⟨0,ms,s,v,Nat.zero_le _,rfl,(λ_ _ _ k=>k),HI0,pi,Nat.le_of_eq EM.o.symm,(by show _<=_;omega:400200*Db ts ms st+ms.length<=ms.length+200*0+400200*Db ts ms st),HCN0,Cw.refl _,yp⟩
 case round=>
  obtain⟨k,ms',s',v',hk,rfl,jk,HI,HK,HML,HC,uz,fu,HS⟩:=hrel;have pk:=Ac (E4.o.trans fu.o.bel);have bj:W0.heap.size<=wr.heap.size:=pk.o.size;have ik:=Ac (fu.o.blk jr.o (HN.o _ qb))
  by_cases aj:k<m
  rotate_left 1
  ·have io:¬ (k:Int)<(m:Int):=qb
   have HY:=Ac (jk.o _ _ _ (.tend (ss:=ss) (ts:=ts) (n:=n) (ms:=ms') (s:=s') (st:=st) (is:=is) (i:=k) (m:=m) qb));obtain⟨z0,z1,z2,zf⟩:=Dw ik.o;go_wp2_with fail;obtain⟨y0,y1,y2,_⟩:=Dw (Bn ik.o (I 0) ze nS);exact bR (v:=Y #[G #[I 0,ze,nS],I (-1)]) qfy rfl ⟨ms',s',.none,by rw[EM.o];exact HY.o,Or.inr (Or.inl ⟨v',rfl,rfl,(H9.o.trans fu.o).set3 qb qb _ _ _,HS.o.set3 ⟨_,ik.o⟩ qd _ _ _⟩)⟩
  have io:(k:Int)<(m:Int):=qb;have iy:(0:Int)<=(k:Int):=qb;have hkr:k<s'.R.length:=Nat.lt_of_lt_of_le aj HML.o;obtain⟨xs,cv,lw,sf⟩:=HS.o.rcs;obtain⟨qa,qc,eqv⟩:=Ay sf.row;have hro:Ex wr W0.heap.size (J qa s'.R.length qc) s'.R:=⟨xs,cv,lw,by rw[←eqv];exact sf⟩;obtain⟨b,ca,cc,la,lc,rfl,g1,g2,g3,ve,hrG⟩:=hro.at hkr;obtain⟨zs,l1,l2⟩:=sf.look k hkr;obtain⟨I4,P5,el,_⟩:=Ha l1 l2
  have vt:lw k=J la (qx s'.R k).looks.length lc:=by
   have f2:=(sf.fil k hkr).2.1;have fg:=sf.row;rw[eqv]at fg;obtain⟨b',q,c2⟩:=Cy fg f2
   cases q;rw[g2]at c2;exact(Option.some.inj c2).symm
  rw[vt]at l1;(have k4:wr.cell? ⟨h,4,N⟩=M (J (p_ b) s'.R.length qc):=by rw[cH HS.o.blk,←eqv];rfl);have EQV:=Ac eqv;have mw:=Ac (HK.o.2.2 k hkr);have mo:Hd (Us n s' is k↔((qx s'.R k).code=is/\Yh (Lq n s'.T (qx s'.R k).out))):=Iff.rfl;have Z3:Hd (¬ Us n s' is k->∀br s2 a,Bc ss ts n ms' s' st (.tri is (k+1) m) br s2 a->Bc ss ts n ms s st (.tri is 0 m) br s2 a):=λq1 br s2 a q2=>jk.o _ _ _ (.tother aj q1 q2);have ue:Hd (Us n s' is k->∀br s2,Bc ss ts n ms' s' st (.holds (qx s'.R k).looks 0) br s2 .yes->Bc ss ts n ms s st (.tri is 0 m) br s2 (.hit (rdC (Lq n s'.T (qx s'.R k).out)) (rdT (Lq n s'.T (qx s'.R k).out)))):=λq1 br s2 q2=>jk.o _ _ _ (.thit aj q1 q2);have im:Hd (Us n s' is k->∀ms1 s1,Bc ss ts n ms' s' st (.holds (qx s'.R k).looks 0) ms1 s1 .no->∀br s2 a,Bc ss ts n ms1 s1 st (.tri is (k+1) m) br s2 a->Bc ss ts n ms s st (.tri is 0 m) br s2 a):=λq1 ms1 s1 q2 br s2 a q3=>jk.o _ _ _ (.tno aj q1 q2 q3);have uk:Hd (Us n s' is k->∀ms1 s1 b,Bc ss ts n ms' s' st (.holds (qx s'.R k).looks 0) ms1 s1 (.bad b)->Bc ss ts n ms s st (.tri is 0 m) ms1 s1 (.bad b)):=λq1 ms1 s1 b q2=>jk.o _ _ _ (.tbad aj q1 q2);obtain⟨ra,rb,rx_,erx⟩:∃x y z,qx s'.R k=⟨x,y,z⟩:=⟨_,_,_,rfl⟩;rw[erx]at g1 g2 g3 ve hrG l1 l2 mw mo ue im uk;dsimp only at g1 g2 g3 ve hrG l1 l2 mw mo ue im uk;have R6:=Ac l1;have R5:=Ac l2;have gz:=Ac ve;clear l1 l2 ve hrG vt el hro sf erx jk;obtain⟨C,eC⟩:=Aj wr.heap.size;obtain⟨wC,eWC⟩:=Aj (wr.alloc (O #[J ca ra.length cc,J la rb.length lc,S rx_] 94));(have uj:Hd (Bw wr wC):=by show Below _ _ _;rw[←eWC];exact aN _ _);have Le:=Ac (nW eWC eC);have HNC:Hd (¬ Bz h v' C):=HS.o.not qb;have pd:=Ac (HS.o.bl uj.o);have yw:=Ac (fu.o.trans (Cw.of_below uj.o bj));have L0:=Ac (pk.o.trans (uj.o.mono bj));have HP0C:=Ac (yw.o.blk HP0.o (HN.o _ (Nat.le_refl _)));have vi:=Ac (Af ik.o uj.o);have th:W0.heap.size<=wC.heap.size:=L0.o.size;have HR3C:=Ac (gz.o.bl uj.o);have t7:=Ac (Ab R6.o uj.o);have HCC:=Ac (HCW.o.belowB yw.o.bel);obtain⟨d0,d1,d2⟩:=Bd Le.o;have p0:=Ie HP0C.o;(have hral:ra.length<=1048576:=by have:ra.length<=200:=(La mw.o.1).2;omega);go_wp2_with fail;clear eWC d0 d1 d2 p0 g1 g2 g3 k4;refine(l5Same_any ca a cc ac ra is wC HR3C.o HCC.o.1 hral zq).mono ?_;rintro e w1 ⟨af,bb,rfl,X1⟩;replace pd:=Ac (pd.o.bl af);replace Le:=Ac (Af Le.o af);replace vi:=Ac (Af vi.o af);replace yw:=Ac (yw.o.trans (Cw.of_below af th));replace L0:=Ac (L0.o.trans (Below.mono af th));replace t7:=Ac (Ab t7.o af);replace th:W0.heap.size<=w1.heap.size:=Nat.le_trans th af.size;have HBI:=Ac X1;clear af X1 HR3C HCC HP0C;cases bb
  ·have Z8:Hd (¬ Us n s' is k):=λq=>by have:=HBI.o.2 (mo.o.1 q).1;cases this
   clear HBI;go_wp2_with fail;go_roundw
   case rel=>exact⟨k+1,ms',s',v',qb,qj,Z3.o Z8.o,HI,HK,HML,(by have:=HC.o;show _<=_;omega:400200*Db ts ms st+ms'.length<=ms.length+200*(k+1)+400200*Db ts ms' st),uz,yw,pd⟩
   case measure=>simp[intOf];omega
  have K4:Hd (ra=is):=HBI.o.1 rfl;clear HBI;obtain⟨g1,p1,etx⟩:=pd.o.txa;(have fh:Hd (∀V,Bw w1 V->Cc V (p_ g1) s'.T):=λV hV=>by have:=pd.o.txt;rw[etx]at this;exact Fa (Ab this hV));have rv:=Ac HK.o.1;go_wp2_with fail;have HW1:Hd (Bw w1 w1):=Below.refl _ _;refine Lt.begin 99 (λw'=>w'.cell? ⟨h,2,N⟩=M (I n)/\w'.cell? ⟨h,3,N⟩=M (J (p_ g1) s'.T.length p1)/\w'.cell? ⟨h,4,N⟩=M (J (p_ b) s'.R.length qc)/\w'.heap[C]?=M (O #[J ca ra.length cc,J la rb.length lc,S rx_] 94 (0,0))) qi ?_;obtain⟨wD,eD⟩:=Aj w1.drew;rw[eD];have ct:Bw w1 wD:=qy;clear eD;replace pd:=Ac (pd.o.bl ct);replace Le:=Ac (Af Le.o ct);replace vi:=Ac (Af vi.o ct);replace yw:=Ac (yw.o.trans (Cw.of_below ct th));replace L0:=Ac (L0.o.trans (Below.mono ct th));replace t7:=Ac (Ab t7.o ct);replace th:W0.heap.size<=wD.heap.size:=Nat.le_trans th ct.size;have gp:(λw'=>w'.cell? ⟨h,2,N⟩=M (I n)/\w'.cell? ⟨h,3,N⟩=M (J (p_ g1) s'.T.length p1)/\w'.cell? ⟨h,4,N⟩=M (J (p_ b) s'.R.length qc)/\w'.heap[C]?=M (O #[J ca ra.length cc,J la rb.length lc,S rx_] 94 (0,0))) wD:=⟨(by rw[cH pd.o.blk];rfl),(by rw[cH pd.o.blk,←etx];rfl),(by rw[cH pd.o.blk,←EQV.o];rfl),Le.o⟩;have HD1:=Ac ct;change K 0 _
  iterate 6
   refine Lt.ti (v:=?_) gp ?_ ?_;rotate_left 1
   ·exact qlc
   simp only[gX]
  refine Lt.sp (i:=6) (λK hK=>?_);go_simp;refine(l4Get_any n (p_ g1) (p_ b) p1 s'.R.length qc s'.T rx_ _ h1 h8 (fh.o _ HD1.o) (zo rv.o.1) rv.o.2.1 rv.o.2.2).mono ?_;rintro e wG ⟨xe,A,ok,rfl,hgo⟩;have HGO:=Ac (getA_rr rv.o.2.2 hgo);replace pd:=Ac (pd.o.bl xe);replace Le:=Ac (Af Le.o xe);replace vi:=Ac (Af vi.o xe);replace yw:=Ac (yw.o.trans (Cw.of_below xe th));replace L0:=Ac (L0.o.trans (Below.mono xe th));replace t7:=Ac (Ab t7.o xe);replace th:W0.heap.size<=wG.heap.size:=Nat.le_trans th xe.size;have uq:(λw'=>w'.cell? ⟨h,2,N⟩=M (I n)/\w'.cell? ⟨h,3,N⟩=M (J (p_ g1) s'.T.length p1)/\w'.cell? ⟨h,4,N⟩=M (J (p_ b) s'.R.length qc)/\w'.heap[C]?=M (O #[J ca ra.length cc,J la rb.length lc,S rx_] 94 (0,0))) wG:=⟨(by rw[cH pd.o.blk];rfl),(by rw[cH pd.o.blk,←etx];rfl),(by rw[cH pd.o.blk,←EQV.o];rfl),Le.o⟩;refine hK.out _ _ (λ_=>uq) (λ_=>?_);clear hK K hgo
  try simp only[gX]
  change K 7 _
  iterate 5
   refine Lt.ti (v:=?_) uq ?_ ?_;rotate_left 1
   ·exact qlc
   simp only[gX]
  refine Lt.done qi ?_ _;clear xe HD1 fh;obtain⟨eA,hAok⟩:=HGO.o;have EA:=Ac eA;have HAO:=Ac hAok;clear eA hAok;(have hAs:A.size<=2002:=by rw[EA.o];exact Wz rv.o.2.1);go_wp2_with fail;refine(Yc A wG hAs).mono ?_;rintro e w2 ⟨ag,hrd⟩;replace pd:=Ac (pd.o.bl ag);replace Le:=Ac (Af Le.o ag);replace vi:=Ac (Af vi.o ag);replace yw:=Ac (yw.o.trans (Cw.of_below ag th));replace L0:=Ac (L0.o.trans (Below.mono ag th));replace t7:=Ac (Ab t7.o ag);replace th:W0.heap.size<=w2.heap.size:=Nat.le_trans th ag.size;clear ag
  rcases hrd with⟨P8,rfl⟩|⟨P8,rfl⟩
  rotate_left 1
  ·have Z8:Hd (¬ Us n s' is k):=λq=>P8 (by rw[EA.o];exact(mo.o.1 q).2)
   clear P8 HAO;cases ok
   all_goals
    go_wp2_with fail;obtain⟨w3,e3⟩:=Aj (w2.alloc (O #[I 0,ze,nS] 120));have ba:Bw w2 w3:=qds;rw[e3];clear e3;replace pd:=Ac (pd.o.bl ba);replace yw:=Ac (yw.o.trans (Cw.of_below ba th));replace th:W0.heap.size<=w3.heap.size:=Nat.le_trans th ba.size;go_roundw
    case rel=>exact⟨k+1,ms',s',v',qb,qj,Z3.o Z8.o,HI,HK,HML,(by have:=HC.o;show _<=_;omega:400200*Db ts ms st+ms'.length<=ms.length+200*(k+1)+400200*Db ts ms' st),uz,yw,pd⟩
    case measure=>simp[intOf];omega
  obtain rfl:=HAO.o P8;have HAP:Hd (Us n s' is k):=mo.o.2 ⟨K4.o,by rw[←EA.o];exact P8⟩;obtain⟨rc,erc⟩:=Aj (rdC A);obtain⟨rt,ert⟩:=Aj (rdT A);rw[erc,ert];have ERC:=Ac (And.intro erc ert);clear erc ert P8 HAO;obtain⟨d,ed⟩:=Aj w2.heap.size
  go_upto_region 9 with fail
  obtain⟨w3,e3⟩:=Aj (w2.alloc (O #[I rc,S rt,nS] 120));have ba:Bw w2 w3:=qds;have HD:=Ac (nW e3 ed);have HND:Hd (¬ Bz h v' d):=pd.o.not qb;rw[e3]
  try rw[ed]
  clear e3;replace pd:=Ac (pd.o.bl ba);replace Le:=Ac (Af Le.o ba);replace vi:=Ac (Af vi.o ba);replace yw:=Ac (yw.o.trans (Cw.of_below ba th));replace L0:=Ac (L0.o.trans (Below.mono ba th));replace t7:=Ac (Ab t7.o ba);replace th:W0.heap.size<=w3.heap.size:=Nat.le_trans th ba.size;clear ba;obtain⟨d0,d1,d2⟩:=Bd Le.o;go_wp2_with fail;clear d0 d1 d2;refine(holds_any W0 h sa ta c1 c2 n ss ts HE.o st HM.o h1 h8 ms' s' v' ca la ra.length cc lc rb zs rx_ w3 L0.o pd.o HI.o HK.o ⟨mw.o.2.2.1,λj hj=>(mw.o.2.2.2 j hj).1⟩ t7.o R5.o (λi hi=>by have:=(mw.o.2.2.2 i hi).2;show(gx rb i).sum.size<=_;rw[this];omega) (by have:=HC.o;have:=HPH.o;have:=mw.o.2.2.1;have:rb.length<=200:=this;have:=EM.o;omega) uz.o).mono ?_;rintro e w4 ⟨br,s2,a2,bi,⟨y,v2,rfl,rfl,bx,cw⟩|⟨bf,nb,rfl,rfl,bx,pa⟩⟩;rotate_left 1
  ·have jw:=Ac (uk.o HAP.o _ _ _ bi)
   have fl:=Ac (yw.o.trans bx);have uh:=Ac pa;have mu:=Ac (fl.o.blk jr.o (HN.o _ qb));clear bi bx pa;obtain⟨k9,_,_⟩:=uh.o.cells;obtain⟨z0,z1,z2,zf⟩:=Dw mu.o;go_wp2_with fail;obtain⟨y0,y1,y2,_⟩:=Dw (Bn mu.o (I 0) ze nS);exact bR (v:=Y #[G #[I 0,ze,nS],I (-1)]) qfy rfl ⟨_,_,_,by rw[EM.o];exact jw.o,Or.inr (Or.inr ⟨bf,nb,rfl,rfl,(H9.o.trans fl.o).set3 qb qb _ _ _,uh.o.set3 ⟨_,mu.o⟩ qd qd _ _ _⟩)⟩
  have fl:=Ac (yw.o.trans bx);have cr:=Ac cw;have mu:=Ac (fl.o.blk jr.o (HN.o _ qb));have HDX:=Ac (bx.blk HD.o HND.o);have jw:=Ac bi;clear bi bx cw;cases y
  ·have od:=Ac (im.o HAP.o _ _ jw.o)
   obtain⟨i1,i2,i3,i4⟩:=Bc.inv HE.o.v jw.o HI.o HK.o ⟨mw.o.2.2.1,λj hj=>(mw.o.2.2.2 j hj).1⟩ (λb q=>qw);have zv:=Bc.cost HE.o.v jw.o HI.o HK.o ⟨mw.o.2.2.1,λj hj=>(mw.o.2.2.2 j hj).1⟩ (λb q=>qw);have HCT2:=Ac (Bc.cntM HE.o.v jw.o HI.o HK.o ⟨mw.o.2.2.1,λj hj=>(mw.o.2.2.2 j hj).1⟩ (λb q=>qw) rfl uz.o);have E0:=Ac i1;have fs:=Ac i2;have HML2:Hd (m<=s2.R.length):=Nat.le_trans HML.o i3.len;(have HC2:Hd (400200*Db ts ms st+br.length<=ms.length+200*(k+1)+400200*Db ts br st):=by have:=HC.o;have:rb.length<=200:=mw.o.2.2.1;show _<=_;simp only[Ot]at zv;omega);have k9:=cK cr.o.blk 9;clear i1 i2 i3 i4 zv;go_wp2_with fail;go_roundw
   case rel=>exact⟨k+1,br,s2,v2,qb,qj,od.o,E0,fs,HML2,HC2,HCT2,fl,cr⟩
   case measure=>simp[intOf];omega
  ·have od:=Ac (ue.o HAP.o _ _ jw.o)
   rw[←EA.o,ERC.o.1,ERC.o.2]at od;obtain⟨x0,x1,x2⟩:=Bd HDX.o;obtain⟨z0,z1,z2,zf⟩:=Dw mu.o;go_wp2_with fail;obtain⟨y0,y1,y2,_⟩:=Dw (Bn mu.o (I rc) (S rt) nS);exact bR (v:=Y #[G #[I rc,S rt,nS],I k]) qfy rfl ⟨_,_,_,by rw[EM.o];exact od.o,Or.inl ⟨_,_,_,v2,rfl,rfl,iy,(H9.o.trans fl.o).set3 qb qb _ _ _,cr.o.set3 ⟨_,mu.o⟩ qd _ _ _⟩⟩
theorem equal_any(a a':Option Addr)(ic jc:X)(is js:L I3)(w:E)(hc:Bu w a is)(mr:Bu w a' js)(hl:is.length≤1048576)(F4:js.length≤1048576):Calls prog 160 #[J a is.length ic,J a' js.length jc] w λe w'=>Bw w w'∧∃b,e=H (F b)∧(b=true↔is=js):=by
 by_cases hn:is.length=js.length
 ·obtain⟨n,yv⟩:∃n,Hd (is.length=n):=⟨_,rfl⟩
  have HLB:Hd (js.length=n):=hn.symm.trans yv.o;rw[yv.o]at hl ⊢;rw[HLB.o]at F4 ⊢;clear hn;have U4:((n:Int) != (n:Int))=false:=qg;go_enter func160,ntmps160;go_wp2
  go_loopw [13] (λi wr=>∃k:X,k≤n∧i=I k∧Hd (∀j,j<k→ix is j=ix js j)∧Bw w wr) (λi _=>n-(intOf i).toNat)
  case atStart=>exact⟨0,Nat.zero_le _,rfl,(λj hj=>qb),Below.refl _ _⟩
  case round=>
   obtain⟨k,hk,rfl,HN,hB⟩:=hrel
   by_cases aj:k<n
   ·obtain⟨b,off,rfl,e1,e2,e3⟩:=(hc.bl (hB.drew)) k (zo yv.o)
    obtain⟨b',bp,rfl,f1,f2,f3⟩:=(mr.bl (hB.drew)) k (zo HLB.o);have io:(k:Int)<(n:Int):=qb;have iy:(0:Int)≤(k:Int):=qb;have mn:Hd (ix is k≠ix js k→(false=true↔is=js)):=λhne=>⟨λh=>(by cases h),λe=>absurd (by rw[e]) hne⟩
    have B4:Hd (ix is k=ix js k→∀j,j<k+1→ix is j=ix js j):=λhe j hj=>by
     exact qlu
    generalize ix is k=x at *;generalize ix js k=y at *;obtain⟨x0,x1,x2⟩:=x;obtain⟨y0,y1,y2⟩:=y;dsimp only at e1 e2 e3 f1 f2 f3
    by_cases h0:x0=y0
    ·subst h0
     by_cases h1:x1=y1
     ·subst h1
      by_cases h2:x2=y2
      ·subst h2
       have R4:=Ac (B4.o rfl);clear B4 mn HN;go_wp2_with fail;go_region
       all_goals
        go_wp2;exact⟨⟨k+1,qb,qj,R4.o,hB.drew⟩,qaj⟩
      ·have hq:=h2
       have dd:¬ (x2=y2):=hq;have O5:=Ac (mn.o (λe=>hq qas));clear B4 mn HN hq h2;exact qew
     ·have hq:=h1
      have dd:¬ (x1.toList=y1.toList):=λe=>hq (Te e);have O5:=Ac (mn.o (λe=>hq qas));clear B4 mn HN hq h1;exact qew
    ·have hq:=h0
     have dd:¬ (x0=y0):=hq;have O5:=Ac (mn.o (λe=>hq qas));clear B4 mn HN hq h0;exact qew
   ·exact qio
 ·have U4:((is.length:Int) != (js.length:Int))=true:=qh
  have hni:¬ ((is.length:Int)=(js.length:Int)):=qb;have O5:Hd (false=true↔is=js):=⟨λh=>(by cases h),λe=>absurd (by rw[e]) hn⟩;go_enter func160,ntmps160;go_wp2;go_ret;exact⟨Below.refl _ _,false,rfl,O5.o⟩
def Fre(h mb:X)(C:Gg)(av kv:Z)(r:Rv)(b:X):Prop:=b≠h/\b≠mb/\av.ownBlock≠M b/\kv.ownBlock≠M b/\¬ Ks C r b
def TyK(T:TypeId):Prop:=T≠211/\T≠168/\T≠171/\T≠9/\T≠94/\T≠4
instance (T:TypeId):Decidable (TyK T):=by unfold TyK;infer_instance
section
variable {B h mb k:X} {C:Gg} {sv tv:Z} {ss:L S2} {ts:L T2} {w w':E} {ms:Mm} {mk st:L By} {al:X} {av kv av' kv':Z} {vs:By->Z} {s s':Sb} {r r':Rv}
theorem BS.fresh(q:BS B h mb k C sv tv ss ts w ms mk st al av kv vs s r){b:X}(hb:w.heap.size<=b):Fre h mb C av kv r b:=
 ⟨λe=>by have:=q.mkr.lt (Or.inl e);omega,λe=>by have:=q.mkr.lt (Or.inr (Or.inl e));omega,λe=>by have:=q.mkr.lt (Or.inr (Or.inr (Or.inl e)));omega,λe=>by have:=q.mkr.lt (Or.inr (Or.inr (Or.inr e)));omega,λe=>by have:=(q.rs.lt e).2;omega⟩
theorem BS.freK(q:BS B h mb k C sv tv ss ts w ms mk st al av kv vs s r){b:X}{T:TypeId}{cs:Array Z}(hb:w.heap[b]?=M (O cs T (0,0)))(hT:TyK T):Fre h mb C av kv r b:=
 ⟨λe=>q.mkr.far hb hT.1 hT.2.2.2.1 (Or.inl e) rfl,λe=>q.mkr.far hb hT.1 hT.2.2.2.1 (Or.inr (Or.inl e)) rfl,λe=>q.mkr.far hb hT.1 hT.2.2.2.1 (Or.inr (Or.inr (Or.inl e))) rfl,λe=>q.mkr.far hb hT.1 hT.2.2.2.1 (Or.inr (Or.inr (Or.inr e))) rfl,q.rs.far hb hT.2⟩
theorem KQ.fre(K:KQ B h mb C av kv r r' w w')(ha:An w av av')(hk:An w kv kv'){b:X}(hb:b<w.heap.size)(f:Fre h mb C av kv r b):Fre h mb C av' kv' r' b:=
 ⟨f.1,f.2.1,λe=>by rcases ha b e with q|q;exact f.2.2.1 q;omega,λe=>by rcases hk b e with q|q;exact f.2.2.2.1 q;omega,λe=>by rcases K.new b e with q|q;exact f.2.2.2.2 q;omega⟩
theorem KQ.keepF(K:KQ B h mb C av kv r r' w w'){b:X}{o:Obj}(hb:w.heap[b]?=M o)(f:Fre h mb C av kv r b):w'.heap[b]?=M o:=by rw[K.keep b (Ag hb) f.1 f.2.1 f.2.2.1 f.2.2.2.1 f.2.2.2.2];exact hb
theorem KQ.blkK(K:KQ B h mb C av kv r r' w w')(q:BS B h mb k C sv tv ss ts w ms mk st al av kv vs s r){b:X}{T:TypeId}{cs:Array Z}(hb:w.heap[b]?=M (O cs T (0,0)))(hT:TyK T):w'.heap[b]?=M (O cs T (0,0)):=K.keepF hb (q.freK hb hT)
theorem KQ.ownK(K:KQ B h mb C av kv r r' w w')(q:BS B h mb k C sv tv ss ts w ms mk st al av kv vs s r){B' e sz n:X}{u:Z}{xs:L Z}(ho:w.ownsRow B' e sz u n xs)(hT:TyK e):w'.ownsRow B' e sz u n xs:=Al ho λb o=>by
 obtain⟨cs,c1⟩:=Az ho b o;rw[c1];exact K.blkK q c1 hT
theorem own_setF{w:E}{B n g cap i:X}{xs:L Bool}(h:w.ownsRow B 4 1 (J (p_ g) n cap) n (xs.map Value.bool))(hi:i<n)(v:Bool):(w.setCell ⟨g,i,N⟩ (F v)).ownsRow B 4 1 (J (p_ g) n cap) n ((xs.set i v).map Value.bool):=by
 rcases h.2 with⟨e,_⟩|⟨g',c',cur,e,hB,hh,h1,h2,h3,h4⟩
 ·simp at e
 ·simp only[Value.slice.injEq,Option.some.injEq,Addr.mk.injEq,and_true,true_and]at e
  obtain⟨rfl,rfl⟩:=e;have hl:=h.1;rw[List.length_map]at hl;refine⟨by rw[List.length_map,List.length_set];exact hl,Or.inr ⟨g,cap,cur.setIfInBounds i (F v),rfl,hB,jB hh _,h1,h2,by rw[Array.size_setIfInBounds];exact h3,?_⟩⟩;rw[Array.toList_setIfInBounds,List.map_set,←h4,List.take_set]
theorem BS.setDf(q:BS B h mb k C sv tv ss ts w ms mk st al av kv vs s r){g n cap i:X}(hd:r.dv=J (p_ g) n cap)(hi:i<s.R.length)(hn:NoH ss ts C.n ms (qx s.R i).looks):BS B h mb k C sv tv ss ts (w.setCell ⟨g,i,N⟩ (F true)) ms mk st al av kv vs s r/\KQ B h mb C av kv r r w (w.setCell ⟨g,i,N⟩ (F true)):=by
 obtain⟨f,f1,f2⟩:=q.rs.sn;obtain⟨xs,u1⟩:=q.rs.us;obtain⟨ys,d1,d2⟩:=q.rs.df;have hob:r.dv.ownBlock=M g:=by rw[hd];rfl
 obtain⟨vx,cs,hg⟩:=Dr d1 hob;have ht:Cv w g 4:=⟨_,hg⟩;have hne:∀b,b≠g->(w.setCell ⟨g,i,N⟩ (F true)).heap[b]?=w.heap[b]?:=λb e=>hC w ⟨g,i,N⟩ _ b e
 have wo:n=s.R.length:=by
  have:=d1.2;exact qmi
 subst wo;rw[hd]at d1;have hd':=own_setF d1 hi true;rw[←hd]at hd';refine q.upd ((Below.refl B w).setCell (p:=⟨g,i,N⟩) vx _) (λb hb ho=>hne b (λe=>ho (e▸Aw C (u:=r.dv) qq hob))) ?_ (λb o=>Or.inl o) (Ka.same λb o=>hne b (λe=>?_)) (Nat.le_refl _)
 ·refine⟨q.rs.lb,q.rs.wd,?_,?_,⟨f,f1.same (hne _ (λe=>f1.notCells (e▸hg))),f2⟩,Ao q.rs.tx ht qd _,Ao q.rs.su ht qd _,q.rs.qs.kept (λb o=>hne b (λe=>?_)) (λb cs' T hT hb=>?_),Ao q.rs.ran ht qd _,Ao q.rs.held ht qd _,⟨xs,Al u1 (λb o=>hne b (λe=>q.rs.ud b o (e▸hob)))⟩,⟨ys.set i true,hd',λj hj=>?_⟩,q.rs.ud,q.rs.ap⟩
  ·exact qju
  ·exact qjt
  ·exact qde
  ·exact qjk
  ·rw[List.getElem?_set]at hj
   split at hj
   ·rename_i e;subst e;exact hn
   ·exact d2 j hj
 ·exact qde
theorem BS.setUs(q:BS B h mb k C sv tv ss ts w ms mk st al av kv vs s r){g n cap i:X}(hd:r.uv=J (p_ g) n cap)(hi:i<s.R.length):BS B h mb k C sv tv ss ts (w.setCell ⟨g,i,N⟩ (F true)) ms mk st al av kv vs s r/\KQ B h mb C av kv r r w (w.setCell ⟨g,i,N⟩ (F true)):=by
 obtain⟨f,f1,f2⟩:=q.rs.sn;obtain⟨xs,u1⟩:=q.rs.us;obtain⟨ys,d1,d2⟩:=q.rs.df;have hob:r.uv.ownBlock=M g:=by rw[hd];rfl
 obtain⟨vx,cs,hg⟩:=Dr u1 hob;have ht:Cv w g 4:=⟨_,hg⟩;have hne:∀b,b≠g->(w.setCell ⟨g,i,N⟩ (F true)).heap[b]?=w.heap[b]?:=λb e=>hC w ⟨g,i,N⟩ _ b e
 have wo:n=s.R.length:=by
  have:=u1.2;exact qmi
 subst wo;rw[hd]at u1;have hd':=own_setF u1 hi true;rw[←hd]at hd';refine q.upd ((Below.refl B w).setCell (p:=⟨g,i,N⟩) vx _) (λb hb ho=>hne b (λe=>ho (e▸Aw C (u:=r.uv) qq hob))) ?_ (λb o=>Or.inl o) (Ka.same λb o=>hne b (λe=>?_)) (Nat.le_refl _)
 ·refine⟨q.rs.lb,q.rs.wd,?_,?_,⟨f,f1.same (hne _ (λe=>f1.notCells (e▸hg))),f2⟩,Ao q.rs.tx ht qd _,Ao q.rs.su ht qd _,q.rs.qs.kept (λb o=>hne b (λe=>?_)) (λb cs' T hT hb=>?_),Ao q.rs.ran ht qd _,Ao q.rs.held ht qd _,⟨xs.set i true,hd'⟩,⟨ys,Al d1 (λb o=>hne b (λe=>q.rs.ud b (e▸hob) o)),d2⟩,q.rs.ud,q.rs.ap⟩
  ·exact qju
  ·exact qjt
  ·exact qde
  ·exact qjk
 ·exact qde
end
def TakeB(B h mb:X)(C:Gg)(sv tv:Z)(ss:L S2)(ts:L T2)(ms:Mm)(s:Sb)(st:L By)(av kv:Z)(r:Rv)(is:L I3)(w:E)(e:Ending)(w':E):Prop:=
 (∃ms' s' av' kv' vs' r',((∃c t,Bc ss ts C.n ms s st (.tri is 0 s.R.length) ms' s' (.hit c t)/\e=H (Y #[G #[I c,S t,nS],F true]))\/(Bc ss ts C.n ms s st (.tri is 0 s.R.length) ms' s' .none/\e=H (Y #[G #[I 0,ze,nS],F false])))/\Iw B h mb C sv tv ss ts w' ms' st av' kv' vs' s' r'/\KQ B h mb C av kv r r' w w'/\An w av av'/\An w kv kv'/\r'.sn+400200*Db ts ms st<=r.sn+200*s.R.length+400200*Db ts ms' st)\/
 (∃b v r' ms' s',e=Lb v/\KQ B h mb C av kv r r' w w'/\Bc ss ts C.n ms s st (.tri is 0 s.R.length) ms' s' (.bad b)/\Cz B C w' b v)
section
variable {B h mb k:X} {C:Gg} {sv tv:Z} {ss:L S2} {ts:L T2} {w w':E} {ms:Mm} {mk st:L By} {al:X} {av kv:Z} {vs:By->Z} {s:Sb} {r r':Rv}
theorem KQ.recAt(K:KQ B h mb C av kv r r' w w')(q:BS B h mb k C sv tv ss ts w ms mk st al av kv vs s r){i:X}(hi:i<s.R.length):∃g cp ca cc la lc,r.qv=J (p_ g) s.R.length cp/\w'.cell? ⟨g,i*3,N⟩=M (J ca (qx s.R i).code.length cc)/\w'.cell? ⟨g,i*3+1,N⟩=M (J la (qx s.R i).looks.length lc)/\w'.cell? ⟨g,i*3+2,N⟩=M (S (qx s.R i).out)/\Bu w' ca (qx s.R i).code/\∃ys,w'.ownsRow B 145 3 (J la (qx s.R i).looks.length lc) (qx s.R i).looks.length ys/\Bk (qx s.R i).looks (qx s.R i).looks.length ys:=by
 obtain⟨xs,cv,lv,qr⟩:=q.rs.qs;obtain⟨f1,f2,f3⟩:=qr.fil i hi;obtain⟨ys,k1,k2⟩:=qr.code i hi;obtain⟨zs,l1,l2⟩:=qr.look i hi;have k1':=K.ownK q k1 qd;have l1':=K.ownK q l1 qd;obtain⟨ca,cc,e1,r1⟩:=Tl k1' k2;obtain⟨la,lc,e2⟩:=Ay l1';rw[e1]at f1;rw[e2]at f2 l1'
 rcases qr.row.2 with⟨_,h0⟩|⟨g,cp,cur,e,hB,hh,h1,h2,h3,h4⟩
 ·omega
 ·obtain⟨cs',b',c'⟩:=K.old g _ cp cur e hh
  have at_:∀j u,j<s.R.length*3->xs[j]?=M u->w'.cell? ⟨g,j,N⟩=M u:=λj u hj hx=>by
   rw[cH b',c' j hj,←Array.getElem?_toList];rw[←h4,List.getElem?_take,if_pos hj]at hx;exact hx
  exact⟨g,cp,ca,cc,la,lc,e,at_ _ _ qb f1,at_ _ _ qb f2,at_ _ _ qb f3,r1,zs,l1',l2⟩
theorem BS.dfAt(q:BS B h mb k C sv tv ss ts w ms mk st al av kv vs s r){i:X}(hi:i<s.R.length):∃g cp b,r.dv=J (p_ g) s.R.length cp/\w.cell? ⟨g,i,N⟩=M (F b)/\(b=true->NoH ss ts C.n ms (qx s.R i).looks)/\∀j,w.frozen? ⟨g,j,N⟩=false:=by
 obtain⟨ys,d1,d2⟩:=q.rs.df;obtain⟨a,cap,e⟩:=Ay d1;have hl:=d1.1;rw[List.length_map]at hl;have hy:i<ys.length:=qb;rw[e]at d1;obtain⟨g,rfl,hc⟩:=Cy (j:=i) (u:=F ys[i]) d1 (by rw[List.getElem?_map,Ix hy];rfl);obtain⟨_,cs,hh⟩:=Dr d1 (b:=g) rfl;exact⟨g,cap,ys[i],e,hc,λhb=>d2 i (by rw[Ix hy,hb]),λj=>fH hh j⟩
theorem BS.usAt(q:BS B h mb k C sv tv ss ts w ms mk st al av kv vs s r){i:X}(hi:i<s.R.length):∃g cp b,r.uv=J (p_ g) s.R.length cp/\w.cell? ⟨g,i,N⟩=M (F b)/\∀j,w.frozen? ⟨g,j,N⟩=false:=by
 obtain⟨ys,d1⟩:=q.rs.us;obtain⟨a,cap,e⟩:=Ay d1;have hl:=d1.1;rw[List.length_map]at hl;have hy:i<ys.length:=qb;rw[e]at d1;obtain⟨g,rfl,hc⟩:=Cy (j:=i) (u:=F ys[i]) d1 (by rw[List.getElem?_map,Ix hy];rfl);obtain⟨_,cs,hh⟩:=Dr d1 (b:=g) rfl;exact⟨g,cap,ys[i],e,hc,λj=>fH hh j⟩
theorem BS.get(q:BS B h mb k C sv tv ss ts w ms mk st al av kv vs s r)(ft:Jz C.n s)(t:By):Calls prog 161 #[.pointer (p_ C.hs),S t] w λe w'=>w=w'/\∃A ok,e=H (Y #[S A,F ok])/\A=Lq C.n s.T t/\A.size<=2002:=by
 obtain⟨ta,tc,e1⟩:=Ay q.rs.tx;obtain⟨sa,sc,e2⟩:=Ay q.rs.su;obtain⟨zs,cv,lv,qr⟩:=q.rs.qs;obtain⟨ra,rc,e3⟩:=Ay qr.row;have h1:=q.rs.tx;rw[e1]at h1;have h2:=q.rs.su;rw[e2]at h2;have cw:=q.rs.sh;rw[e1,e2,e3]at cw;refine(get_any C.n C.hs ta ra sa tc s.R.length rc sc s.T t w cw (Mt (by rw[List.length_map]) h2) (Mt rfl h1) (zo ft.1.1) ft.1.2.2).mono ?_;rintro e w' ⟨rfl,A,ok,rfl,hg⟩;obtain⟨k1,_⟩:=getA_rr ft.1.2.2 hg;exact⟨rfl,A,ok,rfl,k1,by rw[k1];exact Wz ft.1.2.1⟩
end
end Go.Proofs.YtbkkjodaaijimaaGreatDoor
