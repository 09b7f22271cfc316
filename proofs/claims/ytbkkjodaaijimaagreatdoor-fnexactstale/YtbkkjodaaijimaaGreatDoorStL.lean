import Derived.Test.YtbkkjodaaijimaaGreatDoorBvN
import Derived.Test.YtbkkjodaaijimaaGreatDoorStB
namespace Go.Proofs.YtbkkjodaaijimaaGreatDoor
open _root_.Go.Proofs.Tryz Go.RowKit Go.Deep
open Value renaming slice->J
open Option renaming some->M
open Obj renaming cells->O
open Go renaming World->E
set_option linter.unusedVariables false
set_option linter.unusedSimpArgs false
set_option maxHeartbeats 8000000
set_option maxRecDepth 100000
theorem fnExactStaleLaw(n:Int)(ta ra sa ua:Option Addr)(tc rc c1 c2:Nat)(T:List By)(R:List T3)(ss:List S2)(tp:List T2)(nm:By)(w:E)(hT:Kd w)(hP:Lj w)(h:Wc w ta T ra R)(hs:Lv w sa ss ua tp)(hn:nm.size≤maxLen):Calls prog 3 #[.agg #[I n,J ta T.length tc,J ra R.length rc],.agg #[J sa ss.length c1,J ua tp.length c2],.string nm] w λe w'=>e=.returned (.bool true)∧Bw w w':=by
 obtain⟨W,eW⟩:=Aj ((w.alloc (O #[I n,J ta T.length tc,J ra R.length rc] 25)).alloc (O #[J sa ss.length c1,J ua tp.length c2] 29));have bn:Bw w W:=qfs;have HA:Hd (W.heap[w.heap.size]?=M (O #[I n,J ta T.length tc,J ra R.length rc] 25 (0,0))):=qge
 have HS:Hd (W.heap[w.heap.size+1]?=M (O #[J sa ss.length c1,J ua tp.length c2] 29 (0,0))):=by
  show _=_;rw[←eW];have:=Hc (w.alloc (O #[I n,J ta T.length tc,J ra R.length rc] 25)) (O #[J sa ss.length c1,J ua tp.length c2] 29)
  rwa [show(w.alloc (O #[I n,J ta T.length tc,J ra R.length rc] 25)).heap.size=w.heap.size+1 from qg]at this
 have HT:=Ac hT;have HP:=Ac hP;have J9:=Ac h;have HSP:=Ac hs;have HB:=Ac bn;have hnz:nm.size≤9223372036854775807:=by unfold maxLen at hn;omega
 clear hT hP h hs bn hn;obtain⟨p0,p1,p2,pf⟩:=Dw HA.o;obtain⟨s0,s1⟩:=Fq HS.o;go_enter func3,ntmps3
 by_cases vf:1048576<nm.size
 ·have hbI:((nm.size:Int) > 1048576)=True:=qh
  have hbJ:decide ((1048576:Int)<(nm.size:Int))=true:=qh;exact qfk
 have hbI:((nm.size:Int) > 1048576)=False:=qh;have hbJ:decide ((1048576:Int)<(nm.size:Int))=false:=qh;go_wp2_with fail;clear eW p0 p1 p2 pf s0 s1;refine(Xs n ta ra tc rc T R 1048576 qb qb W (J9.o.bl HB.o)).mono ?_;rintro e w1 ⟨af,r,rfl,hr⟩;replace HA:=Ac (Ad af HA.o);replace HS:=Ac (Ad af HS.o);replace HB:=Ac (bt HB.o af);clear af
 rcases hr with hr|⟨zk,kl,aj,hqs⟩
 ·exact qfk
 have ly:¬ r<0:=qb;obtain⟨s0,s1⟩:=Fq HS.o;go_wp2_with fail;clear s0 s1;refine(Xt sa ua c1 c2 ss tp r zk kl w1 (HSP.o.bl HB.o)).mono ?_;rintro e w2 ⟨ag,r2,rfl,ve⟩;replace HA:=Ac (Ad ag HA.o);replace HS:=Ac (Ad ag HS.o);replace HB:=Ac (bt HB.o ag);clear ag zk kl ly
 rcases ve with ve|⟨lx,zk⟩
 ·exact qfk
 have hr4:¬ r2<0:=qb;have HL:=Ac (show Up w ta ra sa ua T R ss tp nm from ⟨J9.o,aj,hqs,HSP.o,lx,hnz⟩);clear aj hqs lx
 go_upto_region 10 with fail
 have R1:=Ac (λ(V:E) (hV:Bw w V)=>Mo n ta ra tc rc T R V (HL.o.so.st.bl hV) (HL.o.so.rq.bl hV) HL.o.lt HL.o.qs);have A7:=Ac (λ(V:E) (hV:Bw w V)=>Mp sa ua c1 c2 ss tp V (HL.o.sp.rs.bl hV) (HL.o.sp.rt.bl hV) HL.o.sm);obtain⟨wD,eD⟩:=Aj w2.drew;have bD:Bw w2 wD:=qy;have dm:Hd (∀V:E,Bw w2 V→V.heap[w.heap.size]?=M (O #[I n,J ta T.length tc,J ra R.length rc] 25 (0,0))∧V.heap[w.heap.size+1]?=M (O #[J sa ss.length c1,J ua tp.length c2] 29 (0,0))):=λV h=>⟨Ad h HA.o,Ad h HS.o⟩;refine Lt.begin 99 (λw'=>w'.heap[w.heap.size]?=M (O #[I n,J ta T.length tc,J ra R.length rc] 25 (0,0))∧w'.heap[w.heap.size+1]?=M (O #[J sa ss.length c1,J ua tp.length c2] 29 (0,0))) qi ?_;rw[eD];clear eD;refine Lt.ti (i:=0) (v:=?_) (dm.o _ bD) ?_ ?_;rotate_left 1
 ·exact qat
 simp only[gX];refine Lt.ti (i:=2) (v:=?_) (dm.o _ bD) ?_ ?_;rotate_left 1
 ·exact qat
 simp only[gX];refine Lt.ti (i:=4) (v:=?_) (dm.o _ bD) ?_ ?_;rotate_left 1
 ·exact qat
 simp only[gX];refine Lt.sp (i:=1) (λK hK=>?_);go_simp;refine(R1.o _ (bt HB.o bD)).mono ?_;rintro e wA ⟨bu,g1,v2,rfl,oy1,S5⟩;obtain⟨a2,p2,rfl,-⟩:=S5.sl;have bA:=bt bD bu;refine hK.out _ _ (λ_=>dm.o _ bA) (λ_=>?_);clear hK K
 try simp only[gX]
 refine Lt.sp (i:=3) (λK hK=>?_);go_simp;refine(A7.o _ (bt HB.o bA)).mono ?_;rintro e wB ⟨gh,u1,u2,rfl,ou1,ou2⟩;obtain⟨a3,p3,rfl,-⟩:=ou1.sl;obtain⟨a4,p4,rfl,-⟩:=ou2.sl;replace oy1:=oy1.bl gh;replace S5:=S5.bl gh;have bB:=bt bA gh;refine hK.out _ _ (λ_=>dm.o _ bB) (λ_=>?_);clear hK K
 try simp only[gX]
 refine Lt.sp (i:=5) (λK hK=>?_);go_simp;refine(Qak (n:=n) HL.o oy1 S5 ou1 ou2).mono ?_;rintro e w3 ⟨pu,d8,v8,rfl,vo,ow⟩;replace ow:=Ah ow (show w2.heap.size≤_ from bB.size);have bC:=bt bB pu;refine hK.out _ _ (λ_=>dm.o _ bC) (λ_=>?_);clear hK K
 try simp only[gX]
 refine Lt.ti (i:=6) (v:=?_) (dm.o _ bC) ?_ ?_;rotate_left 1
 ·exact qat
 simp only[gX];refine Lt.done qi ?_ _;have uj:=Ac bC;clear R1 A7 dm bC pu bB gh bA bu bD oy1 S5 ou1 ou2;have HSA8:=Ac vo;obtain⟨AA,eM⟩:=Aj (Nx d8.ran);have HEM:=Ac eM;have pn:d8.ran.length=AA.length:=by rw[←eM,Qah]
 have hM:AA.length≤1048576:=by rw[←pn];exact HL.o.ranSm vo
 rw[eM,pn]at ow;obtain⟨j7,j8,rfl⟩:=Ay ow;have H83:=Ac ow;have H8:=Ac ow;clear vo ow eM;have HML:=Ac pn;clear pn;have og:=Ac (Ad uj.o HA.o);have ks:=Ac (Ad uj.o HS.o);have d7:=Ac (bt HB.o uj.o);have hwl:w.heap.size+1<w3.heap.size:=Nat.lt_of_lt_of_le (Ag HS.o) uj.o.size;clear uj;have R1:=Ac (λ(V:E) (hV:Bw w V)=>Mo n ta ra tc rc T R V (HL.o.so.st.bl hV) (HL.o.so.rq.bl hV) HL.o.lt HL.o.qs);have A7:=Ac (λ(V:E) (hV:Bw w V)=>Mp sa ua c1 c2 ss tp V (HL.o.sp.rs.bl hV) (HL.o.sp.rt.bl hV) HL.o.sm);obtain⟨p0,p1,p2,pf⟩:=Dw og.o;go_wp2_with fail;clear p0 p1 p2 pf;refine(R1.o w3 d7.o).mono ?_;rintro e w4 ⟨co,g9,v9,rfl,o9,z9⟩;obtain⟨a9,c9,rfl,-⟩:=z9.sl
 go_upto_region 12 with fail
 obtain⟨w5,e5⟩:=Aj (w4.alloc (O #[I n,J (p_ g9) T.length T.length,J a9 R.length c9] 35));obtain⟨P9,eP9⟩:=Aj w4.heap.size;have cj:Bw w4 w5:=qgl;have yq:=Ac (nW e5 eP9);rw[e5,eP9];have O9:=Ac (show Cp w5 w3.heap.size P9 (J (p_ g9) T.length T.length) T∧Ig w5 w3.heap.size P9 (J a9 R.length c9) R from by rw[←eP9];exact⟨o9.bl cj,z9.bl cj⟩);have h35:=Ba co cj;have hs34:=co.size;have hs45:=cj.size;clear e5 o9 z9 co cj;replace og:=Ac (Ad h35 og.o);replace ks:=Ac (Ad h35 ks.o);replace d7:=Ac (bt d7.o h35);replace H8:=Ac (Ab H8.o h35);clear h35;obtain⟨s0,s1⟩:=Fq ks.o;go_wp2_with fail;clear s0 s1;refine(A7.o w5 d7.o).mono ?_;rintro e w6 ⟨bz,u1,u2,rfl,o10,z10'⟩;obtain⟨a10,Nj,rfl,-⟩:=o10.sl;obtain⟨a11,wa,rfl,-⟩:=z10'.sl
 go_upto_region 13 with fail
 obtain⟨w7,e7⟩:=Aj (w6.alloc (O #[J a10 ss.length Nj,J a11 tp.length wa] 40));obtain⟨mi,eP10⟩:=Aj w6.heap.size;have ce:=aB e7;have lp:=Ac (nW e7 eP10);rw[e7,eP10];have ut:=Ac (show Gm w7 w5.heap.size mi (J a10 ss.length Nj) ss∧Gv w7 w5.heap.size mi (J a11 tp.length wa) tp from by rw[←eP10];exact⟨o10.bl ce,z10'.bl ce⟩);have h57:=Ba bz ce;have hs56:=bz.size;have hs67:=ce.size;clear e7 o10 z10' bz ce;replace og:=Ac (Ad h57 og.o);replace ks:=Ac (Ad h57 ks.o);replace d7:=Ac (bt d7.o h57);replace yq:=Ac (Ad h57 yq.o);replace H8:=Ac (Ab H8.o h57);replace O9:=Ac (show Cp w7 w3.heap.size P9 (J (p_ g9) T.length T.length) T∧Ig w7 w3.heap.size P9 (J a9 R.length c9) R from ⟨O9.o.1.bl h57,O9.o.2.bl h57⟩);have l9:=Nat.lt_of_lt_of_le (Ag yq.o) (Nat.le_refl _);clear h57;obtain⟨q0,q1,q2,qf⟩:=Dw yq.o;obtain⟨t0,t1⟩:=Fq lp.o;go_wp2_with fail;clear q0 q1 q2 qf t0 t1;refine(Rg (n:=n) HL.o (HT.o.bl d7.o) (HP.o.bl d7.o) O9.o.1 O9.o.2 ut.o.1 ut.o.2).mono ?_;rintro e w8 ⟨i6,d,v11,rfl,vo,ow⟩;have hdd:=HSA8.o.uniq vo HL.o.spv;subst hdd;rw[HEM.o,HML.o]at ow;obtain⟨b7,b8,rfl⟩:=Ay ow;have OW8:=Ac ow;have OW:=Ac ow;have D2:=Ac vo;have l10:=Ag lp.o;have hs78:=i6.size;clear vo ow;replace og:=Ac (Ad i6 og.o);replace ks:=Ac (Ad i6 ks.o);replace d7:=Ac (bt d7.o i6);replace yq:=Ac (Ad i6 yq.o);replace lp:=Ac (Ad i6 lp.o);replace H8:=Ac (Ab H8.o i6);replace O9:=Ac (show Cp w8 w3.heap.size P9 (J (p_ g9) T.length T.length) T∧Ig w8 w3.heap.size P9 (J a9 R.length c9) R from ⟨O9.o.1.bl i6,O9.o.2.bl i6⟩);replace ut:=Ac (show Gm w8 w5.heap.size mi (J a10 ss.length Nj) ss∧Gv w8 w5.heap.size mi (J a11 tp.length wa) tp from ⟨ut.o.1.bl i6,ut.o.2.bl i6⟩);clear i6;go_wp2_with fail;refine(Hh b7 j7 b8 j8 AA w8 (Fa OW.o) (Fa H8.o) hM).mono ?_;rintro e za ⟨om,rfl⟩;replace og:=Ac (Ad om og.o);replace ks:=Ac (Ad om ks.o);replace d7:=Ac (bt d7.o om);replace yq:=Ac (Ad om yq.o);replace lp:=Ac (Ad om lp.o);replace O9:=Ac (show Cp za w3.heap.size P9 (J (p_ g9) T.length T.length) T∧Ig za w3.heap.size P9 (J a9 R.length c9) R from ⟨O9.o.1.bl om,O9.o.2.bl om⟩);replace ut:=Ac (show Gm za w5.heap.size mi (J a10 ss.length Nj) ss∧Gv za w5.heap.size mi (J a11 tp.length wa) tp from ⟨ut.o.1.bl om,ut.o.2.bl om⟩);replace H8:=Ac (Ab H8.o om);replace OW:=Ac (Ab OW.o om);have hs810:=om.size;clear om
 go_upto_region 16 with fail
 obtain⟨wD,eD⟩:=Aj za.drew;have bD:Bw za wD:=qy;have dm:Hd (∀V:E,Bw za V→V.heap[P9]?=M (O #[I n,J (p_ g9) T.length T.length,J a9 R.length c9] 35 (0,0))∧V.heap[w.heap.size]?=M (O #[I n,J ta T.length tc,J ra R.length rc] 25 (0,0))):=λV h=>⟨Ad h yq.o,Ad h og.o⟩;refine Lt.begin 99 (λw'=>w'.heap[P9]?=M (O #[I n,J (p_ g9) T.length T.length,J a9 R.length c9] 35 (0,0))∧w'.heap[w.heap.size]?=M (O #[I n,J ta T.length tc,J ra R.length rc] 25 (0,0))) qi ?_;rw[eD];clear eD;change K 0 _
 iterate 2
  refine Lt.ti (v:=?_) (dm.o _ bD) ?_ ?_;rotate_left 1
  ·exact qkc
  simp only[gX]
 refine Lt.sp (i:=2) (λK hK=>?_);go_simp;refine(R1.o _ (bt d7.o bD)).mono ?_;rintro e wA ⟨bu,gA,vA,rfl,oA,zA⟩;obtain⟨aA,cA,rfl,rA,-⟩:=zA.sl;have bA:=bt bD bu;refine hK.out _ _ (λ_=>dm.o _ bA) (λ_=>?_);clear hK K
 try simp only[gX]
 refine Lt.sp (i:=3) (λK hK=>?_);go_simp;obtain⟨_,_,h1e,h1s⟩:=(O9.o.1.bl bA).sl;cases h1e;obtain⟨_,_,h2e,h2r,-⟩:=(O9.o.2.bl bA).sl;cases h2e;obtain⟨_,_,h3e,h3s⟩:=oA.sl;cases h3e;refine(Zh n _ _ _ _ _ _ _ _ T R wA h1s h3s h2r.row rA.row HL.o.lt HL.o.qs).mono ?_;rintro e B6 ⟨pu,rfl⟩;have bC:=bt bA pu;refine hK.out _ _ (λ_=>dm.o _ bC) (λ_=>?_);clear hK K
 try simp only[gX]
 refine Lt.ti (i:=4) (v:=?_) (dm.o _ bC) ?_ ?_;rotate_left 1
 ·exact qkc
 simp only[gX];refine Lt.done qi ?_ _;replace og:=Ac (Ad bC og.o);replace ks:=Ac (Ad bC ks.o);replace d7:=Ac (bt d7.o bC);replace yq:=Ac (Ad bC yq.o);replace lp:=Ac (Ad bC lp.o);replace O9:=Ac (show Cp B6 w3.heap.size P9 (J (p_ g9) T.length T.length) T∧Ig B6 w3.heap.size P9 (J a9 R.length c9) R from ⟨O9.o.1.bl bC,O9.o.2.bl bC⟩);replace ut:=Ac (show Gm B6 w5.heap.size mi (J a10 ss.length Nj) ss∧Gv B6 w5.heap.size mi (J a11 tp.length wa) tp from ⟨ut.o.1.bl bC,ut.o.2.bl bC⟩);replace H8:=Ac (Ab H8.o bC);replace OW:=Ac (Ab OW.o bC);have hs_w11:=bC.size;clear dm bC pu bA bu bD oA zA
 go_upto_region 18 with fail
 obtain⟨wD,eD⟩:=Aj B6.drew;have bD:Bw B6 wD:=qy;have dm:Hd (∀V:E,Bw B6 V→V.heap[mi]?=M (O #[J a10 ss.length Nj,J a11 tp.length wa] 40 (0,0))∧V.heap[w.heap.size+1]?=M (O #[J sa ss.length c1,J ua tp.length c2] 29 (0,0))):=λV h=>⟨Ad h lp.o,Ad h ks.o⟩;refine Lt.begin 99 (λw'=>w'.heap[mi]?=M (O #[J a10 ss.length Nj,J a11 tp.length wa] 40 (0,0))∧w'.heap[w.heap.size+1]?=M (O #[J sa ss.length c1,J ua tp.length c2] 29 (0,0))) qi ?_;rw[eD];clear eD;change K 0 _
 iterate 2
  refine Lt.ti (v:=?_) (dm.o _ bD) ?_ ?_;rotate_left 1
  ·exact qkm
  simp only[gX]
 refine Lt.sp (i:=2) (λK hK=>?_);go_simp;refine(A7.o _ (bt d7.o bD)).mono ?_;rintro e wA ⟨bu,uA,vA,rfl,oA,zA⟩;have bA:=bt bD bu;refine hK.out _ _ (λ_=>dm.o _ bA) (λ_=>?_);clear hK K
 try simp only[gX]
 refine Lt.sp (i:=3) (λK hK=>?_);go_simp;refine(eqSpace_own (ut.o.1.bl bA) (ut.o.2.bl bA) oA zA HL.o.sm).mono ?_;rintro e Is ⟨pu,rfl⟩;have bC:=bt bA pu;refine hK.out _ _ (λ_=>dm.o _ bC) (λ_=>?_);clear hK K
 try simp only[gX]
 refine Lt.ti (i:=4) (v:=?_) (dm.o _ bC) ?_ ?_;rotate_left 1
 ·exact qkm
 simp only[gX];refine Lt.done qi ?_ _;replace og:=Ac (Ad bC og.o);replace ks:=Ac (Ad bC ks.o);replace d7:=Ac (bt d7.o bC);replace yq:=Ac (Ad bC yq.o);replace lp:=Ac (Ad bC lp.o);replace O9:=Ac (show Cp Is w3.heap.size P9 (J (p_ g9) T.length T.length) T∧Ig Is w3.heap.size P9 (J a9 R.length c9) R from ⟨O9.o.1.bl bC,O9.o.2.bl bC⟩);replace ut:=Ac (show Gm Is w5.heap.size mi (J a10 ss.length Nj) ss∧Gv Is w5.heap.size mi (J a11 tp.length wa) tp from ⟨ut.o.1.bl bC,ut.o.2.bl bC⟩);replace H8:=Ac (Ab H8.o bC);replace OW:=Ac (Ab OW.o bC);have hs_w12:=bC.size;clear dm bC pu bA bu bD oA zA
 go_upto_region 21 with fail
 have l9b:=Ag yq.o;have l10b:=Ag lp.o;obtain⟨q0,q1,q2,qf⟩:=Dw yq.o;go_wp2_with fail;clear q0 q1 q2 qf;obtain⟨xs9,cv9,lv9,hq9,-⟩:=O9.o.2;refine(Vo n w3.heap.size P9 T.length R.length 1 _ _ _ _ _ _ _ _ Is O9.o.1 hq9.rows qb HL.o.lt HL.o.qs.1 HL.o.qs.2 (Nat.le_refl _) (zo (kR1_le HL.o.lt HL.o.qs))).mono ?_;rintro e S1 ⟨rfl,hb13,wu,-,-⟩;have hs13:=hb13.size;replace og:=Ac ((wu _ qb (Or.inl qb)).trans og.o);replace ks:=Ac ((wu _ qb (Or.inl qb)).trans ks.o);replace yq:=Ac ((wu _ qb (Or.inr qb)).trans yq.o);replace lp:=Ac ((wu _ qb (Or.inr qb)).trans lp.o);replace d7:=Ac (d7.o.trans (hb13.mono qb));replace ut:=Ac (show Gm S1 w5.heap.size mi (J a10 ss.length Nj) ss∧Gv S1 w5.heap.size mi (J a11 tp.length wa) tp from ⟨ut.o.1.keep wu (Or.inr qb),ut.o.2.keep wu (Or.inr qb)⟩);replace H8:=Ac (Al H8.o λb q=>wu b (zo ((H8.o.lt b q).2)) (Or.inl (H83.o.lt b q).2));replace OW:=Ac (Al OW.o λb q=>wu b (zo ((OW.o.lt b q).2)) (Or.inr (zo ((OW.o.lt b q).1))));clear wu hb13 hq9 O9;obtain⟨K1,ek1⟩:=Aj (kR (λi=>(qx R i).code.length) (λi=>(qx R i).looks.length) (1+T.length) R.length)
 have hK1:1≤K1∧K1≤100000000000000:=by
  have h1:=kR1_le HL.o.lt HL.o.qs;have h2:=kR_le (λi=>(qx R i).code.length) (λi=>(qx R i).looks.length) (1+T.length) 0 R.length (Nat.zero_le _);rw[ek1]at h1 h2;simp only[kR]at h2;omega
 rw[ek1];obtain⟨t0,t1⟩:=Fq lp.o;go_wp2_with fail;clear t0 t1;obtain⟨xs10,hr10,-⟩:=ut.o.1;obtain⟨xs11,cv11,hr11⟩:=ut.o.2;refine(Vp w5.heap.size mi ss.length tp.length K1 _ _ _ _ _ _ S1 hr10 hr11.rows qb HL.o.sm.ls HL.o.sm.lt HL.o.sm.lc hK1.1 (kT1_le HL.o.sm hK1.2)).mono ?_;rintro e w14 ⟨rfl,hb14,W3,-⟩;have hs14:=hb14.size;replace og:=Ac ((W3 _ qb (Or.inl qb)).trans og.o);replace ks:=Ac ((W3 _ qb (Or.inl qb)).trans ks.o);replace d7:=Ac (d7.o.trans (hb14.mono qb));replace H8:=Ac (Al H8.o λb q=>W3 b (zo ((H8.o.lt b q).2)) (Or.inl (zo ((H83.o.lt b q).2))));replace OW:=Ac (Al OW.o λb q=>W3 b (zo ((OW.o.lt b q).2)) (Or.inr (zo ((OW.o.lt b q).1))));clear W3 hb14 hr10 hr11 ut yq lp;obtain⟨K2,ek2⟩:=Aj (kT (λi=>(tx tp i).code.length) (K1+2*ss.length) tp.length);rw[ek2];have hK2:¬ ((K2:Int)<0):=qb;go_wp2_with fail;refine(Hh b7 j7 b8 j8 AA w14 (Fa OW.o) (Fa H8.o) hM).mono ?_;rintro e w15 ⟨G1,rfl⟩;replace og:=Ac (Ad G1 og.o);replace ks:=Ac (Ad G1 ks.o);replace d7:=Ac (bt d7.o G1);replace H8:=Ac (Ab H8.o G1);replace OW:=Ac (Ab OW.o G1);have hs15:=G1.size;clear G1;go_wp2_with fail;refine(Mb w7.heap.size w8.heap.size AA.length 1 (J b7 AA.length b8) (Aq AA) w15 ⟨OW.o,λb q=>(OW8.o.lt b q).2⟩ qb hM (Nat.le_refl _) qb).mono ?_;rintro e w16 ⟨rfl,N3,-,ys,hro,V1⟩;have hs16:=N3.size;replace og:=Ac ((N3.block _ qb).trans og.o);replace ks:=Ac ((N3.block _ qb).trans ks.o);replace d7:=Ac (d7.o.trans (N3.mono qb));replace H8:=Ac (Al H8.o λb q=>N3.block b (zo ((H83.o.lt b q).2)));have pe:=Ac hro;have HMK:=Ac V1;clear N3 hro V1 OW OW8;obtain⟨KM,ekm⟩:=Aj (1+AA.length);have HKM:=Ac ekm;rw[ekm];clear ekm;go_wp2_with fail;refine(Mc w7.heap.size w8.heap.size AA.length 1 (J b7 AA.length b8) ys w16 pe.o HMK.o hM (Nat.le_refl _) qb).mono ?_;rintro e w17 ⟨rfl,N0⟩;rw[HKM.o];replace og:=Ac (Ad N0 og.o);replace ks:=Ac (Ad N0 ks.o);replace d7:=Ac (bt d7.o N0);replace H8:=Ac (Ab H8.o N0);replace pe:=Ac (pe.o.bl N0);clear N0;have hkm0:¬ ((KM:Int)<0):=qb
 go_upto_region 33 with fail
 clear R1 A7;have R1:=Ac (λ(V:E) (hV:Bw w V)=>Mo n ta ra tc rc T R V (HL.o.so.st.bl hV) (HL.o.so.rq.bl hV) HL.o.lt HL.o.qs);have A7:=Ac (λ(V:E) (hV:Bw w V)=>Mp sa ua c1 c2 ss tp V (HL.o.sp.rs.bl hV) (HL.o.sp.rt.bl hV) HL.o.sm);obtain⟨wD,eD⟩:=Aj w17.drew;have bD:Bw w17 wD:=qy;have dm:Hd (∀V:E,Bw w17 V→V.heap[w.heap.size]?=M (O #[I n,J ta T.length tc,J ra R.length rc] 25 (0,0))∧V.heap[w.heap.size+1]?=M (O #[J sa ss.length c1,J ua tp.length c2] 29 (0,0))):=λV h=>⟨Ad h og.o,Ad h ks.o⟩;refine Lt.begin 99 (λw'=>w'.heap[w.heap.size]?=M (O #[I n,J ta T.length tc,J ra R.length rc] 25 (0,0))∧w'.heap[w.heap.size+1]?=M (O #[J sa ss.length c1,J ua tp.length c2] 29 (0,0))) qi ?_;rw[eD];clear eD;refine Lt.ti (i:=0) (v:=?_) (dm.o _ bD) ?_ ?_;rotate_left 1
 ·exact qat
 simp only[gX];refine Lt.ti (i:=2) (v:=?_) (dm.o _ bD) ?_ ?_;rotate_left 1
 ·exact qat
 simp only[gX];refine Lt.ti (i:=4) (v:=?_) (dm.o _ bD) ?_ ?_;rotate_left 1
 ·exact qat
 simp only[gX];refine Lt.sp (i:=1) (λK hK=>?_);go_simp;refine(R1.o _ (bt d7.o bD)).mono ?_;rintro e wA ⟨bu,g1,v2,rfl,oy1,S5⟩;obtain⟨a2,p2,rfl,-⟩:=S5.sl;have bA:=bt bD bu;refine hK.out _ _ (λ_=>dm.o _ bA) (λ_=>?_);clear hK K
 try simp only[gX]
 refine Lt.sp (i:=3) (λK hK=>?_);go_simp;refine(A7.o _ (bt d7.o bA)).mono ?_;rintro e wB ⟨gh,u1,u2,rfl,ou1,ou2⟩;obtain⟨a3,p3,rfl,-⟩:=ou1.sl;obtain⟨a4,p4,rfl,-⟩:=ou2.sl;replace oy1:=oy1.bl gh;replace S5:=S5.bl gh;have bB:=bt bA gh;refine hK.out _ _ (λ_=>dm.o _ bB) (λ_=>?_);clear hK K
 try simp only[gX]
 refine Lt.sp (i:=5) (λK hK=>?_);go_simp;refine(Rg (n:=n) HL.o (HT.o.bl (bt d7.o bB)) (HP.o.bl (bt d7.o bB)) oy1 S5 ou1 ou2).mono ?_;rintro e w18 ⟨pu,d15,v15,rfl,vo,ow⟩;replace ow:=Ah ow (show w17.heap.size≤_ from bB.size);have bC:=bt bB pu;refine hK.out _ _ (λ_=>dm.o _ bC) (λ_=>?_);clear hK K
 try simp only[gX]
 refine Lt.ti (i:=6) (v:=?_) (dm.o _ bC) ?_ ?_;rotate_left 1
 ·exact qat
 simp only[gX];refine Lt.done qi ?_ _;have uj:=Ac bC;clear R1 A7 dm bC pu bB gh bA bu bD oy1 S5 ou1 ou2;have hdd:=D2.o.uniq vo HL.o.spv;subst hdd;rw[HEM.o,HML.o]at ow;obtain⟨i7,i8,rfl⟩:=Ay ow;have O15:=Ac ow;replace d7:=Ac (bt d7.o uj.o);replace H8:=Ac (Ab H8.o uj.o);replace pe:=Ac (pe.o.bl uj.o);clear vo ow uj og ks;go_wp2_with fail;refine(Hh i7 j7 i8 j8 AA w18 (Fa O15.o) (Fa H8.o) hM).mono ?_;rintro e w19 ⟨hb19,rfl⟩;replace d7:=Ac (bt d7.o hb19);replace pe:=Ac (pe.o.bl hb19);clear hb19 O15 H8;go_wp2_with fail;refine(Mc w7.heap.size w8.heap.size AA.length 1 (J b7 AA.length b8) ys w19 pe.o HMK.o hM (Nat.le_refl _) qb).mono ?_;rintro e w20 ⟨rfl,hb20⟩;rw[HKM.o];replace d7:=Ac (bt d7.o hb20);clear hb20;go_wp2;go_ret;exact⟨rfl,d7.o⟩
end Go.Proofs.YtbkkjodaaijimaaGreatDoor
