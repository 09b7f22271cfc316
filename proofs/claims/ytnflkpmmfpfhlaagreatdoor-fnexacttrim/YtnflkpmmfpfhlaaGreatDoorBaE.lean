import Derived.Test.YtnflkpmmfpfhlaaGreatDoorBaC
import Derived.Test.YtnflkpmmfpfhlaaGreatDoorBaM
namespace Go.Proofs.YtnflkpmmfpfhlaaGreatDoor
open _root_.Go.Proofs.Tryz Go.RowKit Go.Deep
open Value renaming slice->J,string->S,agg->G
open Option renaming some->M,none->N
open Obj renaming cells->O
open Go renaming Value->Z,World->E
open _root_ renaming List->L,Nat->X
set_option linter.unusedVariables false
set_option linter.unusedSimpArgs false
set_option maxHeartbeats 8000000
set_option maxRecDepth 100000
theorem SaysB.next{n0 k:X}{ss:L S2}{ts:L T2}{T:L By}{R:L T3}{xs:L By}{s:Sb}{c:Int}{t nm:By}{d:BD}(hv:Xv ss ts)(hl:ts.length≤200)(h0:Jc (n0:Int) T R∧Fx ss ts=0∧xs.length≤200)(fw:Fy n0 s)(hct:s.ran.length+s.held.length≤200*k)(M4:k<xs.length)(enm:nx xs k=nm)(xz:∀rr,Ew ss ts n0 s c t (xs.drop k) rr→Ew ss ts n0 ⟨T,R,[],[],[]⟩ 0 ⟨#[]⟩ xs rr)(h:SaysB (n0:Int) ss ts s.T s.R nm d):(5<d.c∧Jn (n0:Int) ss ts T R xs ⟨d.c,d.t,d.ch,n0,T,R,d.ran,d.held,d.A,d.B⟩)∨(d.c≤5∧d.ch=[]∧d.n=n0∧d.A=⟨#[]⟩∧d.B=⟨#[]⟩∧∃u,Fy n0 ⟨d.T,d.R,s.ran++d.ran,s.held++d.held,u⟩∧(s.ran++d.ran).length+(s.held++d.held).length≤200*(k+1)∧∀rr,Ew ss ts n0 ⟨d.T,d.R,s.ran++d.ran,s.held++d.held,u⟩ d.c d.t (xs.drop (k+1)) rr→Ew ss ts n0 ⟨T,R,[],[],[]⟩ 0 ⟨#[]⟩ xs rr):=by
 have es:Sb.pf s.ran s.held s.us ⟨s.T,s.R,[],[],[]⟩=s:=by simp[Sb.pf]
 rcases h with⟨hn0,rfl⟩|⟨zj,ms',s',a,bv,⟨md,rfl,rfl⟩|⟨b,rfl,rfl⟩⟩
 ·exact Or.inl ⟨show(5:Int)<9 from qh,Or.inr ⟨h0,.no,xz .no (by rw[Mh M4,enm];exact .no (λh=>hn0 ⟨⟨h0.1.1,h0.1.2.1,fw⟩,h0.2.1,h⟩)),Or.inr (Or.inr ⟨rfl,rfl⟩)⟩⟩
 ·have h1:=Az.pf s.us s.ran s.held bv
  rw[es]at h1;obtain⟨k1,k2,k3⟩:=Az.one hv hl fw zj.2.2 h1;refine Or.inr ⟨k3,rfl,rfl,rfl,rfl,_,k1,?_,λrr hr=>xz rr (by rw[Mh M4,enm];exact .go zj.2.2 h1 hr)⟩;have k4:(s.ran++s'.ran).length+(s.held++s'.held).length≤s.ran.length+s.held.length+200:=k2;show(s.ran++s'.ran).length+(s.held++s'.held).length≤_;omega
 ·have h1:=Az.pf s.us s.ran s.held bv
  rw[es]at h1;exact Or.inl ⟨Qy b,Or.inr ⟨h0,.bad b,xz (.bad b) (by rw[Mh M4,enm];exact .bad zj.2.2 h1),Or.inr (Or.inl ⟨b,rfl,rfl⟩)⟩⟩
theorem specAll_any(n:Int)(tb tc nc:X)(na:Option Addr)(xs:L By)(qa sa ta:Option Addr)(qc c1 c2:X)(T:L By)(R:L T3)(ss:L S2)(ts:L T2)(w:E)(cr:Nv w (p_ tb) T qa R)(rv:Rc w qa R)(hr:R.length≤1048576)(jg:∀i,i<R.length→(qx R i).code.length≤1048576∧(qx R i).looks.length≤1048576)(sw:Li w sa ss ta ts)(ku:Ep ss ts)(lq:xs.length≤1048576)(ue:Cu w na xs)(P7:∀i,(nx xs i).size≤9223372036854775807):Calls prog 22 #[G #[I n,J (p_ tb) T.length tc,J qa R.length qc],G #[J sa ss.length c1,J ta ts.length c2],J na xs.length nc] w λe w'=>Bw w w'∧∃d cv tx qv nv ev zs kv lv,e=.returned (G (bV d cv tx qv nv ev))∧Jn n ss ts T R xs d∧BW w' w.heap.size d cv tx qv nv ev zs kv lv:=by
 obtain⟨W,eW⟩:=Aj (((w.alloc (O #[I n,J (p_ tb) T.length tc,J qa R.length qc] 35)).alloc (O #[J sa ss.length c1,J ta ts.length c2] 42)).alloc (O z10 55));have cj:Bw w W:=qbv;have HQ:Hd (W.heap[w.heap.size]?=M (O #[I n,J (p_ tb) T.length tc,J qa R.length qc] 35 (0,0))):=qca
 have HP:Hd (W.heap[w.heap.size+1]?=M (O #[J sa ss.length c1,J ta ts.length c2] 42 (0,0))):=by
  exact qjb
 have HZ:Hd (W.heap[w.heap.size+1+1]?=M (O z10 55 (0,0))):=by
  show _=_;rw[←eW];have:=Fg ((w.alloc (O #[I n,J (p_ tb) T.length tc,J qa R.length qc] 35)).alloc (O #[J sa ss.length c1,J ta ts.length c2] 42)) (O z10 55);exact qfj
 have rh:=Ab cj;obtain⟨q0,q1,q2,qf⟩:=Ci HQ.o;obtain⟨x0,x1⟩:=En HP.o;have yg:=Ab (Gw n _ _ tc qc T R W (cr.bl cj));have J2:=Ab (λ(V:E) (hV:Bw w V)=>La sa ta c1 c2 ss ts V (sw.bl hV) ku);have vh:=Ab (λ(V:E) (hV:Bw w V)=>Ke n tb 0 tc qa qc T R V (cr.st.bl hV) (rv.bl hV) cr.lt hr jg);have HSB:=Ab (λ(V:E) (hV:Bw w V)=>sw.bl hV);have HXS:=Ab ue;have ph:=Ab ku;obtain⟨m,em⟩:=Aj xs.length;have EM:=Ab em;rw[em]at lq ⊢;clear em;clear cr rv hr jg sw ku cj ue;go_enter func22,ntmps22;go_wp2_with fail;clear eW q0 q1 q2 qf x0 x1;refine yg.o.mono ?_;clear yg;rintro e w1 ⟨ag,b,rfl,V7⟩;replace HQ:=Ab (Ac ag HQ.o);replace HP:=Ab (Ac ag HP.o);replace HZ:=Ab (Ac ag HZ.o);have d6:=Ab (bt rh.o ag);clear ag rh;cases b
 ·have HSY:Hd (Jn n ss ts T R xs ⟨9,⟨#[]⟩,[],n,T,R,[],[],⟨#[]⟩,⟨#[]⟩⟩):=Or.inl ⟨λh=>(by have:=V7.2 h.1;cases this),rfl⟩
  clear V7 J2;obtain⟨x0,x1,x2,xf⟩:=Ci HQ.o;go_wp2_with fail;clear x0 x1 x2 xf;refine(vh.o w1 d6.o).mono ?_;rintro e w9 ⟨yu,g1,p1,v2,rfl,o1,o2⟩;obtain⟨a2,p2,rfl,_⟩:=o2.sl;have yd:=Ab (Ac yu HZ.o);have Y7:=Ab (bt d6.o yu);have mw:=Ab (show Dz w9 w.heap.size (J (p_ g1) T.length p1) (J a2 R.length p2) T R from ⟨Ah o1.own (zo d6.o.size),⟨g1,p1,rfl⟩,o2.recO.base (zo d6.o.size)⟩);clear yu o1 o2 HQ HP HZ vh d6;obtain⟨K7,K6,K5,K4,J9,J8,J7,J6,J5,J4⟩:=Et yd.o;have zcf:=fZ yd.o;obtain⟨l,el⟩:∃l:L (X×X×Z),l=[((w.heap.size+1+1),0,I 9),((w.heap.size+1+1),1,ze),((w.heap.size+1+1),2,nS),((w.heap.size+1+1),3,I n),((w.heap.size+1+1),4,J (p_ g1) T.length p1),((w.heap.size+1+1),5,J a2 R.length p2),((w.heap.size+1+1),6,nS),((w.heap.size+1+1),7,nS),((w.heap.size+1+1),8,ze),((w.heap.size+1+1),9,ze)]:=⟨_,rfl⟩;have bu:∀x∈l,x.1=(w.heap.size+1+1):=Xg;have bn:=De l w9 _ bu yd.o;have hS:=mw.o.setU bu yd.o;have fa:Bw w (Bo w9 l):=Bg l w9 Y7.o (λx hx=>qac);obtain⟨V,eV⟩:=Aj (Bo w9 l);rw[eV]at bn fa hS;rw[el]at bn eV;simp only[Bo,List.foldl]at eV;simp only[List.foldl,List.setIfInBounds_toArray,List.set_cons_zero,List.set_cons_succ]at bn;have HV:=Ab bn;have gj:=Ab fa;have im:=Ab hS;clear bn fa el bu hS;go_wp2_with fail
  try rw[eV]
  obtain⟨y0,y1,y2,y3,y4,y5,y6,y7,y8,y9⟩:=Et HV.o;exact bR (v:=G #[I 9,ze,nS,I n,J (p_ g1) T.length p1,J a2 R.length p2,nS,nS,ze,ze]) qee rfl (by obtain⟨zs,kv,lv,rr⟩:=im.o.rcs;exact⟨gj.o,⟨9,⟨#[]⟩,[],n,T,R,[],[],⟨#[]⟩,⟨#[]⟩⟩,_,_,_,_,_,zs,kv,lv,rfl,HSY.o,Ff _ _,im.o.txt,rr,Ff _ _,Ff _ _⟩)
 have HWD:=Ab (V7.1 rfl);clear V7;obtain⟨x0,x1⟩:=En HP.o;have HC:=Ab (J2.o w1 d6.o);clear J2;obtain⟨ck,eck⟩:=Aj (Fx ss ts);have ECK:=Ab eck;rw[eck]at HC;clear eck;go_wp2_with fail;clear x0 x1;refine HC.o.mono ?_;clear HC;rintro e w2 ⟨af,rfl⟩;replace HQ:=Ab (Ac af HQ.o);replace HP:=Ab (Ac af HP.o);replace HZ:=Ab (Ac af HZ.o);have dy:=Ab (bt d6.o af);clear af d6
 by_cases hc:ck=0
 rotate_left 1
 ·have hcI:(ck == 0)=false:=qch
  have hcN:(ck != 0)=true:=qch;have HSY:Hd (Jn n ss ts T R xs ⟨9,⟨#[]⟩,[],n,T,R,[],[],⟨#[]⟩,⟨#[]⟩⟩):=Or.inl ⟨λh=>hc (ECK.o.symm.trans h.2.1),rfl⟩;exact qhu
 subst hc
 by_cases td:200<m
 ·have E4:((m:Int) > 200)=True:=qj
  have HSY:Hd (Jn n ss ts T R xs ⟨9,⟨#[]⟩,[],n,T,R,[],[],⟨#[]⟩,⟨#[]⟩⟩):=Or.inl ⟨λh=>by have:=h.2.2;rw[EM.o]at this;omega,rfl⟩;exact qhu
 have E4:((m:Int) > 200)=False:=qj;obtain⟨n0,rfl⟩:=Int.eq_ofNat_of_zero_le (show 0<=n by have:=HWD.o.1;omega);have HV0:=Ab (show Jc n0 T R∧Fx ss ts=0∧xs.length≤200 from ⟨HWD.o,ECK.o,qaw⟩);have HOK0:=Ab HWD.o.2.2;have HEN:Hd (Jf w sa ta ss ts):=Mf (HSB.o w (Below.refl _ _)) ECK.o;obtain⟨x0,x1,x2,xf⟩:=Ci HQ.o;go_wp2_with fail;clear x0 x1 x2 xf;refine(vh.o w2 dy.o).mono ?_;rintro e w3 ⟨au,g1,p1,v2,rfl,o1,o2⟩;obtain⟨a2,p2,rfl,_⟩:=o2.sl;have vg:=Ab (show Dz w3 w.heap.size (J (p_ g1) T.length p1) (J a2 R.length p2) T R from ⟨Ah o1.own (zo dy.o.size),⟨g1,p1,rfl⟩,o2.recO.base (zo dy.o.size)⟩);replace HQ:=Ab (Ac au HQ.o);replace HP:=Ab (Ac au HP.o);replace HZ:=Ab (Ac au HZ.o);have ia:=Ab (bt dy.o au);clear au o1 o2 dy
 go_upto_region 4 with fail
 obtain⟨w4,e4⟩:=Aj (w3.alloc (O #[I 0,ze,nS,I n0,J (p_ g1) T.length p1,J a2 R.length p2,nS,nS,ze,ze] 55));obtain⟨P,eP⟩:=Aj w3.heap.size;have bp:Bw w3 w4:=qep;have pk:=Ab (nW e4 eP);rw[e4,eP];have hPw:w.heap.size+1+1<P:=by rw[←eP];exact Ag HZ.o
 replace HQ:=Ab (Ac bp HQ.o);replace HP:=Ab (Ac bp HP.o);replace HZ:=Ab (Ac bp HZ.o);have ox:=Ab (bt ia.o bp);have gq:=Ab (vg.o.bl bp);clear e4 eP bp vg ia;go_wp2
 go_loopw [8] (λi wr=>∃(k:X)(s:Sb)(c:Int)(t:By)(cv tx qv nv ev:Z),k≤m∧i=I k∧Hd (∀rr,Ew ss ts n0 s c t (xs.drop k) rr→Ew ss ts n0 ⟨T,R,[],[],[]⟩ 0 ⟨#[]⟩ xs rr)∧Hd (Fy n0 s)∧Hd (s.ran.length+s.held.length≤200*k)∧Hd (wr.heap[P]?=M (O #[I c,S t,cv,I n0,tx,qv,nv,ev,ze,ze] 55 (0,0)))∧Hd (wr.ownsRow w.heap.size 9 1 cv 0 [])∧Hd (Dz wr w.heap.size tx qv s.T s.R)∧Hd (wr.ownsRow w.heap.size 9 1 nv s.ran.length (Ar s.ran))∧Hd (wr.ownsRow w.heap.size 9 1 ev s.held.length (Ar s.held))∧Hd (wr.heap[w.heap.size]?=M (O #[I n0,J (p_ tb) T.length tc,J qa R.length qc] 35 (0,0)))∧Hd (wr.heap[w.heap.size+1]?=M (O #[J sa ss.length c1,J ta ts.length c2] 42 (0,0)))∧Hd (wr.heap[w.heap.size+1+1]?=M (O z10 55 (0,0)))∧Hd (Bw w wr)) (λi _=>m-(intOf i).toNat)
 case atStart=>exact⟨0,_,_,_,_,_,_,_,_,Nat.zero_le _,rfl,λrr h=>h,HOK0.o,Nat.zero_le _,pk.o,World.ownsRow_nil _ _ _ _,gq.o,World.ownsRow_nil _ _ _ _,World.ownsRow_nil _ _ _ _,HQ.o,HP.o,HZ.o,ox.o⟩
 case round=>
  clear HQ HP HZ ox gq pk HOK0;obtain⟨k,s,c,t,cv1,tx,qv,nv,ev,hk,rfl,gt,ke,ou,HO,HCV,di,HNV,O3,HQ,HP,HZ,HB⟩:=hrel
  by_cases ai:k<m
  ·have M4:k<xs.length:=qah
   obtain⟨nb,nf,ena,G9⟩:=(HXS.o.bl HB.o) k M4;subst ena;obtain⟨nm,enm⟩:=Aj (nx xs k);have ENM:=Ab enm;(have cz:nm.size≤9223372036854775807:=by rw[←enm];exact P7 k);replace G9:wr.cell? ⟨nb,nf+k,N⟩=M (S (nx xs k)):=G9;rw[enm]at G9;have HNC:=Ab G9;clear enm G9;obtain⟨g0,p0,etx⟩:=di.o.txa;subst etx;obtain⟨zs0,kv0,lv0,r0⟩:=di.o.rcs;obtain⟨a0,q0,eqv,hrq⟩:=r0.rowQ;subst eqv;have hrw0:Rc wr a0 s.R:=Eo.rowW ⟨zs0,kv0,lv0,r0⟩ (λi hi=>(Gz (ke.o.2.2 i hi).1).1);obtain⟨ca1,cc1,ecv⟩:=Al HCV.o;subst ecv;obtain⟨na1,nc1,env⟩:=Al HNV.o;subst env;obtain⟨ea1,ec1,eev⟩:=Al O3.o;subst eev;have hqs:=Jd.qs ke.o (zo HV0.o.1.2.1);have hstI:Nv wr (p_ g0) s.T a0 s.R:=⟨Qb rfl di.o.txt,by have:=ke.o.1.1;omega,hqs.2.2,hrq,hqs.1,hqs.2.1⟩;have O7:=Ab (λ(V:E) (hV:Bw wr V)=>Uw n0 g0 p0 a0 sa ta q0 c1 c2 s.T s.R ss ts nm V (hstI.bl hV) (hrw0.bl hV) hqs.2.1.1 hqs.2.1.2 (HSB.o V (bt HB.o hV)) ph.o cz);clear hstI hqs hrw0 hrq r0;have fs:(k:Int)<(m:Int):=qg;have jn:(0:Int)≤(k:Int):=qg
   go_upto_region 7 with fail
   obtain⟨wD,eD⟩:=Aj wr.drew;have bD:Bw wr wD:=qaf;have bh:Hd (∀V:E,Bw wr V→V.heap[P]?=M (O #[I c,S t,J ca1 0 cc1,I n0,J (p_ g0) s.T.length p0,J a0 s.R.length q0,J na1 s.ran.length nc1,J ea1 s.held.length ec1,ze,ze] 55 (0,0))∧V.heap[w.heap.size+1]?=M (O #[J sa ss.length c1,J ta ts.length c2] 42 (0,0))∧V.cell? ⟨nb,nf+k,N⟩=M (S nm)):=λV h=>⟨Ac h HO.o,Ac h HP.o,Aa h HNC.o⟩
   go_cut [9] (λp wx=>∃(Q:X)(d:BD)(cv tx qv nv ev:Z)(zs:L Z)(kv lv:X→Z),p=.pointer (p_ Q)∧Hd (wx.heap[Q]?=M (O (bV d cv tx qv nv ev) 55 (0,0))∧SaysB (n0:Int) ss ts s.T s.R nm d∧BW wx wr.heap.size d cv tx qv nv ev zs kv lv∧(∃g p,tx=J (p_ g) d.T.length p)∧Bw wr wx∧wr.heap.size≤Q))
   case first=>
    refine Lt.begin 9 (λw'=>w'.heap[P]?=M (O #[I c,S t,J ca1 0 cc1,I n0,J (p_ g0) s.T.length p0,J a0 s.R.length q0,J na1 s.ran.length nc1,J ea1 s.held.length ec1,ze,ze] 55 (0,0))∧w'.heap[w.heap.size+1]?=M (O #[J sa ss.length c1,J ta ts.length c2] 42 (0,0))∧w'.cell? ⟨nb,nf+k,N⟩=M (S nm)) qk ?_;rw[eD];clear eD;change K 0 _
    iterate 7
     refine Lt.ti (v:=?_) (bh.o _ bD) ?_ ?_;rotate_left 1
     ·rintro w ⟨r1,r2,r3⟩
      obtain⟨y0,y1,y2,y3,y4,y5,y6,y7,y8,y9⟩:=Mi r1;obtain⟨s0,s1⟩:=En r2;exact qae
     simp only[gX]
    refine Lt.two (i:=7) (j:=8) (oi:={ dst:=M 42,op:=Op.call { callee:=Callee.value (Operand.func 51),args:=#[Operand.tmp 36,Operand.tmp 37,Operand.tmp 41],argTypes:=#[35,42,9] },type:=55,pos := "l5_build.go:217",after:=#[{ on:=1,ground:=Ground.data },{ on:=2,ground:=Ground.data },{ on:=6,ground:=Ground.data }],guard:=N }) (oj:={ dst:=M 9,op:=Op.alloc 55,type:=0,pos := "l5_build.go:217",after:=#[],guard:=N }) qk rfl rfl (λK hK=>?_) (λK hK=>?_)
    ·skip
     go_simp;refine(O7.o _ bD).mono ?_;rintro e wC ⟨jo,d,cv,tx,qv,nv,ev,zs,kv,lv,rfl,hsa,ow,Z8⟩;have HSA:=Ab hsa;have l7:=Ab Z8;clear hsa Z8;obtain⟨⟨b1,b2,rfl⟩,⟨b3,b4,rfl⟩,⟨b5,b6,rfl⟩,⟨b7,b8,rfl⟩,⟨b9,Sw,rfl⟩⟩:=ow.slices;have bC:=bt bD jo;replace ow:=ow.base (show wr.heap.size≤_ from bD.size);refine hK.out _ _ (λ_=>bh.o _ bC) (λ_=>?_);clear hK K
     try simp only[gX]
     refine Lt.sp (i:=8) (λK hK=>?_);go_simp;refine Cb (Q:=λx=>K _ x) ?_;intro wP f9 zP0
     try dsimp only
     have zP:=zP0.out;clear zP0;have bP:=bt bC f9;have pe:=bC.size;replace ow:=ow.bl f9;refine hK.out _ _ (λ_=>bh.o _ bP) (λ_=>?_);clear hK K
     try simp only[gX]
     obtain⟨Q,eQ⟩:=Aj wC.heap.size;rw[eQ]at zP pe ⊢;obtain⟨K7,K6,K5,K4,J9,J8,J7,J6,J5,J4⟩:=Et zP;have zcf:=fZ zP;obtain⟨l,el⟩:∃l:L (X×X×Z),l=[(Q,0,I d.c),(Q,1,S d.t),(Q,2,J b1 d.ch.length b2),(Q,3,I d.n),(Q,4,J b3 d.T.length b4),(Q,5,J b5 d.R.length b6),(Q,6,J b7 d.ran.length b8),(Q,7,J b9 d.held.length Sw),(Q,8,S d.A),(Q,9,S d.B)]:=⟨_,rfl⟩;have bu:∀x∈l,x.1=Q:=Xg;have bn:=De l wP _ bu zP;have hS:=ow.setU bu zP;have fa:Bw wr (Bo wP l):=Bg l wP bP (λx hx=>qac);obtain⟨V,eV⟩:=Aj (Bo wP l);exact qip
    ·skip
     go_simp;refine Cb (Q:=λx=>K _ x) ?_;intro wP f9 zP0
     try dsimp only
     have zP:=zP0.out;clear zP0;have bP:=bt bD f9;have pe:=bD.size;refine hK.out _ _ (λ_=>bh.o _ bP) (λ_=>?_);clear hK K
     try simp only[gX]
     refine Lt.sp (i:=7) (λK hK=>?_);go_simp;refine(O7.o _ bP).mono ?_;rintro e wC ⟨jo,d,cv,tx,qv,nv,ev,zs,kv,lv,rfl,hsa,ow,Z8⟩;have HSA:=Ab hsa;have l7:=Ab Z8;clear hsa Z8;obtain⟨⟨b1,b2,rfl⟩,⟨b3,b4,rfl⟩,⟨b5,b6,rfl⟩,⟨b7,b8,rfl⟩,⟨b9,Sw,rfl⟩⟩:=ow.slices;have bC:=bt bP jo;replace ow:=ow.base (show wr.heap.size≤_ from bP.size);replace zP:=Ac jo zP;refine hK.out _ _ (λ_=>bh.o _ bC) (λ_=>?_);clear hK K
     try simp only[gX]
     obtain⟨Q,eQ⟩:=Aj wD.heap.size;rw[eQ]at zP pe ⊢;obtain⟨K7,K6,K5,K4,J9,J8,J7,J6,J5,J4⟩:=Et zP;have zcf:=fZ zP;obtain⟨l,el⟩:∃l:L (X×X×Z),l=[(Q,0,I d.c),(Q,1,S d.t),(Q,2,J b1 d.ch.length b2),(Q,3,I d.n),(Q,4,J b3 d.T.length b4),(Q,5,J b5 d.R.length b6),(Q,6,J b7 d.ran.length b8),(Q,7,J b9 d.held.length Sw),(Q,8,S d.A),(Q,9,S d.B)]:=⟨_,rfl⟩;have bu:∀x∈l,x.1=Q:=Xg;have bn:=De l wC _ bu zP;have hS:=ow.setU bu zP;have fa:Bw wr (Bo wC l):=Bg l wC bC (λx hx=>qac);obtain⟨V,eV⟩:=Aj (Bo wC l);exact qip
   case rest=>
   obtain⟨Q,d,cv,tx,qv,nv,ev,zs,kv,lv,rfl,HX⟩:=hcut;obtain⟨w6,rfl⟩:∃wk,wk=wc:=⟨_,rfl⟩;clear bh O7 bD eD;have hsay:=HX.o.2.1;have bj:=HX.o.2.2.2.2.1;have hQr:=HX.o.2.2.2.2.2;have HXQ:=Ab HX.o.1;have rh:=Ab HX.o.2.2.1;have l7:=Ab HX.o.2.2.2.1;have H7:=HB.o.size;have hPr:=Ag HO.o;have xu:=bj.size;have S1:=Ab (Ac bj HQ.o);have HP6:=Ab (Ac bj HP.o);have R6:=Ab (Ac bj HZ.o);have HO6:=Ab (Ac bj HO.o);have ni:=Ab (bt HB.o bj);obtain⟨⟨b1,b2,e1⟩,⟨b3,b4,e2⟩,⟨b5,b6,e3⟩,⟨b7,b8,e4⟩,⟨b9,Sw,e5⟩⟩:=rh.o.slices;subst e1 e2 e3 e4 e5;have HNV6:=Ab (Ad HNV.o bj);have HEV6:=Ab (Ad O3.o bj);have hnx:=SaysB.next HEN.o.v HEN.o.l2 HV0.o ke.o ou.o M4 ENM.o gt.o hsay;have hQl:=Ag HXQ.o;have hZP:=Ag HZ.o;clear HX hsay bj HQ HP HZ HO HB gt di HNC zs0 kv0 lv0
   rcases hnx with⟨hd5,hsy⟩|⟨hd5,V1,hdn,hdA,hdB,u2,hok2,hct2,hco2⟩
   ·have HSY:=Ab hsy
    obtain⟨y0,y1,y2,y3,y4,y5,y6,y7,y8,y9⟩:=Mi HXQ.o;obtain⟨x0,x1,x2,xf⟩:=Ci S1.o;clear hsy;go_wp2_with fail;clear x0 x1 x2 xf y0 y1 y2 y3 y4 y5 y6 y7 y8 y9;refine(vh.o w6 ni.o).mono ?_;rintro e w7 ⟨bo,g9,p9,v9,rfl,o1,o2⟩;obtain⟨a9,q9,rfl,_⟩:=o2.sl;have X0:=Ab (Ac bo HXQ.o);have HZ7:=Ab (Ac bo R6.o);have t8:=Ab (bt ni.o bo);have HBW7:=Ab (rh.o.bl bo);have my:=Ab (show Dz w7 w.heap.size (J (p_ g9) T.length p9) (J a9 R.length q9) T R from ⟨Ah o1.own qg,⟨g9,p9,rfl⟩,o2.recO.base qg⟩);clear bo o1 o2 HXQ R6 ni rh S1 HP6 HO6;obtain⟨y0,y1,y2,y3,y4,y5,y6,y7,y8,y9⟩:=Et X0.o;have yf:=fZ X0.o;obtain⟨l,el⟩:∃l:L (X×X×Z),l=[(Q,3,I n0),(Q,4,J (p_ g9) T.length p9),(Q,5,J a9 R.length q9)]:=⟨_,rfl⟩;have bu:∀x∈l,x.1=Q:=Xg;have bn:=De l w7 _ bu X0.o;have hS:=my.o.setU bu X0.o;have hW8:=HBW7.o.setU bu X0.o;have hZ8:=(Fb (b:=w.heap.size+1+1) l w7 (λx hx q=>by rw[bu x hx]at q;omega)).trans HZ7.o;have fa:Bw w (Bo w7 l):=Bg l w7 t8.o (λx hx=>qac);obtain⟨w8,eV⟩:=Aj (Bo w7 l);rw[eV]at bn fa hS hW8 hZ8;rw[el]at bn eV;simp only[Bo,List.foldl]at eV;simp only[List.foldl,List.setIfInBounds_toArray,List.set_cons_zero,List.set_cons_succ]at bn;have HXQ8:=Ab bn;have B6:=Ab fa;have gk:=Ab hS;have HBW8:=Ab hW8;have oa:=Ab hZ8;clear bn fa el bu hS hW8 hZ8 X0 HZ7 t8 HBW7 my
    go_upto_region 10 with fail
    try rw[eV]
    clear eV y0 y1 y2 y3 y4 y5 y6 y7 y8 y9 yf;obtain⟨y0,y1,y2,y3,y4,y5,y6,y7,y8,y9⟩:=Et HXQ8.o;obtain⟨K7,K6,K5,K4,J9,J8,J7,J6,J5,J4⟩:=Et oa.o;have zcf:=fZ oa.o;obtain⟨l,el⟩:∃l:L (X×X×Z),l=[((w.heap.size+1+1),0,I d.c),((w.heap.size+1+1),1,S d.t),((w.heap.size+1+1),2,J b1 d.ch.length b2),((w.heap.size+1+1),3,I n0),((w.heap.size+1+1),4,J (p_ g9) T.length p9),((w.heap.size+1+1),5,J a9 R.length q9),((w.heap.size+1+1),6,J b7 d.ran.length b8),((w.heap.size+1+1),7,J b9 d.held.length Sw),((w.heap.size+1+1),8,S d.A),((w.heap.size+1+1),9,S d.B)]:=⟨_,rfl⟩;have bu:∀x∈l,x.1=(w.heap.size+1+1):=Xg;have bn:=De l w8 _ bu oa.o;have hS:=gk.o.setU bu oa.o;have hW8:=HBW8.o.setU bu oa.o;have fa:Bw w (Bo w8 l):=Bg l w8 B6.o (λx hx=>qac);obtain⟨V,eV⟩:=Aj (Bo w8 l);rw[eV]at bn fa hS hW8;rw[el]at bn eV;simp only[Bo,List.foldl]at eV;simp only[List.foldl,List.setIfInBounds_toArray,List.set_cons_zero,List.set_cons_succ]at bn;have HV:=Ab bn;have gj:=Ab fa;have im:=Ab hS;have H_hW:=Ab hW8;clear bn fa el bu hS hW8;go_wp2_with fail
    try rw[eV]
    clear y0 y1 y2 y3 y4 y5 y6 y7 y8 y9;obtain⟨y0,y1,y2,y3,y4,y5,y6,y7,y8,y9⟩:=Et HV.o;obtain⟨zs9,kv9,lv9,r9⟩:=im.o.rcs;exact bR (v:=G #[I d.c,S d.t,J b1 d.ch.length b2,I n0,J (p_ g9) T.length p9,J a9 R.length q9,J b7 d.ran.length b8,J b9 d.held.length Sw,S d.A,S d.B]) qee rfl ⟨gj.o,⟨d.c,d.t,d.ch,n0,T,R,d.ran,d.held,d.A,d.B⟩,_,_,_,_,_,zs9,kv9,lv9,rfl,HSY.o,Ah H_hW.o.ch H7,im.o.txt,r9,Ah H_hW.o.ran H7,Ah H_hW.o.held H7⟩
   ·have HOK2:=Ab hok2
    have B4:=Ab hct2;have HCO2:=Ab hco2;clear hok2 hct2 hco2;obtain⟨dc,dt,dch,dn,dT,dR,dran,dheld,dA,dB⟩:=d;dsimp only at *;subst V1 hdn hdA hdB;have hdI:(dc > 5)=False:=qj;(have hrl:s.ran.length+dran.length≤40200:=by have:=B4.o;simp only[List.length_append]at this;omega);(have hhl:s.held.length+dheld.length≤40200:=by have:=B4.o;simp only[List.length_append]at this;omega);have HRN:=Ab rh.o.ran;have HHE:=Ab rh.o.held;obtain⟨y0,y1,y2,y3,y4,y5,y6,y7,y8,y9⟩:=Mi HXQ.o
    go_upto_region 11 with fail
    clear y0 y1 y2 y3 y4 y5 y6 y7 y8 y9;obtain⟨wE,eE⟩:=Aj w6.drew;(have bE:Bw w6 wE:=by rw[←eE];exact(Below.refl _ _).drew);have bh:Hd (∀V:E,Bw w6 V→V.heap[P]?=M (O #[I c,S t,J ca1 0 cc1,I n0,J (p_ g0) s.T.length p0,J a0 s.R.length q0,J na1 s.ran.length nc1,J ea1 s.held.length ec1,ze,ze] 55 (0,0))∧V.heap[Q]?=M (O #[I dc,S dt,J b1 0 b2,I n0,J b3 dT.length b4,J b5 dR.length b6,J b7 dran.length b8,J b9 dheld.length Sw,ze,ze] 55 (0,0))):=λV h=>⟨Ac h HO6.o,Ac h HXQ.o⟩;refine Lt.begin 8 (λw'=>w'.heap[P]?=M (O #[I c,S t,J ca1 0 cc1,I n0,J (p_ g0) s.T.length p0,J a0 s.R.length q0,J na1 s.ran.length nc1,J ea1 s.held.length ec1,ze,ze] 55 (0,0))∧w'.heap[Q]?=M (O #[I dc,S dt,J b1 0 b2,I n0,J b3 dT.length b4,J b5 dR.length b6,J b7 dran.length b8,J b9 dheld.length Sw,ze,ze] 55 (0,0))) qk ?_;rw[eE];clear eE;change K 1 _
    iterate 2
     refine Lt.ti (v:=?_) (bh.o _ bE) ?_ ?_;rotate_left 1
     ·exact qdh
     simp only[gX]
    change K 4 _
    iterate 2
     refine Lt.ti (v:=?_) (bh.o _ bE) ?_ ?_;rotate_left 1
     ·exact qdh
     simp only[gX]
    refine Lt.sp (i:=0) (λK hK=>?_);go_simp;obtain⟨wL,eL⟩:=Aj (wE.alloc (O #[] 9));have hE:=bE.size;have oe:=Ip wE w6.heap.size 9 1 hE;rw[eL]at oe;have bL:Bw w6 wL:=bt bE (by rw[←eL];exact Ai _ _);have hL:=bL.size
    try rw[eL]
    refine hK.out _ _ (λ_=>bh.o _ bL) (λ_=>?_);clear hK K eL
    try simp only[gX]
    refine Lt.sp (i:=3) (λK hK=>?_);refine Kr rfl qt w6.heap.size _ 0 [] qt oe w.heap.size na1 nc1 s.ran qt (Ad HNV6.o bL) hL qg ?_;intro v1 wM i8 hg1 ha1;rw[Nat.zero_add,List.nil_append]at i8;have bM:Bw w6 wM:=bL.grown hg1 hL (λb e=>(oe.lt b e).1);have hM:=bM.size;refine hK.out _ _ (λ_=>bh.o _ bM) (λ_=>?_);clear hK K
    try simp only[gX]
    refine Lt.sp (i:=6) (λK hK=>?_);refine Kr rfl qt w6.heap.size v1 _ _ qt i8 wr.heap.size b7 b8 dran qt (Ad HRN.o bM) hM qg ?_;intro v2 wN ky xy ha2;have bN:Bw w6 wN:=bM.grown xy hM (λb e=>(i8.lt b e).1);have hN:=bN.size;obtain⟨va,vc,ev2⟩:=Al ky;subst ev2;refine hK.out _ _ (λ_=>bh.o _ bN) (λ_=>?_);clear hK K
    try simp only[gX]
    refine Lt.ti (i:=7) (v:=?_) (bh.o _ bN) ?_ ?_;rotate_left 1
    ·exact qdo
    simp only[gX];obtain⟨z0,z1,z2,z3,z4,z5,z6,z7,z8,z9⟩:=Mi (bh.o _ bN).2;have zf:∀j,wN.frozen? ⟨Q,j,N⟩=false:=λj=>fH (bh.o _ bN).2 j;obtain⟨wS,eS⟩:=Aj (wN.setCell ⟨Q,6,N⟩ (J va (s.ran.length+dran.length) vc));refine Lt.sp (i:=8) (λK hK=>?_);go_simp
    try rw[eS]
    refine hK.out _ _ (λh=>absurd rfl h) (λ_=>?_);clear hK K z0 z1 z2 z3 z4 z5 z6 z7 z8 z9 zf;refine Lt.done qk ?_ _
    try rw[eS]
    obtain⟨l,el⟩:∃l:L (X×X×Z),l=[(Q,6,J va (s.ran.length+dran.length) vc)]:=⟨_,rfl⟩;have bu:∀x∈l,x.1=Q:=Xg;(have eS2:Bo wN l=wS:=by rw[el];simp only[Bo,List.foldl];exact eS);have kq:=(bh.o _ bN).2;have kp:=(bh.o _ bN).1;have bn:=De l wN _ bu kq;have xh:∀b:X,b≠Q→(Bo wN l).heap[b]?=wN.heap[b]?:=λb hb=>Fb (b:=b) l wN (λx hx q=>hb qce);have hRR:=Cg ky bu kq qh;have hWW:=(rh.o.bl bN).setU bu kq;have I2:Bw w (Bo wN l):=Bg l wN (bt ni.o bN) (λx hx=>qac);have hPP:=(xh P qg).trans kp;have hQ8:=(xh w.heap.size qg).trans (Ac bN S1.o);have hP8:=(xh (w.heap.size+1) qg).trans (Ac bN HP6.o);have hZ8:=(xh (w.heap.size+1+1) qg).trans (Ac bN R6.o);have hEV:=Cg (Ad HEV6.o bN) bu kq qh;have hHE:=Cg (Ad HHE.o bN) bu kq qh;(have de:(Bo wN l).heap.size=wN.heap.size:=by rw[el];simp[Bo]);rw[eS2]at bn hRR hWW I2 hPP de hQ8 hP8 hZ8 hEV hHE;rw[el]at bn;simp only[List.foldl,List.setIfInBounds_toArray,List.set_cons_zero,List.set_cons_succ]at bn;obtain⟨rl8,erl8⟩:=Aj (s.ran.length+dran.length);rw[erl8]at bn hRR
    try simp only[erl8]
    (have HLNrl8:Hd (rl8=(s.ran++dran).length):=by show _=_;rw[←erl8,List.length_append]);have HRWrl8:Hd (wS.ownsRow w6.heap.size 9 1 (J va rl8 vc) rl8 (Ar (s.ran++dran))):=Ab (by have:=hRR;simpa [Ar] using this);obtain⟨w8,rfl⟩:∃y,y=wS:=⟨_,rfl⟩;obtain⟨na8,rfl⟩:∃y,y=va:=⟨_,rfl⟩;obtain⟨nc8,rfl⟩:∃y,y=vc:=⟨_,rfl⟩;have HXQ8:=Ab bn;have HBW8:=Ab hWW;have B6:=Ab I2;have HO8:=Ab hPP;have HQ8:=Ab hQ8;have HP8:=Ab hP8;have oa:=Ab hZ8;have HEV8:=Ab hEV;have HHE8:=Ab hHE;have hs68:w6.heap.size≤w8.heap.size:=qg;clear bn hWW I2 hPP hQ8 hP8 hZ8 hEV hHE hRR eS eS2 el bu kq kp xh de bE bL bM bN hE hL hM hN oe i8 ky hg1 xy ha1 ha2 bh HXQ rh ni HO6 S1 HP6 R6 HEV6 HHE erl8
    go_upto_region 12 with fail
    obtain⟨wE,eE⟩:=Aj w8.drew;(have bE:Bw w8 wE:=by rw[←eE];exact(Below.refl _ _).drew);have bh:Hd (∀V:E,Bw w8 V→V.heap[P]?=M (O #[I c,S t,J ca1 0 cc1,I n0,J (p_ g0) s.T.length p0,J a0 s.R.length q0,J na1 s.ran.length nc1,J ea1 s.held.length ec1,ze,ze] 55 (0,0))∧V.heap[Q]?=M (O #[I dc,S dt,J b1 0 b2,I n0,J b3 dT.length b4,J b5 dR.length b6,J na8 rl8 nc8,J b9 dheld.length Sw,ze,ze] 55 (0,0))):=λV h=>⟨Ac h HO8.o,Ac h HXQ8.o⟩;refine Lt.begin 8 (λw'=>w'.heap[P]?=M (O #[I c,S t,J ca1 0 cc1,I n0,J (p_ g0) s.T.length p0,J a0 s.R.length q0,J na1 s.ran.length nc1,J ea1 s.held.length ec1,ze,ze] 55 (0,0))∧w'.heap[Q]?=M (O #[I dc,S dt,J b1 0 b2,I n0,J b3 dT.length b4,J b5 dR.length b6,J na8 rl8 nc8,J b9 dheld.length Sw,ze,ze] 55 (0,0))) qk ?_;rw[eE];clear eE;change K 1 _
    iterate 2
     refine Lt.ti (v:=?_) (bh.o _ bE) ?_ ?_;rotate_left 1
     ·exact qdh
     simp only[gX]
    change K 4 _
    iterate 2
     refine Lt.ti (v:=?_) (bh.o _ bE) ?_ ?_;rotate_left 1
     ·exact qdh
     simp only[gX]
    refine Lt.sp (i:=0) (λK hK=>?_);go_simp;obtain⟨wL,eL⟩:=Aj (wE.alloc (O #[] 9));have hE:=bE.size;have oe:=Ip wE w8.heap.size 9 1 hE;rw[eL]at oe;have bL:Bw w8 wL:=bt bE (by rw[←eL];exact Ai _ _);have hL:=bL.size
    try rw[eL]
    refine hK.out _ _ (λ_=>bh.o _ bL) (λ_=>?_);clear hK K eL
    try simp only[gX]
    refine Lt.sp (i:=3) (λK hK=>?_);refine Kr rfl qt w8.heap.size _ 0 [] qt oe w.heap.size ea1 ec1 s.held qt (Ad HEV8.o bL) hL qg ?_;intro v1 wM i8 hg1 ha1;rw[Nat.zero_add,List.nil_append]at i8;have bM:Bw w8 wM:=bL.grown hg1 hL (λb e=>(oe.lt b e).1);have hM:=bM.size;refine hK.out _ _ (λ_=>bh.o _ bM) (λ_=>?_);clear hK K
    try simp only[gX]
    refine Lt.sp (i:=6) (λK hK=>?_);refine Kr rfl qt w8.heap.size v1 _ _ qt i8 wr.heap.size b9 Sw dheld qt (Ad HHE8.o bM) hM qg ?_;intro v2 wN ky xy ha2;have bN:Bw w8 wN:=bM.grown xy hM (λb e=>(i8.lt b e).1);have hN:=bN.size;obtain⟨va,vc,ev2⟩:=Al ky;subst ev2;refine hK.out _ _ (λ_=>bh.o _ bN) (λ_=>?_);clear hK K
    try simp only[gX]
    refine Lt.ti (i:=7) (v:=?_) (bh.o _ bN) ?_ ?_;rotate_left 1
    ·exact qdo
    simp only[gX];obtain⟨z0,z1,z2,z3,z4,z5,z6,z7,z8,z9⟩:=Mi (bh.o _ bN).2;have zf:∀j,wN.frozen? ⟨Q,j,N⟩=false:=λj=>fH (bh.o _ bN).2 j;obtain⟨wS,eS⟩:=Aj (wN.setCell ⟨Q,7,N⟩ (J va (s.held.length+dheld.length) vc));refine Lt.sp (i:=8) (λK hK=>?_);go_simp
    try rw[eS]
    refine hK.out _ _ (λh=>absurd rfl h) (λ_=>?_);clear hK K z0 z1 z2 z3 z4 z5 z6 z7 z8 z9 zf;refine Lt.done qk ?_ _
    try rw[eS]
    obtain⟨l,el⟩:∃l:L (X×X×Z),l=[(Q,7,J va (s.held.length+dheld.length) vc)]:=⟨_,rfl⟩;have bu:∀x∈l,x.1=Q:=Xg;(have eS2:Bo wN l=wS:=by rw[el];simp only[Bo,List.foldl];exact eS);have kq:=(bh.o _ bN).2;have kp:=(bh.o _ bN).1;have bn:=De l wN _ bu kq;have xh:∀b:X,b≠Q→(Bo wN l).heap[b]?=wN.heap[b]?:=λb hb=>Fb (b:=b) l wN (λx hx q=>hb qce);have hRR:=Cg ky bu kq qh;have hWW:=(HBW8.o.bl bN).setU bu kq;have I2:Bw w (Bo wN l):=Bg l wN (bt B6.o bN) (λx hx=>qac);have hPP:=(xh P qg).trans kp;have hQ9:=(xh w.heap.size qg).trans (Ac bN HQ8.o);have hP9:=(xh (w.heap.size+1) qg).trans (Ac bN HP8.o);have hZ9:=(xh (w.heap.size+1+1) qg).trans (Ac bN oa.o);have hRA:=Cg (Ad HRWrl8.o bN) bu kq qh;(have de:(Bo wN l).heap.size=wN.heap.size:=by rw[el];simp[Bo]);rw[eS2]at bn hRR hWW I2 hPP de hQ9 hP9 hZ9 hRA;rw[el]at bn;simp only[List.foldl,List.setIfInBounds_toArray,List.set_cons_zero,List.set_cons_succ]at bn;obtain⟨hl8,ehl8⟩:=Aj (s.held.length+dheld.length);rw[ehl8]at bn hRR
    try simp only[ehl8]
    (have HLNhl8:Hd (hl8=(s.held++dheld).length):=by show _=_;rw[←ehl8,List.length_append]);have HRWhl8:Hd (wS.ownsRow w8.heap.size 9 1 (J va hl8 vc) hl8 (Ar (s.held++dheld))):=Ab (by have:=hRR;simpa [Ar] using this);obtain⟨w9,rfl⟩:∃y,y=wS:=⟨_,rfl⟩;obtain⟨R1,rfl⟩:∃y,y=va:=⟨_,rfl⟩;obtain⟨hc8,rfl⟩:∃y,y=vc:=⟨_,rfl⟩;have HXQ9:=Ab bn;have HBW9:=Ab hWW;have Y7:=Ab I2;have HO9:=Ab hPP;have Y0:=Ab hQ9;have HP9:=Ab hP9;have yd:=Ab hZ9;have HRA9:=Ab hRA;clear bn hWW I2 hPP hQ9 hP9 hZ9 hRA hRR eS eS2 el bu kq kp xh de bE bL bM bN hE hL hM hN oe i8 ky hg1 xy ha1 ha2 bh HXQ8 HBW8 B6 HO8 HQ8 HP8 oa HEV8 HHE8 HRWrl8 ehl8
    go_upto_region 13 with fail
    obtain⟨z0,z1,z2,z3,z4,z5,z6,z7,z8,z9⟩:=Mi HXQ9.o;obtain⟨y0,y1,y2,y3,y4,y5,y6,y7,y8,y9⟩:=Mi HO9.o;have yf:=fZ HO9.o;obtain⟨l,el⟩:∃l:L (X×X×Z),l=[(P,0,I dc),(P,1,S dt),(P,2,J b1 0 b2),(P,3,I n0),(P,4,J b3 dT.length b4),(P,5,J b5 dR.length b6),(P,6,J na8 rl8 nc8),(P,7,J R1 hl8 hc8),(P,8,ze),(P,9,ze)]:=⟨_,rfl⟩;have bu:∀x∈l,x.1=P:=Xg;have bn:=De l w9 _ bu HO9.o;have xh:∀b:X,b≠P→(Bo w9 l).heap[b]?=w9.heap[b]?:=λb hb=>Fb (b:=b) l w9 (λx hx q=>hb qce);have hWW:=HBW9.o.setU bu HO9.o;have hRA:=Cg HRA9.o bu HO9.o qh;have hRH:=Cg HRWhl8.o bu HO9.o qh;have I2:Bw w (Bo w9 l):=Bg l w9 Y7.o (λx hx=>qac);have hQQ:=(xh w.heap.size qg).trans Y0.o;have hPP:=(xh (w.heap.size+1) qg).trans HP9.o;have hZZ:=(xh (w.heap.size+1+1) qg).trans yd.o;obtain⟨V,eV⟩:=Aj (Bo w9 l);rw[eV]at bn hWW hRA hRH I2 hQQ hPP hZZ;rw[el]at bn eV;simp only[Bo,List.foldl]at eV;simp only[List.foldl,List.setIfInBounds_toArray,List.set_cons_zero,List.set_cons_succ]at bn;have HVb:=Ab bn;have HWW:=Ab hWW;have HRA:=Ab hRA;have HRH:=Ab hRH;have J3:=Ab I2;have HQQ:=Ab hQQ;have HPP:=Ab hPP;have HZZ:=Ab hZZ;clear bn hWW hRA hRH I2 hQQ hPP hZZ el bu xh;go_wp2_with fail
    try rw[eV]
    have cr:Dz V w.heap.size (J b3 dT.length b4) (J b5 dR.length b6) dT dR:=⟨Ah HWW.o.txs H7,l7.o,⟨zs,kv,lv,Ah HWW.o.rq.row H7,HWW.o.rq.fil,λi hi=>(by obtain⟨ys,a,b⟩:=HWW.o.rq.code i hi;exact⟨ys,Ah a H7,b⟩),λi hi=>(by obtain⟨ys,a,b⟩:=HWW.o.rq.look i hi;exact⟨ys,Ah a H7,b⟩),HWW.o.rq.apc,HWW.o.rq.apl⟩⟩;have hra:=Ah HRA.o (show w.heap.size≤w6.heap.size from qg);have hrh:=Ah HRH.o (show w.heap.size≤w8.heap.size from qg);rw[HLNrl8.o]at hra;rw[HLNhl8.o]at hrh;refine⟨⟨k+1,⟨dT,dR,s.ran++dran,s.held++dheld,u2⟩,dc,dt,J b1 0 b2,_,_,_,_,qg,qm,HCO2.o,HOK2.o,B4.o,HVb.o,Ah HWW.o.ch H7,cr,?_,?_,HQQ.o,HPP.o,HZZ.o,J3.o⟩,qap⟩
    ·rw[HLNrl8.o];exact hra
    ·rw[HLNhl8.o];exact hrh
  ·have hkm:k=m:=qg
   have HNU:=Ab (gt.o _ (by rw[List.drop_of_length_le qaw];exact .nil));obtain⟨g0,p0,etx⟩:=di.o.txa;subst etx;obtain⟨zs0,kv0,lv0,r0⟩:=di.o.rcs;obtain⟨a0,q0,eqv,hrq⟩:=r0.rowQ;subst eqv;obtain⟨ca1,cc1,ecv⟩:=Al HCV.o;subst ecv;obtain⟨na1,nc1,env⟩:=Al HNV.o;subst env;obtain⟨ea1,ec1,eev⟩:=Al O3.o;subst eev;have fs:¬ (k:Int)<(m:Int):=qg;obtain⟨tl,etl⟩:=Aj s.T.length;obtain⟨ql,eql⟩:=Aj s.R.length;obtain⟨rl,erl⟩:=Aj s.ran.length;obtain⟨hl,ehl⟩:=Aj s.held.length;have HOO:=HO;rw[etl,eql,erl,ehl]at HOO;have ETL:=Ab etl;have EQL:=Ab eql;have ERL:=Ab erl;have EHL:=Ab ehl;clear etl eql erl ehl hrq;obtain⟨y0,y1,y2,y3,y4,y5,y6,y7,y8,y9⟩:=Mi HOO.o
   go_upto_region 14 with fail
   obtain⟨K7,K6,K5,K4,J9,J8,J7,J6,J5,J4⟩:=Et HZ.o;have zcf:=fZ HZ.o;obtain⟨l,el⟩:∃l:L (X×X×Z),l=[((w.heap.size+1+1),0,I c),((w.heap.size+1+1),1,S t),((w.heap.size+1+1),2,J ca1 0 cc1),((w.heap.size+1+1),3,I n0),((w.heap.size+1+1),4,J (p_ g0) tl p0),((w.heap.size+1+1),5,J a0 ql q0),((w.heap.size+1+1),6,J na1 rl nc1),((w.heap.size+1+1),7,J ea1 hl ec1),((w.heap.size+1+1),8,ze),((w.heap.size+1+1),9,ze)]:=⟨_,rfl⟩;have bu:∀x∈l,x.1=(w.heap.size+1+1):=Xg;have bn:=De l wr _ bu HZ.o;have hS:=di.o.setU bu HZ.o;have hC:=Cg HCV.o bu HZ.o qh;have hR:=Cg HNV.o bu HZ.o qh;have hH:=Cg O3.o bu HZ.o qh;have fa:Bw w (Bo wr l):=Bg l wr HB.o (λx hx=>qac);obtain⟨V,eV⟩:=Aj (Bo wr l);rw[eV]at bn fa hS hC hR hH;rw[el]at bn eV;simp only[Bo,List.foldl]at eV;simp only[List.foldl,List.setIfInBounds_toArray,List.set_cons_zero,List.set_cons_succ]at bn;have HV:=Ab bn;have gj:=Ab fa;have im:=Ab hS;have H_hC:=Ab hC;have H_hR:=Ab hR;have H_hH:=Ab hH;clear bn fa el bu hS hC hR hH;go_wp2_with fail
   try rw[eV]
   clear y0 y1 y2 y3 y4 y5 y6 y7 y8 y9;obtain⟨y0,y1,y2,y3,y4,y5,y6,y7,y8,y9⟩:=Et HV.o;obtain⟨zs9,kv9,lv9,r9⟩:=im.o.rcs;refine bR (v:=G #[I c,S t,J ca1 0 cc1,I n0,J (p_ g0) tl p0,J a0 ql q0,J na1 rl nc1,J ea1 hl ec1,ze,ze]) qee rfl ?_;rw[←ETL.o,←EQL.o,←ERL.o,←EHL.o];exact⟨gj.o,⟨c,t,[],n0,s.T,s.R,s.ran,s.held,⟨#[]⟩,⟨#[]⟩⟩,_,_,_,_,_,rfl,Or.inr ⟨HV0.o,_,HNU.o,Or.inl ⟨s,c,t,rfl,rfl⟩⟩,zs9,kv9,lv9,H_hC.o,im.o.txt,r9,H_hR.o,H_hH.o⟩
end Go.Proofs.YtnflkpmmfpfhlaaGreatDoor
