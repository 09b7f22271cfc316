import Derived.Test.YtoakjccojifagaaGreatDoorBaC
import Derived.Test.YtoakjccojifagaaGreatDoorBaP
namespace Go.Proofs.YtoakjccojifagaaGreatDoor
open _root_.Go.Proofs.Tryz Go.RowKit Go.Deep
open Value renaming slice->J,string->S,agg->G
open Option renaming some->M,none->N
open Obj renaming cells->O
open Go renaming Value->Z,World->E
open _root_ renaming List->L,Nat->X
set_option linter.unusedVariables false
set_option linter.unusedSimpArgs false
set_option maxHeartbeats 8000000
set_option maxRecDepth 100000
theorem SaysB.next{n0 k:X}{ss:L S2}{ts:L T2}{T:L By}{R:L T3}{xs:L By}{s:Sb}{c:Int}{t nm:By}{d:BD}(hv:SpV ss ts)(hl:ts.length≤200)(h0:Il (n0:Int) T R∧Gu ss ts=0∧xs.length≤200)(fw:Gi n0 s)(hct:s.ran.length+s.held.length≤200*k)(Y2:k<xs.length)(enm:nx xs k=nm)(xd:∀rr,Jg ss ts n0 s c t (xs.drop k) rr→Jg ss ts n0 ⟨T,R,[],[]⟩ 0 ⟨#[]⟩ xs rr)(h:SaysB (n0:Int) ss ts s.T s.R nm d):(5<d.c∧Jn (n0:Int) ss ts T R xs ⟨d.c,d.t,d.ch,n0,T,R,d.ran,d.held,d.A,d.B⟩)∨(d.c≤5∧d.ch=[]∧d.n=n0∧d.A=⟨#[]⟩∧d.B=⟨#[]⟩∧Gi n0 ⟨d.T,d.R,s.ran++d.ran,s.held++d.held⟩∧(s.ran++d.ran).length+(s.held++d.held).length≤200*(k+1)∧∀rr,Jg ss ts n0 ⟨d.T,d.R,s.ran++d.ran,s.held++d.held⟩ d.c d.t (xs.drop (k+1)) rr→Jg ss ts n0 ⟨T,R,[],[]⟩ 0 ⟨#[]⟩ xs rr):=by
 have es:Sb.pf s.ran s.held ⟨s.T,s.R,[],[]⟩=s:=by simp[Sb.pf]
 rcases h with⟨hn0,rfl⟩|⟨zc,ms',s',a,bu,⟨md,rfl,rfl⟩|⟨b,rfl,rfl⟩⟩
 ·exact Or.inl ⟨show(5:Int)<9 from qd,Or.inr ⟨h0,.no,xd .no (by rw[Ny Y2,enm];exact .no (λh=>hn0 ⟨⟨h0.1.1,h0.1.2.1,fw⟩,h0.2.1,h⟩)),Or.inr (Or.inr ⟨rfl,rfl⟩)⟩⟩
 ·have h1:=Ba.pf s.ran s.held bu
  rw[es]at h1;obtain⟨k1,k2,k3⟩:=Ba.one hv hl fw zc.2.2 h1;refine Or.inr ⟨k3,rfl,rfl,rfl,rfl,k1,?_,λrr hr=>xd rr (by rw[Ny Y2,enm];exact .go zc.2.2 h1 hr)⟩;have k4:(s.ran++s'.ran).length+(s.held++s'.held).length≤s.ran.length+s.held.length+200:=k2;show(s.ran++s'.ran).length+(s.held++s'.held).length≤_;omega
 ·have h1:=Ba.pf s.ran s.held bu
  rw[es]at h1;exact Or.inl ⟨codeB_gt b,Or.inr ⟨h0,.bad b,xd (.bad b) (by rw[Ny Y2,enm];exact .bad zc.2.2 h1),Or.inr (Or.inl ⟨b,rfl,rfl⟩)⟩⟩
theorem Qbb(n:Int)(tb tc nc:X)(na:Option Addr)(xs:L By)(qa sa ta:Option Addr)(qc c1 c2:X)(T:L By)(R:L T3)(ss:L S2)(ts:L T2)(w:E)(cw:Mc w (p_ tb) T qa R)(yj:Rl w qa R)(hr:R.length≤1048576)(km:∀i,i<R.length→(qx R i).code.length≤1048576∧(qx R i).looks.length≤1048576)(wb:Lm w sa ss ta ts)(ly:Ew ss ts)(oq:xs.length≤1048576)(D6:Ca w na xs)(hxn:∀i,(nx xs i).size≤9223372036854775807):Calls prog 7 #[G #[I n,J (p_ tb) T.length tc,J qa R.length qc],G #[J sa ss.length c1,J ta ts.length c2],J na xs.length nc] w λe w'=>Bw w w'∧∃d cv tx qv nv ev zs kv lv,e=.returned (G (bV d cv tx qv nv ev))∧Jn n ss ts T R xs d∧BW w' w.heap.size d cv tx qv nv ev zs kv lv:=by
 obtain⟨W,eW⟩:=Aj (((w.alloc (O #[I n,J (p_ tb) T.length tc,J qa R.length qc] 35)).alloc (O #[J sa ss.length c1,J ta ts.length c2] 43)).alloc (O Qo 37));have bq:Bw w W:=qcn;have HQ:Hd (W.heap[w.heap.size]?=M (O #[I n,J (p_ tb) T.length tc,J qa R.length qc] 35 (0,0))):=qcr
 have HP:Hd (W.heap[w.heap.size+1]?=M (O #[J sa ss.length c1,J ta ts.length c2] 43 (0,0))):=by
  show _=_;rw[←eW];exact qir
 have HZ:Hd (W.heap[w.heap.size+1+1]?=M (O Qo 37 (0,0))):=by
  show _=_;rw[←eW];have:=Hj ((w.alloc (O #[I n,J (p_ tb) T.length tc,J qa R.length qc] 35)).alloc (O #[J sa ss.length c1,J ta ts.length c2] 43)) (O Qo 37);exact qjh
 have oo:=Ad bq;obtain⟨q0,q1,q2,qf⟩:=Dx HQ.o;obtain⟨x0,x1⟩:=Ft HP.o;have HVS:=Ad (Gr n _ _ tc qc T R W (cw.bl bq));have I5:=Ad (λ(V:E) (hV:Bw w V)=>Kw sa ta c1 c2 ss ts V (wb.bl hV) ly);have xq:=Ad (λ(V:E) (hV:Bw w V)=>Lu n tb 0 tc qa qc T R V (cw.st.bl hV) (yj.bl hV) cw.lt hr km);have HSB:=Ad (λ(V:E) (hV:Bw w V)=>wb.bl hV);have HXS:=Ad D6;have tj:=Ad ly;obtain⟨m,em⟩:=Aj xs.length;have EM:=Ad em;rw[em]at oq ⊢;clear em;clear cw yj hr km wb ly bq D6;go_enter func7,ntmps7;go_wp2_with fail;clear eW q0 q1 q2 qf x0 x1;refine HVS.o.mono ?_;clear HVS;rintro e w1 ⟨af,b,rfl,U0⟩;replace HQ:=Ad (Ab af HQ.o);replace HP:=Ad (Ab af HP.o);replace HZ:=Ad (Ab af HZ.o);have d7:=Ad (bt oo.o af);clear af oo;cases b
 ·have HSY:Hd (Jn n ss ts T R xs ⟨9,⟨#[]⟩,[],n,T,R,[],[],⟨#[]⟩,⟨#[]⟩⟩):=Or.inl ⟨λh=>(by have:=U0.2 h.1;cases this),rfl⟩
  clear U0 I5;obtain⟨x0,x1,x2,xf⟩:=Dx HQ.o;go_wp2_with fail;clear x0 x1 x2 xf;refine(xq.o w1 d7.o).mono ?_;rintro e w9 ⟨zw,g1,p1,v2,rfl,o1,o2⟩;obtain⟨a2,p2,rfl,_⟩:=o2.sl;have xh:=Ad (Ab zw HZ.o);have HB9:=Ad (bt d7.o zw);have xj:=Ad (show Ev w9 w.heap.size (J (p_ g1) T.length p1) (J a2 R.length p2) T R from ⟨Ah o1.own (zo d7.o.size),⟨g1,p1,rfl⟩,o2.recO.base (zo d7.o.size)⟩);clear zw o1 o2 HQ HP HZ xq d7;obtain⟨ye,yd,yb,xz,xy,xx,xw,xv,xu,xr⟩:=Dz xh.o;have zcf:=fZ xh.o;obtain⟨l,el⟩:∃l:L (X×X×Z),l=[((w.heap.size+1+1),0,I 9),((w.heap.size+1+1),1,ze),((w.heap.size+1+1),2,nS),((w.heap.size+1+1),3,I n),((w.heap.size+1+1),4,J (p_ g1) T.length p1),((w.heap.size+1+1),5,J a2 R.length p2),((w.heap.size+1+1),6,nS),((w.heap.size+1+1),7,nS),((w.heap.size+1+1),8,ze),((w.heap.size+1+1),9,ze)]:=⟨_,rfl⟩;have bi:∀x∈l,x.1=(w.heap.size+1+1):=qy;have be:=Cl l w9 _ bi xh.o;have hS:=xj.o.setU bi xh.o;have cr:Bw w (Be w9 l):=Az l w9 HB9.o (λx hx=>qz);obtain⟨V,eV⟩:=Aj (Be w9 l);rw[eV]at be cr hS;rw[el]at be eV;simp only[Be,List.foldl]at eV;simp only[List.foldl,List.setIfInBounds_toArray,List.set_cons_zero,List.set_cons_succ]at be;have HV:=Ad be;have jz:=Ad cr;have ew:=Ad hS;clear be cr el bi hS;go_wp2_with fail
  try rw[eV]
  obtain⟨y0,y1,y2,y3,y4,y5,y6,y7,y8,y9⟩:=Dz HV.o;exact bR (v:=G #[I 9,ze,nS,I n,J (p_ g1) T.length p1,J a2 R.length p2,nS,nS,ze,ze]) qee rfl (by obtain⟨zs,kv,lv,rr⟩:=ew.o.rcs;exact⟨jz.o,⟨9,⟨#[]⟩,[],n,T,R,[],[],⟨#[]⟩,⟨#[]⟩⟩,_,_,_,_,_,zs,kv,lv,rfl,HSY.o,Fq _ _,ew.o.txt,rr,Fq _ _,Fq _ _⟩)
 have Z2:=Ad (U0.1 rfl);clear U0;obtain⟨x0,x1⟩:=Ft HP.o;have HC:=Ad (I5.o w1 d7.o);clear I5;obtain⟨ck,eck⟩:=Aj (Gu ss ts);have ECK:=Ad eck;rw[eck]at HC;clear eck;go_wp2_with fail;clear x0 x1;refine HC.o.mono ?_;clear HC;rintro e w2 ⟨ag,rfl⟩;replace HQ:=Ad (Ab ag HQ.o);replace HP:=Ad (Ab ag HP.o);replace HZ:=Ad (Ab ag HZ.o);have fj:=Ad (bt d7.o ag);clear ag d7
 by_cases hc:ck=0
 rotate_left 1
 ·have hcI:(ck == 0)=false:=qcd
  have hcN:(ck != 0)=true:=qcd;have HSY:Hd (Jn n ss ts T R xs ⟨9,⟨#[]⟩,[],n,T,R,[],[],⟨#[]⟩,⟨#[]⟩⟩):=Or.inl ⟨λh=>hc (ECK.o.symm.trans h.2.1),rfl⟩;exact qhn
 subst hc
 by_cases rm:200<m
 ·have D9:((m:Int) > 200)=True:=qh
  have HSY:Hd (Jn n ss ts T R xs ⟨9,⟨#[]⟩,[],n,T,R,[],[],⟨#[]⟩,⟨#[]⟩⟩):=Or.inl ⟨λh=>by have:=h.2.2;rw[EM.o]at this;omega,rfl⟩;exact qhn
 have D9:((m:Int) > 200)=False:=qh;obtain⟨n0,rfl⟩:=Int.eq_ofNat_of_zero_le (show 0<=n by have:=Z2.o.1;omega);have HV0:=Ad (show Il n0 T R∧Gu ss ts=0∧xs.length≤200 from ⟨Z2.o,ECK.o,qas⟩);have HOK0:Hd (Gi n0 ⟨T,R,[],[]⟩):=Z2.o.2.2;have Z9:Hd (He w sa ta ss ts):=Rf (HSB.o w (Below.refl _ _)) ECK.o;obtain⟨x0,x1,x2,xf⟩:=Dx HQ.o;go_wp2_with fail;clear x0 x1 x2 xf;refine(xq.o w2 fj.o).mono ?_;rintro e w3 ⟨au,g1,p1,v2,rfl,o1,o2⟩;obtain⟨a2,p2,rfl,_⟩:=o2.sl;have jj:=Ad (show Ev w3 w.heap.size (J (p_ g1) T.length p1) (J a2 R.length p2) T R from ⟨Ah o1.own (zo fj.o.size),⟨g1,p1,rfl⟩,o2.recO.base (zo fj.o.size)⟩);replace HQ:=Ad (Ab au HQ.o);replace HP:=Ad (Ab au HP.o);replace HZ:=Ad (Ab au HZ.o);have d6:=Ad (bt fj.o au);clear au o1 o2 fj
 go_upto_region 4 with fail
 obtain⟨w4,e4⟩:=Aj (w3.alloc (O #[I 0,ze,nS,I n0,J (p_ g1) T.length p1,J a2 R.length p2,nS,nS,ze,ze] 37));obtain⟨P,eP⟩:=Aj w3.heap.size;have ce:Bw w3 w4:=qhd;have se:=Ad (nW e4 eP);rw[e4,eP];have hPw:w.heap.size+1+1<P:=by rw[←eP];exact Ag HZ.o
 replace HQ:=Ad (Ab ce HQ.o);replace HP:=Ad (Ab ce HP.o);replace HZ:=Ad (Ab ce HZ.o);have vx:=Ad (bt d6.o ce);have ie:=Ad (jj.o.bl ce);clear e4 eP ce jj d6;go_wp2
 go_loopw [8] (λi wr=>∃(k:X)(s:Sb)(c:Int)(t:By)(cv tx qv nv ev:Z),k≤m∧i=I k∧Hd (∀rr,Jg ss ts n0 s c t (xs.drop k) rr→Jg ss ts n0 ⟨T,R,[],[]⟩ 0 ⟨#[]⟩ xs rr)∧Hd (Gi n0 s)∧Hd (s.ran.length+s.held.length≤200*k)∧Hd (wr.heap[P]?=M (O #[I c,S t,cv,I n0,tx,qv,nv,ev,ze,ze] 37 (0,0)))∧Hd (wr.ownsRow w.heap.size 9 1 cv 0 [])∧Hd (Ev wr w.heap.size tx qv s.T s.R)∧Hd (wr.ownsRow w.heap.size 9 1 nv s.ran.length (Av s.ran))∧Hd (wr.ownsRow w.heap.size 9 1 ev s.held.length (Av s.held))∧Hd (wr.heap[w.heap.size]?=M (O #[I n0,J (p_ tb) T.length tc,J qa R.length qc] 35 (0,0)))∧Hd (wr.heap[w.heap.size+1]?=M (O #[J sa ss.length c1,J ta ts.length c2] 43 (0,0)))∧Hd (wr.heap[w.heap.size+1+1]?=M (O Qo 37 (0,0)))∧Hd (Bw w wr)) (λi _=>m-(intOf i).toNat)
 case atStart=>exact⟨0,_,_,_,_,_,_,_,_,Nat.zero_le _,rfl,λrr h=>h,HOK0.o,Nat.zero_le _,se.o,World.ownsRow_nil _ _ _ _,ie.o,World.ownsRow_nil _ _ _ _,World.ownsRow_nil _ _ _ _,HQ.o,HP.o,HZ.o,vx.o⟩
 case round=>
  clear HQ HP HZ vx ie se HOK0;obtain⟨k,s,c,t,cv1,tx,qv,nv,ev,hk,rfl,ig,oh,om,HO,HCV,fc,HNV,R9,HQ,HP,HZ,HB⟩:=hrel
  by_cases aj:k<m
  ·have Y2:k<xs.length:=qbb
   obtain⟨nb,nf,ena,nc0⟩:=(HXS.o.bl HB.o) k Y2;subst ena;obtain⟨nm,enm⟩:=Aj (nx xs k);have ENM:=Ad enm;(have de:nm.size≤9223372036854775807:=by rw[←enm];exact hxn k);replace nc0:wr.cell? ⟨nb,nf+k,N⟩=M (S (nx xs k)):=nc0;rw[enm]at nc0;have HNC:=Ad nc0;clear enm nc0;obtain⟨g0,p0,etx⟩:=fc.o.txa;subst etx;obtain⟨zs0,kv0,lv0,r0⟩:=fc.o.rcs;obtain⟨a0,q0,eqv,hrq⟩:=r0.rowQ;subst eqv;have hrw0:Rl wr a0 s.R:=Fx.rowW ⟨zs0,kv0,lv0,r0⟩ (λi hi=>(Gx (oh.o.2.2 i hi).1).1);obtain⟨ca1,cc1,ecv⟩:=Ax HCV.o;subst ecv;obtain⟨na1,nc1,env⟩:=Ax HNV.o;subst env;obtain⟨ea1,ec1,eev⟩:=Ax R9.o;subst eev;have hqs:=Hx.qs oh.o (zo HV0.o.1.2.1);have hstI:Mc wr (p_ g0) s.T a0 s.R:=⟨Pp rfl fc.o.txt,by have:=oh.o.1.1;omega,hqs.2.2,hrq,hqs.1,hqs.2.1⟩;have N5:=Ad (λ(V:E) (hV:Bw wr V)=>Ue n0 g0 p0 a0 sa ta q0 c1 c2 s.T s.R ss ts nm V (hstI.bl hV) (hrw0.bl hV) hqs.2.1.1 hqs.2.1.2 (HSB.o V (bt HB.o hV)) tj.o de);clear hstI hqs hrw0 hrq r0;have iy:(k:Int)<(m:Int):=qb;have jr:(0:Int)≤(k:Int):=qb
   go_upto_region 7 with fail
   obtain⟨wD,eD⟩:=Aj wr.drew;have bD:Bw wr wD:=qab;have bh:Hd (∀V:E,Bw wr V→V.heap[P]?=M (O #[I c,S t,J ca1 0 cc1,I n0,J (p_ g0) s.T.length p0,J a0 s.R.length q0,J na1 s.ran.length nc1,J ea1 s.held.length ec1,ze,ze] 37 (0,0))∧V.heap[w.heap.size+1]?=M (O #[J sa ss.length c1,J ta ts.length c2] 43 (0,0))∧V.cell? ⟨nb,nf+k,N⟩=M (S nm)):=λV h=>⟨Ab h HO.o,Ab h HP.o,Aa h HNC.o⟩
   go_cut [9] (λp wx=>∃(Q:X)(d:BD)(cv tx qv nv ev:Z)(zs:L Z)(kv lv:X→Z),p=.pointer (p_ Q)∧Hd (wx.heap[Q]?=M (O (bV d cv tx qv nv ev) 37 (0,0))∧SaysB (n0:Int) ss ts s.T s.R nm d∧BW wx wr.heap.size d cv tx qv nv ev zs kv lv∧(∃g p,tx=J (p_ g) d.T.length p)∧Bw wr wx∧wr.heap.size≤Q))
   case first=>
    refine Lt.begin 9 (λw'=>w'.heap[P]?=M (O #[I c,S t,J ca1 0 cc1,I n0,J (p_ g0) s.T.length p0,J a0 s.R.length q0,J na1 s.ran.length nc1,J ea1 s.held.length ec1,ze,ze] 37 (0,0))∧w'.heap[w.heap.size+1]?=M (O #[J sa ss.length c1,J ta ts.length c2] 43 (0,0))∧w'.cell? ⟨nb,nf+k,N⟩=M (S nm)) qi ?_;rw[eD];clear eD;change K 0 _
    iterate 7
     refine Lt.ti (v:=?_) (bh.o _ bD) ?_ ?_;rotate_left 1
     ·rintro w ⟨r1,r2,r3⟩
      obtain⟨y0,y1,y2,y3,y4,y5,y6,y7,y8,y9⟩:=Fe r1;obtain⟨s0,s1⟩:=Ft r2;exact qam
     simp only[gX]
    refine Lt.two (i:=7) (j:=8) (oi:={ dst:=M 42,op:=Op.call { callee:=Callee.value (Operand.func 27),args:=#[Operand.tmp 36,Operand.tmp 37,Operand.tmp 41],argTypes:=#[35,43,9] },type:=37,pos := "l5_build.go:217",after:=#[{ on:=1,ground:=Ground.data },{ on:=2,ground:=Ground.data },{ on:=6,ground:=Ground.data }],guard:=N }) (oj:={ dst:=M 9,op:=Op.alloc 37,type:=0,pos := "l5_build.go:217",after:=#[],guard:=N }) qi rfl rfl (λK hK=>?_) (λK hK=>?_)
    ·skip
     go_simp;refine(N5.o _ bD).mono ?_;rintro e wC ⟨gu,d,cv,tx,qv,nv,ev,zs,kv,lv,rfl,jx,ow,J4⟩;have uj:=Ad jx;have pq:=Ad J4;clear jx J4;obtain⟨⟨b1,b2,rfl⟩,⟨b3,b4,rfl⟩,⟨b5,b6,rfl⟩,⟨b7,b8,rfl⟩,⟨b9,Ld,rfl⟩⟩:=ow.slices;have bC:=bt bD gu;replace ow:=ow.base (show wr.heap.size≤_ from bD.size);refine hK.out _ _ (λ_=>bh.o _ bC) (λ_=>?_);clear hK K
     try simp only[gX]
     refine Lt.sp (i:=8) (λK hK=>?_);go_simp;refine Bq (Q:=λx=>K _ x) ?_;intro wP gk l5
     try dsimp only
     have zP:wP.heap[wC.heap.size]?=M (O Qo 37 (0,0)):=l5.out;clear l5;have bP:=bt bC gk;have po:wr.heap.size≤wC.heap.size:=bC.size;replace ow:=ow.bl gk;refine hK.out _ _ (λ_=>bh.o _ bP) (λ_=>?_);clear hK K
     try simp only[gX]
     obtain⟨Q,eQ⟩:=Aj wC.heap.size;rw[eQ]at zP po ⊢;obtain⟨ye,yd,yb,xz,xy,xx,xw,xv,xu,xr⟩:=Dz zP;have zcf:=fZ zP;obtain⟨l,el⟩:∃l:L (X×X×Z),l=[(Q,0,I d.c),(Q,1,S d.t),(Q,2,J b1 d.ch.length b2),(Q,3,I d.n),(Q,4,J b3 d.T.length b4),(Q,5,J b5 d.R.length b6),(Q,6,J b7 d.ran.length b8),(Q,7,J b9 d.held.length Ld),(Q,8,S d.A),(Q,9,S d.B)]:=⟨_,rfl⟩;have bi:∀x∈l,x.1=Q:=qy;have be:=Cl l wP _ bi zP;have hS:=ow.setU bi zP;have cr:Bw wr (Be wP l):=Az l wP bP (λx hx=>qz);obtain⟨V,eV⟩:=Aj (Be wP l);exact qid
    ·skip
     go_simp;refine Bq (Q:=λx=>K _ x) ?_;intro wP gk l5
     try dsimp only
     have zP:wP.heap[wD.heap.size]?=M (O Qo 37 (0,0)):=l5.out;clear l5;have bP:=bt bD gk;have po:wr.heap.size≤wD.heap.size:=bD.size;refine hK.out _ _ (λ_=>bh.o _ bP) (λ_=>?_);clear hK K
     try simp only[gX]
     refine Lt.sp (i:=7) (λK hK=>?_);go_simp;refine(N5.o _ bP).mono ?_;rintro e wC ⟨gu,d,cv,tx,qv,nv,ev,zs,kv,lv,rfl,jx,ow,J4⟩;have uj:=Ad jx;have pq:=Ad J4;clear jx J4;obtain⟨⟨b1,b2,rfl⟩,⟨b3,b4,rfl⟩,⟨b5,b6,rfl⟩,⟨b7,b8,rfl⟩,⟨b9,Ld,rfl⟩⟩:=ow.slices;have bC:=bt bP gu;replace ow:=ow.base (show wr.heap.size≤_ from bP.size);replace zP:=Ab gu zP;refine hK.out _ _ (λ_=>bh.o _ bC) (λ_=>?_);clear hK K
     try simp only[gX]
     obtain⟨Q,eQ⟩:=Aj wD.heap.size;rw[eQ]at zP po ⊢;obtain⟨ye,yd,yb,xz,xy,xx,xw,xv,xu,xr⟩:=Dz zP;have zcf:=fZ zP;obtain⟨l,el⟩:∃l:L (X×X×Z),l=[(Q,0,I d.c),(Q,1,S d.t),(Q,2,J b1 d.ch.length b2),(Q,3,I d.n),(Q,4,J b3 d.T.length b4),(Q,5,J b5 d.R.length b6),(Q,6,J b7 d.ran.length b8),(Q,7,J b9 d.held.length Ld),(Q,8,S d.A),(Q,9,S d.B)]:=⟨_,rfl⟩;have bi:∀x∈l,x.1=Q:=qy;have be:=Cl l wC _ bi zP;have hS:=ow.setU bi zP;have cr:Bw wr (Be wC l):=Az l wC bC (λx hx=>qz);obtain⟨V,eV⟩:=Aj (Be wC l);exact qid
   case rest=>
   obtain⟨Q,d,cv,tx,qv,nv,ev,zs,kv,lv,rfl,HX⟩:=hcut;obtain⟨w6,rfl⟩:∃wk,wk=wc:=⟨_,rfl⟩;clear bh N5 bD eD;have hsay:=HX.o.2.1;have bz:=HX.o.2.2.2.2.1;have hQr:=HX.o.2.2.2.2.2;have HXQ:=Ad HX.o.1;have oo:=Ad HX.o.2.2.1;have pq:=Ad HX.o.2.2.2.1;have G6:=HB.o.size;have hPr:=Ag HO.o;have zk:=bz.size;have Q9:=Ad (Ab bz HQ.o);have HP6:=Ad (Ab bz HP.o);have Q6:=Ad (Ab bz HZ.o);have HO6:=Ad (Ab bz HO.o);have uk:=Ad (bt HB.o bz);obtain⟨⟨b1,b2,e1⟩,⟨b3,b4,e2⟩,⟨b5,b6,e3⟩,⟨b7,b8,e4⟩,⟨b9,Ld,e5⟩⟩:=oo.o.slices;subst e1 e2 e3 e4 e5;have HNV6:=Ad (Ac HNV.o bz);have HEV6:=Ad (Ac R9.o bz);have hnx:=SaysB.next Z9.o.v Z9.o.l2 HV0.o oh.o om.o Y2 ENM.o ig.o hsay;have hQl:=Ag HXQ.o;have hZP:w.heap.size+1+1<wr.heap.size:=Ag HZ.o;clear HX hsay bz HQ HP HZ HO HB ig fc HNC zs0 kv0 lv0
   rcases hnx with⟨hd5,hsy⟩|⟨hd5,H0,hdn,hdA,hdB,hok2,hct2,hco2⟩
   ·have HSY:=Ad hsy
    obtain⟨y0,y1,y2,y3,y4,y5,y6,y7,y8,y9⟩:=Fe HXQ.o;obtain⟨x0,x1,x2,xf⟩:=Dx Q9.o;clear hsy;go_wp2_with fail;clear x0 x1 x2 xf y0 y1 y2 y3 y4 y5 y6 y7 y8 y9;refine(xq.o w6 uk.o).mono ?_;rintro e w7 ⟨cj,g9,p9,v9,rfl,o1,o2⟩;obtain⟨a9,q9,rfl,_⟩:=o2.sl;have V1:=Ad (Ab cj HXQ.o);have HZ7:=Ad (Ab cj Q6.o);have N6:=Ad (bt uk.o cj);have HBW7:=Ad (oo.o.bl cj);have A1:=Ad (show Ev w7 w.heap.size (J (p_ g9) T.length p9) (J a9 R.length q9) T R from ⟨Ah o1.own qb,⟨g9,p9,rfl⟩,o2.recO.base qb⟩);clear cj o1 o2 HXQ Q6 uk oo Q9 HP6 HO6;obtain⟨y0,y1,y2,y3,y4,y5,y6,y7,y8,y9⟩:=Dz V1.o;have yf:=fZ V1.o;obtain⟨l,el⟩:∃l:L (X×X×Z),l=[(Q,3,I n0),(Q,4,J (p_ g9) T.length p9),(Q,5,J a9 R.length q9)]:=⟨_,rfl⟩;have bi:∀x∈l,x.1=Q:=qy;have be:=Cl l w7 _ bi V1.o;have hS:=A1.o.setU bi V1.o;have hW8:=HBW7.o.setU bi V1.o;have hZ8:=(Es (b:=w.heap.size+1+1) l w7 (λx hx q=>by rw[bi x hx]at q;omega)).trans HZ7.o;have cr:Bw w (Be w7 l):=Az l w7 N6.o (λx hx=>qz);obtain⟨w8,eV⟩:=Aj (Be w7 l);rw[eV]at be cr hS hW8 hZ8;rw[el]at be eV;simp only[Be,List.foldl]at eV;simp only[List.foldl,List.setIfInBounds_toArray,List.set_cons_zero,List.set_cons_succ]at be;have HXQ8:=Ad be;have HB8:=Ad cr;have gw:=Ad hS;have HBW8:=Ad hW8;have ui:=Ad hZ8;clear be cr el bi hS hW8 hZ8 V1 HZ7 N6 HBW7 A1
    go_upto_region 10 with fail
    try rw[eV]
    clear eV y0 y1 y2 y3 y4 y5 y6 y7 y8 y9 yf;obtain⟨y0,y1,y2,y3,y4,y5,y6,y7,y8,y9⟩:=Dz HXQ8.o;obtain⟨ye,yd,yb,xz,xy,xx,xw,xv,xu,xr⟩:=Dz ui.o;have zcf:=fZ ui.o;obtain⟨l,el⟩:∃l:L (X×X×Z),l=[((w.heap.size+1+1),0,I d.c),((w.heap.size+1+1),1,S d.t),((w.heap.size+1+1),2,J b1 d.ch.length b2),((w.heap.size+1+1),3,I n0),((w.heap.size+1+1),4,J (p_ g9) T.length p9),((w.heap.size+1+1),5,J a9 R.length q9),((w.heap.size+1+1),6,J b7 d.ran.length b8),((w.heap.size+1+1),7,J b9 d.held.length Ld),((w.heap.size+1+1),8,S d.A),((w.heap.size+1+1),9,S d.B)]:=⟨_,rfl⟩;have bi:∀x∈l,x.1=(w.heap.size+1+1):=qy;have be:=Cl l w8 _ bi ui.o;have hS:=gw.o.setU bi ui.o;have hW8:=HBW8.o.setU bi ui.o;have cr:Bw w (Be w8 l):=Az l w8 HB8.o (λx hx=>qz);obtain⟨V,eV⟩:=Aj (Be w8 l);rw[eV]at be cr hS hW8;rw[el]at be eV;simp only[Be,List.foldl]at eV;simp only[List.foldl,List.setIfInBounds_toArray,List.set_cons_zero,List.set_cons_succ]at be;have HV:=Ad be;have jz:=Ad cr;have ew:=Ad hS;have H_hW:=Ad hW8;clear be cr el bi hS hW8;go_wp2_with fail
    try rw[eV]
    clear y0 y1 y2 y3 y4 y5 y6 y7 y8 y9;obtain⟨y0,y1,y2,y3,y4,y5,y6,y7,y8,y9⟩:=Dz HV.o;obtain⟨zs9,kv9,lv9,r9⟩:=ew.o.rcs;exact bR (v:=G #[I d.c,S d.t,J b1 d.ch.length b2,I n0,J (p_ g9) T.length p9,J a9 R.length q9,J b7 d.ran.length b8,J b9 d.held.length Ld,S d.A,S d.B]) qee rfl ⟨jz.o,⟨d.c,d.t,d.ch,n0,T,R,d.ran,d.held,d.A,d.B⟩,_,_,_,_,_,zs9,kv9,lv9,rfl,HSY.o,Ah H_hW.o.ch G6,ew.o.txt,r9,Ah H_hW.o.ran G6,Ah H_hW.o.held G6⟩
   ·have HOK2:=Ad hok2
    have A8:=Ad hct2;have HCO2:=Ad hco2;clear hok2 hct2 hco2;obtain⟨dc,dt,dch,dn,dT,dR,dran,dheld,dA,dB⟩:=d;dsimp only at *;subst H0 hdn hdA hdB;have hdI:(dc > 5)=False:=qh;(have hrl:s.ran.length+dran.length≤40200:=by have:=A8.o;simp only[List.length_append]at this;omega);(have hhl:s.held.length+dheld.length≤40200:=by have:=A8.o;simp only[List.length_append]at this;omega);have HRN:=Ad oo.o.ran;have HHE:=Ad oo.o.held;obtain⟨y0,y1,y2,y3,y4,y5,y6,y7,y8,y9⟩:=Fe HXQ.o
    go_upto_region 11 with fail
    clear y0 y1 y2 y3 y4 y5 y6 y7 y8 y9;obtain⟨wE,eE⟩:=Aj w6.drew;(have bE:Bw w6 wE:=by rw[←eE];exact(Below.refl _ _).drew);have bh:Hd (∀V:E,Bw w6 V→V.heap[P]?=M (O #[I c,S t,J ca1 0 cc1,I n0,J (p_ g0) s.T.length p0,J a0 s.R.length q0,J na1 s.ran.length nc1,J ea1 s.held.length ec1,ze,ze] 37 (0,0))∧V.heap[Q]?=M (O #[I dc,S dt,J b1 0 b2,I n0,J b3 dT.length b4,J b5 dR.length b6,J b7 dran.length b8,J b9 dheld.length Ld,ze,ze] 37 (0,0))):=λV h=>⟨Ab h HO6.o,Ab h HXQ.o⟩;refine Lt.begin 8 (λw'=>w'.heap[P]?=M (O #[I c,S t,J ca1 0 cc1,I n0,J (p_ g0) s.T.length p0,J a0 s.R.length q0,J na1 s.ran.length nc1,J ea1 s.held.length ec1,ze,ze] 37 (0,0))∧w'.heap[Q]?=M (O #[I dc,S dt,J b1 0 b2,I n0,J b3 dT.length b4,J b5 dR.length b6,J b7 dran.length b8,J b9 dheld.length Ld,ze,ze] 37 (0,0))) qi ?_;rw[eE];clear eE;change K 1 _
    iterate 2
     refine Lt.ti (v:=?_) (bh.o _ bE) ?_ ?_;rotate_left 1
     ·exact qdi
     simp only[gX]
    change K 4 _
    iterate 2
     refine Lt.ti (v:=?_) (bh.o _ bE) ?_ ?_;rotate_left 1
     ·exact qdi
     simp only[gX]
    refine Lt.sp (i:=0) (λK hK=>?_);go_simp;obtain⟨wL,eL⟩:=Aj (wE.alloc (O #[] 9));have hE:=bE.size;have n7:=Zp wE w6.heap.size 9 1 hE;rw[eL]at n7;have bL:Bw w6 wL:=bt bE (by rw[←eL];exact Ai _ _);have hL:=bL.size
    try rw[eL]
    refine hK.out _ _ (λ_=>bh.o _ bL) (λ_=>?_);clear hK K eL
    try simp only[gX]
    refine Lt.sp (i:=3) (λK hK=>?_);refine Kl rfl qo w6.heap.size _ 0 [] qo n7 w.heap.size na1 nc1 s.ran qo (Ac HNV6.o bL) hL qb ?_;intro v1 wM jb hg1 ha1;rw[Nat.zero_add,List.nil_append]at jb;have bM:Bw w6 wM:=bL.grown hg1 hL (λb e=>(n7.lt b e).1);have hM:=bM.size;refine hK.out _ _ (λ_=>bh.o _ bM) (λ_=>?_);clear hK K
    try simp only[gX]
    refine Lt.sp (i:=6) (λK hK=>?_);refine Kl rfl qo w6.heap.size v1 _ _ qo jb wr.heap.size b7 b8 dran qo (Ac HRN.o bM) hM qb ?_;intro v2 wN kw wz ha2;have bN:Bw w6 wN:=bM.grown wz hM (λb e=>(jb.lt b e).1);have hN:=bN.size;obtain⟨va,vc,ev2⟩:=Ax kw;subst ev2;refine hK.out _ _ (λ_=>bh.o _ bN) (λ_=>?_);clear hK K
    try simp only[gX]
    refine Lt.ti (i:=7) (v:=?_) (bh.o _ bN) ?_ ?_;rotate_left 1
    ·rintro w ⟨r1,r2⟩
     exact qam
    simp only[gX];obtain⟨z0,z1,z2,z3,z4,z5,z6,z7,z8,z9⟩:=Fe (bh.o _ bN).2;have zf:∀j,wN.frozen? ⟨Q,j,N⟩=false:=λj=>fH (bh.o _ bN).2 j;obtain⟨wS,eS⟩:=Aj (wN.setCell ⟨Q,6,N⟩ (J va (s.ran.length+dran.length) vc));refine Lt.sp (i:=8) (λK hK=>?_);go_simp
    try rw[eS]
    refine hK.out _ _ (λh=>absurd rfl h) (λ_=>?_);clear hK K z0 z1 z2 z3 z4 z5 z6 z7 z8 z9 zf;refine Lt.done qi ?_ _
    try rw[eS]
    obtain⟨l,el⟩:∃l:L (X×X×Z),l=[(Q,6,J va (s.ran.length+dran.length) vc)]:=⟨_,rfl⟩;have bi:∀x∈l,x.1=Q:=qy;(have eS2:Be wN l=wS:=by rw[el];simp only[Be,List.foldl];exact eS);have kq:=(bh.o _ bN).2;have kp:=(bh.o _ bN).1;have be:=Cl l wN _ bi kq;have wh:∀b:X,b≠Q→(Be wN l).heap[b]?=wN.heap[b]?:=λb hb=>Es (b:=b) l wN (λx hx q=>hb qbz);have hRR:=Cf kw bi kq qd;have hWW:=(oo.o.bl bN).setU bi kq;have Id:Bw w (Be wN l):=Az l wN (bt uk.o bN) (λx hx=>qz);have hPP:=(wh P qb).trans kp;have hQ8:=(wh w.heap.size qb).trans (Ab bN Q9.o);have hP8:=(wh (w.heap.size+1) qb).trans (Ab bN HP6.o);have hZ8:=(wh (w.heap.size+1+1) qb).trans (Ab bN Q6.o);have hEV:=Cf (Ac HEV6.o bN) bi kq qd;have hHE:=Cf (Ac HHE.o bN) bi kq qd;(have cz:(Be wN l).heap.size=wN.heap.size:=by rw[el];simp[Be]);rw[eS2]at be hRR hWW Id hPP cz hQ8 hP8 hZ8 hEV hHE;rw[el]at be;simp only[List.foldl,List.setIfInBounds_toArray,List.set_cons_zero,List.set_cons_succ]at be;obtain⟨rl8,erl8⟩:=Aj (s.ran.length+dran.length);rw[erl8]at be hRR
    try simp only[erl8]
    (have HLNrl8:Hd (rl8=(s.ran++dran).length):=by show _=_;rw[←erl8,List.length_append]);have HRWrl8:Hd (wS.ownsRow w6.heap.size 9 1 (J va rl8 vc) rl8 (Av (s.ran++dran))):=Ad (by have:=hRR;simpa [Av] using this);obtain⟨w8,rfl⟩:∃y,y=wS:=⟨_,rfl⟩;obtain⟨na8,rfl⟩:∃y,y=va:=⟨_,rfl⟩;obtain⟨nc8,rfl⟩:∃y,y=vc:=⟨_,rfl⟩;have HXQ8:=Ad be;have HBW8:=Ad hWW;have HB8:=Ad Id;have HO8:=Ad hPP;have HQ8:=Ad hQ8;have HP8:=Ad hP8;have ui:=Ad hZ8;have HEV8:=Ad hEV;have HHE8:=Ad hHE;have hs68:w6.heap.size≤w8.heap.size:=qb;clear be hWW Id hPP hQ8 hP8 hZ8 hEV hHE hRR eS eS2 el bi kq kp wh cz bE bL bM bN hE hL hM hN n7 jb kw hg1 wz ha1 ha2 bh HXQ oo uk HO6 Q9 HP6 Q6 HEV6 HHE erl8
    go_upto_region 12 with fail
    obtain⟨wE,eE⟩:=Aj w8.drew;(have bE:Bw w8 wE:=by rw[←eE];exact(Below.refl _ _).drew);have bh:Hd (∀V:E,Bw w8 V→V.heap[P]?=M (O #[I c,S t,J ca1 0 cc1,I n0,J (p_ g0) s.T.length p0,J a0 s.R.length q0,J na1 s.ran.length nc1,J ea1 s.held.length ec1,ze,ze] 37 (0,0))∧V.heap[Q]?=M (O #[I dc,S dt,J b1 0 b2,I n0,J b3 dT.length b4,J b5 dR.length b6,J na8 rl8 nc8,J b9 dheld.length Ld,ze,ze] 37 (0,0))):=λV h=>⟨Ab h HO8.o,Ab h HXQ8.o⟩;refine Lt.begin 8 (λw'=>w'.heap[P]?=M (O #[I c,S t,J ca1 0 cc1,I n0,J (p_ g0) s.T.length p0,J a0 s.R.length q0,J na1 s.ran.length nc1,J ea1 s.held.length ec1,ze,ze] 37 (0,0))∧w'.heap[Q]?=M (O #[I dc,S dt,J b1 0 b2,I n0,J b3 dT.length b4,J b5 dR.length b6,J na8 rl8 nc8,J b9 dheld.length Ld,ze,ze] 37 (0,0))) qi ?_;rw[eE];clear eE;change K 1 _
    iterate 2
     refine Lt.ti (v:=?_) (bh.o _ bE) ?_ ?_;rotate_left 1
     ·exact qdi
     simp only[gX]
    change K 4 _
    iterate 2
     refine Lt.ti (v:=?_) (bh.o _ bE) ?_ ?_;rotate_left 1
     ·exact qdi
     simp only[gX]
    refine Lt.sp (i:=0) (λK hK=>?_);go_simp;obtain⟨wL,eL⟩:=Aj (wE.alloc (O #[] 9));have hE:=bE.size;have n7:=Zp wE w8.heap.size 9 1 hE;rw[eL]at n7;have bL:Bw w8 wL:=bt bE (by rw[←eL];exact Ai _ _);have hL:=bL.size
    try rw[eL]
    refine hK.out _ _ (λ_=>bh.o _ bL) (λ_=>?_);clear hK K eL
    try simp only[gX]
    refine Lt.sp (i:=3) (λK hK=>?_);refine Kl rfl qo w8.heap.size _ 0 [] qo n7 w.heap.size ea1 ec1 s.held qo (Ac HEV8.o bL) hL qb ?_;intro v1 wM jb hg1 ha1;rw[Nat.zero_add,List.nil_append]at jb;have bM:Bw w8 wM:=bL.grown hg1 hL (λb e=>(n7.lt b e).1);have hM:=bM.size;refine hK.out _ _ (λ_=>bh.o _ bM) (λ_=>?_);clear hK K
    try simp only[gX]
    refine Lt.sp (i:=6) (λK hK=>?_);refine Kl rfl qo w8.heap.size v1 _ _ qo jb wr.heap.size b9 Ld dheld qo (Ac HHE8.o bM) hM qb ?_;intro v2 wN kw wz ha2;have bN:Bw w8 wN:=bM.grown wz hM (λb e=>(jb.lt b e).1);have hN:=bN.size;obtain⟨va,vc,ev2⟩:=Ax kw;subst ev2;refine hK.out _ _ (λ_=>bh.o _ bN) (λ_=>?_);clear hK K
    try simp only[gX]
    refine Lt.ti (i:=7) (v:=?_) (bh.o _ bN) ?_ ?_;rotate_left 1
    ·rintro w ⟨r1,r2⟩
     exact qam
    simp only[gX];obtain⟨z0,z1,z2,z3,z4,z5,z6,z7,z8,z9⟩:=Fe (bh.o _ bN).2;have zf:∀j,wN.frozen? ⟨Q,j,N⟩=false:=λj=>fH (bh.o _ bN).2 j;obtain⟨wS,eS⟩:=Aj (wN.setCell ⟨Q,7,N⟩ (J va (s.held.length+dheld.length) vc));refine Lt.sp (i:=8) (λK hK=>?_);go_simp
    try rw[eS]
    refine hK.out _ _ (λh=>absurd rfl h) (λ_=>?_);clear hK K z0 z1 z2 z3 z4 z5 z6 z7 z8 z9 zf;refine Lt.done qi ?_ _
    try rw[eS]
    obtain⟨l,el⟩:∃l:L (X×X×Z),l=[(Q,7,J va (s.held.length+dheld.length) vc)]:=⟨_,rfl⟩;have bi:∀x∈l,x.1=Q:=qy;(have eS2:Be wN l=wS:=by rw[el];simp only[Be,List.foldl];exact eS);have kq:=(bh.o _ bN).2;have kp:=(bh.o _ bN).1;have be:=Cl l wN _ bi kq;have wh:∀b:X,b≠Q→(Be wN l).heap[b]?=wN.heap[b]?:=λb hb=>Es (b:=b) l wN (λx hx q=>hb qbz);have hRR:=Cf kw bi kq qd;have hWW:=(HBW8.o.bl bN).setU bi kq;have Id:Bw w (Be wN l):=Az l wN (bt HB8.o bN) (λx hx=>qz);have hPP:=(wh P qb).trans kp;have hQ9:=(wh w.heap.size qb).trans (Ab bN HQ8.o);have hP9:=(wh (w.heap.size+1) qb).trans (Ab bN HP8.o);have hZ9:=(wh (w.heap.size+1+1) qb).trans (Ab bN ui.o);have hRA:=Cf (Ac HRWrl8.o bN) bi kq qd;(have cz:(Be wN l).heap.size=wN.heap.size:=by rw[el];simp[Be]);rw[eS2]at be hRR hWW Id hPP cz hQ9 hP9 hZ9 hRA;rw[el]at be;simp only[List.foldl,List.setIfInBounds_toArray,List.set_cons_zero,List.set_cons_succ]at be;obtain⟨hl8,ehl8⟩:=Aj (s.held.length+dheld.length);rw[ehl8]at be hRR
    try simp only[ehl8]
    (have HLNhl8:Hd (hl8=(s.held++dheld).length):=by show _=_;rw[←ehl8,List.length_append]);have HRWhl8:Hd (wS.ownsRow w8.heap.size 9 1 (J va hl8 vc) hl8 (Av (s.held++dheld))):=Ad (by have:=hRR;simpa [Av] using this);obtain⟨w9,rfl⟩:∃y,y=wS:=⟨_,rfl⟩;obtain⟨Q0,rfl⟩:∃y,y=va:=⟨_,rfl⟩;obtain⟨hc8,rfl⟩:∃y,y=vc:=⟨_,rfl⟩;have HXQ9:=Ad be;have HBW9:=Ad hWW;have HB9:=Ad Id;have HO9:=Ad hPP;have W4:=Ad hQ9;have tm:=Ad hP9;have xh:=Ad hZ9;have HRA9:=Ad hRA;clear be hWW Id hPP hQ9 hP9 hZ9 hRA hRR eS eS2 el bi kq kp wh cz bE bL bM bN hE hL hM hN n7 jb kw hg1 wz ha1 ha2 bh HXQ8 HBW8 HB8 HO8 HQ8 HP8 ui HEV8 HHE8 HRWrl8 ehl8
    go_upto_region 13 with fail
    obtain⟨z0,z1,z2,z3,z4,z5,z6,z7,z8,z9⟩:=Fe HXQ9.o;obtain⟨y0,y1,y2,y3,y4,y5,y6,y7,y8,y9⟩:=Fe HO9.o;have yf:=fZ HO9.o;obtain⟨l,el⟩:∃l:L (X×X×Z),l=[(P,0,I dc),(P,1,S dt),(P,2,J b1 0 b2),(P,3,I n0),(P,4,J b3 dT.length b4),(P,5,J b5 dR.length b6),(P,6,J na8 rl8 nc8),(P,7,J Q0 hl8 hc8),(P,8,ze),(P,9,ze)]:=⟨_,rfl⟩;have bi:∀x∈l,x.1=P:=qy;have be:=Cl l w9 _ bi HO9.o;have wh:∀b:X,b≠P→(Be w9 l).heap[b]?=w9.heap[b]?:=λb hb=>Es (b:=b) l w9 (λx hx q=>hb qbz);have hWW:=HBW9.o.setU bi HO9.o;have hRA:=Cf HRA9.o bi HO9.o qd;have hRH:=Cf HRWhl8.o bi HO9.o qd;have Id:Bw w (Be w9 l):=Az l w9 HB9.o (λx hx=>qz);have hQQ:=(wh w.heap.size qb).trans W4.o;have hPP:=(wh (w.heap.size+1) qb).trans tm.o;have hZZ:=(wh (w.heap.size+1+1) qb).trans xh.o;obtain⟨V,eV⟩:=Aj (Be w9 l);rw[eV]at be hWW hRA hRH Id hQQ hPP hZZ;rw[el]at be eV;simp only[Be,List.foldl]at eV;simp only[List.foldl,List.setIfInBounds_toArray,List.set_cons_zero,List.set_cons_succ]at be;have HVb:=Ad be;have HWW:=Ad hWW;have HRA:=Ad hRA;have HRH:=Ad hRH;have I6:=Ad Id;have HQQ:=Ad hQQ;have HPP:=Ad hPP;have HZZ:=Ad hZZ;clear be hWW hRA hRH Id hQQ hPP hZZ el bi wh;go_wp2_with fail
    try rw[eV]
    have cw:Ev V w.heap.size (J b3 dT.length b4) (J b5 dR.length b6) dT dR:=⟨Ah HWW.o.txs G6,pq.o,⟨zs,kv,lv,Ah HWW.o.rq.row G6,HWW.o.rq.fil,λi hi=>(by obtain⟨ys,a,b⟩:=HWW.o.rq.code i hi;exact⟨ys,Ah a G6,b⟩),λi hi=>(by obtain⟨ys,a,b⟩:=HWW.o.rq.look i hi;exact⟨ys,Ah a G6,b⟩),HWW.o.rq.apc,HWW.o.rq.apl⟩⟩;have hra:=Ah HRA.o (show w.heap.size≤w6.heap.size from qb);have hrh:=Ah HRH.o (show w.heap.size≤w8.heap.size from qb);rw[HLNrl8.o]at hra;rw[HLNhl8.o]at hrh;refine⟨⟨k+1,⟨dT,dR,s.ran++dran,s.held++dheld⟩,dc,dt,J b1 0 b2,_,_,_,_,qb,qj,HCO2.o,HOK2.o,A8.o,HVb.o,Ah HWW.o.ch G6,cw,?_,?_,HQQ.o,HPP.o,HZZ.o,I6.o⟩,qak⟩
    ·rw[HLNrl8.o];exact hra
    ·rw[HLNhl8.o];exact hrh
  ·have hkm:k=m:=qb
   have HNU:=Ad (ig.o _ (by rw[List.drop_of_length_le qas];exact .nil));obtain⟨g0,p0,etx⟩:=fc.o.txa;subst etx;obtain⟨zs0,kv0,lv0,r0⟩:=fc.o.rcs;obtain⟨a0,q0,eqv,hrq⟩:=r0.rowQ;subst eqv;obtain⟨ca1,cc1,ecv⟩:=Ax HCV.o;subst ecv;obtain⟨na1,nc1,env⟩:=Ax HNV.o;subst env;obtain⟨ea1,ec1,eev⟩:=Ax R9.o;subst eev;have iy:¬ (k:Int)<(m:Int):=qb;obtain⟨tl,etl⟩:=Aj s.T.length;obtain⟨ql,eql⟩:=Aj s.R.length;obtain⟨rl,erl⟩:=Aj s.ran.length;obtain⟨hl,ehl⟩:=Aj s.held.length;have HOO:=HO;rw[etl,eql,erl,ehl]at HOO;have ETL:=Ad etl;have EQL:=Ad eql;have ERL:=Ad erl;have EHL:=Ad ehl;clear etl eql erl ehl hrq;obtain⟨y0,y1,y2,y3,y4,y5,y6,y7,y8,y9⟩:=Fe HOO.o
   go_upto_region 14 with fail
   obtain⟨ye,yd,yb,xz,xy,xx,xw,xv,xu,xr⟩:=Dz HZ.o;have zcf:=fZ HZ.o;obtain⟨l,el⟩:∃l:L (X×X×Z),l=[((w.heap.size+1+1),0,I c),((w.heap.size+1+1),1,S t),((w.heap.size+1+1),2,J ca1 0 cc1),((w.heap.size+1+1),3,I n0),((w.heap.size+1+1),4,J (p_ g0) tl p0),((w.heap.size+1+1),5,J a0 ql q0),((w.heap.size+1+1),6,J na1 rl nc1),((w.heap.size+1+1),7,J ea1 hl ec1),((w.heap.size+1+1),8,ze),((w.heap.size+1+1),9,ze)]:=⟨_,rfl⟩;have bi:∀x∈l,x.1=(w.heap.size+1+1):=qy;have be:=Cl l wr _ bi HZ.o;have hS:=fc.o.setU bi HZ.o;have hC:=Cf HCV.o bi HZ.o qd;have hR:=Cf HNV.o bi HZ.o qd;have hH:=Cf R9.o bi HZ.o qd;have cr:Bw w (Be wr l):=Az l wr HB.o (λx hx=>qz);obtain⟨V,eV⟩:=Aj (Be wr l);rw[eV]at be cr hS hC hR hH;rw[el]at be eV;simp only[Be,List.foldl]at eV;simp only[List.foldl,List.setIfInBounds_toArray,List.set_cons_zero,List.set_cons_succ]at be;have HV:=Ad be;have jz:=Ad cr;have ew:=Ad hS;have H_hC:=Ad hC;have H_hR:=Ad hR;have H_hH:=Ad hH;clear be cr el bi hS hC hR hH;go_wp2_with fail
   try rw[eV]
   clear y0 y1 y2 y3 y4 y5 y6 y7 y8 y9;obtain⟨y0,y1,y2,y3,y4,y5,y6,y7,y8,y9⟩:=Dz HV.o;obtain⟨zs9,kv9,lv9,r9⟩:=ew.o.rcs;refine bR (v:=G #[I c,S t,J ca1 0 cc1,I n0,J (p_ g0) tl p0,J a0 ql q0,J na1 rl nc1,J ea1 hl ec1,ze,ze]) qee rfl ?_;rw[←ETL.o,←EQL.o,←ERL.o,←EHL.o];exact⟨jz.o,⟨c,t,[],n0,s.T,s.R,s.ran,s.held,⟨#[]⟩,⟨#[]⟩⟩,_,_,_,_,_,rfl,Or.inr ⟨HV0.o,_,HNU.o,Or.inl ⟨s,c,t,rfl,rfl⟩⟩,zs9,kv9,lv9,H_hC.o,ew.o.txt,r9,H_hR.o,H_hH.o⟩
end Go.Proofs.YtoakjccojifagaaGreatDoor
