import Derived.Test.YtnflkpmmfpfhlaaGreatDoorBvA
namespace Go.Proofs.YtnflkpmmfpfhlaaGreatDoor
open Value renaming slice->J,string->S,agg->G
open Option renaming some->M,none->N
open Obj renaming cells->O
open Go renaming Value->Z,World->E
open Ending renaming returned->H
open _root_ renaming List->L,Nat->X
set_option maxHeartbeats 8000000
set_option maxRecDepth 100000
open _root_.Go.Proofs.Tryz Go.RowKit Go.Deep
set_option linter.unusedVariables false
set_option linter.unusedSimpArgs false
variable {n B h:X} {T:L By} {R:L T3} {qv:Z} {w:E} {ss:L S2} {ts:L T2} {nm:By} {cs:Array Z} {l:L (X×X×Z)}
theorem Ph(h:Jd n T R):T.length<=1048576/\R.length<=2000/\∀i,i<R.length→1≤(qx R i).code.length∧(qx R i).code.length≤1048576∧(qx R i).looks.length≤1048576:=
 ⟨by have:=h.1.1;omega,h.2.1,λi hi=>by obtain⟨a,_,b,_⟩:=h.2.2 i hi;have:=Ef a;omega⟩
theorem copy_own{tx:Z}{V:E}(hs:Dz V B tx qv T R)(ho:Jd n T R):Calls prog 23 #[G #[I n,tx,qv]] V λe w'=>Bw V w'/\∃g p qa qc,e=H (G #[I n,J (p_ g) T.length p,J qa R.length qc])/\Dz w' V.heap.size (J (p_ g) T.length p) (J qa R.length qc) T R:=by
 obtain⟨g,p,rfl⟩:=hs.txa;obtain⟨qa,qc,e⟩:∃a cap,qv=J a R.length cap:=by obtain⟨ys,cv,lv,r⟩:=hs.rcs;exact Al r.row
 subst e;have h3:=Ph ho
 have cr:Cu V (p_ g) T:=by
  obtain⟨a,cap,q,r⟩:=Ds.sl (w:=V) (lo:=B) (hi:=V.heap.size) (ts:=T) ⟨hs.txt,λb q=>(hs.txt.lt b q).2⟩;cases q;exact r
 refine(Ke n g 0 p qa qc T R V cr (hs.rcs.rowW (λi hi=>(h3.2.2 i hi).1)) h3.1 (zo h3.2.1) (λi hi=>(h3.2.2 i hi).2)).mono ?_;rintro e w' ⟨a1,g1,p1,v2,rfl,a2,a3⟩;have hr:=a3.recO;obtain⟨qa,qc,e⟩:∃a cap,v2=J a R.length cap:=by obtain⟨ys,cv,lv,r⟩:=hr;exact Al r.row
 subst e;exact⟨a1,_,_,_,_,rfl,a2.own,⟨g1,p1,rfl⟩,hr⟩
def Pu(B n:X)(ss:L S2)(ts:L T2)(T:L By)(R:L T3)(nm:By)(e:Ending)(w':E):Prop:=
 ∃ms' s' a,Az ss ts n [] ⟨T,R,[],[],[]⟩ [] (.make nm) ms' s' a/\
  ((∃d tx qv nv ev,a=.ok d/\e=H (G #[I d.c,S d.t,nS,I n,tx,qv,nv,ev,ze,ze])/\Dz w' B tx qv s'.T s'.R/\w'.ownsRow B 9 1 nv s'.ran.length (Ar s'.ran)/\w'.ownsRow B 9 1 ev s'.held.length (Ar s'.held))\/
   (∃b x y cv tx qv A B',a=.bad b/\Ot B w' b [x,y,cv,I 0,nS,nS,nS,nS,A,B']/\e=H (G #[x,y,cv,I n,tx,qv,nS,nS,A,B'])/\Dz w' B tx qv T R))
theorem Gp{j:X}{pre ee:L Z}{v:Z}(d7:pre.length=10)(hk:w.heap[h]?=M (O ((pre++ee).toArray) 63 (0,0)))(hj:ee[j]?=M v):w.cell? ⟨h,10+j,N⟩=M v:=by
 rw[cH hk,List.getElem?_toArray,List.getElem?_append_right qg,d7,Nat.add_sub_cancel_left];exact hj
def EndG(B h n:X)(w4:E)(P:Ending->E->Prop):Prop:=∃(xc:Int)(yt:By)(ca:Option Addr)(cn cc g p:X)(qa:Option Addr)(qc:X)(na:Option Addr)(nl nc:X)(ea:Option Addr)(el ec:X)(At Bt:By)(T':L By)(R':L T3)(pre:L Z),
 pre.length=10/\w4.heap[h]?=M (O ((pre++([I xc,S yt,J ca cn cc,I n,J (p_ g) T'.length p,J qa R'.length qc,J na nl nc,J ea el ec,S At,S Bt]:L Z)).toArray) 63 (0,0))/\Dz w4 B (J (p_ g) T'.length p) (J qa R'.length qc) T' R'/\Jd n T' R'/\
 ∀(w':E)(tx qv:Z),Bw w4 w'->Dz w' B tx qv T' R'->P (H (G #[I xc,S yt,J ca cn cc,I n,tx,qv,J na nl nc,J ea el ec,S At,S Bt])) w'
theorem Pu.gen{w4:E}(hv:Xv ss ts)(fw:Jd n T R)(cz:Ao nm)(T9:WorkE B h n ss ts T R nm w4):EndG B h n w4 (Pu B n ss ts T R nm):=by
 obtain⟨ms',s',a,bv,pre,ee,d7,hk,⟨d,tx,qv,nv,ev,rfl,rfl,hs,hn,he,_,_⟩|⟨b,x,y,cv,tx,qv,A,B',rfl,he,rfl,hs,_⟩⟩:=T9
 ·obtain⟨g,p,e1⟩:=hs.txa
  subst e1;(obtain⟨qa,qc,e2⟩:∃a cap,qv=J a s'.R.length cap:=by obtain⟨ys,cv,lv,r⟩:=hs.rcs;exact Al r.row);subst e2;obtain⟨na,nc,e3⟩:=Al hn;subst e3;obtain⟨ea,ec,e4⟩:=Al he;subst e4;obtain⟨_,i2,_,_⟩:=Az.inv hv bv (Gs.nil ss ts) fw cz (λb q=>qz);exact⟨_,_,_,_,_,g,p,qa,qc,na,_,nc,ea,_,ec,_,_,s'.T,s'.R,pre,d7,hk,hs,i2,λw' tx qv hb h2=>⟨ms',s',_,bv,Or.inl ⟨d,tx,qv,_,_,rfl,rfl,h2,Ad hn hb,Ad he hb⟩⟩⟩
 ·obtain⟨g,p,e1⟩:=hs.txa
  subst e1;(obtain⟨qa,qc,e2⟩:∃a cap,qv=J a R.length cap:=by obtain⟨ys,cv,lv,r⟩:=hs.rcs;exact Al r.row);subst e2
  have heb:∀w',Bw w4 w'->Ot B w' b [x,y,cv,I 0,nS,nS,nS,nS,A,B']:=λw' hb=>by
   cases b with
   | circle ch=>obtain⟨cv,a,b⟩:=he;exact⟨cv,Ad a hb,b⟩
   | deep nm=>exact he
   | clash A B=>exact he
   | full=>exact he
  have hform:∃xc yt ca cn cc At Bt,x=I xc/\y=S yt/\cv=J ca cn cc/\A=S At/\B'=S Bt:=by
   cases b with
   | circle ch=>
     obtain⟨cv2,k,q⟩:=he;obtain⟨ca,cc,e3⟩:=Al k;simp only[List.cons.injEq]at q;obtain⟨q1,q2,q3,_,_,_,_,_,q4,q5,_⟩:=q;exact⟨_,_,ca,_,cc,_,_,q1,q2,q3.trans e3,q4,q5⟩
   | deep nm=>have q:_=_:=he;simp only[List.cons.injEq]at q;obtain⟨q1,q2,q3,_,_,_,_,_,q4,q5,_⟩:=q;exact⟨_,_,_,_,_,_,_,q1,q2,q3,q4,q5⟩
   | clash A B=>have q:_=_:=he;simp only[List.cons.injEq]at q;obtain⟨q1,q2,q3,_,_,_,_,_,q4,q5,_⟩:=q;exact⟨_,_,_,_,_,_,_,q1,q2,q3,q4,q5⟩
   | full=>have q:_=_:=he;simp only[List.cons.injEq]at q;obtain⟨q1,q2,q3,_,_,_,_,_,q4,q5,_⟩:=q;exact⟨_,_,_,_,_,_,_,q1,q2,q3,q4,q5⟩
  obtain⟨xc,yt,ca,cn,cc,At,Bt,rfl,rfl,rfl,rfl,rfl⟩:=hform;exact⟨xc,yt,ca,cn,cc,g,p,qa,qc,N,0,0,N,0,0,At,Bt,T,R,pre,d7,hk,hs,fw,λw' tx qv hb h2=>⟨ms',s',_,bv,Or.inr ⟨b,_,_,_,tx,qv,_,_,rfl,heb w' hb,rfl,h2⟩⟩⟩
theorem Cg{e sz U:X}{u:Z}{xs:L Z}(ho:w.ownsRow B e sz u n xs)(hh:∀x∈l,x.1=h)(hk:w.heap[h]?=M (O cs U (0,0)))(he:U≠e):(Bo w l).ownsRow B e sz u n xs:=An ho λb q=>Fb l w λx hx r=>Ae ho he hk (by rw[←hh x hx,←r];exact q)
theorem Dz.setU{tx:Z}(k:Dz w B tx qv T R)(hh:∀x∈l,x.1=h)(hk:w.heap[h]?=M (O cs 55 (0,0))):Dz (Go.Proofs.YtnflkpmmfpfhlaaGreatDoor.Bo w l) B tx qv T R:=by
 obtain⟨xs,cv,lv,r⟩:=k.rcs;exact⟨Cg k.txt hh hk qh,k.txa,xs,cv,lv,Cg r.row hh hk qh,r.fil,λi hi=>by obtain⟨ys,a,b⟩:=r.code i hi;exact⟨ys,Cg a hh hk qh,b⟩,λi hi=>by obtain⟨ys,a,b⟩:=r.look i hi;exact⟨ys,Cg a hh hk qh,b⟩,r.apc,r.apl⟩
theorem Pu.setU{B0:X}{e:Ending}(k:Pu B n ss ts T R nm e w)(hB:B0<=B)(hh:∀x∈l,x.1=h)(hk:w.heap[h]?=M (O cs 55 (0,0))):Pu B0 n ss ts T R nm e (Bo w l):=by
 obtain⟨ms',s',a,bv,⟨d,tx,qv,nv,ev,rfl,rfl,hs,hn,he⟩|⟨b,x,y,cv,tx,qv,A,B',rfl,he,rfl,hs⟩⟩:=k
 ·exact⟨ms',s',_,bv,Or.inl ⟨d,tx,qv,nv,ev,rfl,rfl,(hs.setU hh hk).base hB,Ah (Cg hn hh hk qh) hB,Ah (Cg he hh hk qh) hB⟩⟩
 ·refine⟨ms',s',_,bv,Or.inr ⟨b,x,y,cv,tx,qv,A,B',rfl,?_,rfl,(hs.setU hh hk).base hB⟩⟩
  cases b with
  | circle ch=>obtain⟨cv,a,b⟩:=he;exact⟨cv,Ah (Cg a hh hk qh) hB,b⟩
  | deep nm=>exact he
  | clash A B=>exact he
  | full=>exact he
theorem Xc(n tb:X)(qa sa ta:Option Addr)(tc qc c1 c2:X)(T:L By)(R:L T3)(ss:L S2)(ts:L T2)(nm:By)(w:E)(hw:Jc n T R)(V1:Fx ss ts=0)(cz:Ao nm)(cr:Nv w (p_ tb) T qa R)(hrp:Rc w qa R)(sw:Li w sa ss ta ts)(ku:Ep ss ts):Calls prog 51 #[G #[I n,J (p_ tb) T.length tc,J qa R.length qc],G #[J sa ss.length c1,J ta ts.length c2],S nm] w λe w'=>Bw w w'/\Pu w.heap.size n ss ts T R nm e w':=by
 have h1:1<=n:=zo hw.1;have h8:n<=8:=zo hw.2.1;have hok0:Jd n T R:=by have:=hw.2.2;simpa using this
 have ke:=Ab hok0;clear hok0;obtain⟨W,eW⟩:=Aj (((w.alloc (O #[I n,J (p_ tb) T.length tc,J qa R.length qc] 35)).alloc (O #[J sa ss.length c1,J ta ts.length c2] 42)).alloc (O #[I 0,ze,nS,I 0,nS,nS,nS,nS,ze,ze] 55));have HW:Hd (Bw w W):=by show Below _ _ _;rw[←eW];exact((aN _ _).alloc qi _).alloc qj _
 obtain⟨Q,eQ⟩:=Aj w.heap.size;have HQ:Hd (W.heap[Q]?=M (O #[I n,J (p_ tb) T.length tc,J qa R.length qc] 35 (0,0))):=by show _=_;rw[←eW,←eQ];exact Ro (Ro (Fg _ _))
 have HP:Hd (W.heap[Q+1]?=M (O #[J sa ss.length c1,J ta ts.length c2] 42 (0,0))):=by
  show _=_;rw[←eW,←eQ];have:=Fg (w.alloc (O #[I n,J (p_ tb) T.length tc,J qa R.length qc] 35)) (O #[J sa ss.length c1,J ta ts.length c2] 42);rw[show(w.alloc (O #[I n,J (p_ tb) T.length tc,J qa R.length qc] 35)).heap.size=w.heap.size+1 from qi]at this;exact Ro this
 have HZ:Hd (W.heap[Q+1+1]?=M (O #[I 0,ze,nS,I 0,nS,nS,nS,nS,ze,ze] 55 (0,0))):=by
  show _=_;rw[←eW,←eQ];have:=Fg ((w.alloc (O #[I n,J (p_ tb) T.length tc,J qa R.length qc] 35)).alloc (O #[J sa ss.length c1,J ta ts.length c2] 42)) (O #[I 0,ze,nS,I 0,nS,nS,nS,nS,ze,ze] 55);exact qfj
 have HWD:=Ab hw;have HCH:=Ab V1;have pn:=Ab cz;have di:=Ab cr;have I5:=Ab hrp;have HSP:=Ab sw;have fm:=Ab ku;clear hw V1 cz cr hrp sw ku;obtain⟨q0,q1,q2⟩:=Bb HQ.o;obtain⟨p0,p1⟩:=En HP.o;go_enter func51,ntmps51;go_wp2_with fail
 try rw[eQ]
 clear eW q0 q1 q2;refine(Gw n _ _ _ _ T R W (di.o.bl HW.o)).mono ?_;rintro e w1 ⟨ag,b,rfl,V7⟩;obtain rfl:b=true:=V7.2 HWD.o;clear V7;replace HQ:=Ab (Af HQ.o ag);replace HP:=Ab (Af HP.o ag);replace HZ:=Ab (Af HZ.o ag);replace HW:=Ab (bt HW.o ag);clear ag;clear p0 p1;obtain⟨p0,p1⟩:=En HP.o;go_wp2_with fail;clear p0 p1;refine(La sa ta c1 c2 ss ts w1 (HSP.o.bl HW.o) fm.o).mono ?_;rintro e w2 ⟨af,rfl⟩;rw[HCH.o];replace HQ:=Ab (Af HQ.o af);replace HP:=Ab (Af HP.o af);replace HZ:=Ab (Af HZ.o af);replace HW:=Ab (bt HW.o af);clear af;go_wp2_with fail;refine(Cf nm w2 (zo pn.o.2.1)).mono ?_;rintro e w3 ⟨rfl,rfl⟩;rw[Dc pn.o];obtain⟨q0,q1,q2⟩:=Bb HQ.o;obtain⟨p0,p1⟩:=En HP.o;go_wp2_with fail;clear q0 q1 q2 p0 p1;refine(Vq sa ta qa c1 c2 n tb tc qc ss ts T R nm w2 (Mf (HSP.o.bl HW.o) HCH.o) h1 h8 (di.o.st.bl HW.o) (I5.o.bl HW.o) ke.o pn.o (Ph ke.o)).mono ?_;rintro e w4 ⟨bp,h,hh,rfl,T9⟩;have h24:=HW.o.size;have h24w:=bp.size;replace HQ:=Ab (Af HQ.o bp);replace HP:=Ab (Af HP.o bp);replace HZ:=Ab (Af HZ.o bp);replace HW:=Ab (bt HW.o bp);clear bp;have HW4:=HW;have hZlt:=Ag HZ.o;obtain⟨xc,yt,ca,cn,cc,g,p,To,S9,na,nl,nc,ea,el,ec,At,Bt,T',R',pre,d7,hk,hs,ho,hfin⟩:=Pu.gen (Mf HSP.o HCH.o).v ke.o pn.o T9;have k10:w4.cell? ⟨h,10,N⟩=M (I xc):=Gp (j:=0) d7 hk rfl;have T6:w4.cell? ⟨h,11,N⟩=M (S yt):=Gp (j:=1) d7 hk rfl;have T5:w4.cell? ⟨h,12,N⟩=M (J ca cn cc):=Gp (j:=2) d7 hk rfl;have k13:w4.cell? ⟨h,13,N⟩=M (I n):=Gp (j:=3) d7 hk rfl;have k14:w4.cell? ⟨h,14,N⟩=M ((J (p_ g) T'.length p)):=Gp (j:=4) d7 hk rfl;have k15:w4.cell? ⟨h,15,N⟩=M ((J To R'.length S9)):=Gp (j:=5) d7 hk rfl;have k16:w4.cell? ⟨h,16,N⟩=M (J na nl nc):=Gp (j:=6) d7 hk rfl;have k17:w4.cell? ⟨h,17,N⟩=M (J ea el ec):=Gp (j:=7) d7 hk rfl;have k18:w4.cell? ⟨h,18,N⟩=M (S At):=Gp (j:=8) d7 hk rfl;have k19:w4.cell? ⟨h,19,N⟩=M (S Bt):=Gp (j:=9) d7 hk rfl;have HS:=Ab hs;have HO:=Ab ho;have HFIN:=Ab hfin;clear hs ho hfin T9 hk d7
 go_upto_region 4 with fail
 clear k10 T6 T5 k13 k14 k15 k16 k17 k18 k19;obtain⟨RR,eRR⟩:=Aj w4.heap.size;obtain⟨w6,e6⟩:=Aj (w4.alloc (O #[I xc,S yt,J ca cn cc,I n,J (p_ g) T'.length p,J To R'.length S9,J na nl nc,J ea el ec,S At,S Bt] 55));have bj:Bw w4 w6:=qbb;have jw:Hd (w6.heap[RR]?=M (O #[I xc,S yt,J ca cn cc,I n,J (p_ g) T'.length p,J To R'.length S9,J na nl nc,J ea el ec,S At,S Bt] 55 (0,0))):=qcu;rw[e6]
 try rw[eRR]
 clear e6;have ni:=Ab bj;replace HS:=Ab (HS.o.bl bj);replace HZ:=Ab (Af HZ.o bj);clear bj HQ HP;obtain⟨-,-,-,k3,k4,k5⟩:=Zc jw.o;go_wp2_with fail;clear k3 k4 k5;refine(copy_own HS.o HO.o).mono ?_;rintro e w7 ⟨bo,g7,p7,qa7,qc7,rfl,hs7⟩;have t8:=Ab (bt ni.o bo);replace jw:=Ab (Af jw.o bo);replace HZ:=Ab (Af HZ.o bo);have h26:=Nat.le_trans h24w ni.o.size;have my:=Ab (hs7.base h26);clear hs7 bo;obtain⟨k0,k1,k2,k3,k4,k5,k6,k7,k8,k9⟩:=Et jw.o;have kf:=fZ jw.o
 go_upto_region 5 with fail
 obtain⟨l,el⟩:∃l:L (X×X×Z),l=[(RR,3,I n),(RR,4,J (p_ g7) T'.length p7),(RR,5,J qa7 R'.length qc7)]:=⟨_,rfl⟩;have bu:∀x∈l,x.1=RR:=Xg;have bn:=De l w7 _ bu jw.o;have fa:Bw w4 (Bo w7 l):=Bg l w7 t8.o (λx hx=>qac);have hVS:=my.o.setU bu jw.o;have hVZ:(Bo w7 l).heap[Q+1+1]?=M (O #[I 0,ze,nS,I 0,nS,nS,nS,nS,ze,ze] 55 (0,0)):=(Fb l w7 (λx hx q=>by rw[bu x hx]at q;omega)).trans HZ.o;obtain⟨A,eA⟩:=Aj (Bo w7 l);rw[eA]at bn fa hVS hVZ;rw[el]at bn eA;simp only[Bo,List.foldl]at eA;rw[eA];simp only[List.foldl,List.setIfInBounds_toArray,List.set_cons_zero,List.set_cons_succ]at bn;have HBR:=Ab (HFIN.o A _ _ fa hVS);have HA:=Ab bn;have W9:=Ab hVZ;have HWA:=Ab (HW4.o.trans (fa.mono HW4.o.size));clear bn fa hVS hVZ eA el bu kf k0 k1 k2 k3 k4 k5 k6 k7 k8 k9;have k0:=cK HA.o 0;have z0:=cK W9.o 0;have k1:=cK HA.o 1;have z1:=cK W9.o 1;have k2:=cK HA.o 2;have z2:=cK W9.o 2;have k3:=cK HA.o 3;have z3:=cK W9.o 3;have k4:=cK HA.o 4;have z4:=cK W9.o 4;have k5:=cK HA.o 5;have z5:=cK W9.o 5;have k6:=cK HA.o 6;have z6:=cK W9.o 6;have k7:=cK HA.o 7;have z7:=cK W9.o 7;have k8:=cK HA.o 8;have z8:=cK W9.o 8;have k9:=cK HA.o 9;have z9:=cK W9.o 9;have kf:=fZ W9.o;obtain⟨l,el⟩:∃l:L (X×X×Z),l=[(Q+1+1,0,I xc),(Q+1+1,1,S yt),(Q+1+1,2,J ca cn cc),(Q+1+1,3,I n),(Q+1+1,4,(J (p_ g7) T'.length p7)),(Q+1+1,5,(J qa7 R'.length qc7)),(Q+1+1,6,J na nl nc),(Q+1+1,7,J ea el ec),(Q+1+1,8,S At),(Q+1+1,9,S Bt)]:=⟨_,rfl⟩;have bu:∀x∈l,x.1=Q+1+1:=Xg;have bn:=De l A _ bu W9.o;have hBR:=HBR.o.setU (show w.heap.size<=w2.heap.size from h24) bu W9.o;have fa:Bw w (Bo A l):=Bg l A HWA.o (λx hx=>qac);obtain⟨V,eV⟩:=Aj (Bo A l);rw[eV]at bn hBR fa;rw[el]at bn eV;simp only[Bo,List.foldl]at eV;simp only[List.foldl,List.setIfInBounds_toArray,List.set_cons_zero,List.set_cons_succ]at bn;have HV:=Ab bn;have HBR2:=Ab hBR;have gj:=Ab fa;clear bn hBR fa el bu;go_wp2_with fail
 try rw[eV]
 obtain⟨y0,y1,y2,y3,y4,y5,y6,y7,y8,y9⟩:=Et HV.o;exact bR (v:=G #[I xc,S yt,J ca cn cc,I n,(J (p_ g7) T'.length p7),(J qa7 R'.length qc7),J na nl nc,J ea el ec,S At,S Bt]) qgm rfl (by first|exact⟨gj.o,HBR2.o⟩|(rw[←eQ];exact⟨gj.o,HBR2.o⟩))
theorem Eo.setU(k:Eo w B qv R)(hh:∀x∈l,x.1=h)(hk:w.heap[h]?=M (O cs 55 (0,0))):Eo (Go.Proofs.YtnflkpmmfpfhlaaGreatDoor.Bo w l) B qv R:=by
 obtain⟨xs,cv,lv,r⟩:=k;exact⟨xs,cv,lv,Cg r.row hh hk qh,r.fil,λi hi=>by obtain⟨ys,a,b⟩:=r.code i hi;exact⟨ys,Cg a hh hk qh,b⟩,λi hi=>by obtain⟨ys,a,b⟩:=r.look i hi;exact⟨ys,Cg a hh hk qh,b⟩,r.apc,r.apl⟩
abbrev z10:Array Z:=#[I 0,ze,nS,I 0,nS,nS,nS,nS,ze,ze]
def BuildN(B:X)(n:Int)(T:L By)(R:L T3)(v:Z)(w':E):Prop:=
 ∃tx qv,v=G #[I 9,ze,nS,I n,tx,qv,nS,nS,ze,ze]/\Dz w' B tx qv T R
theorem Qag(n:Int)(tb tf tc:X)(qa sa ta:Option Addr)(qc c1 c2:X)(T:L By)(R:L T3)(ss:L S2)(ts:L T2)(nm:By)(w:E)(cr:Nv w (M ⟨tb,tf,N⟩) T qa R)(rv:Rc w qa R)(hr:R.length≤1048576)(jg:∀i,i<R.length→(qx R i).code.length≤1048576∧(qx R i).looks.length≤1048576)(sw:Li w sa ss ta ts)(ku:Ep ss ts)(cz:nm.size<=9223372036854775807)(ip:¬ (Jc n T R/\Fx ss ts=0/\Ao nm)):Calls prog 51 #[G #[I n,J (M ⟨tb,tf,N⟩) T.length tc,J qa R.length qc],G #[J sa ss.length c1,J ta ts.length c2],S nm] w λe w'=>Bw w w'/\∃v,e=H v/\BuildN w.heap.size n T R v w':=by
 obtain⟨W,eW⟩:=Aj (((w.alloc (O #[I n,J (M ⟨tb,tf,N⟩) T.length tc,J qa R.length qc] 35)).alloc (O #[J sa ss.length c1,J ta ts.length c2] 42)).alloc (O z10 55));have cj:Bw w W:=qbv;have HQ:Hd (W.heap[w.heap.size]?=M (O #[I n,J (M ⟨tb,tf,N⟩) T.length tc,J qa R.length qc] 35 (0,0))):=qca
 have HP:Hd (W.heap[w.heap.size+1]?=M (O #[J sa ss.length c1,J ta ts.length c2] 42 (0,0))):=by
  exact qdg
 have HZ:Hd (W.heap[w.heap.size+1+1]?=M (O z10 55 (0,0))):=by
  exact qfc
 have rh:=Ab cj;obtain⟨q0,q1,q2,qf⟩:=Ci HQ.o;obtain⟨x0,x1⟩:=En HP.o;have yg:=Ab (Gw n _ _ tc qc T R W (cr.bl cj));have J2:=Ab (λ(V:E) (hV:Bw w V)=>La sa ta c1 c2 ss ts V (sw.bl hV) ku);have vh:=Ab (λ(V:E) (hV:Bw w V)=>Ke n tb tf tc qa qc T R V (cr.st.bl hV) (rv.bl hV) cr.lt hr jg);have je:=Ab ip;clear cr rv hr jg sw ku cj ip;go_enter func51,ntmps51;go_wp2_with fail;clear eW q0 q1 q2 qf x0 x1;refine yg.o.mono ?_;clear yg;rintro e w1 ⟨ag,b,rfl,V7⟩;replace HQ:=Ab (Ac ag HQ.o);replace HP:=Ab (Ac ag HP.o);replace HZ:=Ab (Ac ag HZ.o);have d6:=Ab (bt rh.o ag);clear ag rh;cases b
 ·clear V7 J2 je
  obtain⟨x0,x1,x2,xf⟩:=Ci HQ.o;go_wp2_with fail;clear x0 x1 x2 xf;refine(vh.o w1 d6.o).mono ?_;rintro e w9 ⟨yu,g1,p1,v2,rfl,o1,o2⟩;obtain⟨a2,p2,rfl,_⟩:=o2.sl;have yd:=Ab (Ac yu HZ.o);have Y7:=Ab (bt d6.o yu);have mw:=Ab (show Dz w9 w.heap.size (J (p_ g1) T.length p1) (J a2 R.length p2) T R from ⟨Ah o1.own (zo d6.o.size),⟨g1,p1,rfl⟩,o2.recO.base (zo d6.o.size)⟩);clear yu o1 o2 HQ HP HZ vh d6;obtain⟨K7,K6,K5,K4,J9,J8,J7,J6,J5,J4⟩:=Et yd.o;have zcf:=fZ yd.o;obtain⟨l,el⟩:∃l:L (X×X×Z),l=[((w.heap.size+1+1),0,I 9),((w.heap.size+1+1),1,ze),((w.heap.size+1+1),2,nS),((w.heap.size+1+1),3,I n),((w.heap.size+1+1),4,J (p_ g1) T.length p1),((w.heap.size+1+1),5,J a2 R.length p2),((w.heap.size+1+1),6,nS),((w.heap.size+1+1),7,nS),((w.heap.size+1+1),8,ze),((w.heap.size+1+1),9,ze)]:=⟨_,rfl⟩;have bu:∀x∈l,x.1=(w.heap.size+1+1):=Xg;have bn:=De l w9 _ bu yd.o;have hS:=mw.o.setU bu yd.o;have fa:Bw w (Bo w9 l):=Bg l w9 Y7.o (λx hx=>qac);obtain⟨V,eV⟩:=Aj (Bo w9 l);rw[eV]at bn fa hS;rw[el]at bn eV;simp only[Bo,List.foldl]at eV;simp only[List.foldl,List.setIfInBounds_toArray,List.set_cons_zero,List.set_cons_succ]at bn;have HV:=Ab bn;have gj:=Ab fa;have im:=Ab hS;clear bn fa el bu hS;go_wp2_with fail
  try rw[eV]
  obtain⟨y0,y1,y2,y3,y4,y5,y6,y7,y8,y9⟩:=Et HV.o;exact bR (v:=G #[I 9,ze,nS,I n,J (p_ g1) T.length p1,J a2 R.length p2,nS,nS,ze,ze]) qgm rfl ⟨gj.o,_,rfl,_,_,rfl,im.o⟩
 have HWD:=Ab (V7.1 rfl);clear V7;obtain⟨x0,x1⟩:=En HP.o;have HC:=Ab (J2.o w1 d6.o);have Y3:Hd (¬ (Fx ss ts=0/\Ao nm)):=λh=>je.o ⟨HWD.o,h⟩;clear J2 je HWD;generalize Fx ss ts=ck at *;go_wp2_with fail;clear x0 x1;refine HC.o.mono ?_;clear HC;rintro e w2 ⟨af,rfl⟩;replace HQ:=Ab (Ac af HQ.o);replace HP:=Ab (Ac af HP.o);replace HZ:=Ab (Ac af HZ.o);have dy:=Ab (bt d6.o af);clear af d6
 by_cases hc:ck=0
 rotate_left 1
 ·have hcI:(ck == 0)=false:=qch
  have hcN:(ck != 0)=true:=qch;clear Y3;exact qhx
 subst hc;have U3:¬ Ao nm:=λh=>Y3.o ⟨rfl,h⟩;have HNB:=Ab (Ct U3);clear Y3 U3;go_wp2_with fail;refine(Cf nm w2 cz).mono ?_;rintro e w3 ⟨rfl,rfl⟩;rw[HNB.o];exact qhx
end Go.Proofs.YtnflkpmmfpfhlaaGreatDoor
