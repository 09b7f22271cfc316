import Derived.Test.YtoihflimijabjaaGreatDoorBtG
import Derived.Test.YtoihflimijabjaaGreatDoorUnB
namespace Go.Proofs.YtoihflimijabjaaGreatDoor
open Value renaming slice->J,string->S,agg->G
open Option renaming some->M,none->N
open Obj renaming cells->O
open Go renaming Value->Z,World->E
open Ending renaming returned->H
open _root_ renaming List->L,Nat->X
set_option maxHeartbeats 8000000
set_option maxRecDepth 100000
open _root_.Go.Proofs.Tryz Go.RowKit Go.Deep
set_option linter.unusedVariables false
set_option linter.unusedSimpArgs false
variable {n B h B0:X} {T:L By} {R:L T3} {qv v:Z} {j:BJ} {ss:L S2} {ts:L T2} {nm:By} {cs:Array Z} {l:L (X×X×Z)} {a:BA} {b:He} {w':E} {ms ms':Mm} {s s':Sb}
structure At (l:L By) (t:By) (r:X) (b:Bool):Prop where
 le:r<=l.length
 lo:∀j,j<r->Aw (nx l j) t=true
 hi:∀j,r<=j->j<l.length->Aw (nx l j) t=false
 has:b=true↔Hs l t
theorem sto_cp(h:Gu n T R):T.length<=1048576/\R.length<=2000/\∀i,i<R.length→1≤(qx R i).code.length∧(qx R i).code.length≤1048576∧(qx R i).looks.length≤1048576:=
 ⟨by have:=h.1.1;omega,h.2.1,λi hi=>by obtain⟨a,_,b,_⟩:=h.2.2 i hi;have:=Eo a;omega⟩
theorem copy_own{tx:Z}{V:E}(hs:Hb V B tx qv T R)(ho:Gu n T R):Calls prog 23 #[G #[I n,tx,qv]] V λe w'=>Bw V w'/\∃g p qa qc,e=H (G #[I n,J (p_ g) T.length p,J qa R.length qc])/\Hb w' V.heap.size (J (p_ g) T.length p) (J qa R.length qc) T R:=by
 obtain⟨g,p,rfl⟩:=hs.txa;obtain⟨qa,qc,e⟩:∃a cap,qv=J a R.length cap:=by obtain⟨ys,cv,lv,r⟩:=hs.rcs;exact Ax r.row
 subst e;have h3:=sto_cp ho
 have du:Cs V (p_ g) T:=by
  obtain⟨a,cap,q,r⟩:=Cn.sl (w:=V) (lo:=B) (hi:=V.heap.size) (ts:=T) ⟨hs.txt,λb q=>(hs.txt.lt b q).2⟩;cases q;exact r
 refine(Rs n g 0 p qa qc T R V du (hs.rcs.rowW (λi hi=>(h3.2.2 i hi).1)) h3.1 (zo h3.2.1) (λi hi=>(h3.2.2 i hi).2)).mono ?_;rintro e w' ⟨a1,g1,p1,v2,rfl,a2,a3⟩;have hr:=a3.recO;obtain⟨qa,qc,e⟩:∃a cap,v2=J a R.length cap:=by obtain⟨ys,cv,lv,r⟩:=hr;exact Ax r.row
 subst e;exact⟨a1,_,_,_,_,rfl,a2.own,⟨g1,p1,rfl⟩,hr⟩
def Mx(B n:X)(ss:L S2)(ts:L T2)(T:L By)(R:L T3)(nm:By)(e:Ending)(w':E):Prop:=
 ∃ms' s' a,Ca ss ts n [] ⟨T,R,[],[]⟩ [] (.make nm) ms' s' a/\
  ((∃d tx qv nv ev,a=.ok d/\e=H (G #[I d.c,S d.t,nS,I n,tx,qv,nv,ev,ze,ze])/\Hb w' B tx qv s'.T s'.R/\w'.ownsRow B 9 1 nv s'.ran.length (Ar s'.ran)/\w'.ownsRow B 9 1 ev s'.held.length (Ar s'.held))\/
   (∃b x y cv tx qv A B',a=.bad b/\Jd B w' b [x,y,cv,I 0,nS,nS,nS,nS,A,B']/\e=H (G #[x,y,cv,I n,tx,qv,nS,nS,A,B'])/\Hb w' B tx qv T R))
theorem Ft{w:E}{j:X}{pre ee:L Z}(dy:pre.length=10)(hk:w.heap[h]?=M (O ((pre++ee).toArray) 120 (0,0)))(hj:ee[j]?=M v):w.cell? ⟨h,10+j,N⟩=M v:=by
 rw[cH hk,List.getElem?_toArray,List.getElem?_append_right qg,dy,Nat.add_sub_cancel_left];exact hj
def EndG(B h n:X)(w4:E)(P:Ending->E->Prop):Prop:=∃(xc:Int)(yt:By)(ca:Option Addr)(cn cc g p:X)(qa:Option Addr)(qc:X)(na:Option Addr)(nl nc:X)(ea:Option Addr)(el ec:X)(At Bt:By)(T':L By)(R':L T3)(pre:L Z),
 pre.length=10/\w4.heap[h]?=M (O ((pre++([I xc,S yt,J ca cn cc,I n,J (p_ g) T'.length p,J qa R'.length qc,J na nl nc,J ea el ec,S At,S Bt]:L Z)).toArray) 120 (0,0))/\Hb w4 B (J (p_ g) T'.length p) (J qa R'.length qc) T' R'/\Gu n T' R'/\
 ∀(w':E)(tx qv:Z),Bw w4 w'->Hb w' B tx qv T' R'->P (H (G #[I xc,S yt,J ca cn cc,I n,tx,qv,J na nl nc,J ea el ec,S At,S Bt])) w'
theorem Mx.gen{w4:E}(hv:SpV ss ts)(cm:Gu n T R)(iw:Ay nm)(C9:WorkE B h n ss ts T R nm w4):EndG B h n w4 (Mx B n ss ts T R nm):=by
 obtain⟨ms',s',a,di,pre,ee,dy,hk,⟨d,tx,qv,nv,ev,rfl,rfl,hs,hn,he,_,_⟩|⟨b,x,y,cv,tx,qv,A,B',rfl,he,rfl,hs,_⟩⟩:=C9
 ·obtain⟨g,p,e1⟩:=hs.txa
  subst e1;(obtain⟨qa,qc,e2⟩:∃a cap,qv=J a s'.R.length cap:=by obtain⟨ys,cv,lv,r⟩:=hs.rcs;exact Ax r.row);subst e2;obtain⟨na,nc,e3⟩:=Ax hn;subst e3;obtain⟨ea,ec,e4⟩:=Ax he;subst e4;obtain⟨_,i2,_,_⟩:=Ca.inv hv di (Fj.nil ss ts) cm iw (λb q=>qz);exact⟨_,_,_,_,_,g,p,qa,qc,na,_,nc,ea,_,ec,_,_,s'.T,s'.R,pre,dy,hk,hs,i2,λw' tx qv hb h2=>⟨ms',s',_,di,Or.inl ⟨d,tx,qv,_,_,rfl,rfl,h2,Ae hn hb,Ae he hb⟩⟩⟩
 ·obtain⟨g,p,e1⟩:=hs.txa
  subst e1;(obtain⟨qa,qc,e2⟩:∃a cap,qv=J a R.length cap:=by obtain⟨ys,cv,lv,r⟩:=hs.rcs;exact Ax r.row);subst e2
  have heb:∀w',Bw w4 w'->Jd B w' b [x,y,cv,I 0,nS,nS,nS,nS,A,B']:=λw' hb=>by
   cases b with
   | circle ch=>obtain⟨cv,a,b⟩:=he;exact⟨cv,Ae a hb,b⟩
   | deep nm=>exact he
   | clash A B=>exact he
   | full=>exact he
  have hform:∃xc yt ca cn cc At Bt,x=I xc/\y=S yt/\cv=J ca cn cc/\A=S At/\B'=S Bt:=by
   cases b with
   | circle ch=>
     obtain⟨cv2,k,q⟩:=he;obtain⟨ca,cc,e3⟩:=Ax k;simp only[List.cons.injEq]at q;obtain⟨q1,q2,q3,_,_,_,_,_,q4,q5,_⟩:=q;exact⟨_,_,ca,_,cc,_,_,q1,q2,q3.trans e3,q4,q5⟩
   | deep nm=>have q:_=_:=he;simp only[List.cons.injEq]at q;obtain⟨q1,q2,q3,_,_,_,_,_,q4,q5,_⟩:=q;exact⟨_,_,_,_,_,_,_,q1,q2,q3,q4,q5⟩
   | clash A B=>have q:_=_:=he;simp only[List.cons.injEq]at q;obtain⟨q1,q2,q3,_,_,_,_,_,q4,q5,_⟩:=q;exact⟨_,_,_,_,_,_,_,q1,q2,q3,q4,q5⟩
   | full=>have q:_=_:=he;simp only[List.cons.injEq]at q;obtain⟨q1,q2,q3,_,_,_,_,_,q4,q5,_⟩:=q;exact⟨_,_,_,_,_,_,_,q1,q2,q3,q4,q5⟩
  obtain⟨xc,yt,ca,cn,cc,At,Bt,rfl,rfl,rfl,rfl,rfl⟩:=hform;exact⟨xc,yt,ca,cn,cc,g,p,qa,qc,N,0,0,N,0,0,At,Bt,T,R,pre,dy,hk,hs,cm,λw' tx qv hb h2=>⟨ms',s',_,di,Or.inr ⟨b,_,_,_,tx,qv,_,_,rfl,heb w' hb,rfl,h2⟩⟩⟩
theorem Ew{w:E}{e sz U:X}{u:Z}{xs:L Z}(ho:w.ownsRow B e sz u n xs)(hh:∀x∈l,x.1=h)(hk:w.heap[h]?=M (O cs U (0,0)))(he:U≠e):(Ef w l).ownsRow B e sz u n xs:=Cc ho λb q=>Kg l w λx hx r=>Ah ho he hk (by rw[←hh x hx,←r];exact q)
theorem Hb.setU{w:E}{tx:Z}(k:Hb w B tx qv T R)(hh:∀x∈l,x.1=h)(hk:w.heap[h]?=M (O cs 92 (0,0))):Hb (Go.Proofs.YtoihflimijabjaaGreatDoor.Ef w l) B tx qv T R:=by
 obtain⟨xs,cv,lv,r⟩:=k.rcs;exact⟨Ew k.txt hh hk qh,k.txa,xs,cv,lv,Ew r.row hh hk qh,r.fil,λi hi=>by obtain⟨ys,a,b⟩:=r.code i hi;exact⟨ys,Ew a hh hk qh,b⟩,λi hi=>by obtain⟨ys,a,b⟩:=r.look i hi;exact⟨ys,Ew a hh hk qh,b⟩,r.apc,r.apl⟩
theorem Mx.setU{e:Ending}{w:E}(k:Mx B n ss ts T R nm e w)(hB:B0<=B)(hh:∀x∈l,x.1=h)(hk:w.heap[h]?=M (O cs 92 (0,0))):Mx B0 n ss ts T R nm e (Ef w l):=by
 obtain⟨ms',s',a,di,⟨d,tx,qv,nv,ev,rfl,rfl,hs,hn,he⟩|⟨b,x,y,cv,tx,qv,A,B',rfl,he,rfl,hs⟩⟩:=k
 ·exact⟨ms',s',_,di,Or.inl ⟨d,tx,qv,nv,ev,rfl,rfl,(hs.setU hh hk).base hB,Al (Ew hn hh hk qh) hB,Al (Ew he hh hk qh) hB⟩⟩
 ·refine⟨ms',s',_,di,Or.inr ⟨b,x,y,cv,tx,qv,A,B',rfl,?_,rfl,(hs.setU hh hk).base hB⟩⟩
  cases b with
  | circle ch=>obtain⟨cv,a,b⟩:=he;exact⟨cv,Al (Ew a hh hk qh) hB,b⟩
  | deep nm=>exact he
  | clash A B=>exact he
  | full=>exact he
theorem Sy(n:X)(xa qa sa ta:Option Addr)(tc qc c1 c2:X)(T:L By)(R:L T3)(ss:L S2)(ts:L T2)(nm:By)(w:E)(pj:∀a,xa=M a→∃b off,a=⟨b,off,N⟩)(n9:xa=N→T=[]∧tc=0)(hw:Cz n T R)(hch:Gp ss ts=0)(iw:Ay nm)(du:Jy w xa T qa R)(hrp:Hy w qa R)(yq:Ku w sa ss ta ts)(nf:Hi ss ts):Calls prog 48 #[G #[I n,J xa T.length tc,J qa R.length qc],G #[J sa ss.length c1,J ta ts.length c2],S nm] w λe w'=>Bw w w'/\Mx w.heap.size n ss ts T R nm e w':=by
 have HXA:Hd ((∀a,xa=M a→∃b off,a=⟨b,off,N⟩)∧(xa=N→T=[]∧tc=0)):=⟨pj,n9⟩;clear pj n9;have h1:1<=n:=zo hw.1;have h8:n<=8:=zo hw.2.1;have ii:Gu n T R:=by have:=hw.2.2;simpa using this
 have im:=Ad ii;clear ii;obtain⟨W,eW⟩:=Aj (((w.alloc (O #[I n,J xa T.length tc,J qa R.length qc] 26)).alloc (O #[J sa ss.length c1,J ta ts.length c2] 44)).alloc (O #[I 0,ze,nS,I 0,nS,nS,nS,nS,ze,ze] 92));have HW:Hd (Bw w W):=by show Below _ _ _;rw[←eW];exact((aN _ _).alloc qi _).alloc qj _
 obtain⟨Q,eQ⟩:=Aj w.heap.size;have HQ:Hd (W.heap[Q]?=M (O #[I n,J xa T.length tc,J qa R.length qc] 26 (0,0))):=by show _=_;rw[←eW,←eQ];exact Rm (Rm (Ma _ _))
 have HP:Hd (W.heap[Q+1]?=M (O #[J sa ss.length c1,J ta ts.length c2] 44 (0,0))):=by
  show _=_;rw[←eW,←eQ];exact qig
 have HZ:Hd (W.heap[Q+1+1]?=M (O #[I 0,ze,nS,I 0,nS,nS,nS,nS,ze,ze] 92 (0,0))):=by
  show _=_;rw[←eW,←eQ];have:=Ma ((w.alloc (O #[I n,J xa T.length tc,J qa R.length qc] 26)).alloc (O #[J sa ss.length c1,J ta ts.length c2] 44)) (O #[I 0,ze,nS,I 0,nS,nS,nS,nS,ze,ze] 92);exact qiv
 have HWD:=Ad hw;have HCH:=Ad hch;have vi:=Ad iw;have gu:=Ad du;have wy:=Ad hrp;have H9:=Ad yq;have HSS:=Ad nf;clear hw hch iw du hrp yq nf;obtain⟨q0,q1,q2⟩:=Ab HQ.o;obtain⟨p0,p1⟩:=Bg HP.o;go_enter func48,ntmps48;go_wp2_with fail
 try rw[eQ]
 clear eW q0 q1 q2;refine(Ei n _ _ _ _ T R W (gu.o.bl HW.o)).mono ?_;rintro e w1 ⟨ah,b,rfl,hbi⟩;obtain rfl:b=true:=hbi.2 HWD.o;clear hbi;replace HQ:=Ad (Ac HQ.o ah);replace HP:=Ad (Ac HP.o ah);replace HZ:=Ad (Ac HZ.o ah);replace HW:=Ad (bt HW.o ah);clear ah;clear p0 p1;obtain⟨p0,p1⟩:=Bg HP.o;go_wp2_with fail;clear p0 p1;refine(Fm sa ta c1 c2 ss ts w1 (H9.o.bl HW.o) HSS.o).mono ?_;rintro e w2 ⟨a9,rfl⟩;rw[HCH.o];replace HQ:=Ad (Ac HQ.o a9);replace HP:=Ad (Ac HP.o a9);replace HZ:=Ad (Ac HZ.o a9);replace HW:=Ad (bt HW.o a9);clear a9;go_wp2_with fail;refine(Bb nm w2 (zo vi.o.2.1)).mono ?_;rintro e w3 ⟨rfl,rfl⟩;rw[Cr vi.o];obtain⟨q0,q1,q2⟩:=Ab HQ.o;obtain⟨p0,p1⟩:=Bg HP.o;go_wp2_with fail;clear q0 q1 q2 p0 p1;refine(Zu sa ta qa c1 c2 n xa tc qc ss ts T R nm w2 HXA.o.1 HXA.o.2 (Qav (H9.o.bl HW.o) HCH.o) h1 h8 (gu.o.st.bl HW.o) (wy.o.bl HW.o) im.o vi.o (sto_cp im.o)).mono ?_;rintro e w4 ⟨bx,h,hh,rfl,C9⟩;have h24:w.heap.size<=w2.heap.size:=HW.o.size;have h24w:w2.heap.size<=w4.heap.size:=bx.size;replace HQ:=Ad (Ac HQ.o bx);replace HP:=Ad (Ac HP.o bx);replace HZ:=Ad (Ac HZ.o bx);replace HW:=Ad (bt HW.o bx);clear bx;have HW4:=HW;have hZlt:Q+1+1<w4.heap.size:=Bq HZ.o;obtain⟨xc,yt,ca,cn,cc,g,p,sd,I4,na,nl,nc,ea,el,ec,At,Bt,T',R',pre,dy,hk,hs,ho,d6⟩:=Mx.gen (Qav H9.o HCH.o).v im.o vi.o C9;have I6:w4.cell? ⟨h,10,N⟩=M (I xc):=Ft (j:=0) dy hk rfl;have O0:w4.cell? ⟨h,11,N⟩=M (S yt):=Ft (j:=1) dy hk rfl;have S4:w4.cell? ⟨h,12,N⟩=M (J ca cn cc):=Ft (j:=2) dy hk rfl;have k13:w4.cell? ⟨h,13,N⟩=M (I n):=Ft (j:=3) dy hk rfl;have k14:w4.cell? ⟨h,14,N⟩=M ((J (p_ g) T'.length p)):=Ft (j:=4) dy hk rfl;have k15:w4.cell? ⟨h,15,N⟩=M ((J sd R'.length I4)):=Ft (j:=5) dy hk rfl;have k16:w4.cell? ⟨h,16,N⟩=M (J na nl nc):=Ft (j:=6) dy hk rfl;have k17:w4.cell? ⟨h,17,N⟩=M (J ea el ec):=Ft (j:=7) dy hk rfl;have k18:w4.cell? ⟨h,18,N⟩=M (S At):=Ft (j:=8) dy hk rfl;have k19:w4.cell? ⟨h,19,N⟩=M (S Bt):=Ft (j:=9) dy hk rfl;have HS:=Ad hs;have HO:=Ad ho;have Y2:=Ad d6;clear hs ho d6 C9 hk dy
 go_upto_region 4 with fail
 clear I6 O0 S4 k13 k14 k15 k16 k17 k18 k19;obtain⟨RR,eRR⟩:=Aj w4.heap.size;obtain⟨w6,e6⟩:=Aj (w4.alloc (O #[I xc,S yt,J ca cn cc,I n,J (p_ g) T'.length p,J sd R'.length I4,J na nl nc,J ea el ec,S At,S Bt] 92));have cj:Bw w4 w6:=qba;have ij:Hd (w6.heap[RR]?=M (O #[I xc,S yt,J ca cn cc,I n,J (p_ g) T'.length p,J sd R'.length I4,J na nl nc,J ea el ec,S At,S Bt] 92 (0,0))):=qcd;rw[e6]
 try rw[eRR]
 clear e6;have HB6:=Ad cj;replace HS:=Ad (HS.o.bl cj);replace HZ:=Ad (Ac HZ.o cj);replace HW:=Ad (bt HW.o cj);clear cj HQ HP;obtain⟨-,-,-,k3,k4,k5⟩:=ck6 ij.o;go_wp2_with fail;clear k3 k4 k5;refine(copy_own HS.o HO.o).mono ?_;rintro e w7 ⟨bv,g7,p7,qa7,qc7,rfl,T4⟩;have I2:=Ad (bt HB6.o bv);replace ij:=Ad (Ac ij.o bv);replace HZ:=Ad (Ac HZ.o bv);have h26:w2.heap.size<=w6.heap.size:=Nat.le_trans h24w HB6.o.size;have xw:=Ad (T4.base h26);clear T4 bv;obtain⟨k0,k1,k2,k3,k4,k5,k6,k7,k8,k9⟩:=Km ij.o;have kf:=fZ ij.o
 go_upto_region 5 with fail
 obtain⟨l,el⟩:∃l:L (X×X×Z),l=[(RR,3,I n),(RR,4,J (p_ g7) T'.length p7),(RR,5,J qa7 R'.length qc7)]:=⟨_,rfl⟩;have jw:∀x∈l,x.1=RR:=qbv;have jk:=Jg l w7 _ jw ij.o;have o8:Bw w4 (Ef w7 l):=Ek l w7 I2.o (λx hx=>by rw[jw x hx];omega);have hVS:=xw.o.setU jw ij.o;have hVZ:(Ef w7 l).heap[Q+1+1]?=M (O #[I 0,ze,nS,I 0,nS,nS,nS,nS,ze,ze] 92 (0,0)):=(Kg l w7 (λx hx q=>by rw[jw x hx]at q;omega)).trans HZ.o;obtain⟨A,eA⟩:=Aj (Ef w7 l);rw[eA]at jk o8 hVS hVZ;rw[el]at jk eA;simp only[Ef,List.foldl]at eA;rw[eA];simp only[List.foldl,List.setIfInBounds_toArray,List.set_cons_zero,List.set_cons_succ]at jk;have HBR:=Ad (Y2.o A _ _ o8 hVS);have HA:=Ad jk;have F1:=Ad hVZ;have HWA:=Ad (HW4.o.trans (o8.mono HW4.o.size));clear jk o8 hVS hVZ eA el jw kf k0 k1 k2 k3 k4 k5 k6 k7 k8 k9;have k0:=cK HA.o 0;have z0:=cK F1.o 0;have k1:=cK HA.o 1;have z1:=cK F1.o 1;have k2:=cK HA.o 2;have z2:=cK F1.o 2;have k3:=cK HA.o 3;have z3:=cK F1.o 3;have k4:=cK HA.o 4;have z4:=cK F1.o 4;have k5:=cK HA.o 5;have z5:=cK F1.o 5;have k6:=cK HA.o 6;have z6:=cK F1.o 6;have k7:=cK HA.o 7;have z7:=cK F1.o 7;have k8:=cK HA.o 8;have z8:=cK F1.o 8;have k9:=cK HA.o 9;have z9:=cK F1.o 9;have kf:=fZ F1.o;obtain⟨l,el⟩:∃l:L (X×X×Z),l=[(Q+1+1,0,I xc),(Q+1+1,1,S yt),(Q+1+1,2,J ca cn cc),(Q+1+1,3,I n),(Q+1+1,4,(J (p_ g7) T'.length p7)),(Q+1+1,5,(J qa7 R'.length qc7)),(Q+1+1,6,J na nl nc),(Q+1+1,7,J ea el ec),(Q+1+1,8,S At),(Q+1+1,9,S Bt)]:=⟨_,rfl⟩;have jw:∀x∈l,x.1=Q+1+1:=qbv;have jk:=Jg l A _ jw F1.o;have A9:=HBR.o.setU (show w.heap.size<=w2.heap.size from h24) jw F1.o;have o8:Bw w (Ef A l):=Ek l A HWA.o (λx hx=>by rw[jw x hx];omega);obtain⟨V,eV⟩:=Aj (Ef A l);rw[eV]at jk A9 o8;rw[el]at jk eV;simp only[Ef,List.foldl]at eV;simp only[List.foldl,List.setIfInBounds_toArray,List.set_cons_zero,List.set_cons_succ]at jk;have HV:=Ad jk;have HBR2:=Ad A9;have Q5:=Ad o8;clear jk A9 o8 el jw;go_wp2_with fail
 try rw[eV]
 obtain⟨y0,y1,y2,y3,y4,y5,y6,y7,y8,y9⟩:=Km HV.o;exact bR (v:=G #[I xc,S yt,J ca cn cc,I n,(J (p_ g7) T'.length p7),(J qa7 R'.length qc7),J na nl nc,J ea el ec,S At,S Bt]) qey rfl (by first|exact⟨Q5.o,HBR2.o⟩|(rw[←eQ];exact⟨Q5.o,HBR2.o⟩))
theorem Gr.setU{w:E}(k:Gr w B qv R)(hh:∀x∈l,x.1=h)(hk:w.heap[h]?=M (O cs 92 (0,0))):Gr (Go.Proofs.YtoihflimijabjaaGreatDoor.Ef w l) B qv R:=by
 obtain⟨xs,cv,lv,r⟩:=k;exact⟨xs,cv,lv,Ew r.row hh hk qh,r.fil,λi hi=>by obtain⟨ys,a,b⟩:=r.code i hi;exact⟨ys,Ew a hh hk qh,b⟩,λi hi=>by obtain⟨ys,a,b⟩:=r.look i hi;exact⟨ys,Ew a hh hk qh,b⟩,r.apc,r.apl⟩
structure Cst where
 hb:X
 hs:X
 sb:X
 n:X
section
variable {B h mb k:X} {sv tv fv:Z} {w w':E} {ms:Mm} {mk st:L By} {al:X} {av kv:Z} {vs:By->Z}
end
def Ext(ms ms':Mm):Prop:=∃r,ms'=ms++r
theorem Ext.refl(ms:Mm):Ext ms ms:=⟨[],qi⟩
theorem Ext.trans{a b c:Mm}(h:Ext a b)(k:Ext b c):Ext a c:=by
 obtain⟨r,rfl⟩:=h;obtain⟨q,rfl⟩:=k;exact⟨r++q,by rw[List.append_assoc]⟩
structure Rv where
 tx:Z
 su:Z
 qv:Z
 nv:Z
 ev:Z
 uv:Z
 dv:Z
 sn:X
theorem Gr.kept{w:E}(k:Gr w B v R)(h1:∀b,v.ownBlock=M b->w'.heap[b]?=w.heap[b]?)(h2:∀(b:X)(cs:Array Z)(T:TypeId),(T=103\/T=79)->w.heap[b]?=M (O cs T (0,0))->w'.heap[b]?=M (O cs T (0,0))):Gr w' B v R:=by
 obtain⟨xs,cv,lv,r⟩:=k
 have kk:∀ {e sz n:X} {u:Z} {ys:L Z},w.ownsRow B e sz u n ys->(e=103\/e=79)->w'.ownsRow B e sz u n ys:=λho he=>Cc ho λb q=>by
  obtain⟨cs,c1⟩:=Hk ho b q;rw[c1];exact h2 b cs _ he c1
 exact⟨xs,cv,lv,Cc r.row h1,r.fil,λi hi=>by obtain⟨ys,a,b⟩:=r.code i hi;exact⟨ys,kk a (Or.inl rfl),b⟩,λi hi=>by obtain⟨ys,a,b⟩:=r.look i hi;exact⟨ys,kk a (Or.inr rfl),b⟩,r.apc,r.apl⟩
section
variable {B h mb:X} {C:Cst} {ss:L S2} {ts:L T2} {w w':E} {ms:Mm} {s:Sb} {av kv:Z} {r:Rv}
end
section
variable {B h mb k:X} {C:Cst} {sv tv:Z} {ss:L S2} {ts:L T2} {w w':E} {ms:Mm} {mk st:L By} {al:X} {av kv:Z} {vs:By->Z} {s:Sb} {r r' r'':Rv}
end
def clA:He->ByteArray
 | .clash A _=>A
 | _=>⟨#[]⟩
def clB:He->ByteArray
 | .clash _ B=>B
 | _=>⟨#[]⟩
theorem Jd.kept{w:E}{l:L Z}(h:Jd B w b l)(hk:∀(e sz n:X)(u:Z)(xs:L Z),w.ownsRow B e sz u n xs->e≠92->w'.ownsRow B e sz u n xs):Jd B w' b l:=by
 cases b with
 | circle ch=>obtain⟨cv,a,b⟩:=h;exact⟨cv,hk _ _ _ _ _ a qh,b⟩
 | deep nm=>exact h
 | clash A B=>exact h
 | full=>exact h
theorem Jd.base{w:E}{l:L Z}(h:Jd B w b l)(hB:B0<=B):Jd B0 w b l:=by
 cases b with
 | circle ch=>obtain⟨cv,a,b⟩:=h;exact⟨cv,Al a hB,b⟩
 | deep nm=>exact h
 | clash A B=>exact h
 | full=>exact h
section
variable {B B0:X} {n:Int} {ss:L S2} {ts:L T2} {T:L By} {R:L T3} {nm:By} {v:Z} {w w':E}
end
structure BD where
 c:Int
 t:By
 ch:L By
 n:Int
 T:L By
 R:L T3
 ran:L By
 held:L By
 A:By
 B:By
structure BD.Sm (d:BD):Prop where
 ch:d.ch.length≤1048576
 T:d.T.length≤1048576
 R:Od d.R
 ran:d.ran.length≤1048576
 held:d.held.length≤1048576
def txF:He→ByteArray
 | .deep nm=>nm
 | _=>⟨#[]⟩
def chF:He→L By
 | .circle ch=>ch
 | _=>[]
def Qc(n:Int)(ss:L S2)(ts:L T2)(T:L By)(R:L T3)(nm:By)(d:BD):Prop:=
 (¬ (Cz n T R∧Gp ss ts=0∧Ay nm)∧d=⟨9,⟨#[]⟩,[],n,T,R,[],[],⟨#[]⟩,⟨#[]⟩⟩)∨
 ((Cz n T R∧Gp ss ts=0∧Ay nm)∧∃ms' s' a,Ca ss ts n.toNat [] ⟨T,R,[],[]⟩ [] (.make nm) ms' s' a∧
   ((∃m,a=.ok m∧d=⟨m.c,m.t,[],n,s'.T,s'.R,s'.ran,s'.held,⟨#[]⟩,⟨#[]⟩⟩)∨(∃b,a=.bad b∧d=⟨Jm b,txF b,chF b,n,T,R,[],[],clA b,clB b⟩)))
theorem Qc.uniq{n:Int}{d d':BD}(h:Qc n ss ts T R nm d)(k:Qc n ss ts T R nm d')(hv:Gp ss ts=0→SpV ss ts):d'=d:=by
 rcases h with⟨h0,rfl⟩|⟨h0,ms,s,a,hb,h1⟩
 ·rcases k with⟨k0,rfl⟩|⟨k0,_⟩
  ·rfl
  ·exact absurd k0 h0
 ·rcases k with⟨k0,_⟩|⟨k0,d7,s2,a2,kb,k1⟩
  ·exact absurd h0 k0
  ·have ym:=hv h0.2.1
   obtain⟨rfl,rfl,rfl⟩:=Ca.unique ym.ascS ym.ascT hb kb
   rcases h1 with⟨m,rfl,rfl⟩|⟨b,rfl,rfl⟩
   ·rcases k1 with⟨m2,e,rfl⟩|⟨b2,e,_⟩
    ·cases e;rfl
    ·cases e
   ·rcases k1 with⟨m2,e,_⟩|⟨b2,e,rfl⟩
    ·cases e
    ·cases e;rfl
theorem Pp(w:E)(lo:X):w.ownsRow lo 9 1 nS ([]:L By).length (Ar []):=World.ownsRow_nil _ _ _ _
theorem Jd.says{w:E}{x y cv A B':Z}(h:Jd B w b [x,y,cv,I 0,nS,nS,nS,nS,A,B']):x=I (Jm b)∧y=S (txF b)∧w.ownsRow B 9 1 cv (chF b).length (Ar (chF b))∧A=S (clA b)∧B'=S (clB b):=by
 cases b with
 | circle ch=>
   obtain⟨cv',a,e⟩:=h;simp only[List.cons.injEq,and_true,true_and]at e;obtain⟨rfl,rfl,rfl,rfl,rfl⟩:=e;exact⟨rfl,rfl,a,rfl,rfl⟩
 | deep nm'=>
   exact qee
 | clash AN AL=>
   exact qee
 | full=>
   exact qee
structure BW (w:E) (lo:X) (d:BD) (cv tx qv nv ev:Z) (zs:L Z) (kv lv:X→Z):Prop where
 ch:w.ownsRow lo 9 1 cv d.ch.length (Ar d.ch)
 txs:w.ownsRow lo 9 1 tx d.T.length (Ar d.T)
 rq:Oc w lo qv d.R zs kv lv
 ran:w.ownsRow lo 9 1 nv d.ran.length (Ar d.ran)
 held:w.ownsRow lo 9 1 ev d.held.length (Ar d.held)
abbrev bV(d:BD)(cv tx qv nv ev:Z):Array Z:=#[I d.c,S d.t,cv,I d.n,tx,qv,nv,ev,S d.A,S d.B]
section
variable {w w':E} {lo:X} {d:BD} {cv tx qv nv ev:Z} {zs:L Z} {kv lv:X→Z}
theorem BW.kept(h:BW w lo d cv tx qv nv ev zs kv lv)(hk:∀(e sz n:X)(u:Z)(xs:L Z),w.ownsRow lo e sz u n xs→e≠92→w'.ownsRow lo e sz u n xs):BW w' lo d cv tx qv nv ev zs kv lv:=
 ⟨hk _ _ _ _ _ h.ch qh,hk _ _ _ _ _ h.txs qh,⟨hk _ _ _ _ _ h.rq.row qh,h.rq.fil,λi hi=>by obtain⟨ys,a,b⟩:=h.rq.code i hi;exact⟨ys,hk _ _ _ _ _ a qh,b⟩,λi hi=>by obtain⟨ys,a,b⟩:=h.rq.look i hi;exact⟨ys,hk _ _ _ _ _ a qh,b⟩,h.rq.apc,h.rq.apl⟩,hk _ _ _ _ _ h.ran qh,hk _ _ _ _ _ h.held qh⟩
theorem BW.bl(h:BW w lo d cv tx qv nv ev zs kv lv)(hb:Bw w w'):BW w' lo d cv tx qv nv ev zs kv lv:=h.kept λ_ _ _ _ _ ho _=>Ae ho hb
theorem BW.setU{h0:X}{cs:Array Z}{l:L (X×X×Z)}(h:BW w lo d cv tx qv nv ev zs kv lv)(hh:∀x∈l,x.1=h0)(hk:w.heap[h0]?=M (O cs 92 (0,0))):BW (Ef w l) lo d cv tx qv nv ev zs kv lv:=h.kept λ_ _ _ _ _ ho he=>Ew ho hh hk (λe=>he e.symm)
end
theorem Ca.ext(hv:SpV ss ts){st:L By}(h:Ca ss ts n ms s st j ms' s' a)(hi:Fj ss ts ms st)(hs:Ka n s)(hj:JobB s j)(ha:∀b,a≠.bad b):Ext ms ms':=(h.inv hv hi hs hj ha).2.2.1.ex
theorem Fd.nocirc{T':L By}{xs:L By}{b:Option He}(h:Fd n T xs T' b):∀ch,b≠M (.circle ch):=by
 induction h<;>(first|(intro ch e;cases e;done)|(rename_i ih;exact ih))
theorem Gv.nocirc{is:L I3}{ls:L G3}{c:Int}{t:By}{b:Option He}(h:Gv n s is ls c t s' b):∀ch,b≠M (.circle ch):=by
 cases h with
 | ok _ _=>intro ch e;cases e
 | recs _ _=>intro ch e;cases e
 | bad h=>intro ch e;exact h.nocirc ch e
theorem Ca.chainLen{st:L By}(h:Ca ss ts n ms s st j ms' s' a):st.length≤60→∀ch,a=.bad (.circle ch)→ch.length≤60:=by
 induction h with
 | circle h1 h2 h3 h4=>intro lj ch e;cases e;rw[List.length_drop];omega
 | fell h1 h2 h3 h4 h5 h6 h7 ih=>intro lj ch e;exact ih qj ch e
 | overbad h1 h2=>intro lj ch e;cases e;exact absurd rfl (h2.nocirc ch)
 | tfell _ ih=>intro lj ch e;exact ih lj ch e
 | rfell _ _ _ ih=>intro lj ch e;exact ih lj ch e
 | tother _ _ _ ih=>intro lj ch e;exact ih lj ch e
 | tno _ _ _ _ _ ih=>intro lj ch e;exact ih lj ch e
 | tbad _ _ _ ih=>intro lj ch e;exact ih lj ch e
 | hhas _ _ _ _ ih=>intro lj ch e;exact ih lj ch e
 | hask _ _ _ _ _ _ ih=>intro lj ch e;exact ih lj ch e
 | haskbad _ _ _ ih=>intro lj ch e;exact ih lj ch e
 | has _ _ ih=>intro lj ch e;exact ih lj ch e
 | asked _ _ _ _ ih=>intro lj ch e;exact ih lj ch e
 | askbad _ _ ih=>intro lj ch e;exact ih lj ch e
 | _=>intro lj ch e;cases e
theorem Qc.sm{n:Int}{d:BD}(h:Qc n ss ts T R nm d)(hv:Gp ss ts=0→SpV ss ts)(hl:ts.length≤1048576)(hT:T.length≤1048576)(hR:Od R):d.Sm:=by
 rcases h with⟨_,rfl⟩|⟨h0,ms,s,a,hb,⟨m,rfl,rfl⟩|⟨b,rfl,rfl⟩⟩
 ·exact⟨Nat.zero_le _,hT,hR,Nat.zero_le _,Nat.zero_le _⟩
 ·have ym:=hv h0.2.1
  have cm:Ka n.toNat ⟨T,R,[],[]⟩:=h0.1.2.2;obtain⟨_,i2,_,_⟩:=Ca.inv ym hb (Fj.nil ss ts) cm h0.2.2 (λb q=>qz);have hc:=Ca.cntM ym hb (Fj.nil ss ts) cm h0.2.2 (λb q=>qz) rfl (Nat.zero_le _);have h4:=My ts ms [];unfold Mb at hc;simp only[List.length_nil,Nat.add_zero]at hc;refine⟨Nat.zero_le _,by have:=i2.1.1;show s.T.length≤_;omega,⟨by have:=i2.2.1;show s.R.length≤_;omega,λi hi=>?_⟩,by show s.ran.length≤_;omega,by show s.held.length≤_;omega⟩;have h5:=i2.2.2 i hi;have h6:=(Fz h5.1).2;have h7:=h5.2.2.1;exact⟨by show(qx s.R i).code.length≤1048576;omega,by show(qx s.R i).looks.length≤1048576;omega⟩
 ·refine⟨?_,hT,hR,Nat.zero_le _,Nat.zero_le _⟩
  cases b with
  | circle ch=>have:=hb.chainLen (Nat.zero_le _) ch rfl;show ch.length≤_;omega
  | deep _=>exact Nat.zero_le _
  | clash _ _=>exact Nat.zero_le _
  | full=>exact Nat.zero_le _
end Go.Proofs.YtoihflimijabjaaGreatDoor
