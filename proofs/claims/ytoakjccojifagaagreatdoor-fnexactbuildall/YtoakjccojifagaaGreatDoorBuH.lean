import Derived.Test.YtoakjccojifagaaGreatDoorBuF
namespace Go.Proofs.YtoakjccojifagaaGreatDoor
open _root_.Go.Proofs.Tryz Go.RowKit Go.Deep
open Value renaming slice->J,string->S,bool->F,agg->G,pointer->D
open Option renaming some->M,none->N
open Obj renaming cells->O
open Go renaming Value->Z,World->E
open Ending renaming returned->H
open _root_ renaming List->L,Nat->X
set_option linter.unusedVariables false
set_option linter.unusedSimpArgs false
set_option maxHeartbeats 8000000
set_option maxRecDepth 100000
theorem Ye(B h mb:X)(C:Ga)(sv tv:Z)(ss:L S2)(ts:L T2)(ms:Mm)(s:Sb)(st:L By)(av kv:Z)(vs:By->Z)(r:Rv)(nm:By)(d:Md)(w:E)(q:Je B h mb C sv tv ss ts w ms st av kv vs s r)(hB:B<=w.heap.size)(hn:nm.size<=60)(hk:fd ms nm=M d):Calls prog 113 #[D (p_ h),S nm] w λe w'=>Nm B h mb C sv tv ss ts ms s st av kv vs r nm (λd vs'=>Fj d (vs' nm)) w e w':=by
 obtain⟨W,eW⟩:=Aj (w.alloc (O #[F false,I 0,ze,nS,ze,nS] 156))
 have bq:Bw w W:=qaz
 have B6:w.heap.size<W.heap.size:=qdb
 have hhw:h<w.heap.size:=Ag q.mkr.blk
 have s1:=q.bl bq
 have HR:Hd (W.heap[w.heap.size]?=M (O #[F false,I 0,ze,nS,ze,nS] 156 (0,0))):=by
  exact qbo
 obtain⟨n,J9,mz⟩:=s1.mkr.map
 have eg:=mz.look (k:=nm) qm
 have hmo:Hk ms st vs nm=M (Fj d (vs nm)):=Rr hk
 rw[hmo]at eg
 obtain⟨la,ln,lc,hlv⟩:=q.mkr.vsl nm
 unfold Fj at eg
 rw[hlv]at eg
 simp only[Option.getD_some,Option.isSome_some]at eg
 obtain⟨_,_,c2,_⟩:=s1.mkr.cells
 have HD:Hd (Ba ss ts C.n ms s st (.make nm) ms s (.ok d)):=.known hk
 have HS:Hd (Je B h mb C sv tv ss ts W ms st av kv vs s r):=s1
 have HLV:Hd (vs nm=J la ln lc):=hlv
 have HK:Hd (KQ B h mb C av kv r r w W):=KQ.of_below q bq hB
 obtain⟨⟨z0,z1,z2,z3,z4,z5⟩,zf⟩:=Sf HR.o
 obtain⟨dc,dt,dls⟩:=d
 obtain⟨fo,efo⟩:=Aj (Bj dc dt)
 simp only[efo]at eg
 have EF:Hd (Bj dc dt=fo):=efo
 clear efo
 clear hk hmo mz s1 q bq
 go_enter func113,ntmps113
 go_wp2_with fail
 have e6:=Iq HR.o (F true) (I dc) (S dt) nS (S fo) (J la ln lc)
 have jd:=HK.o.set6 hB (Nat.le_refl _) (F true) (I dc) (S dt) nS (S fo) (J la ln lc)
 have zk:=HS.o.set6 HR.o qd (F true) (I dc) (S dt) nS (S fo) (J la ln lc)
 have e7:=blk_keep' (Ai _ (O #[F true,I dc,S dt,nS,S fo,J la ln lc] 156)) e6
 obtain⟨⟨y0,y1,y2,y3,y4,y5⟩,_⟩:=Sf e7
 exact bR (v:=Fj ⟨dc,dt,dls⟩ (vs nm)) (by simp[results,results113,go_sem,Fj,HLV.o,EF.o,y0,y1,y2,y3,y4,y5]) rfl ⟨ms,s,_,HD.o,Or.inl ⟨_,av,kv,vs,r,rfl,rfl,zk.bl (Ai _ _),jd.after (An.refl _ _) (An.refl _ _) zk (Ai _ _) (Nat.le_trans hB jd.bel.size),An.refl _ _,An.refl _ _,Nat.le_refl _⟩⟩
theorem Vv(B h mb:X)(C:Ga)(sv tv:Z)(ss:L S2)(ts:L T2)(ms:Mm)(s:Sb)(st:L By)(av kv:Z)(vs:By->Z)(r:Rv)(nm:By)(i:X)(w:E)(q:Je B h mb C sv tv ss ts w ms st av kv vs s r)(hB:B<=w.heap.size)(hn:nm.size<=60)(hl:st.length<=60)(hk:fd ms nm=N)(hi:i<st.length)(n8:nx st i=nm)(hif:∀j,j<i->nx st j≠nm):Calls prog 113 #[D (p_ h),S nm] w λe w'=>Nm B h mb C sv tv ss ts ms s st av kv vs r nm (λd vs'=>Fj d (vs' nm)) w e w':=by
 obtain⟨W,eW⟩:=Aj ((w.alloc (O #[F false,I 0,ze,nS,ze,nS] 156)))
 have bq:Bw w W:=qaz
 have s1:=q.bl bq
 obtain⟨n,J9,mz⟩:=s1.mkr.map
 have eg:=mz.look (k:=nm) qm
 have hmo:Hk ms st vs nm=M Hy:=Qb hk ⟨i,hi,n8⟩
 rw[hmo]at eg
 unfold Hy at eg
 simp only[Option.getD_some,Option.isSome_some]at eg
 obtain⟨V,eV⟩:=Aj (W.alloc (O #[F false,I 0,ze,nS,ze,nS] 156))
 have pk:Bw w V:=by rw[<- eV];exact Ay bq (Ai _ _)
 have s2:=q.bl pk
 obtain⟨a,cap,rfl⟩:∃a cap,kv=J a st.length cap:=by
  rcases s2.mkr.stk.2 with⟨e,h0⟩|⟨g,cap,cur,e,_⟩
  ·exact qeb
  ·exact⟨_,_,e⟩
 obtain⟨g,rfl⟩:∃g,a=p_ g:=by
  rcases s2.mkr.stk.2 with⟨e,h0⟩|⟨g,cap,cur,e,_⟩
  ·omega
  ·simp only[Value.slice.injEq]at e;exact⟨g,e.1⟩
 have jm:∀j,j<st.length->V.cell? ⟨g,0+j,N⟩=M (S (st.getD j ByteArray.empty)):=λj hj=>by
  rw[Nat.zero_add,s2.mkr.stk.cellAt j qb,strV_get' st j hj]
 have HIX:Hd (Calls prog 143 #[J (p_ g) st.length cap,S nm] V λe w'=>e=H (I (i:X))/\w'=V):=by
  have q:=Tryz.slices_Index_string g 0 st.length cap st nm V (Nat.le_refl _) qb jm;rw[Lib.idxOfS_hit st st.length i nm hi (Nat.le_refl _) n8 hif]at q;exact q
 have HCL:Hd (Calls prog 81 #[J (M ⟨g,i,N⟩) (st.length-i) (cap-i)] V λe w'=>∃v',e=H v'/\w'.ownsRow V.heap.size 9 1 v' (st.length-i) (((st.drop i).take (st.length-i)).map (Value.string))/\v'≠nS/\Bw V w'):=by
  refine Tryz.slices_Clone_string g i (st.length-i) (cap-i) (st.drop i) V (by rw[List.length_drop];exact Nat.le_refl _) qb (λj hj=>?_);rw[List.length_drop]at hj;have:=jm (i+j) qb;rw[Nat.zero_add]at this;rw[this];congr 2;rw[gG,gG,List.getElem?_drop]
 obtain⟨_,_,c2,_,_,_,_⟩:=s1.mkr.cells
 obtain⟨_,_,_,_,d4,_,_⟩:=s2.mkr.cells
 have t0:V.cell? ⟨W.heap.size,0,N⟩=M (F false):=by rw[<- eV];simp[go_sem]
 have hcp:st.length<=cap:=by
  rcases s2.mkr.stk.2 with⟨e,h0⟩|⟨g',ai,cur,e,r⟩
  ·simp at e
  ·simp only[Value.slice.injEq]at e;have:=r.2.2.1;omega
 have HD:Hd (Ba ss ts C.n ms s st (.make nm) ms s (.bad (.circle (st.drop i)))):=.circle hk hi n8 hif
 have bh:Hd (Je B h mb C sv tv ss ts V ms st av _ vs s r):=s2
 have HQ:=Ad q
 have HB:Hd (Bw w V):=pk
 clear hk hmo mz s1 q s2 bq jm pk n8 hif
 have EV:Hd (W.alloc (O #[F false,I 0,ze,nS,ze,nS] 156)=V):=eV
 clear eV
 go_enter func113,ntmps113
 go_upto_region 2 with fail
 rw[EV.o]
 clear EV eW
 go_wp2_with (first|(go_at_call 143;refine HIX.o.mono ?_;rintro e w2 ⟨rfl,rfl⟩))
 refine HCL.o.mono ?_
 rintro e w3 ⟨v',rfl,ah,T4,au⟩
 obtain⟨g3,cp3,rfl⟩:∃g cp,v'=J (p_ g) (st.length-i) cp:=by
  rcases ah.2 with⟨e,_⟩|⟨g,cp,cur,e,_⟩
  ·exact absurd e T4
  ·exact⟨g,cp,e⟩
 have HO:Hd (w3.ownsRow w2.heap.size 9 1 (J (p_ g3) (st.length-i) cp3) (st.length-i) (Av (st.drop i))):=by
  rw[List.take_of_length_le (by rw[List.length_drop];exact Nat.le_refl _)]at ah;exact ah
 have d6:Hd (Bw w2 w3):=au
 clear ah au T4 HIX HCL
 go_wp2_with fail
 have ik:=HB.o.size
 have iu:=Af bh.o.rs.bd d6.o
 refine⟨rfl,ms,s,_,HD.o,Or.inr ⟨_,_,r,rfl,rfl,⟨qer,qer,_,_,_,rfl,?_⟩,KQ.of_below HQ.o (Ay HB.o d6.o) hB⟩⟩
 have:=own_base' HO.o (B':=B) qb
 rw[List.length_drop]
 exact this
theorem Rn{B h mb R:X}{C:Ga}{sv tv:Z}{ss:L S2}{ts:L T2}{ms:Mm}{s:Sb}{st:L By}{av kv:Z}{vs:By->Z}{r:Rv}{nm:By}{w U:E}{u0 u1 u2 u3 u4 u5:Z}{c:Int}{t:By}(q:BS B h mb 2 C sv tv ss ts U ms st st (ms.length+st.length+1) av kv vs s r)(hk:KQ B h mb C av kv r r w U)(hR:U.heap[R]?=M (O #[u0,u1,u2,u3,u4,u5] 156 (0,0)))(hB:B<=R)(hw:w.heap.size<=R)(hl:fd ms nm=N)(hd:Ba ss ts C.n ms s st (.make nm) (ms++[(nm,⟨c,t,[]⟩)]) s (.ok ⟨c,t,[]⟩)):Vh B h mb C sv tv ss ts ms s st av kv r nm w (H (Ou ⟨c,t,[]⟩ nS)) ((((((U.setCell ⟨R,0,N⟩ (F false)).setCell ⟨R,1,N⟩ (I c)).setCell ⟨R,2,N⟩ (S t)).setCell ⟨R,3,N⟩ nS).setCell ⟨R,4,N⟩ ze).setCell ⟨R,5,N⟩ nS):=by
 refine Or.inl ⟨ms,st,ms++[(nm,⟨c,t,[]⟩)],s,⟨c,t,[]⟩,nS,av,kv,vs,r,rfl,⟨N,0,0,rfl⟩,?_,λx _=>Iff.rfl,rfl,hl,hd,hk.set6 hB hw _ _ _ _ _ _,An.refl _ _,An.refl _ _,?_⟩
 ·have mq:(ms++[(nm,(⟨c,t,[]⟩:Md))]).length+st.length=ms.length+st.length+1:=qh
  rw[mq];exact(q.le (k':=1) qb).set6 hR qd _ _ _ _ _ _
 ·have:=Uc ts ms (nm,⟨c,t,[]⟩) st
  omega
theorem Up(W0:E)(h mb:X)(C:Ga)(sa ta:Option Addr)(c1 c2:X)(ss:L S2)(ts:L T2)(nm:By)(ms:Mm)(s:Sb)(st:L By)(av kv:Z)(vs:By->Z)(r:Rv)(w:E)(hE:He W0 sa ta ss ts)(q:BS W0.heap.size h mb 2 C (J sa ss.length c1) (J ta ts.length c2) ss ts w ms st st (ms.length+st.length+1) av kv vs s r)(hp:Ff ss ts C.n ms s st r.sn 0)(hW:Bw W0 w)(hk:fd ms nm=N)(cw:¬ Eg st nm)(jy:st.length<=60)(de:Ar nm)(hR:∀i a cap,i<ts.length->(tx ts i).name=nm->Ch W0 a (tx ts i).code->st.length<60->Ku W0 h mb C (J sa ss.length c1) (J ta ts.length c2) ss ts (st++[nm]) nm a cap (tx ts i).code):Calls prog 142 #[D (p_ h),S nm] w λe w'=>Vh W0.heap.size h mb C (J sa ss.length c1) (J ta ts.length c2) ss ts ms s st av kv r nm w e w':=by
 have hB:=hW.size
 obtain⟨W,eW⟩:=Aj (w.alloc (O #[F false,I 0,ze,nS,ze,nS] 156))
 have bq:Bw w W:=qaz
 have lj:Hd (W.heap[w.heap.size]?=M (O #[F false,I 0,ze,nS,ze,nS] 156 (0,0))):=by
  exact qbo
 obtain⟨x0,x1,_⟩:=(q.bl bq).mkr.cells
 have ww:=hE.l1
 have K8:=hE.l2
 have HFS:Hd (∀V,Bw w V->Calls prog 161 #[G #[J sa ss.length c1,J ta ts.length c2],S nm] V λe w'=>Bw V w'/\∃(r:X)(b:Bool),e=H (.tuple #[I r,F b])/\At (Am ss) nm r b):=λV hV=>Ni sa ta ss.length ts.length c1 c2 ss nm V (hE.rs.bl (hW.trans (hV.mono hB))) qb hE.v.ascS rfl
 have kt:Hd (∀V,Bw w V->Calls prog 162 #[G #[J sa ss.length c1,J ta ts.length c2],S nm] V λe w'=>Bw V w'/\∃(r:X)(b:Bool),e=H (.tuple #[I r,F b])/\At (Ak ts) nm r b):=λV hV=>Nh sa ta ss.length ts.length c1 c2 ts nm V (hE.rt.bl (hW.trans (hV.mono hB))) qb hE.v.ascT rfl
 have HS:Hd (BS W0.heap.size h mb 2 C (J sa ss.length c1) (J ta ts.length c2) ss ts w ms st st (ms.length+st.length+1) av kv vs s r):=q
 have HE:Hd (He W0 sa ta ss ts):=hE
 have HF:Hd (Ff ss ts C.n ms s st r.sn 0/\¬ Eg st nm/\Bw W0 w/\fd ms nm=N/\Ar nm):=⟨hp,cw,hW,hk,de⟩
 have HR:Hd (∀i a cap,i<ts.length->(tx ts i).name=nm->Ch W0 a (tx ts i).code->st.length<60->Ku W0 h mb C (J sa ss.length c1) (J ta ts.length c2) ss ts (st++[nm]) nm a cap (tx ts i).code):=hR
 have HB:Hd (Bw w W):=bq
 clear q hp hW hk cw de hR bq hE
 go_enter func142,ntmps142
 go_wp2_with fail
 refine(HFS.o W HB.o).mono ?_
 rintro e w3 ⟨au,r0,b,rfl,th⟩
 have d6:Hd (Bw w w3):=Ay HB.o au
 have it:Hd (w3.heap[w.heap.size]?=M (O #[F false,I 0,ze,nS,ze,nS] 156 (0,0))):=Ab au lj.o
 have HAT:Hd (At (Am ss) nm r0 b):=th
 have jj:Hd (BS W0.heap.size h mb 2 C (J sa ss.length c1) (J ta ts.length c2) ss ts w3 ms st st (ms.length+st.length+1) av kv vs s r):=HS.o.bl d6.o
 clear au th x0 x1 lj eW
 obtain⟨x0,x1,_⟩:=jj.o.mkr.cells
 obtain⟨⟨z0,z1,z2,z3,z4,z5⟩,zf⟩:=Sf it.o
 dsimp only
 cases b with
 | true=>
  obtain⟨hr,D7⟩:=at_true HE.o.v.ascS HAT.o;rw[Cb]at hr;rw[Dy]at D7;have hrI:(r0:Int)<(ss.length:Int):=qb;have Do:Ba ss ts C.n ms s st (.make nm) (ms++[(nm,⟨0,(sx ss r0).text,[]⟩)]) s (.ok ⟨0,(sx ss r0).text,[]⟩):=.source HF.o.2.2.2.1 HF.o.2.1 hr D7;obtain⟨sb,so,rfl,_,e2⟩:=(HE.o.rs.bl (HF.o.2.2.1.trans (d6.o.mono hB))) r0 hr;generalize (sx ss r0).text=tx0 at Do e2;have HD:Hd (Ba ss ts C.n ms s st (.make nm) (ms++[(nm,⟨0,tx0,[]⟩)]) s (.ok ⟨0,tx0,[]⟩)):=Do;clear Do D7 HFS kt HR;go_wp2_with fail;obtain⟨⟨v0,v1,v2,v3,v4,v5⟩,_⟩:=Sf (Iq it.o (F false) (I 0) (S tx0) nS ze nS);exact bR (v:=Ou ⟨0,tx0,[]⟩ nS) qgl rfl (Rn jj.o (KQ.of_below HS.o d6.o hB) it.o hB (Nat.le_refl _) HF.o.2.2.2.1 HD.o)
 | false=>
  have HNS:Hd (¬ Eg (Am ss) nm):=at_false HAT.o;go_wp2_with fail;refine(kt.o w3 d6.o).mono ?_;rintro e w4 ⟨ce,r4,b4,rfl,hat4⟩;have vx:Hd (Bw w w4):=Ay d6.o ce;have mx:Hd (w4.heap[w.heap.size]?=M (O #[F false,I 0,ze,nS,ze,nS] 156 (0,0))):=Ab ce it.o;have HAT4:Hd (At (Ak ts) nm r4 b4):=hat4;have ie:Hd (BS W0.heap.size h mb 2 C (J sa ss.length c1) (J ta ts.length c2) ss ts w4 ms st st (ms.length+st.length+1) av kv vs s r):=HS.o.bl vx.o;clear ce hat4 x0 x1 z0 z1 z2 z3 z4 z5 zf it jj HAT;obtain⟨x0,x1,_⟩:=ie.o.mkr.cells;obtain⟨⟨z0,z1,z2,z3,z4,z5⟩,zf⟩:=Sf mx.o;dsimp only
  cases b4 with
  | true=>
   obtain⟨hr,D7⟩:=at_true HE.o.v.ascT HAT4.o;rw[Bs]at hr;rw[Dr]at D7;have hrI:(r4:Int)<(ts.length:Int):=qb;have T9:=HF.o.2.2.1.trans (vx.o.mono hB);obtain⟨tb,tq,rfl,f1,a',ai,f2,gt⟩:=HE.o.rt r4 hr;have e1:w4.cell? ⟨tb,tq+r4*2,N⟩=M (S nm):=by rw[T9.cell (p:=⟨tb,tq+r4*2,N⟩) (World.block_lt_of_cell? _ _ f1),f1,D7]
   have e2:w4.cell? ⟨tb,tq+r4*2+1,N⟩=M (J a' (tx ts r4).code.length ai):=by rw[T9.cell (p:=⟨tb,tq+r4*2+1,N⟩) (World.block_lt_of_cell? _ _ f2),f2]
   have hMT:=Tc W0 h mb C sa (M ⟨tb,tq,N⟩) a' c1 c2 ai r4 ss ts nm ms s st av kv vs r w4 HE.o ie.o HF.o.1 T9 HF.o.2.2.2.1 HF.o.2.1 jy HF.o.2.2.2.2 HNS.o hr D7 (HR.o r4 a' ai hr D7 gt);generalize (tx ts r4).code.length=cl at e2 hMT;have HMT:Hd (Calls prog 163 #[D (p_ h),G #[S nm,J a' cl ai]] w4 λe w'=>Vh W0.heap.size h mb C (J sa ss.length c1) (J (M ⟨tb,tq,N⟩) ts.length c2) ss ts ms s st av kv r nm w4 e w'):=hMT;have hwl4:w.heap.size<w4.heap.size:=Ag mx.o;clear hMT gt f1 f2 T9 HFS kt HR D7 z0 z1 z2 z3 z4 z5 zf;go_wp2_with fail;refine HMT.o.mono ?_;rintro e w5 (⟨ms1,mk,ms',s',⟨dc,dt,dls⟩,lv,Y9,X6,vs5,r5,rfl,⟨la,ln,lc,rfl⟩,yg,hmk,hms,hfd,oy,jq,ha5,hkk5,mn⟩|⟨b,v,r5,ms',s',rfl,jq,oy,hv⟩)
   ·have hsz5:=jq.bel.size;have hR5:w5.heap[w.heap.size]?=M (O #[F false,I 0,ze,nS,ze,nS] 156 (0,0)):=jq.blk ie.o mx.o qd;have HR5:Hd _:=hR5;have HK5:Hd (KQ W0.heap.size h mb C av kv r r5 w w5):=(KQ.of_below HS.o vx.o hB).trans (An.refl _ _) (An.refl _ _) ie.o jq;have ja:Hd (BS W0.heap.size h mb 1 C (J sa ss.length c1) (J (M ⟨tb,tq,N⟩) ts.length c2) ss ts w5 ms1 mk st (ms'.length+st.length) Y9 X6 vs5 s' r5):=yg;have fx:Hd ((∀x,x≠nm->(Eg mk x↔Eg st x))/\ms'=ms1++[(nm,⟨dc,dt,dls⟩)]/\fd ms1 nm=N/\Ba ss ts C.n ms s st (.make nm) ms' s' (.ok ⟨dc,dt,dls⟩)/\An w av Y9/\An w kv X6/\r5.sn+400200*Dh ts ms st<=r.sn+400200*Dh ts ms' st):=⟨hmk,hms,hfd,oy,ha5.less qb,hkk5.less qb,mn⟩;obtain⟨⟨z0,z1,z2,z3,z4,z5⟩,zf⟩:=Sf hR5;unfold Ou;dsimp only;clear yg hmk hms hfd oy ha5 hkk5 mn jq hR5 HMT;go_wp2_with fail;obtain⟨⟨v0,v1,v2,v3,v4,v5⟩,_⟩:=Sf (Iq HR5.o (F false) (I dc) (S dt) nS ze (J la ln lc));obtain⟨y1,y2,y3,y4,y5,y6,y7⟩:=fx.o;exact bR (v:=Ou ⟨dc,dt,dls⟩ (J la ln lc)) qgl rfl (Or.inl ⟨ms1,mk,ms',s',⟨dc,dt,dls⟩,J la ln lc,Y9,X6,vs5,r5,rfl,⟨la,ln,lc,rfl⟩,ja.o.set6 HR5.o qd _ _ _ _ _ _,y1,y2,y3,y4,HK5.o.set6 hB (Nat.le_refl _) _ _ _ _ _ _,y5,y6,y7⟩)
   ·unfold Lh;dsimp only;have HP5:Hd (KQ W0.heap.size h mb C av kv r r5 w w5/\Ba ss ts C.n ms s st (.make nm) ms' s' (.bad b)/\Df W0.heap.size C w5 b v):=⟨(KQ.of_below HS.o vx.o hB).trans (An.refl _ _) (An.refl _ _) ie.o jq,oy,hv⟩;clear jq oy hv HMT;go_wp2_with fail;exact⟨rfl,Or.inr ⟨b,v,r5,ms',s',rfl,HP5.o.1,HP5.o.2.1,HP5.o.2.2⟩⟩
  | false=>
   have HD:Hd (Ba ss ts C.n ms s st (.make nm) (ms++[(nm,⟨4,nm,[]⟩)]) s (.ok ⟨4,nm,[]⟩)):=.missing HF.o.2.2.2.1 HF.o.2.1 (λq=>q.elim HNS.o (at_false HAT4.o));clear HFS kt HR;go_wp2_with fail;obtain⟨⟨v0,v1,v2,v3,v4,v5⟩,_⟩:=Sf (Iq mx.o (F false) (I 4) (S nm) nS ze nS);exact bR (v:=Ou ⟨4,nm,[]⟩ nS) qgl rfl (Rn ie.o (KQ.of_below HS.o vx.o hB) mx.o hB (Nat.le_refl _) HF.o.2.2.2.1 HD.o)
theorem underB_new(W0:E)(h mb:X)(C:Ga)(sa ta:Option Addr)(c1 c2:X)(ss:L S2)(ts:L T2)(nm:By)(ms:Mm)(s:Sb)(st:L By)(av kv:Z)(vs:By->Z)(r:Rv)(w:E)(hE:He W0 sa ta ss ts)(q:Je W0.heap.size h mb C (J sa ss.length c1) (J ta ts.length c2) ss ts w ms st av kv vs s r)(hp:Ff ss ts C.n ms s st r.sn 0)(hW:Bw W0 w)(hk:fd ms nm=N)(cw:¬ Eg st nm)(jy:st.length<=60)(de:Ar nm)(hR:∀i a cap,i<ts.length->(tx ts i).name=nm->Ch W0 a (tx ts i).code->st.length<60->Ku W0 h mb C (J sa ss.length c1) (J ta ts.length c2) ss ts (st++[nm]) nm a cap (tx ts i).code):Calls prog 113 #[D (p_ h),S nm] w λe w'=>Nm W0.heap.size h mb C (J sa ss.length c1) (J ta ts.length c2) ss ts ms s st av kv vs r nm (λd vs'=>Fj d (vs' nm)) w e w':=by
 have hB:=hW.size
 have hms:=hp.small hE.l2
 have hn60:nm.size<=60:=de.2.1
 obtain⟨W,eW⟩:=Aj (w.alloc (O #[F false,I 0,ze,nS,ze,nS] 156))
 have bq:Bw w W:=qaz
 have B6:w.heap.size<W.heap.size:=qdb
 have s1:=q.bl bq
 obtain⟨n,J9,mz⟩:=s1.mkr.map
 have eg:=mz.look (k:=nm) qm
 have hmo:Hk ms st vs nm=N:=Xm hk cw
 rw[hmo]at eg
 unfold Hy at eg
 simp only[Option.getD_none,Option.isSome_none]at eg
 obtain⟨V,eV⟩:=Aj (W.alloc (O #[F false,I 0,ze,nS,ze,nS] 156))
 have pk:Bw w V:=by rw[<- eV];exact Ay bq (Ai _ _)
 have hVs:W.heap.size<V.heap.size:=by rw[<- eV];simp
 have HAB:Hd (V.heap[W.heap.size]?=M (O #[F false,I 0,ze,nS,ze,nS] 156 (0,0))):=by
  show _=_;rw[<- eV];exact Bg _ _
 have HOB:Hd (V.heap[w.heap.size]?=M (O #[F false,I 0,ze,nS,ze,nS] 156 (0,0))):=by
  show _=_;rw[<- eV,Lib.alloc_old _ _ _ B6,<- eW];exact Bg _ _
 have bh:Hd (Je W0.heap.size h mb C (J sa ss.length c1) (J ta ts.length c2) ss ts V ms st av kv vs s r):=q.bl pk
 obtain⟨xs,exs,ve⟩:=q.mkr.ask
 obtain⟨aa,ac,rfl⟩:∃aa ac,av=J aa (ms.length+st.length) ac:=by
  rcases ve.2 with⟨e,h0⟩|⟨g,cap,cur,e,_⟩
  ·exact qeb
  ·exact⟨_,_,e⟩
 have hnl:ms.length+st.length<=90000000:=qb
 have X4:Hd (w.ownsRow W0.heap.size 9 1 (J aa (ms.length+st.length) ac) (ms.length+st.length) (Av xs)):=ve
 have HXS:=Ad exs
 obtain⟨_,_,B9,_⟩:=s1.mkr.cells
 have HE:Hd (He W0 sa ta ss ts):=hE
 have HF:Hd (Ff ss ts C.n ms s st r.sn 0/\¬ Eg st nm/\Bw W0 w/\fd ms nm=N/\Ar nm):=⟨hp,cw,hW,hk,de⟩
 have HQ:=Ad q
 have HR:Hd (∀i a cap,i<ts.length->(tx ts i).name=nm->Ch W0 a (tx ts i).code->st.length<60->Ku W0 h mb C (J sa ss.length c1) (J ta ts.length c2) ss ts (st++[nm]) nm a cap (tx ts i).code):=hR
 have D0:Hd (Bw w V):=pk
 have EV:Hd (W.alloc (O #[F false,I 0,ze,nS,ze,nS] 156)=V):=eV
 have HNL:Hd (ms.length+st.length<=90000000):=hnl
 clear q s1 hp hW hk cw de hR pk bq hE eV mz hmo hnl J9 hms ve exs
 go_enter func113,ntmps113
 go_upto_region 3 with fail
 rw[EV.o]
 clear EV eW B9 eg
 obtain⟨x0,x1,x2,x3,x4,x5,xf⟩:=bh.o.mkr.cells
 obtain⟨i0,E5,bo,bm,cm⟩:=info_parts Tryz.info9b
 have hhv:h<V.heap.size:=Ag bh.o.mkr.blk
 have HAV:Hd (V.ownsRow W0.heap.size 9 1 (J aa (ms.length+st.length) ac) (ms.length+st.length) (Av xs)):=Ac X4.o D0.o
 have C8:Hd (∀o:Obj,(V.alloc o).ownsRow W0.heap.size 9 1 (J aa (ms.length+st.length) ac) (ms.length+st.length) (Av xs)):=λo=>HAV.o.alloc o
 have cr:W0.heap.size<=V.heap.size:=qb
 have mq:=HNL.o
 go_upto_region 4 with(at_builtin;refine wpList_append_lies _ rfl (.tmp 23) (.tmp 25) 22 rfl W0.heap.size 9 i0 ze 1 16 underlying22 E5 bo bm cm rfl qd _ (ms.length+st.length) (Av xs) rfl (C8.o _) ⟨V.heap.size,0,N⟩ 1 1 [S nm] rfl rfl (cell_one_new _ _ _) qaf qb qm qb qh (V.heap.size+1) qg ?_;intro g3 cp3 w3 fu rd Y1 hlt3;have hh3:w3.heap[h]?=M (O #[J sa ss.length c1,J ta ts.length c2,.map (M mb),J aa (ms.length+st.length) ac,kv,fvC C] 153 (0,0)):=(by rw[rd.block h qh (λe=>Ae HAV.o qd bh.o.mkr.blk e.symm),Lib.alloc_old _ _ _ hhv];exact bh.o.mkr.blk);obtain⟨⟨y0,y1,y2,y3,y4,y5⟩,yf⟩:=Sf hh3)
 obtain⟨q1,q2,q3⟩:=bh.o.mkr.askd (nm:=nm) HXS.o rd fu Y1 cr
 have rs1:=(bh.o.rs.kp bh.o.mkr q2).av' bh.o.rs bh.o.ownA.1 bh.o.ownA.2 q3
 have kq3:=KQ.of_kp bh.o q2
 have a3:=kq3.blk bh.o HAB.o qd
 have o3:=kq3.blk bh.o HOB.o qd
 obtain⟨AK,eY⟩:=Aj (w3.setCell ⟨h,3,N⟩ (J (p_ g3) (ms.length+st.length+1) cp3))
 rw[eY]at q1 q2 a3 o3 rs1 kq3 ⊢
 have hbWY:Bw W0 AK:=HF.o.2.2.1.trans ((D0.o.mono hB).trans q2.bl)
 have HMT:Hd (Calls prog 142 #[D (p_ h),S nm] AK λe w'=>Vh W0.heap.size h mb C (J sa ss.length c1) (J ta ts.length c2) ss ts ms s st (J (p_ g3) (ms.length+st.length+1) cp3) kv r nm AK e w'):=Up W0 h mb C sa ta c1 c2 ss ts nm ms s st _ kv vs r AK HE.o ⟨q1.le qb,rs1⟩ HF.o.1 hbWY HF.o.2.2.2.1 HF.o.2.1 jy HF.o.2.2.2.2 HR.o
 have HY:Hd (BS W0.heap.size h mb 2 C (J sa ss.length c1) (J ta ts.length c2) ss ts AK ms st st (ms.length+st.length+1) (J (p_ g3) (ms.length+st.length+1) cp3) kv vs s r/\KQ W0.heap.size h mb C (J aa (ms.length+st.length) ac) kv r r w AK/\An w (J aa (ms.length+st.length) ac) (J (p_ g3) (ms.length+st.length+1) cp3)):=⟨⟨q1.le qb,rs1⟩,(KQ.of_below HQ.o D0.o hB).trans (An.refl _ _) (An.refl _ _) bh.o kq3,q3.less D0.o.size⟩
 have mj:Hd (AK.heap[W.heap.size]?=M (O #[F false,I 0,ze,nS,ze,nS] 156 (0,0))):=a3
 have M7:Hd (AK.heap[w.heap.size]?=M (O #[F false,I 0,ze,nS,ze,nS] 156 (0,0))):=o3
 have hWY:W.heap.size<AK.heap.size:=Ag a3
 clear q1 q2 q3 rs1 kq3 eY rd fu Y1 hlt3 hh3 y0 y1 y2 y3 y4 y5 yf x0 x1 x2 x3 x4 x5 xf a3 o3 C8 bh HAB HOB hbWY HR
 go_wp2_with fail
 refine HMT.o.mono ?_
 rintro e w5 (⟨ms1,mk,ms',s',⟨dc,dt,dls⟩,lv,Y9,X6,vs5,r5,rfl,⟨la,ln,lc,rfl⟩,yg,hmk,hms,hfd,oy,jq,ha5,hkk5,mn⟩|⟨b,v,r5,ms',s',rfl,jq,oy,hv⟩)
 ·have a5:=jq.blk HY.o.1 mj.o qd;have o5:=jq.blk HY.o.1 M7.o qd;have hs5':=jq.bel.size;have R5:Hd (w5.heap[w.heap.size]?=M (O #[F false,I 0,ze,nS,ze,nS] 156 (0,0))):=o5;have HA5:Hd (w5.heap[W.heap.size]?=M (O #[F false,I 0,ze,nS,ze,nS] 156 (0,0))):=a5;have HK5:Hd (KQ W0.heap.size h mb C (J aa (ms.length+st.length) ac) kv r r5 w w5):=HY.o.2.1.trans HY.o.2.2 (An.refl _ _) HY.o.1 jq;have ja:Hd (BS W0.heap.size h mb 1 C (J sa ss.length c1) (J ta ts.length c2) ss ts w5 ms1 mk st (ms'.length+st.length) Y9 X6 vs5 s' r5):=yg;have hwY:w.heap.size<=AK.heap.size:=qb;have fx:Hd ((∀x,x≠nm->(Eg mk x↔Eg st x))/\ms'=ms1++[(nm,⟨dc,dt,dls⟩)]/\fd ms1 nm=N/\Ba ss ts C.n ms s st (.make nm) ms' s' (.ok ⟨dc,dt,dls⟩)/\An w (J aa (ms.length+st.length) ac) Y9/\An w kv X6/\r5.sn+400200*Dh ts ms st<=r.sn+400200*Dh ts ms' st):=⟨hmk,hms,hfd,oy,HY.o.2.2.trans hwY ha5,hkk5.less hwY,mn⟩;have n8:=oy.inv HE.o.v HF.o.1.inv HF.o.1.ok HF.o.2.2.2.2 (λb e=>qt);have P2:=n8.1.done nm _ n8.2.2.2;have HMD:Hd (0<=dc/\dc<=5/\dt.size<=2000):=⟨P2.c0,P2.c5,P2.t2⟩;obtain⟨⟨z0,z1,z2,z3,z4,z5⟩,zf⟩:=Sf a5;unfold Ou;dsimp only;clear yg hmk hms hfd oy ha5 hkk5 mn jq a5 o5 P2 n8 HMT
  go_upto_region 6 with fail
  obtain⟨AE,eZ⟩:=Aj ((((((((w5.setCell ⟨W.heap.size,0,N⟩ (F false)).setCell ⟨W.heap.size,1,N⟩ (I dc)).setCell ⟨W.heap.size,2,N⟩ (S dt)).setCell ⟨W.heap.size,3,N⟩ nS).setCell ⟨W.heap.size,4,N⟩ ze).setCell ⟨W.heap.size,5,N⟩ (J la ln lc)).setCell ⟨W.heap.size,0,N⟩ (F true)));rw[eZ];have sz:=ja.o.set6 HA5.o qd (F false) (I dc) (S dt) nS ze (J la ln lc);have kz:=HK5.o.set6 (b:=W.heap.size) qb qb (F false) (I dc) (S dt) nS ze (J la ln lc);have az:=Iq HA5.o (F false) (I dc) (S dt) nS ze (J la ln lc);have oz:=(Fi (w:=w5) (b:=W.heap.size) (show w.heap.size≠W.heap.size from qb) (F false) (I dc) (S dt) nS ze (J la ln lc)).trans R5.o;replace oz:=(Dj _ ⟨W.heap.size,0,N⟩ (F true) w.heap.size (show w.heap.size≠W.heap.size from qb)).trans oz;replace sz:=sz.set az qd 0 (F true);replace kz:=kz.setX (b:=W.heap.size) (j:=0) (u:=F true) qb qb;replace az:=Pv (j:=0) (u:=F true) (cs':=#[F true,I dc,S dt,nS,ze,J la ln lc]) az rfl;rw[eZ]at sz kz az oz;have HZ:Hd (BS W0.heap.size h mb 1 C (J sa ss.length c1) (J ta ts.length c2) ss ts AE ms1 mk st (ms'.length+st.length) Y9 X6 vs5 s' r5/\KQ W0.heap.size h mb C (J aa (ms.length+st.length) ac) kv r r5 w AE/\AE.heap[w.heap.size]?=M (O #[F false,I 0,ze,nS,ze,nS] 156 (0,0))):=⟨sz,kz,oz⟩;have HAZ:Hd (AE.heap[W.heap.size]?=M (O #[F true,I dc,S dt,nS,ze,J la ln lc] 156 (0,0))):=az;clear z0 z1 z2 z3 z4 z5 zf;obtain⟨⟨z0,z1,z2,z3,z4,z5⟩,zf⟩:=Sf az;obtain⟨fo,efo⟩:=Aj (Bj dc dt);have EF:Hd (Bj dc dt=fo):=efo;have HFO:Hd (Calls prog 140 #[G #[I dc,S dt,nS]] AE λe w'=>e=H (S fo)/\Bw AE w'):=by rw[<- efo];exact Ry dc dt AE HMD.o.1 HMD.o.2.1 HMD.o.2.2
  clear sz kz az oz efo eZ ja HK5 HA5 R5;go_wp2_with fail;refine HFO.o.mono ?_;rintro e w7 ⟨rfl,cj⟩;have hzs:=HZ.o.2.1.bel.size;have s7:=(HZ.o.1.bl cj).set (Ab cj HAZ.o) qd 4 (S fo);have k7:=(HZ.o.2.1.after fx.o.2.2.2.2.1 fx.o.2.2.2.2.2.1 HZ.o.1 cj qb).setX (b:=W.heap.size) (j:=4) (u:=S fo) qb qb;have a7:=Pv (j:=4) (u:=S fo) (cs':=#[F true,I dc,S dt,nS,S fo,J la ln lc]) (Ab cj HAZ.o) rfl;have o7:=(Dj w7 ⟨W.heap.size,4,N⟩ (S fo) w.heap.size (show w.heap.size≠W.heap.size from qb)).trans (Ab cj HZ.o.2.2);clear z0 z1 z2 z3 z4 z5 zf HFO;obtain⟨⟨z0,z1,z2,z3,z4,z5⟩,zf⟩:=Sf (Ab cj HAZ.o);obtain⟨Z7,eZ7⟩:=Aj (w7.setCell ⟨W.heap.size,4,N⟩ (S fo));rw[eZ7]at s7 k7 a7 o7;obtain⟨U,eU⟩:=Aj Z7.drew;have bn:Bw Z7 U:=qax;have hz7:=k7.bel.size;have sU:=s7.bl bn;have kU:=k7.after fx.o.2.2.2.2.1 fx.o.2.2.2.2.2.1 s7 bn qb;have aU:=Ab bn a7;have oU:=Ab bn o7;dsimp only
  go_upto_region 7 with fail
  obtain⟨x0,x1,x2,x3,x4,x5,xf⟩:=sU.mkr.cells;obtain⟨⟨y0,y1,y2,y3,y4,y5⟩,yf⟩:=Sf aU;obtain⟨n,hn,hm⟩:=sU.mkr.map;obtain⟨p1,p2,p3,p4,p5,p6,p7⟩:=fx.o
  have hmf:ms'.length+st.length<=90000000:=by
   have hct:=p4.cost HE.o.v HF.o.1.inv HF.o.1.ok HF.o.2.2.2.2 (λb e=>qt);have h1:=Pn ts ms' st;have h2:=HE.o.l2;have h3:=HF.o.1.ml;simp only[Pe]at hct;omega
  obtain⟨w9,ku,hm9,hg9⟩:=hm.store (k:=nm) qm qm (Fj ⟨dc,dt,dls⟩ (J la ln lc))
  classical
  have m9:=(sU.mkr.le (k':=0) qb).mark (n:=n+1) (nm:=nm) (ms':=ms') (mk':=st) (vs':=λx=>if x=nm then J la ln lc else vs5 x) (v:=Fj ⟨dc,dt,dls⟩ (J la ln lc)) qb hm9 hg9 (λx=>by rw[p2];exact markB_end p3 p1 x) (λx=>by
   by_cases hx:x=nm
   ·exact⟨la,ln,lc,by simp[hx]⟩
   ·obtain⟨a1,a2,a3,a4⟩:=sU.mkr.vsl x;exact⟨a1,a2,a3,by simp[hx,a4]⟩)
  have kp9:KP W0.heap.size h mb Y9 X6 U w9:=KP.mapped (KP.old (Below.refl _ _) (zo kU.bel.size)) sU.mkr.mB hg9 (zo kU.bel.size);have s9:Je W0.heap.size h mb C (J sa ss.length c1) (J ta ts.length c2) ss ts w9 ms' st Y9 X6 (λx=>if x=nm then J la ln lc else vs5 x) s' r5:=⟨m9,(sU.rs.kp sU.mkr kp9).ext ⟨[(nm,⟨dc,dt,dls⟩)],p2⟩⟩;have S3:=KQ.of_kp sU kp9;have k9:KQ W0.heap.size h mb C (J aa (ms.length+st.length) ac) kv r r5 w w9:=kU.trans p5 p6 sU S3;have a9:=S3.blk sU aU qd;have o9:=S3.blk sU oU qd;unfold Fj at ku;simp only[EF.o]at ku;have xj:Hd (Je W0.heap.size h mb C (J sa ss.length c1) (J ta ts.length c2) ss ts w9 ms' st Y9 X6 (λx=>if x=nm then J la ln lc else vs5 x) s' r5):=s9;have HK9:Hd (KQ W0.heap.size h mb C (J aa (ms.length+st.length) ac) kv r r5 w w9):=k9;have HO9:Hd (w9.heap[w.heap.size]?=M (O #[F false,I 0,ze,nS,ze,nS] 156 (0,0))):=o9;have HXX:Hd (Ba ss ts C.n ms s st (.make nm) ms' s' (.ok ⟨dc,dt,dls⟩)/\An w (J aa (ms.length+st.length) ac) Y9/\An w kv X6/\r5.sn+400200*Dh ts ms st<=r.sn+400200*Dh ts ms' st):=⟨p4,p5,p6,p7⟩;clear s9 m9 kp9 S3 k9 hm9 hg9 hm hn sU kU aU oU s7 k7 a7 o7 cj bn p1 p2 p3 p4 p5 p6 p7 eZ7 hmf z0 z1 z2 z3 z4 z5 zf;go_region;clear eU x0 x1 x2 x3 x4 x5 xf y0 y1 y2 y3 y4 y5 yf ku;obtain⟨⟨y0,y1,y2,y3,y4,y5⟩,yf⟩:=Sf a9;obtain⟨⟨z0,z1,z2,z3,z4,z5⟩,zf⟩:=Sf o9;clear a9 o9;go_wp2_with fail;obtain⟨⟨v0,v1,v2,v3,v4,v5⟩,_⟩:=Sf (Iq HO9.o (F true) (I dc) (S dt) nS (S fo) (J la ln lc));refine bR (v:=Fj ⟨dc,dt,dls⟩ ((λx=>if x=nm then (J la ln lc:Z) else vs5 x) nm)) (by simp[results,results113,go_sem,Fj,EF.o,v0,v1,v2,v3,v4,v5]) rfl ⟨ms',s',_,HXX.o.1,Or.inl ⟨_,Y9,X6,_,r5,rfl,rfl,xj.o.set6 HO9.o qd _ _ _ _ _ _,HK9.o.set6 hB (Nat.le_refl _) _ _ _ _ _ _,HXX.o.2.1,HXX.o.2.2.1,HXX.o.2.2.2⟩⟩
 ·unfold Lh;dsimp only;have HP5:Hd (KQ W0.heap.size h mb C (J aa (ms.length+st.length) ac) kv r r5 w w5/\Ba ss ts C.n ms s st (.make nm) ms' s' (.bad b)/\Df W0.heap.size C w5 b v):=⟨HY.o.2.1.trans HY.o.2.2 (An.refl _ _) HY.o.1 jq,oy,hv⟩;clear jq oy hv HMT;go_wp2_with fail;exact⟨rfl,ms',s',_,HP5.o.2.1,Or.inr ⟨b,v,r5,rfl,rfl,HP5.o.2.2,HP5.o.1⟩⟩
theorem first_at{st:L By}{nm:By}(h:Eg st nm):∃i,i<st.length/\nx st i=nm/\∀j,j<i->nx st j≠nm:=by
 obtain⟨i,hi,e⟩:=h
 induction i using Nat.strongRecOn with
 | _ i ih=>
   by_cases q:∃j,j<i/\nx st j=nm
   ·obtain⟨j,hj,ej⟩:=q
    exact ih j hj qb ej
   ·exact⟨i,hi,e,λj hj ej=>q ⟨j,hj,ej⟩⟩
theorem Wy(W0:E)(h mb:X)(C:Ga)(sa ta:Option Addr)(c1 c2:X)(ss:L S2)(ts:L T2)(hE:He W0 sa ta ss ts)(st:L By)(jy:st.length<=60)(hR:∀nm,Ar nm->∀i a cap,i<ts.length->(tx ts i).name=nm->Ch W0 a (tx ts i).code->st.length<60->Ku W0 h mb C (J sa ss.length c1) (J ta ts.length c2) ss ts (st++[nm]) nm a cap (tx ts i).code):Gg W0 h mb C (J sa ss.length c1) (J ta ts.length c2) ss ts st:=by
 intro w ms nm av kv vs s r q hp de hb;have hn60:nm.size<=60:=de.2.1
 cases hk:fd ms nm with
 | some d=>exact Ye _ h mb C _ _ ss ts ms s st av kv vs r nm d w q hb.size hn60 hk
 | none=>
   by_cases hs:Eg st nm
   ·obtain⟨i,q1,q2,q3⟩:=first_at hs
    exact Vv _ h mb C _ _ ss ts ms s st av kv vs r nm i w q hb.size hn60 jy hk q1 q2 q3
   ·exact underB_new W0 h mb C sa ta c1 c2 ss ts nm ms s st av kv vs r w hE q hp hb hk hs jy de (hR nm de)
end Go.Proofs.YtoakjccojifagaaGreatDoor
