import Derived.Test.YtnflkpmmfpfhlaaGreatDoorBtA
import Derived.Test.YtnflkpmmfpfhlaaGreatDoorBuL
namespace Go.Proofs.YtnflkpmmfpfhlaaGreatDoor
open Value renaming slice->J,string->S,bool->F,agg->G,pointer->D
open Option renaming some->M,none->N
open Obj renaming cells->O
open Go renaming Value->Z,World->E
open Ending renaming returned->H
open _root_ renaming List->L,Nat->X
set_option maxHeartbeats 8000000
set_option maxRecDepth 100000
open _root_.Go.Proofs.Tryz Go.RowKit Go.Deep
set_option linter.unusedVariables false
set_option linter.unusedSimpArgs false
variable {w w':E} {v qv sv tv:Z} {B B' h n:X} {R is:L T3} {T:L By} {a:Option Addr} {b:Gi} {cs:Array Z} {e:L Z} {l:L (X×X×Z)}
theorem Tryz.info9y:(prog.info? 9).map (λi=>(i.zero,i.size,i.bytes))=M (M ze,1,16):=qk
theorem Vn(W0:E)(h:X)(sa ta:Option Addr)(c1 c2 n:X)(ss:L S2)(ts:L T2)(hE:Jf W0 sa ta ss ts)(h1:1<=n)(h8:n<=8)(st:L By)(cr:st.length<=60)(IH:st.length<60->∀nm,Oj W0 h (J sa ss.length c1) (J ta ts.length c2) n ss ts (st++[nm])):Oj W0 h (J sa ss.length c1) (J ta ts.length c2) n ss ts st:=by
 intro ms s v nm w hb hs hu hi fw cz hph Q9;have HU:=Ab hu;clear hu;obtain⟨W,eW⟩:=Aj (w.alloc (O #[I 0,ze,nS] 65));have HW:Hd (Bw w W):=by show Below _ _ _;rw[←eW];exact aN _ _
 obtain⟨Q,eQ⟩:=Aj w.heap.size;have HQ:=Ab (nW eW eQ);have HN:Hd (∀b,Q<=b->¬ Cx h v b):=λb hb=>hs.not qg;have gh:W0.heap.size<=w.heap.size:=hb.size;have HF:Hd (Dn W0.heap.size (Cx h v) (Cx h v) w W):=Dn.of_below HW.o gh;have bx:W0.heap.size<=W.heap.size:=Nat.le_trans gh HW.o.size;have hBQ:W0.heap.size<=Q:=qg;have hQW:w.heap.size<=Q:=qg;have HS:=Ab (hs.bl HW.o);have HB:=Ab (hb.trans (HW.o.mono gh));have HI:=Ab hi;have HK:=Ab fw;have HE:=Ab hE;have HIH:=Ab IH;have HPH:=Ab hph;have HCN:=Ab Q9;have HHB:=Ab hs.hB;have htl:Dp ts ms st<=200:=Nat.le_trans (Pz ts ms st) hE.l2;have zq:ms.length<=80040000:=qg;have ym:s.ran.length+s.held.length+st.length<=200:=Nat.le_trans Q9 htl;obtain⟨m,em⟩:=Aj ms.length;have EM:=Ab em;obtain⟨ma,mc,hmv⟩:∃a cap,v.mv=J a ms.length cap:=by obtain⟨xs,m1,m2⟩:=hs.made;exact Al m1
 have EMV:=Ab hmv;have k5:W.cell? ⟨h,5,N⟩=M (J ma m mc):=by rw[cH HS.o.blk,←em,←hmv];rfl
 rw[em]at zq;clear hs hb hi fw IH cz hph Q9 em hmv hE HW;go_enter func52,ntmps52;go_wp2_with fail
 try rw[eQ]
 clear eW
 go_loopw [5] (λi wr=>∃k:X,k<=m/\i=I k/\wr=W/\Hd (∀j,j<k->(mm ms j).1≠nm)) (λi _=>m-(intOf i).toNat)
 case atStart=>exact⟨0,Nat.zero_le _,rfl,rfl,(λj hj=>by omega:∀j,j<0->(mm ms j).1≠nm)⟩
 case round=>
  obtain⟨k,hk,rfl,H7,je⟩:=hrel;subst H7
  by_cases ai:k<m
  ·have fs:(k:Int)<(m:Int):=qg
   have jn:(0:Int)<=(k:Int):=qg;obtain⟨xs,m1,m2⟩:=HS.o.made;rw[EMV.o]at m1;obtain⟨f1,f2,f3,f4,r,f5⟩:=m2.1 k qah;obtain⟨b,rfl,g1⟩:=Cv m1 f1;obtain⟨b',qe,g2⟩:=Cv m1 f2;cases qe;obtain⟨b',qe,g3⟩:=Cv m1 f3;cases qe;obtain⟨b',qe,g4⟩:=Cv m1 f4;cases qe;clear m1 m2 f1 f2 f3 f4 f5 EMV;obtain⟨d,ed⟩:=Aj (mm ms k);rw[ed]at g1 g2 g3;obtain⟨x,d⟩:=d;dsimp only at g1 g2 g3;obtain⟨dc,edc⟩:=Aj d.c;obtain⟨dt,edt⟩:=Aj d.t;rw[edc]at g2;rw[edt]at g3;have ED:=Ab (And.intro ed (And.intro edc edt));clear ed edc edt
   by_cases hq:x=nm
   ·have dq:=Fk hq
    (have HFD:Hd (fd ms nm=M d):=by have:=fd_at (ms:=ms) (i:=k) (nm:=nm) qah (by rw[ED.o.1];exact hq) je.o;rw[ED.o.1]at this;exact this);obtain⟨z0,z1,z2,zf⟩:=Ci HQ.o;go_wp2_with fail;obtain⟨y0,y1,y2,_⟩:=Ci (Ba HQ.o (I dc) (S dt) nS);exact bR (v:=G #[I dc,S dt,nS]) qau rfl ⟨ms,s,.ok d,.known HFD.o,Or.inl ⟨d,v,rfl,(by rw[ED.o.2.1,ED.o.2.2]),HF.o.set3 qg qg _ _ _,HS.o.set3 ⟨_,HQ.o⟩ qh _ _ _,HU.o⟩⟩
   ·have dq:=Hi hq
    have re:Hd (∀j,j<k+1->(mm ms j).1≠nm):=λj hj=>by
     rcases Nat.lt_or_ge j k with q|q
     ·exact je.o j q
     ·obtain rfl:j=k:=qg
      rw[ED.o.1];exact hq
    exact qll
  ·have fs:¬ (k:Int)<(m:Int):=qg
   have HFD:Hd (fd ms nm=N):=fd_no (λj hj=>je.o j (by rw[EM.o]at hj;omega));clear je EMV;obtain⟨k0,k1⟩:=ck2 HS.o.blk;go_wp2_with fail;clear k5 k0 k1;refine(Sl sa ta ts.length c1 c2 ss nm wr (HE.o.rs.bl HB.o) (zo HE.o.l1)).mono ?_;rintro e w1 ⟨ag,hsr⟩;replace HS:=Ab (HS.o.bl ag);replace HQ:=Ab (Af HQ.o ag);replace HF:=Ab (HF.o.trans (Dn.of_below ag bx));replace HB:=Ab (HB.o.trans (Below.mono ag bx));replace bx:=Nat.le_trans bx ag.size;clear ag;have HNQ:Hd (¬ Cx h v Q):=HN.o Q (Nat.le_refl _)
   rcases hsr with⟨i,rfl,E8,og⟩|⟨rfl,hns⟩
   ·have zr:(0:Int)<=(i:Int):=qg
    have HNH:Hd (¬ El st nm):=λq=>HE.o.v.dis nm (by rw[←og];exact Hl E8) (HI.o.tgt _ q);obtain⟨bs,os,rfl,s1,s2⟩:=(HE.o.rs.bl HB.o) i E8;have k0:=cK HS.o.blk 0;have hiI:(i:Int)<(ss.length:Int):=qg;have jr:Hd (Az ss ts n ms s st (.make nm) (ms++[(nm,⟨0,(sx ss i).text,[]⟩)]) s (.ok ⟨0,(sx ss i).text,[]⟩)):=.source HFD.o HNH.o E8 og;obtain⟨t,et⟩:=Aj ((sx ss i).text);rw[et]at s2 jr;clear et s1 HE HIH;go_wp2_with fail;clear k0 s2;refine(Qq W0.heap.size h n _ _ ms s st v nm ⟨0,t,[]⟩ (-1) w1 HS.o bx qaw (by rw[HU.o];simp)).mono ?_;rintro e w2 ⟨rfl,v2,cm,dp,yk⟩;have I7:=Ab (cm.blk HQ.o (HNQ.o));have fj:=Ab (HF.o.trans cm);have ct:=Ab dp;clear cm dp;obtain⟨z0,z1,z2,zf⟩:=Ci I7.o;go_wp2_with fail;obtain⟨y0,y1,y2,_⟩:=Ci (Ba I7.o (I 0) (S t) nS);exact bR (v:=G #[I 0,S t,nS]) qau rfl ⟨_,_,_,jr.o,Or.inl ⟨⟨0,t,[]⟩,v2,rfl,rfl,fj.o.set3 hQW hBQ _ _ _,ct.o.set3 ⟨_,I7.o⟩ qh _ _ _,yk⟩⟩
   obtain⟨k0,k1⟩:=ck2 HS.o.blk;have HNS:=Ab hns;clear hns;go_wp2_with fail;clear k0 k1;refine(Sk sa ta ss.length c1 c2 ts nm w1 (HE.o.rt.bl HB.o) (zo HE.o.l2)).mono ?_;rintro e w3 ⟨au,hsr⟩;replace HS:=Ab (HS.o.bl au);replace HQ:=Ab (Af HQ.o au);replace HF:=Ab (HF.o.trans (Dn.of_below au bx));replace HB:=Ab (HB.o.trans (Below.mono au bx));replace bx:=Nat.le_trans bx au.size;clear au
   rcases hsr with⟨i,rfl,E8,og⟩|⟨rfl,hnt⟩
   rotate_left 1
   ·have HNH:Hd (¬ El st nm):=λq=>hnt (HI.o.tgt _ q)
    have jr:Hd (Az ss ts n ms s st (.make nm) (ms++[(nm,⟨4,nm,[]⟩)]) s (.ok ⟨4,nm,[]⟩)):=.missing HFD.o HNH.o (λq=>by rcases q with q|q;exact HNS.o q;exact hnt q);clear hnt HE HIH;go_wp2_with fail;refine(Qq W0.heap.size h n _ _ ms s st v nm ⟨4,nm,[]⟩ (-1) w3 HS.o bx qaw (by rw[HU.o];simp)).mono ?_;rintro e w2 ⟨rfl,v2,cm,dp,yk⟩;have I7:=Ab (cm.blk HQ.o (HNQ.o));have fj:=Ab (HF.o.trans cm);have ct:=Ab dp;clear cm dp;obtain⟨z0,z1,z2,zf⟩:=Ci I7.o;go_wp2_with fail;obtain⟨y0,y1,y2,_⟩:=Ci (Ba I7.o (I 4) (S nm) nS);exact bR (v:=G #[I 4,S nm,nS]) qau rfl ⟨_,_,_,jr.o,Or.inl ⟨⟨4,nm,[]⟩,v2,rfl,rfl,fj.o.set3 hQW hBQ _ _ _,ct.o.set3 ⟨_,I7.o⟩ qh _ _ _,yk⟩⟩
   have HIL:=Ab E8;have t6:=Ab og;clear E8 og;obtain⟨p,ep⟩:=Aj st.length;have EP:=Ab ep;obtain⟨ka,kc,hkv⟩:=Al HS.o.stk;rw[ep]at hkv;have EKV:=Ab hkv;(have k6:w3.cell? ⟨h,6,N⟩=M (J ka p kc):=by rw[cH HS.o.blk,←hkv];rfl);have hp60:p<=60:=qg;clear hkv ep;have zr:¬ (i:Int)<0:=qg;go_wp2_with fail
   go_loopw [8] (λi wr=>∃k:X,k<=p/\i=I k/\wr=w3/\Hd (∀j,j<k->nx st j≠nm)) (λi _=>p-(intOf i).toNat)
   case atStart=>exact⟨0,Nat.zero_le _,rfl,rfl,(λj hj=>by omega:∀j,j<0->nx st j≠nm)⟩
   case round=>
    obtain⟨k,hk,rfl,H7,je⟩:=hrel;subst H7;have du:=HS.o.stk;rw[EKV.o,EP.o]at du;have HROW:=Ab du;clear du
    by_cases ai:k<p
    ·have fs:(k:Int)<(p:Int):=qg
     have jn:(0:Int)<=(k:Int):=qg;obtain⟨b,rfl,g1⟩:=Cv HROW.o (Zy (by rw[EP.o];exact ai));obtain⟨x,ex⟩:=Aj (nx st k);rw[ex]at g1
     by_cases hq:x=nm
     ·have dq:=Fk hq
      have jr:Hd (Az ss ts n ms s st (.make nm) ms s (.bad (.circle (st.drop k)))):=.circle HFD.o (by rw[EP.o];exact ai) (by rw[ex,hq]) je.o;obtain⟨AL,eL0⟩:=Aj wr.heap.size;obtain⟨wL,eL⟩:=Aj (wr.alloc (O #[] 9));have ie:=aB eL
      have wh:Hd (wL.ownsRow AL 9 1 (J (p_ AL) 0 0) 0 []):=by
       show World.ownsRow _ _ _ _ _ _ _;rw[←eL,←eL0];exact World.ownsRow_lit wr #[] 0 (Nat.le_refl _) qq rfl
      have Y2:Hd (∀j u,((Ar st).drop k)[j]?=M u->wL.cell? ((⟨b,k,N⟩:Addr).add j)=M u):=λj u q=>by
       rw[List.getElem?_drop]at q;obtain⟨b2,q2,g2⟩:=Cv HROW.o q;cases q2;have g3:=Aa ie g2;rw[show(⟨b,k,N⟩:Addr).add j=⟨b,k+j,N⟩ from by unfold Addr.add;split;(rename_i q;rw[q];rfl);rfl];exact g3
      (have F1:((Ar st).drop k).length=(p-k)*1:=by rw[List.length_drop];unfold Ar;rw[List.length_map,EP.o,Nat.mul_one]);have k6L:=Aa ie k6;have HDL:=Ab F1;have ki:=Ab ie;clear F1 ie;(have hkc:p<=kc:=by rcases HROW.o.2 with⟨q,_⟩|⟨g,c,cur,q,_,_,q2,_⟩;cases q;cases q;exact q2);have hLw:AL<=wL.heap.size:=zo ki.o.size;obtain⟨i0,hi9,bq,bi,ci⟩:=info_parts Tryz.info9y;have EL0:=Ab eL0;clear ex HIL t6 HIH HE
      go_wp2_with (first|(at_builtin;refine wpList_append_own_at _ rfl (.tmp 91) (.tmp 97) 22 rfl AL 9 i0 ze 1 16 underlying22 hi9 bq bi ci rfl qh _ 0 [] rfl wh.o ⟨b,k,N⟩ (p-k) (kc-k) ((Ar st).drop k) rfl HDL.o Y2.o (λu hu=>by obtain⟨z,_,rfl⟩:=List.mem_map.mp (List.mem_of_mem_drop hu);rfl) qq qg hLw ?_;intro v' wA ah ae dj ul;clear dj ul;rw[Nat.zero_add]at ah;obtain⟨ca,cc,ecv⟩:=Al ah;subst ecv))
      have cq:Bw wr wA:=ki.o.grown ae qg (λj q=>by cases q;exact Nat.le_of_eq EL0.o);have HSA:=Ab (HS.o.bl cq);have HOA:=Ab ah;have HBA:=Ab cq;clear ah ae cq wh Y2 HDL
      have V1:wA.ownsRow W0.heap.size 9 1 (J ca (p-k) cc) (st.drop k).length (Ar (st.drop k)):=by
       (have h2:(st.drop k).length=p-k:=by rw[List.length_drop,EP.o]);rw[h2,show Ar (st.drop k)=[]++(Ar st).drop k from by simp[Ar,List.map_drop]];exact Ah HOA.o (zo EL0.o)
      have HCH:Hd (∀w5:E,(∀b,b<wA.heap.size->b≠h->w5.heap[b]?=wA.heap[b]?)->w5.ownsRow W0.heap.size 9 1 (J ca (p-k) cc) (st.drop k).length (Ar (st.drop k))):=λw5 jm=>An V1 (λb2 q=>jm b2 (V1.lt b2 q).2 (λq2=>by have:=(HOA.o.lt b2 q).1;have:=Ag HS.o.blk;have:=EL0.o;omega));clear V1;refine(Nd h _ _ _ _ _ _ _ _ _ _ _ _ _ _ _ _ _ _ _ 6 ⟨#[]⟩ ⟨#[]⟩ ⟨#[]⟩ ca _ cc wA HSA.o.blk).mono ?_;rintro e w5 ⟨rfl,co,jm,ba⟩;have HFF:=Ab (HS.o.fall HBA.o bx co jm);have HD:Hd (Gj W0.heap.size h st.length v.nv w5 (.circle (st.drop k))):=HSA.o.dead jm [I 6,ze,J ca (p-k) cc,I 0,nS,nS,nS,nS,ze,ze] ba ⟨J ca (p-k) cc,HCH.o w5 jm,rfl⟩ (λu b2 q1 q2 q3=>by cases q1;have:=(HOA.o.lt b2 q2).1;have:=(HS.o.ran.lt b2 q3).2;have:=EL0.o;omega) qg;have HQ5:=Ab (HFF.o.blk HQ.o HNQ.o);have HF5:=Ab (HF.o.trans HFF.o);clear co jm ba HFF;obtain⟨z0,z1,z2,zf⟩:=Ci HQ5.o;go_wp2_with fail;obtain⟨y0,y1,y2,_⟩:=Ci (Ba HQ5.o (I 6) ze nS);exact bR (v:=G #[I 6,ze,nS]) qau rfl ⟨_,_,_,jr.o,Or.inr ⟨_,v.nv,rfl,rfl,HF5.o.set3 hQW hBQ _ _ _,HD.o.set3 ⟨_,HQ5.o⟩ qh qh _ _ _⟩⟩
     ·have dq:=Hi hq
      have re:Hd (∀j,j<k+1->nx st j≠nm):=λj hj=>by
       rcases Nat.lt_or_ge j k with q|q
       ·exact je.o j q
       ·obtain rfl:j=k:=qg
        rw[ex];exact hq
      clear ex;exact qll
    have fs:¬ (k:Int)<(p:Int):=qg;have HNH:Hd (¬ El st nm):=λ⟨j,hj,q⟩=>je.o j (by rw[EP.o]at hj;omega) q;(have yx:Hd (El (Aq ts) nm):=by have:=Ir HIL.o;rw[t6.o]at this;exact this);clear je ai
    by_cases jv:60<=p
    ·have d60:decide ((60:Int)<=(p:Int))=true:=qj
     have jr:Hd (Az ss ts n ms s st (.make nm) ms s (.bad (.deep nm))):=.deep HFD.o HNH.o HNS.o yx.o (by rw[EP.o];exact jv);clear HE HIH HIL t6;go_wp2_with fail;refine(Nd h _ _ _ _ _ _ _ _ _ _ _ _ _ _ _ _ _ _ _ 7 nm ⟨#[]⟩ ⟨#[]⟩ N 0 0 wr HS.o.blk).mono ?_;rintro e w5 ⟨rfl,co,jm,ba⟩;have HFF:=Ab (HS.o.fall (Below.refl _ _) bx co jm);have HD:Hd (Gj W0.heap.size h st.length v.nv w5 (.deep nm)):=HS.o.dead jm [I 7,S nm,nS,I 0,nS,nS,nS,nS,ze,ze] ba rfl (noOwn rfl _) qg;have HQ5:=Ab (HFF.o.blk HQ.o HNQ.o);have HF5:=Ab (HF.o.trans HFF.o);clear co jm ba HFF;obtain⟨z0,z1,z2,zf⟩:=Ci HQ5.o;go_wp2_with fail;obtain⟨y0,y1,y2,_⟩:=Ci (Ba HQ5.o (I 7) ze nS);exact bR (v:=G #[I 7,ze,nS]) qau rfl ⟨_,_,_,jr.o,Or.inr ⟨_,v.nv,rfl,rfl,HF5.o.set3 hQW hBQ _ _ _,HD.o.set3 ⟨_,HQ5.o⟩ qh qh _ _ _⟩⟩
    have d60:decide ((60:Int)<=(p:Int))=false:=qj;obtain⟨i0,hi9,bq,bi,ci⟩:=info_parts Tryz.info9y;have hp59:p<60:=qg;clear HROW EKV jv
    go_upto_region 19 with fail
    clear k6 d60 fs;obtain⟨LwS,eL0wS⟩:=Aj wr.heap.size;obtain⟨wLwS,eLwS⟩:=Aj (wr.alloc (O #[S nm] 9));have ie:=aB eLwS;have HL:=Ab (nW eLwS eL0wS);have ki:=Ab ie;clear ie;have sr:=Ab (HS.o.bl ki.o);obtain⟨xa,xc,exv⟩:=Al sr.o.stk;obtain⟨xl,exl⟩:=Aj ((st).length);have EXL:=Ab exl;rw[exl]at exv;have EXV:=Ab exv;have rv:=sr.o.stk;rw[exv,exl]at rv;have nz:=Ab rv;(have kx:wr.cell? ⟨h,6,N⟩=M (J xa xl xc):=by rw[cH HS.o.blk,←exv];rfl);(have lq:xl<=1000:=by rw[←exl];omega);clear exv rv exl;have R4:=Nat.le_trans bx ki.o.size
    go_upto_region 20 with(first|(at_builtin;refine wpList_append_own_at _ rfl (.tmp 115) (.tmp 117) 22 rfl W0.heap.size 9 i0 ze 1 16 underlying22 hi9 bq bi ci rfl qh (J xa xl xc) xl _ rfl nz.o ⟨LwS,0,N⟩ 1 1 [S nm] rfl rfl (World.news_of_block (cs:=#[S nm]) HL.o) qak qq qg R4 ?_;intro vw wAwS ah ae dj ul;clear dj;obtain⟨ya,yc,evw⟩:=Al ah;subst evw;have hnh:=Ae nz.o qh sr.o.blk;have B9:=Bh sr.o.blk ae hnh;have kxA:wAwS.cell? ⟨h,6,N⟩=M _:=qho;have kfA:∀j,wAwS.frozen? ⟨h,j,N⟩=false:=(λj=>fH B9 j);clear B9 hnh kx))
    clear kxA kfA;obtain⟨vw,evw⟩:=Aj (Value.slice ya (xl+1) yc);rw[evw]at ah ul ⊢;clear evw
    try clear k6 d60
    obtain⟨wS,eSwS⟩:=Aj (wAwS.setCell ⟨h,6,N⟩ vw)
    have uh:∀b,vw.ownBlock=M b->v.kv.ownBlock=M b\/wLwS.heap.size<=b:=λb q=>by
     exact qfs
    have E9:wLwS.grownBy wAwS v.kv.ownBlock:=by rw[EXV.o];exact ae
    have aq:wAwS.ownsRow W0.heap.size 9 1 vw (st++[nm]).length (Ar (st++[nm])):=by
     rw[List.length_append,List.length_singleton,EXL.o,show Ar (st++[nm])=Ar (st)++[S nm] from qal];exact ah
    have HG:=Ab (sr.o.growK R4 aq E9 uh);rw[eSwS]at HG ⊢;clear eSwS eLwS ah ae ul uh E9 aq;have ol:=Ab HG.o.1;have t7:=Ab (Dn.trans (Dn.of_below ki.o bx) HG.o.2);have NOHQ:=Ab (t7.o.no (Ag HQ.o) HNQ.o);replace HQ:=Ab (t7.o.blk HQ.o HNQ.o);replace HF:=Ab (HF.o.trans t7.o);replace HB:=Ab (HB.o.trans t7.o.bel);replace bx:=Nat.le_trans bx t7.o.bel.size;clear HG t7 sr nz HL EXV EXL ki lq eL0wS;obtain⟨vK,evK⟩:=Aj ((⟨v.tx,v.qv,v.mv,vw,v.nv,v.ev,v.u⟩:Hv));rw[evK]at HF ol NOHQ;(have HUK:Hd (vK.u=[]):=by rw[←evK];exact HU);have HNQK:=NOHQ;clear evK HS NOHQ;(have htc:Dp ts ms st+1<=Dp ts ms (st++[nm]):=by have:=Zq (st:=st) (ms:=ms) HIL.o (by rw[t6.o];exact HFD.o) (by rw[t6.o];exact HNH.o);rwa [t6.o]at this);have J0:=Ab (HI.o.push HFD.o yx.o);have mq:=HK.o.2.1;(have HPH2:Hd (ms.length+200*s.R.length<=400200*Dp ts ms (st++[nm])):=by have:=HPH.o;show _<=_;omega);(have HCN2:Hd (Pr ts ms s (st++[nm])):=by have:=HCN.o;show _<=_;unfold Pr at this;rw[List.length_append,List.length_singleton];omega);have we:=Ab (HE.o.v.pr i HIL.o);obtain⟨bt,ot,eta,t1,a',aj,t2,r3⟩:=HE.o.rt i HIL.o;subst eta;have HXC:=Ab (HE.o.xc i);have HMAD:Hd (∀ms' s' d,Az ss ts n ms s (st++[nm]) (.work nm (tx ts i).code) ms' s' (.ok d)->Az ss ts n ms s st (.make nm) (ms'++[(nm,d)]) s' (.ok d)):=λms' s' d q=>.made HFD.o HNH.o HNS.o HIL.o t6.o (by rw[EP.o];exact hp59) q;have HFEL:Hd (∀ms' s' b,Az ss ts n ms s (st++[nm]) (.work nm (tx ts i).code) ms' s' (.bad b)->Az ss ts n ms s st (.make nm) ms' s' (.bad b)):=λms' s' b q=>.fell HFD.o HNH.o HNS.o HIL.o t6.o (by rw[EP.o];exact hp59) q;have htS:=Aa HB.o t2;have hiI:(i:Int)<(ts.length:Int):=zo HIL.o;have hM:=HIH.o (by rw[EP.o];exact hp59) nm;have HM:=Ab hM;clear hM HIH;generalize (tx ts i).code=is at *
    have HC0:Hd (Ls W0.heap.size W0 a' is):=⟨r3,λb off q=>by
     have:=(Ef we.o).1;obtain⟨b',bz,q',c1,_,_⟩:=r3 0 qg;rw[q]at q';cases q';exact World.block_lt_of_cell? _ _ c1⟩
    have hisl:is.length<=1048576:=zo (Ef we.o);have HT0:=Ab t2;clear t1 t2 r3;have k1:=cK ol.o.blk 1;go_wp2_with fail;clear k1 htS;refine(try_any W0 h sa (M ⟨bt,ot,N⟩) c1 c2 n ss ts HE.o (st++[nm]) HM.o h1 h8 ms s vK a' aj is wS HB.o ol.o HUK.o J0.o HK.o (HC0.o.belowB HB.o) hisl HPH2.o HCN2.o).mono ?_;rintro e w5 ⟨ms',s',a,bv,⟨c,t,r,v5,rfl,rfl,yn,cm,dp,hu5⟩|⟨v5,rfl,rfl,cm,dp,hu5⟩|⟨bb,nb,rfl,rfl,cm,tg⟩⟩;rotate_left 1;rotate_left 1
    ·have jr:=Ab (HFEL.o _ _ _ (.tfell bv))
     have km:=Ab cm;replace HQ:=Ab (km.o.blk HQ.o HNQK.o);replace HF:=Ab (HF.o.trans km.o);replace HB:=Ab (HB.o.trans km.o.bel);replace bx:=Nat.le_trans bx km.o.bel.size;have HD5:=Ab tg;clear bv cm tg
     go_upto_region 21 with fail
     obtain⟨RR,eRR⟩:=Aj w5.heap.size;obtain⟨w6,e6⟩:=Aj (w5.alloc (O #[I 0,ze,nS] 65));have bj:Bw w5 w6:=qbb;rw[e6]
     try rw[eRR]
     clear e6;have HD6:=Ab (HD5.o.frx bj);replace HQ:=Ab (Af HQ.o bj);replace HF:=Ab (HF.o.trans (Dn.of_below bj bx));clear bj km eRR;have O4:=Ab (HD6.o.less);obtain⟨k9,k10,hhl⟩:=O4.o.cells;obtain⟨z0,z1,z2,zf⟩:=Ci HQ.o;go_wp2_with fail;obtain⟨y0,y1,y2,_⟩:=Ci (Ba HQ.o (I (Hx bb)) ze nS);exact bR (v:=G #[I (Hx bb),ze,nS]) qau rfl ⟨_,_,_,jr.o,Or.inr ⟨bb,_,rfl,rfl,HF.o.set3 hQW hBQ _ _ _,O4.o.set3 ⟨_,HQ.o⟩ qh qh _ _ _⟩⟩
    ·obtain⟨i1,i2,i3,i4⟩:=Az.inv HE.o.v bv J0.o HK.o (Nat.le_refl _) (λb q=>qz)
     have xz:=Az.cost HE.o.v bv J0.o HK.o (Nat.le_refl _) (λb q=>qz);simp only[Pq]at xz;have zv:=Az.cntM HE.o.v bv J0.o HK.o (Nat.le_refl _) (λb q=>qz) rfl HCN2.o;unfold Pr at zv;have htl2:=Nat.le_trans (Pz ts ms' (st++[nm])) HE.o.l2;have htl3:=Nat.le_trans (Pz ts ms (st++[nm])) HE.o.l2;have hml2:ms'.length<=200000000:=zo EM.o;have hxl2:s'.held.length<=200:=qg;have jr:=Ab (HMAD.o _ _ _ (.held bv));have km:=Ab cm;have On:=Ab (km.o.no (Ag HQ.o) HNQK.o);replace HQ:=Ab (km.o.blk HQ.o HNQK.o);replace HF:=Ab (HF.o.trans km.o);replace HB:=Ab (HB.o.trans km.o.bel);replace bx:=Nat.le_trans bx km.o.bel.size;have iq:=Ab dp;clear bv cm dp i1 i2 i3 i4 xz zv
     go_upto_region 21 with fail
     obtain⟨RR,eRR⟩:=Aj w5.heap.size;obtain⟨w6,e6⟩:=Aj (w5.alloc (O #[I c,S t,nS] 65));have bj:Bw w5 w6:=qbb;have jw:Hd (w6.heap[RR]?=M (O #[I c,S t,nS] 65 (0,0))):=qcu;rw[e6]
     try rw[eRR]
     clear e6;have HNR:Hd (¬ Cx h v5 RR):=iq.o.not qg;have fl:=Ab (iq.o.bl bj);replace HQ:=Ab (Af HQ.o bj);replace HF:=Ab (HF.o.trans (Dn.of_below bj bx));replace HB:=Ab (HB.o.trans (bj.mono bx));replace bx:=Nat.le_trans bx bj.size;clear bj km eRR;clear iq
     go_upto_region 22 with fail
     obtain⟨LwE,F7⟩:=Aj w6.heap.size;obtain⟨wLwE,eLwE⟩:=Aj (w6.alloc (O #[S nm] 9));have ie:=aB eLwE;have HL:=Ab (nW eLwE F7);have ki:=Ab ie;clear ie;have sr:=Ab (fl.o.bl ki.o);obtain⟨xa,xc,exv⟩:=Al sr.o.held;obtain⟨xl,exl⟩:=Aj ((s'.held).length);have EXL:=Ab exl;rw[exl]at exv;have EXV:=Ab exv;have rv:=sr.o.held;rw[exv,exl]at rv;have nz:=Ab rv;(have kx:w6.cell? ⟨h,8,N⟩=M (J xa xl xc):=by rw[cH fl.o.blk,←exv];rfl);(have lq:xl<=1000:=by rw[←exl];omega);clear exv rv exl;have R4:=Nat.le_trans bx ki.o.size
     go_upto_region 26 with(first|(at_builtin;refine wpList_append_own_at _ rfl (.tmp 141) (.tmp 143) 22 rfl W0.heap.size 9 i0 ze 1 16 underlying22 hi9 bq bi ci rfl qh (J xa xl xc) xl _ rfl nz.o ⟨LwE,0,N⟩ 1 1 [S nm] rfl rfl (World.news_of_block (cs:=#[S nm]) HL.o) qak qq qg R4 ?_;intro vw wAwE ah ae dj ul;clear dj;obtain⟨ya,yc,evw⟩:=Al ah;subst evw;have hnh:=Ae nz.o qh sr.o.blk;have B9:=Bh sr.o.blk ae hnh;have kxA:wAwE.cell? ⟨h,8,N⟩=M _:=qho;have kfA:∀j,wAwE.frozen? ⟨h,j,N⟩=false:=(λj=>fH B9 j);clear B9 hnh kx))
     clear kxA kfA;obtain⟨vw,evw⟩:=Aj (Value.slice ya (xl+1) yc);rw[evw]at ah ul ⊢;clear evw
     try clear k6 d60
     obtain⟨wE,eSwE⟩:=Aj (wAwE.setCell ⟨h,8,N⟩ vw)
     have uh:∀b,vw.ownBlock=M b->v5.ev.ownBlock=M b\/wLwE.heap.size<=b:=λb q=>by
      exact qfs
     have E9:wLwE.grownBy wAwE v5.ev.ownBlock:=by rw[EXV.o];exact ae
     have aq:wAwE.ownsRow W0.heap.size 9 1 vw (s'.held++[nm]).length (Ar (s'.held++[nm])):=by
      rw[List.length_append,List.length_singleton,EXL.o,show Ar (s'.held++[nm])=Ar (s'.held)++[S nm] from qal];exact ah
     have HG:=Ab (sr.o.growE R4 aq E9 uh);rw[eSwE]at HG ⊢;clear eSwE eLwE ah ae ul uh E9 aq;have ol:=Ab HG.o.1;have t7:=Ab (Dn.trans (Dn.of_below ki.o bx) HG.o.2);have NOHQ:=Ab (t7.o.no (Ag HQ.o) On.o);have NOHRR:=Ab (t7.o.no (Ag jw.o) HNR.o);replace HQ:=Ab (t7.o.blk HQ.o On.o);replace jw:=Ab (t7.o.blk jw.o HNR.o);replace HF:=Ab (HF.o.trans t7.o);replace bx:=Nat.le_trans bx t7.o.bel.size;clear HG t7 sr nz HL EXV EXL ki lq F7;obtain⟨vE,evE⟩:=Aj ((⟨v5.tx,v5.qv,v5.mv,v5.kv,v5.nv,vw,v5.u⟩:Hv));(have HUE:Hd (vE.u=[r.toNat]):=by rw[←evE];exact hu5);clear hu5;rw[evE]at HF ol NOHQ NOHRR;clear evE;have k9:=cK ol.o.blk 9
     go_upto_region 28 with fail
     clear k9;obtain⟨ka2,T4,ib⟩:=Al ol.o.stk;rw[List.length_append,List.length_singleton]at ib;have pp:=ol.o.stk;rw[ib,List.length_append,List.length_singleton]at pp;obtain⟨bk,eka,_⟩:=Cv pp (Zy (st:=st++[nm]) (i:=st.length) qbz);subst eka;(have V4:st.length+1<=T4:=by rcases pp.2 with⟨q,_⟩|⟨g,c,cur,q,_,_,q2,_⟩;cases q;cases q;exact q2);have EK2:=Ab ib;clear ib pp;have hhQ:h≠Q/\h≠RR:=⟨λq=>NOHQ.o (Or.inl q.symm),λq=>NOHRR.o (Or.inl q.symm)⟩;obtain⟨p1,ep1⟩:=Aj st.length;rw[ep1]at V4 EK2;have H7:IntKind.i64.wrap (p1:Int)=(p1:Int):=IntWalk.i64_in _ ⟨qg,qg⟩;have yo:(0:Int)<=(p1:Int):=qg;have hpk:(p1:Int)<=(T4:Int):=qg;refine Lt.begin 14 (λw'=>w'.cell? ⟨h,6,N⟩=M (J (p_ bk) (p1+1) T4)) qk ?_;obtain⟨wD,eD⟩:=Aj wE.drew;rw[eD];have dr:Bw wE wD:=qaf;clear eD;replace ol:=Ab (ol.o.bl dr);replace HQ:=Ab (Af HQ.o dr);replace jw:=Ab (Af jw.o dr);replace HF:=Ab (HF.o.trans (Dn.of_below dr bx));have gz:(λw'=>w'.cell? ⟨h,6,N⟩=M (J (p_ bk) (p1+1) T4)) wD:=(by show _=_;rw[cH ol.o.blk,←EK2.o];rfl);replace bx:=Nat.le_trans bx dr.size;change K 0 _
     iterate 12
      refine Lt.ti (v:=?_) gz ?_ ?_;rotate_left 1
      ·exact qdw
      simp only[gX]
     refine Lt.sp (i:=12) (λK hK=>?_);go_simp;refine hK.out _ _ (λ_=>gz) (λ_=>?_);clear hK K 
     try simp only[gX]
     refine Lt.ti (i:=13) (v:=?_) gz ?_ ?_;rotate_left 1
     ·exact qdw
     simp only[gX];have kf:=fZ ol.o.blk;(have k6:wD.cell? ⟨h,6,N⟩=M (J (p_ bk) (p1+1) T4):=by rw[cH ol.o.blk,←EK2.o];rfl);refine Lt.sp (i:=14) (λK hK=>?_);go_simp;refine hK.out _ _ (λh=>absurd rfl h) (λ_=>?_);clear hK K;refine Lt.done qk ?_ _;have od:=ol.o.pop bx (by rw[EK2.o,ep1]);rw[ep1]at od;obtain⟨V,eV⟩:=Aj (wD.setCell ⟨h,6,N⟩ (J (p_ bk) p1 T4));rw[eV]at od ⊢;(have HQV:Hd (V.heap[Q]?=M (O #[I 0,ze,nS] 65 (0,0))):=by show _=_;rw[←eV];exact Fo HQ.o (Ne.symm hhQ.1) _);(have X6:Hd (V.heap[RR]?=M (O #[I c,S t,nS] 65 (0,0))):=by show _=_;rw[←eV];exact Fo jw.o (Ne.symm hhQ.2) _);have HNQV:=Ab (od.2.no (Ag HQ.o) NOHQ.o);have bh:=Ab od.1;have HFV:=Ab (HF.o.trans od.2);have hBV:=Nat.le_trans bx od.2.bel.size;clear od eV kf k6 ol HF HQ jw;obtain⟨x0,x1,x2⟩:=Bb X6.o;go_wp2_with fail;clear x0 x1 x2;refine(Qq W0.heap.size h n _ _ ms' _ st _ nm ⟨c,t,[]⟩ _ V bh.o hBV qg (by show vE.u=_;rw[HUE.o,if_pos yn])).mono ?_;rintro e w9 ⟨rfl,v9,cm,dp,hu9⟩;have Y0:=Ab (cm.blk HQV.o HNQV.o);have HF9:=Ab (HFV.o.trans cm);have mw:=Ab dp;clear cm dp;obtain⟨z0,z1,z2,zf⟩:=Ci Y0.o;go_wp2_with fail;obtain⟨y0,y1,y2,_⟩:=Ci (Ba Y0.o (I c) (S t) nS);exact bR (v:=G #[I c,S t,nS]) qau rfl ⟨_,_,_,jr.o,Or.inl ⟨⟨c,t,[]⟩,v9,rfl,rfl,HF9.o.set3 hQW hBQ _ _ _,mw.o.set3 ⟨_,Y0.o⟩ qh _ _ _,hu9⟩⟩
    ·obtain⟨i1,i2,i3,i4⟩:=Az.inv HE.o.v bv J0.o HK.o (Nat.le_refl _) (λb q=>qz)
     have xz:=Az.cost HE.o.v bv J0.o HK.o (Nat.le_refl _) (λb q=>qz);simp only[Pq]at xz;have zv:=Az.cntM HE.o.v bv J0.o HK.o (Nat.le_refl _) (λb q=>qz) rfl HCN2.o;have HI3:=Ab i1;have tu:=Ab i2;have HCN3:=Ab zv;(have HPH3:Hd (ms'.length+200<=400200*Dp ts ms' (st++[nm])):=by have:=HPH.o;show _<=_;omega);have HTRY:=Ab bv;have km:=Ab cm;have On:=Ab (km.o.no (Ag HQ.o) HNQK.o);replace HQ:=Ab (km.o.blk HQ.o HNQK.o);replace HF:=Ab (HF.o.trans km.o);replace HB:=Ab (HB.o.trans km.o.bel);replace bx:=Nat.le_trans bx km.o.bel.size;have iq:=Ab dp;clear bv cm dp i1 i2 i3 i4 xz zv
     go_upto_region 21 with fail
     obtain⟨RR,eRR⟩:=Aj w5.heap.size;obtain⟨w6,e6⟩:=Aj (w5.alloc (O #[I 0,ze,nS] 65));have bj:Bw w5 w6:=qbb;have jw:Hd (w6.heap[RR]?=M (O #[I 0,ze,nS] 65 (0,0))):=qcu;rw[e6]
     try rw[eRR]
     clear e6;have hRQ:Q<RR:=zo (Ag HQ.o);(have hwR:w.heap.size<=RR:=by rw[←eRR];exact HF.o.bel.size);have hBR:W0.heap.size<=RR:=qg;have HNR:Hd (¬ Cx h v5 RR):=iq.o.not qg;have fl:=Ab (iq.o.bl bj);replace HQ:=Ab (Af HQ.o bj);replace HF:=Ab (HF.o.trans (Dn.of_below bj bx));replace HB:=Ab (HB.o.trans (bj.mono bx));replace bx:=Nat.le_trans bx bj.size;clear bj km eRR;clear iq;have k9:=cK fl.o.blk 9;have k1:=cK fl.o.blk 1;have htS:=Aa HB.o HT0.o;go_wp2_with fail;clear k9 k1 htS;refine(run5_any W0 h sa (M ⟨bt,ot,N⟩) c1 c2 n ss ts HE.o (st++[nm]) HM.o h1 h8 ms' s' v5 a' aj is w6 HB.o fl.o hu5 HI3.o tu.o (HC0.o.belowB HB.o) we.o HXC.o HPH3.o HCN3.o).mono ?_;rintro e w7 ⟨ce,s2,a2,bv,⟨d,v7,r,rfl,rfl,yn,cm,dp,hu7⟩|⟨bb,nb,rfl,rfl,cm,tg⟩⟩;rotate_left 1
     ·have jr:=Ab (HFEL.o _ _ _ (.rfell HTRY.o bv))
      have O4:=Ab tg;have km:=Ab cm;replace HQ:=Ab (km.o.blk HQ.o On.o);replace jw:=Ab (km.o.blk jw.o HNR.o);replace HF:=Ab (HF.o.trans km.o);replace HB:=Ab (HB.o.trans km.o.bel);replace bx:=Nat.le_trans bx km.o.bel.size;obtain⟨z0,z1,z2,zf⟩:=Ci jw.o
      go_upto_region 25 with fail
      clear z0 z1 z2 zf;have gk:=Ab (O4.o.set3 ⟨_,jw.o⟩ qh qh (I 0) ze nS);replace HF:=Ab (HF.o.set3 hwR hBR (I 0) ze nS);replace HQ:=Ab (Qz HQ.o (show Q≠RR from qg) (I 0) ze nS);replace HB:=Ab (((HB.o.setCell (p:=⟨RR,0,N⟩) hBR (I 0)).setCell (p:=⟨RR,1,N⟩) hBR ze).setCell (p:=⟨RR,2,N⟩) hBR nS);replace jw:=Ab (Ba jw.o (I 0) ze nS);have zl:w7.heap.size<=(((w7.setCell ⟨RR,0,N⟩ (I 0)).setCell ⟨RR,1,N⟩ ze).setCell ⟨RR,2,N⟩ nS).heap.size:=qi;obtain⟨w8,e8⟩:=Aj (((w7.setCell ⟨RR,0,N⟩ (I 0)).setCell ⟨RR,1,N⟩ ze).setCell ⟨RR,2,N⟩ nS);rw[e8]at gk HF HQ HB jw zl ⊢;clear e8;replace bx:=Nat.le_trans bx zl;clear zl km;clear bv cm tg O4;obtain⟨pre,ee,d7,hpk,hpe,hp7,⟨xs,ue,hxs2⟩,hpa⟩:=gk.o;rw[List.length_append,List.length_singleton]at hxs2;obtain⟨xa,xc,exv⟩:=Al ue;subst exv;obtain⟨xl,exl⟩:=Aj xs.length;have EXL:=Ab exl;rw[exl]at ue hxs2 hp7 hpa gk HF;obtain⟨L8,eL8⟩:=Aj w8.heap.size;obtain⟨wL,eL⟩:=Aj (w8.alloc (O #[S nm] 9));have ie:=aB eL;have HL:=Ab (nW eL eL8);have ki:=Ab ie;have nz:=Ab (Ad ue ie);have N8:=Ab (Af hpk ie);have HDL:=Ab (gk.o.frx ie);(have kx:w8.cell? ⟨h,7,N⟩=M (J xa xl xc):=by rw[cH hpk,List.getElem?_toArray,List.getElem?_append_left qhn,List.getElem?_append_left qg];exact hp7);have lq:xl<=1000:=qg;have R4:=Nat.le_trans bx ie.size;(have hk20:(pre++[Value.bool true]++ee).length=20:=by rw[List.length_append,List.length_append,d7,hpe.code.1];rfl);have HXS2:=Ab hxs2;clear ie hpk ue hpe hpa hxs2 hp7 exl
      go_upto_region 26 with(first|(at_builtin;refine wpList_append_own_at _ rfl (.tmp 170) (.tmp 172) 22 rfl W0.heap.size 9 i0 ze 1 16 underlying22 hi9 bq bi ci rfl qh (J xa xl xc) xl _ rfl nz.o ⟨L8,0,N⟩ 1 1 [S nm] rfl rfl (World.news_of_block (cs:=#[S nm]) HL.o) qak qq qg R4 ?_;intro vw wA ah ae dj ul;clear dj;obtain⟨ya,yc,evw⟩:=Al ah;subst evw;have hnh:=Ae nz.o qh N8.o;have B9:=Bh N8.o ae hnh;have kxA:wA.cell? ⟨h,7,N⟩=M ((pre++[Value.bool true]++ee).toArray[7]'(by simp only[List.size_toArray];omega)):=(by rw[cH B9];exact Array.getElem?_eq_getElem _);have kfA:∀j,wA.frozen? ⟨h,j,N⟩=false:=(λj=>fH B9 j);clear B9 hnh kx))
      clear kxA kfA;(have fq:wA.ownsRow W0.heap.size 9 1 (J ya (xl+1) yc) (xs.length+1) (Ar xs++[S nm]):=by rw[EXL.o];exact ah);(have hrw3:wL.ownsRow W0.heap.size 9 1 (J xa xl xc) xs.length (Ar xs):=by rw[EXL.o];exact nz.o);(have HDL2:Gj W0.heap.size h (st.length+1) (J xa xl xc) wL bb:=by have:=HDL.o;rwa [List.length_append,List.length_singleton]at this);obtain⟨hd9,hf9⟩:=HDL2.grow HHB.o R4 hrw3 (by rw[EXL.o];have:=HXS2.o;omega) fq ae ul;obtain⟨w9,e9⟩:=Aj (wA.setCell ⟨h,7,N⟩ (J ya (xl+1) yc));rw[e9]at hd9 hf9 ⊢;have hhQ:Q≠h:=λq=>On.o (Or.inl q)
      have hQ9:w9.heap[Q]?=M (O #[I 0,ze,nS] 65 (0,0)):=by
       have a1:=Af HQ.o ki.o;have a2:=Bh a1 ae (Ae nz.o qh a1);rw[←e9];exact Fo a2 hhQ _
      have Y0:=Ab hQ9;have HD9:=Ab hd9;have HF9:=Ab ((HF.o.trans (Dn.of_below ki.o bx)).trans hf9);clear hd9 hf9 hQ9 e9 eL ah ae ul fq hrw3 HDL2 hk20;obtain⟨k9,k10,hhl⟩:=HD9.o.cells;obtain⟨z0,z1,z2,zf⟩:=Ci Y0.o;go_wp2_with fail;obtain⟨y0,y1,y2,_⟩:=Ci (Ba Y0.o (I (Hx bb)) ze nS);exact bR (v:=G #[I (Hx bb),ze,nS]) qau rfl ⟨_,_,_,jr.o,Or.inr ⟨bb,_,rfl,rfl,HF9.o.set3 hQW hBQ _ _ _,HD9.o.set3 ⟨_,Y0.o⟩ qh qh _ _ _⟩⟩
     obtain⟨dc,dt,dl⟩:=d;have hjob:JobB s' (.run is [] []):=⟨⟨we.o,λi hi=>Wl,rfl⟩,qi,λg hg=>by simp at hg⟩;have xz:=Az.cost HE.o.v bv HI3.o tu.o hjob (λb q=>qz);simp only[Pq]at xz;have zv:=Az.cntM HE.o.v bv HI3.o tu.o hjob (λb q=>qz) rfl HCN3.o;unfold Pr at zv;have htl4:=Nat.le_trans (Pz ts ce (st++[nm])) HE.o.l2;have hml3:ce.length<=300000000:=zo HPH3.o;have hxl2:s2.ran.length<=200:=qg;have jr:=Ab (HMAD.o _ _ _ (.ran HTRY.o bv));have my:=Ab dp;have km:=Ab cm;have NQ7:=Ab (km.o.no (Ag HQ.o) On.o);have NR7:=Ab (km.o.no (Ag jw.o) HNR.o);replace HQ:=Ab (km.o.blk HQ.o On.o);replace jw:=Ab (km.o.blk jw.o HNR.o);replace HF:=Ab (HF.o.trans km.o);replace HB:=Ab (HB.o.trans km.o.bel);replace bx:=Nat.le_trans bx km.o.bel.size;obtain⟨z0,z1,z2,zf⟩:=Ci jw.o
     go_upto_region 25 with fail
     clear z0 z1 z2 zf;have gk:=Ab (my.o.set3 ⟨_,jw.o⟩ qh (I dc) (S dt) nS);replace HF:=Ab (HF.o.set3 hwR hBR (I dc) (S dt) nS);replace HQ:=Ab (Qz HQ.o (show Q≠RR from qg) (I dc) (S dt) nS);replace HB:=Ab (((HB.o.setCell (p:=⟨RR,0,N⟩) hBR (I dc)).setCell (p:=⟨RR,1,N⟩) hBR (S dt)).setCell (p:=⟨RR,2,N⟩) hBR nS);replace jw:=Ab (Ba jw.o (I dc) (S dt) nS);have zl:w7.heap.size<=(((w7.setCell ⟨RR,0,N⟩ (I dc)).setCell ⟨RR,1,N⟩ (S dt)).setCell ⟨RR,2,N⟩ nS).heap.size:=qi;obtain⟨w8,e8⟩:=Aj (((w7.setCell ⟨RR,0,N⟩ (I dc)).setCell ⟨RR,1,N⟩ (S dt)).setCell ⟨RR,2,N⟩ nS);rw[e8]at gk HF HQ HB jw zl ⊢;clear e8;replace bx:=Nat.le_trans bx zl;clear zl km;clear bv cm dp xz zv hjob my HTRY fl;obtain⟨LwE,F7⟩:=Aj w8.heap.size;obtain⟨wLwE,eLwE⟩:=Aj (w8.alloc (O #[S nm] 9));have ie:=aB eLwE;have HL:=Ab (nW eLwE F7);have ki:=Ab ie;clear ie;have sr:=Ab (gk.o.bl ki.o);obtain⟨xa,xc,exv⟩:=Al sr.o.ran;obtain⟨xl,exl⟩:=Aj ((s2.ran).length);have EXL:=Ab exl;rw[exl]at exv;have EXV:=Ab exv;have rv:=sr.o.ran;rw[exv,exl]at rv;have nz:=Ab rv;(have kx:w8.cell? ⟨h,7,N⟩=M (J xa xl xc):=by rw[cH gk.o.blk,←exv];rfl);(have lq:xl<=1000:=by rw[←exl];omega);clear exv rv exl;have R4:=Nat.le_trans bx ki.o.size
     go_upto_region 26 with(first|(at_builtin;refine wpList_append_own_at _ rfl (.tmp 170) (.tmp 172) 22 rfl W0.heap.size 9 i0 ze 1 16 underlying22 hi9 bq bi ci rfl qh (J xa xl xc) xl _ rfl nz.o ⟨LwE,0,N⟩ 1 1 [S nm] rfl rfl (World.news_of_block (cs:=#[S nm]) HL.o) qak qq qg R4 ?_;intro vw wAwE ah ae dj ul;clear dj;obtain⟨ya,yc,evw⟩:=Al ah;subst evw;have hnh:=Ae nz.o qh sr.o.blk;have B9:=Bh sr.o.blk ae hnh;have kxA:wAwE.cell? ⟨h,7,N⟩=M _:=qho;have kfA:∀j,wAwE.frozen? ⟨h,j,N⟩=false:=(λj=>fH B9 j);clear B9 hnh kx))
     clear kxA kfA;obtain⟨vw,evw⟩:=Aj (Value.slice ya (xl+1) yc);rw[evw]at ah ul ⊢;clear evw
     try clear k6 d60
     obtain⟨wE,eSwE⟩:=Aj (wAwE.setCell ⟨h,7,N⟩ vw)
     have uh:∀b,vw.ownBlock=M b->v7.nv.ownBlock=M b\/wLwE.heap.size<=b:=λb q=>by
      exact qfs
     have E9:wLwE.grownBy wAwE v7.nv.ownBlock:=by rw[EXV.o];exact ae
     have aq:wAwE.ownsRow W0.heap.size 9 1 vw (s2.ran++[nm]).length (Ar (s2.ran++[nm])):=by
      rw[List.length_append,List.length_singleton,EXL.o,show Ar (s2.ran++[nm])=Ar (s2.ran)++[S nm] from qal];exact ah
     have HG:=Ab (sr.o.growN R4 aq E9 uh);rw[eSwE]at HG ⊢;clear eSwE eLwE ah ae ul uh E9 aq;have ol:=Ab HG.o.1;have t7:=Ab (Dn.trans (Dn.of_below ki.o bx) HG.o.2);have NOHQ:=Ab (t7.o.no (Ag HQ.o) NQ7.o);have NOHRR:=Ab (t7.o.no (Ag jw.o) NR7.o);replace HQ:=Ab (t7.o.blk HQ.o NQ7.o);replace jw:=Ab (t7.o.blk jw.o NR7.o);replace HF:=Ab (HF.o.trans t7.o);replace bx:=Nat.le_trans bx t7.o.bel.size;clear HG t7 sr nz HL EXV EXL ki lq F7;obtain⟨vE,evE⟩:=Aj ((⟨v7.tx,v7.qv,v7.mv,v7.kv,vw,v7.ev,v7.u⟩:Hv));(have HUE:Hd (vE.u=[r.toNat]):=by rw[←evE];exact hu7);clear hu7;rw[evE]at HF ol NOHQ NOHRR;clear evE;have k9:=cK ol.o.blk 9
     go_upto_region 28 with fail
     clear k9;obtain⟨ka2,T4,ib⟩:=Al ol.o.stk;rw[List.length_append,List.length_singleton]at ib;have pp:=ol.o.stk;rw[ib,List.length_append,List.length_singleton]at pp;obtain⟨bk,eka,_⟩:=Cv pp (Zy (st:=st++[nm]) (i:=st.length) qbz);subst eka;(have V4:st.length+1<=T4:=by rcases pp.2 with⟨q,_⟩|⟨g,c,cur,q,_,_,q2,_⟩;cases q;cases q;exact q2);have EK2:=Ab ib;clear ib pp;have hhQ:h≠Q/\h≠RR:=⟨λq=>NOHQ.o (Or.inl q.symm),λq=>NOHRR.o (Or.inl q.symm)⟩;obtain⟨p1,ep1⟩:=Aj st.length;rw[ep1]at V4 EK2;have H7:IntKind.i64.wrap (p1:Int)=(p1:Int):=IntWalk.i64_in _ ⟨qg,qg⟩;have yo:(0:Int)<=(p1:Int):=qg;have hpk:(p1:Int)<=(T4:Int):=qg;refine Lt.begin 14 (λw'=>w'.cell? ⟨h,6,N⟩=M (J (p_ bk) (p1+1) T4)) qk ?_;obtain⟨wD,eD⟩:=Aj wE.drew;rw[eD];have dr:Bw wE wD:=qaf;clear eD;replace ol:=Ab (ol.o.bl dr);replace HQ:=Ab (Af HQ.o dr);replace jw:=Ab (Af jw.o dr);replace HF:=Ab (HF.o.trans (Dn.of_below dr bx));have gz:(λw'=>w'.cell? ⟨h,6,N⟩=M (J (p_ bk) (p1+1) T4)) wD:=(by show _=_;rw[cH ol.o.blk,←EK2.o];rfl);replace bx:=Nat.le_trans bx dr.size;change K 0 _
     iterate 12
      refine Lt.ti (v:=?_) gz ?_ ?_;rotate_left 1
      ·exact qdw
      simp only[gX]
     refine Lt.sp (i:=12) (λK hK=>?_);go_simp;refine hK.out _ _ (λ_=>gz) (λ_=>?_);clear hK K 
     try simp only[gX]
     refine Lt.ti (i:=13) (v:=?_) gz ?_ ?_;rotate_left 1
     ·exact qdw
     simp only[gX];have kf:=fZ ol.o.blk;(have k6:wD.cell? ⟨h,6,N⟩=M (J (p_ bk) (p1+1) T4):=by rw[cH ol.o.blk,←EK2.o];rfl);refine Lt.sp (i:=14) (λK hK=>?_);go_simp;refine hK.out _ _ (λh=>absurd rfl h) (λ_=>?_);clear hK K;refine Lt.done qk ?_ _;have od:=ol.o.pop bx (by rw[EK2.o,ep1]);rw[ep1]at od;obtain⟨V,eV⟩:=Aj (wD.setCell ⟨h,6,N⟩ (J (p_ bk) p1 T4));rw[eV]at od ⊢;(have HQV:Hd (V.heap[Q]?=M (O #[I 0,ze,nS] 65 (0,0))):=by show _=_;rw[←eV];exact Fo HQ.o (Ne.symm hhQ.1) _);(have X6:Hd (V.heap[RR]?=M (O #[I dc,S dt,nS] 65 (0,0))):=by show _=_;rw[←eV];exact Fo jw.o (Ne.symm hhQ.2) _);have HNQV:=Ab (od.2.no (Ag HQ.o) NOHQ.o);have bh:=Ab od.1;have HFV:=Ab (HF.o.trans od.2);have hBV:=Nat.le_trans bx od.2.bel.size;clear od eV kf k6 ol HF HQ jw;obtain⟨x0,x1,x2⟩:=Bb X6.o;go_wp2_with fail;clear x0 x1 x2;refine(Qq W0.heap.size h n _ _ ce _ st _ nm ⟨dc,dt,dl⟩ _ V bh.o hBV qg (by show vE.u=_;rw[HUE.o,if_pos yn])).mono ?_;rintro e w9 ⟨rfl,v9,cm,dp,hu9⟩;have Y0:=Ab (cm.blk HQV.o HNQV.o);have HF9:=Ab (HFV.o.trans cm);have mw:=Ab dp;clear cm dp;obtain⟨z0,z1,z2,zf⟩:=Ci Y0.o;go_wp2_with fail;obtain⟨y0,y1,y2,_⟩:=Ci (Ba Y0.o (I dc) (S dt) nS);exact bR (v:=G #[I dc,S dt,nS]) qau rfl ⟨_,_,_,jr.o,Or.inl ⟨⟨dc,dt,dl⟩,v9,rfl,rfl,HF9.o.set3 hQW hBQ _ _ _,mw.o.set3 ⟨_,Y0.o⟩ qh _ _ _,hu9⟩⟩
theorem make5_all(W0:E)(h:X)(sa ta:Option Addr)(c1 c2 n:X)(ss:L S2)(ts:L T2)(hE:Jf W0 sa ta ss ts)(h1:1<=n)(h8:n<=8):∀(k:X)(st:L By),60-st.length=k->st.length<=60->Oj W0 h (J sa ss.length c1) (J ta ts.length c2) n ss ts st:=by
 intro k
 induction k with
 | zero=>intro st e1 e2;exact Vn W0 h sa ta c1 c2 n ss ts hE h1 h8 st e2 (λq=>qg)
 | succ k ih=>intro st e1 e2;exact Vn W0 h sa ta c1 c2 n ss ts hE h1 h8 st e2 (λq nm=>ih (st++[nm]) qbz qbz)
structure Dz (w:E) (B:X) (tx qv:Z) (T:L By) (R:L T3):Prop where
 txt:w.ownsRow B 9 1 tx T.length (Ar T)
 txa:∃g p,tx=J (p_ g) T.length p
 rcs:Eo w B qv R
theorem Hr.recO{lo hi:X}{rs:L T3}(h:Hr w lo hi v rs):Eo w lo v rs:=by
 obtain⟨xs,cv,lv,q⟩:=h;exact⟨xs,cv,lv,q.row.own,q.fil,λi hi=>by obtain⟨ys,a,b⟩:=q.code i hi;exact⟨ys,a.own,b⟩,λi hi=>by obtain⟨ys,a,b⟩:=q.look i hi;exact⟨ys,a.own,b⟩,q.apc,q.apl⟩
theorem Eo.bl(h:Eo w B v R)(hb:Bw w w'):Eo w' B v R:=by
 obtain⟨xs,cv,lv,q⟩:=h;exact⟨xs,cv,lv,q.bl hb⟩
theorem Eo.base(h:Eo w B v R)(hB:B'<=B):Eo w B' v R:=by
 obtain⟨xs,cv,lv,r⟩:=h;exact⟨xs,cv,lv,Ah r.row hB,r.fil,λi hi=>by obtain⟨ys,a,b⟩:=r.code i hi;exact⟨ys,Ah a hB,b⟩,λi hi=>by obtain⟨ys,a,b⟩:=r.look i hi;exact⟨ys,Ah a hB,b⟩,r.apc,r.apl⟩
theorem Dz.bl{tx:Z}(h:Dz w B tx qv T R)(hb:Bw w w'):Dz w' B tx qv T R:=⟨Ad h.txt hb,h.txa,h.rcs.bl hb⟩
theorem Dz.base{tx:Z}(h:Dz w B tx qv T R)(hB:B'<=B):Dz w B' tx qv T R:=⟨Ah h.txt hB,h.txa,h.rcs.base hB⟩
theorem Gd.start{tx:Z}(hB:B<=h)(hk:w.heap[h]?=M (O #[sv,tv,I n,tx,qv,nS,nS,nS,nS,F false,I 0,ze,nS,I 0,nS,nS,nS,nS,ze,ze] 63 (0,0)))(hs:Dz w B tx qv T R):Gd B h sv tv n w [] ⟨T,R,[],[],[]⟩ [] ⟨tx,qv,nS,nS,nS,nS,[]⟩:=
 ⟨hB,hk,hs.txt,hs.rcs,⟨[],World.ownsRow_nil _ _ _ _,(λi hi=>Wl),⟨[],rfl,(λi hi=>Wl),rfl⟩⟩,World.ownsRow_nil _ _ _ _,World.ownsRow_nil _ _ _ _,World.ownsRow_nil _ _ _ _,hs.txa,λb q=>⟨(λq=>qz),(λq=>qz),(λq=>qz)⟩,(λb q=>qz),(λb q=>qz)⟩
theorem Rc.bl(h:Rc w a is)(hb:Bw w w'):Rc w' a is:=λi hi=>by
 obtain⟨b,off,e,ca,cc,la,lc,B2,us,c1,c2,c3,r1,r0,r2,r3⟩:=h i hi;exact⟨b,off,e,ca,cc,la,lc,B2,us,Aa hb c1,Aa hb c2,Aa hb c3,r1.bl hb,r0,Ad r2 hb,r3⟩
theorem Gd.notB{ms:Mm}{s:Sb}{st:L By}{v:Hv}(k:Gd B h sv tv n w ms s st v){b T:X}(hb:w.heap[b]?=M (O cs T (0,0)))(h1:T≠63)(h2:T≠73)(h3:T≠67)(h4:T≠9):¬ Cx h v b:=by
 obtain⟨xs,m1,m2⟩:=k.made;obtain⟨ys,cv,lv,r⟩:=k.rcs;rintro(q|q|q|q|q|q)
 ·subst q
  have hk:=k.blk;rw[hb]at hk;injection hk with hk;injection hk with _ h5;exact h1 h5
 ·exact Ae r.row h2 hb q
 ·exact Ae m1 h3 hb q
 ·exact Ae k.stk h4 hb q
 ·exact Ae k.ran h4 hb q
 ·exact Ae k.held h4 hb q
theorem Iu{e sz:X}{u:Z}{xs:L Z}(ho:w.ownsRow B e sz u n xs)(hh:∀x∈l,x.1=h)(hk:w.heap[h]?=M (O cs 63 (0,0)))(he:63≠e):(Bo w l).ownsRow B e sz u n xs:=An ho λb q=>Fb l w λx hx r=>Ae ho he hk (by rw[←hh x hx,←r];exact q)
theorem Dz.setL{tx:Z}(k:Dz w B tx qv T R)(hh:∀x∈l,x.1=h)(hk:w.heap[h]?=M (O cs 63 (0,0))):Dz (Bo w l) B tx qv T R:=by
 obtain⟨xs,cv,lv,r⟩:=k.rcs;exact⟨Iu k.txt hh hk qh,k.txa,xs,cv,lv,Iu r.row hh hk qh,r.fil,λi hi=>by obtain⟨ys,a,b⟩:=r.code i hi;exact⟨ys,Iu a hh hk qh,b⟩,λi hi=>by obtain⟨ys,a,b⟩:=r.look i hi;exact⟨ys,Iu a hh hk qh,b⟩,r.apc,r.apl⟩
theorem len9{pre:L Z}(h:pre.length=9):∃a0 a1 a2 a3 a4 a5 a6 a7 a8,pre=[a0,a1,a2,a3,a4,a5,a6,a7,a8]:=by
 match pre,h with
 | [a0,a1,a2,a3,a4,a5,a6,a7,a8],_=>exact⟨a0,a1,a2,a3,a4,a5,a6,a7,a8,rfl⟩
theorem Ot.shape(h:Ot B w b e):∃x y cv A B',e=[x,y,cv,I 0,nS,nS,nS,nS,A,B']/\∀c,cv.ownBlock=M c->c<w.heap.size:=by
 cases b with
 | circle ch=>obtain⟨cv,k,rfl⟩:=h;exact⟨_,_,_,_,_,rfl,λc q=>(k.lt c q).2⟩
 | deep nm=>cases h;exact⟨_,_,_,_,_,rfl,λc q=>qz⟩
 | clash A B=>cases h;exact⟨_,_,_,_,_,rfl,λc q=>qz⟩
 | full=>cases h;exact⟨_,_,_,_,_,rfl,λc q=>qz⟩
theorem Ot.setL(k:Ot B w b e)(hh:∀x∈l,x.1=h)(hk:w.heap[h]?=M (O cs 63 (0,0))):Ot B (Bo w l) b e:=by
 cases b with
 | circle ch=>obtain⟨cv,a,b⟩:=k;exact⟨cv,Iu a hh hk qh,b⟩
 | deep nm=>exact k
 | clash A B=>exact k
 | full=>exact k
def WorkE(B h n:X)(ss:L S2)(ts:L T2)(T:L By)(R:L T3)(nm:By)(w':E):Prop:=
 ∃ms' s' a,Az ss ts n [] ⟨T,R,[],[],[]⟩ [] (.make nm) ms' s' a/\∃pre e,pre.length=10/\w'.heap[h]?=M (O ((pre++e).toArray) 63 (0,0))/\
  ((∃d tx qv nv ev,a=.ok d/\e=[I d.c,S d.t,nS,I n,tx,qv,nv,ev,ze,ze]/\Dz w' B tx qv s'.T s'.R/\w'.ownsRow B 9 1 nv s'.ran.length (Ar s'.ran)/\w'.ownsRow B 9 1 ev s'.held.length (Ar s'.held)/\(∀b,tx.ownBlock=M b->nv.ownBlock≠M b/\ev.ownBlock≠M b)/\(∀b,nv.ownBlock=M b->ev.ownBlock≠M b)/\∃sv tv mv kv m xs,pre=[sv,tv,I n,tx,qv,mv,kv,nv,ev,F false]/\w'.ownsRow B 67 5 mv m xs/\RecM m xs s'.us [])\/
   (∃b x y cv tx qv A B',a=.bad b/\Ot B w' b [x,y,cv,I 0,nS,nS,nS,nS,A,B']/\e=[x,y,cv,I n,tx,qv,nS,nS,A,B']/\Dz w' B tx qv T R/\(∀b,cv.ownBlock=M b->tx.ownBlock≠M b)))
theorem Vq(sa ta qa:Option Addr)(c1 c2 n tb tc qc:X)(ss:L S2)(ts:L T2)(T:L By)(R:L T3)(nm:By)(w:E)(hE:Jf w sa ta ss ts)(h1:1<=n)(h8:n<=8)(cr:Cu w (p_ tb) T)(hrp:Rc w qa R)(fw:Jd n T R)(cz:Ao nm)(hcp:T.length<=1048576/\R.length<=2000/\∀i,i<R.length→1≤(qx R i).code.length∧(qx R i).code.length≤1048576∧(qx R i).looks.length≤1048576):Calls prog 24 #[G #[I n,J (p_ tb) T.length tc,J qa R.length qc],G #[J sa ss.length c1,J ta ts.length c2],S nm] w λe w'=>Bw w w'/\∃h,w.heap.size<=h/\e=H (D (p_ h))/\WorkE w.heap.size h n ss ts T R nm w':=by
 obtain⟨W,eW⟩:=Aj ((w.alloc (O #[I n,J (p_ tb) T.length tc,J qa R.length qc] 35)).alloc (O #[J sa ss.length c1,J ta ts.length c2] 42));have HW:Hd (Bw w W):=by show Below _ _ _;rw[←eW];exact(aN _ _).alloc qi _
 obtain⟨Q,eQ⟩:=Aj w.heap.size;have HQ:Hd (W.heap[Q]?=M (O #[I n,J (p_ tb) T.length tc,J qa R.length qc] 35 (0,0))):=qgw
 have HP:Hd (W.heap[Q+1]?=M (O #[J sa ss.length c1,J ta ts.length c2] 42 (0,0))):=by
  show _=_;rw[←eW,←eQ];have:=Fg (w.alloc (O #[I n,J (p_ tb) T.length tc,J qa R.length qc] 35)) (O #[J sa ss.length c1,J ta ts.length c2] 42)
  rwa [show(w.alloc (O #[I n,J (p_ tb) T.length tc,J qa R.length qc] 35)).heap.size=w.heap.size+1 from qi]at this
 have HCPY:Hd (∀V:E,Bw w V->Calls prog 23 #[G #[I n,J (p_ tb) T.length tc,J qa R.length qc]] V λe w'=>Bw V w'/\∃tx qv,e=H (G #[I n,tx,qv])/\Dz w' V.heap.size tx qv T R):=λV hV=>by
  refine(Ke n tb 0 tc qa qc T R V (cr.bl hV) (hrp.bl hV) hcp.1 (zo hcp.2.1) (λi hi=>(hcp.2.2 i hi).2)).mono ?_;rintro e w' ⟨a1,g1,p1,v2,rfl,a2,a3⟩;exact⟨a1,_,_,rfl,a2.own,⟨g1,p1,rfl⟩,a3.recO⟩
 have HE:=Ab hE;have ke:=Ab fw;have pn:=Ab cz;clear hE fw cz cr hrp hcp;obtain⟨q0,q1,q2⟩:=Bb HQ.o;obtain⟨p0,p1⟩:=En HP.o;go_enter func24,ntmps24;go_wp2_with fail
 try rw[eQ]
 clear eW q0 q1 q2 p0 p1;refine Lt.begin 5 (λw'=>w'.heap[Q]?=M (O #[I n,J (p_ tb) T.length tc,J qa R.length qc] 35 (0,0))/\w'.heap[Q+1]?=M (O #[J sa ss.length c1,J ta ts.length c2] 42 (0,0))) qk ?_;obtain⟨wD,eD⟩:=Aj W.drew;rw[eD];have dr:Bw W wD:=qaf;clear eD;replace HQ:=Ab (Af HQ.o dr);replace HP:=Ab (Af HP.o dr);replace HW:=Ab (bt HW.o dr);have gz:(λw'=>w'.heap[Q]?=M (O #[I n,J (p_ tb) T.length tc,J qa R.length qc] 35 (0,0))/\w'.heap[Q+1]?=M (O #[J sa ss.length c1,J ta ts.length c2] 42 (0,0))) wD:=⟨HQ.o,HP.o⟩;change K 0 _
 iterate 2
  refine Lt.ti (v:=?_) gz ?_ ?_;rotate_left 1
  ·exact qlk
  simp only[gX]
 refine Lt.sp (i:=2) (λK hK=>?_);go_simp;refine(HCPY.o _ HW.o).mono ?_;rintro e wC ⟨jo,tx,qv,rfl,ku⟩;have hDs:=HW.o.size;have ph:=Ab (ku.base hDs);replace HQ:=Ab (Af HQ.o jo);replace HP:=Ab (Af HP.o jo);replace HW:=Ab (bt HW.o jo);have xe:(λw'=>w'.heap[Q]?=M (O #[I n,J (p_ tb) T.length tc,J qa R.length qc] 35 (0,0))/\w'.heap[Q+1]?=M (O #[J sa ss.length c1,J ta ts.length c2] 42 (0,0))) wC:=⟨HQ.o,HP.o⟩;refine hK.out _ _ (λ_=>xe) (λ_=>?_);clear hK K jo ku
 try simp only[gX]
 refine Lt.ti (i:=3) (v:=?_) xe ?_ ?_;rotate_left 1
 ·exact qlk
 simp only[gX];refine Lt.sp (i:=4) (λK hK=>?_);go_simp;refine Cb (Q:=λx=>K _ x) ?_;intro wH hbH HH
 try dsimp only
 obtain⟨h,eh⟩:=Aj wC.heap.size;rw[eh]at HH ⊢;replace ph:=Ab (ph.o.bl hbH);have hhw:w.heap.size<=h:=by rw[←eh];exact HW.o.size
 replace HQ:=Ab (Af HQ.o hbH);replace HP:=Ab (Af HP.o hbH);replace HW:=Ab (bt HW.o hbH);have hS2:(λw'=>w'.heap[Q]?=M (O #[I n,J (p_ tb) T.length tc,J qa R.length qc] 35 (0,0))/\w'.heap[Q+1]?=M (O #[J sa ss.length c1,J ta ts.length c2] 42 (0,0))) wH:=⟨HQ.o,HP.o⟩;refine hK.out _ _ (λ_=>hS2) (λ_=>?_);clear hK K hbH
 try simp only[gX]
 refine Lt.sp (i:=5) (λK hK=>?_);go_simp;refine hK.out _ _ (λh=>absurd rfl h) (λ_=>?_);clear hK K;refine Lt.done qk ?_ _;have HS:=Ab (Gd.start hhw HH.o ph.o);go_wp2_with fail;refine(make5_all w h sa ta c1 c2 n ss ts HE.o h1 h8 60 [] rfl qi [] ⟨T,R,[],[],[]⟩ _ nm wH HW.o HS.o rfl (Gs.nil ss ts) ke.o pn.o qi (by unfold Pr;simp)).mono ?_;rintro e w5 ⟨ms',s',a,bv,⟨d,v',rfl,rfl,cm,dp,hu5⟩|⟨b,nb,rfl,rfl,cm,tg⟩⟩
 ·have O7:=Ab bv
  have HF:=Ab cm;have iq:=Ab dp;clear bv cm dp;have C9:=Ab (HW.o.trans HF.o.bel);obtain⟨dc,dt,dl⟩:=d;dsimp only
  go_upto_region 3 with fail
  obtain⟨RR,eRR⟩:=Aj w5.heap.size;obtain⟨w6,e6⟩:=Aj (w5.alloc (O #[I dc,S dt,nS] 65));have bj:Bw w5 w6:=qbb;have jw:Hd (w6.heap[RR]?=M (O #[I dc,S dt,nS] 65 (0,0))):=qcu;rw[e6]
  try rw[eRR]
  clear e6;have fl:=Ab (iq.o.bl bj);have ye:=Ab (C9.o.trans (bj.mono (C9.o.size)));have fl:=Ab (iq.o.bl bj);clear bj iq C9;have k9:=cK fl.o.blk 9
  go_upto_region 6 with fail
  clear k9;obtain⟨vtx,vqv,vmv,vkv,vnv,vev,vu⟩:=v';obtain rfl:vu=[]:=hu5;obtain⟨xg,xp,e1⟩:∃g p,vtx=J (p_ g) s'.T.length p:=fl.o.txa;subst e1;(obtain⟨To,S9,e2⟩:∃a cap,vqv=J a s'.R.length cap:=by obtain⟨ys,cv,lv,r⟩:=fl.o.rcs;exact Al r.row);subst e2;obtain⟨na,nc,e3⟩:∃a cap,vnv=J a s'.ran.length cap:=Al fl.o.ran;subst e3;obtain⟨ea,ec,e4⟩:∃a cap,vev=J a s'.held.length cap:=Al fl.o.held;subst e4;refine Lt.begin 20 (λw'=>w'.heap[h]?=M (O #[J sa ss.length c1,J ta ts.length c2,I n,J (p_ xg) s'.T.length xp,J To s'.R.length S9,vmv,vkv,J na s'.ran.length nc,J ea s'.held.length ec,F false,I 0,ze,nS,I 0,nS,nS,nS,nS,ze,ze] 63 (0,0))/\w'.heap[RR]?=M (O #[I dc,S dt,nS] 65 (0,0))) qk ?_;obtain⟨wE,eD⟩:=Aj w6.drew;rw[eD];have dr:Bw w6 wE:=qaf;clear eD;replace fl:=Ab (fl.o.bl dr);replace jw:=Ab (Af jw.o dr);replace ye:=Ab (ye.o.trans (Below.mono dr ye.o.size));have gz:(λw'=>w'.heap[h]?=M (O #[J sa ss.length c1,J ta ts.length c2,I n,J (p_ xg) s'.T.length xp,J To s'.R.length S9,vmv,vkv,J na s'.ran.length nc,J ea s'.held.length ec,F false,I 0,ze,nS,I 0,nS,nS,nS,nS,ze,ze] 63 (0,0))/\w'.heap[RR]?=M (O #[I dc,S dt,nS] 65 (0,0))) wE:=⟨fl.o.blk,jw.o⟩;change K 0 _
  iterate 8
   refine Lt.ti (v:=?_) gz ?_ ?_;rotate_left 1
   ·exact qbr
   simp only[gX]
  refine Lt.ti (i:=8) (v:=?_) gz ?_ ?_;rotate_left 1
  ·rintro w ⟨s1,s2⟩
   obtain⟨-,-,u2,u3,u4⟩:=ck5 s1;exact qfz
  simp only[gX];change K 9 _
  iterate 3
   refine Lt.ti (v:=?_) gz ?_ ?_;rotate_left 1
   ·exact qbr
   simp only[gX]
  refine Lt.ti (i:=12) (v:=?_) gz ?_ ?_;rotate_left 1
  ·rintro w ⟨s1,s2⟩
   have u7:=cK s1 7;exact qfz
  simp only[gX];change K 13 _
  iterate 3
   refine Lt.ti (v:=?_) gz ?_ ?_;rotate_left 1
   ·exact qbr
   simp only[gX]
  refine Lt.ti (i:=16) (v:=?_) gz ?_ ?_;rotate_left 1
  ·rintro w ⟨s1,s2⟩
   have u8:=cK s1 8;exact qfz
  simp only[gX];refine Lt.ti (i:=17) (v:=?_) gz ?_ ?_;rotate_left 1
  ·exact qbr
  simp only[gX];refine Lt.sp (i:=18) (λK hK=>?_);go_simp;refine hK.out _ _ (λ_=>gz) (λ_=>?_);clear hK K 
  try simp only[gX]
  refine Lt.ti (i:=19) (v:=?_) gz ?_ ?_;rotate_left 1
  ·exact qbr
  simp only[gX];(have kc:∀j,10<=j->j<20->∃x,wE.cell? ⟨h,j,N⟩=M x:=λj h1 h2=>by rw[cH fl.o.blk];exact⟨_,Array.getElem?_eq_getElem qj⟩);have kf:=fZ fl.o.blk;obtain⟨x10,f10⟩:=kc 10 qg qg;obtain⟨x11,f11⟩:=kc 11 qg qg;obtain⟨x12,f12⟩:=kc 12 qg qg;obtain⟨x13,f13⟩:=kc 13 qg qg;obtain⟨x14,f14⟩:=kc 14 qg qg;obtain⟨x15,f15⟩:=kc 15 qg qg;obtain⟨x16,f16⟩:=kc 16 qg qg;obtain⟨x17,f17⟩:=kc 17 qg qg;obtain⟨x18,f18⟩:=kc 18 qg qg;obtain⟨x19,f19⟩:=kc 19 qg qg;refine Lt.sp (i:=20) (λK hK=>?_);go_simp;refine hK.out _ _ (λh=>absurd rfl h) (λ_=>?_);clear hK K;refine Lt.done qk ?_ _;obtain⟨l,el⟩:∃l:L (X×X×Z),l=[(h,10,I dc),(h,11,S dt),(h,12,nS),(h,13,I n),(h,14,J (p_ xg) s'.T.length xp),(h,15,J To s'.R.length S9),(h,16,J na s'.ran.length nc),(h,17,J ea s'.held.length ec),(h,18,ze),(h,19,ze)]:=⟨_,rfl⟩;have bu:∀x∈l,x.1=h:=Xg;have bn:=De l wE _ bu fl.o.blk;have fa:Bw w (Bo wE l):=Bg l wE ye.o (λx hx=>by rw[bu x hx];exact hhw);have yg:Hd (Dz (Bo wE l) w.heap.size (J (p_ xg) s'.T.length xp) (J To s'.R.length S9) s'.T s'.R):=Dz.setL ⟨fl.o.txt,fl.o.txa,fl.o.rcs⟩ bu fl.o.blk;have HVN:=Ab (Iu fl.o.ran bu fl.o.blk qh);have HVE:=Ab (Iu fl.o.held bu fl.o.blk qh);obtain⟨mxs,mm1,mm2⟩:=fl.o.made;have HVM:=Ab (Iu mm1 bu fl.o.blk qh);have HVR:=Ab mm2.2;clear mm1 mm2;obtain⟨V,eV⟩:=Aj (Bo wE l);rw[eV]at bn fa yg HVN HVE HVM;rw[el]at bn eV;simp only[Bo,List.foldl]at eV;rw[eV];simp only[List.foldl,List.setIfInBounds_toArray,List.set_cons_zero,List.set_cons_succ]at bn;have gj:=Ab bn;have D8:=Ab fa;clear bn fa eV el bu kf kc f10 f11 f12 f13 f14 f15 f16 f17 f18 f19;go_wp2_with fail;go_ret;rw[←eQ];exact⟨D8.o,h,hhw,rfl,_,_,_,O7.o,[J sa ss.length c1,J ta ts.length c2,I n,J (p_ xg) s'.T.length xp,J To s'.R.length S9,vmv,vkv,J na s'.ran.length nc,J ea s'.held.length ec,F false],_,rfl,gj.o,Or.inl ⟨⟨dc,dt,dl⟩,_,_,_,_,rfl,rfl,yg.o,HVN.o,HVE.o,λb q=>⟨(fl.o.tk b q).2.1,(fl.o.tk b q).2.2⟩,fl.o.ne,_,_,_,_,_,_,rfl,HVM.o,HVR.o⟩⟩
 have O7:=Ab bv;have gi:=Ab cm;have HD:=Ab tg;clear bv cm tg;have HQ5:=Ab (gi.o.blk HQ.o (HS.o.notB HQ.o qh qh qh qh));have C9:=Ab (HW.o.trans gi.o.bel)
 go_upto_region 3 with fail
 obtain⟨RR,eRR⟩:=Aj w5.heap.size;obtain⟨w6,e6⟩:=Aj (w5.alloc (O #[I (Hx b),ze,nS] 65));have bj:Bw w5 w6:=qbb;rw[e6]
 try rw[eRR]
 clear e6;have HD6:=Ab (HD.o.frx bj);have S1:=Ab (Af HQ5.o bj);have ye:=Ab (C9.o.trans (bj.mono (C9.o.size)));clear bj HQ5 C9 HD;obtain⟨k9,k10,hhl⟩:=HD6.o.cells;obtain⟨q0,q1,q2⟩:=Bb S1.o;go_wp2_with fail;clear k9 k10 q0 q1 q2;refine(HCPY.o w6 ye.o).mono ?_;rintro e w7 ⟨bo,tx2,qv2,rfl,ku⟩;obtain⟨g2,p2,e1⟩:=ku.txa;subst e1;obtain⟨To,S9,e2⟩:∃a cap,qv2=J a R.length cap:=by obtain⟨ys,cv,lv,r⟩:=ku.rcs;exact Al r.row
 subst e2;obtain⟨pre,ee,d7,hpk,hpe,_⟩:=HD6.o;obtain⟨a0,a1,a2,a3,a4,a5,a6,a7,a8,ep⟩:=len9 d7;obtain⟨x,y,cv,A,B',ee2,pz⟩:=hpe.shape;subst ep;subst ee2;have hk7:=Af hpk bo;simp only[List.cons_append,List.nil_append]at hk7 hpk
 have HPE:Hd (Ot w.heap.size w7 b [x,y,cv,I 0,nS,nS,nS,nS,A,B']):=by
  have:=HD6.o.frx bo;clear this
  cases b with
  | circle ch=>obtain⟨cv,a,b⟩:=hpe;exact⟨cv,Ad a bo,b⟩
  | deep nm=>exact hpe
  | clash A B=>exact hpe
  | full=>exact hpe
 have HW7:=Ab (ye.o.trans (bo.mono ye.o.size));have HCL:=Ab pz;have HSM2:=Ab ku;have HK7:=Ab hk7;have hw6:=ye.o.size;clear hpe hpk d7 ku bo pz hk7;obtain⟨l,el⟩:∃l:L (X×X×Z),l=[(h,13,I n),(h,14,J (p_ g2) T.length p2),(h,15,J To R.length S9)]:=⟨_,rfl⟩;have bu:∀x∈l,x.1=h:=Xg;have bn:=De l w7 _ bu HK7.o;have fa:Bw w (Bo w7 l):=Bg l w7 HW7.o (λx hx=>by rw[bu x hx];exact hhw);have yg:=Ab (HSM2.o.setL bu HK7.o);have HVE:=Ab (HPE.o.setL bu HK7.o);obtain⟨V,eV⟩:=Aj (Bo w7 l);rw[eV]at bn fa yg HVE;rw[el]at bn eV;simp only[Bo,List.foldl]at eV;simp only[List.foldl,List.setIfInBounds_toArray,List.set_cons_zero,List.set_cons_succ]at bn;have gj:=Ab bn;have D8:=Ab fa;clear bn fa el bu;have k13:=cK HK7.o 13;have k14:=cK HK7.o 14;have k15:=cK HK7.o 15;have kf:=fZ HK7.o;go_wp2_with fail
 try rw[eV]
 go_ret;rw[←eQ];exact⟨D8.o,h,hhw,rfl,_,_,_,O7.o,[a0,a1,a2,a3,a4,a5,a6,a7,a8,F true],_,rfl,gj.o,Or.inr ⟨b,x,y,cv,_,_,A,B',rfl,HVE.o,rfl,yg.o.base hw6,λc q1 q2=>by have:=HCL.o c q1;have:=(HSM2.o.txt.lt c q2).1;omega⟩⟩
def Wi(w:E)(a:Option Addr)(is:L T3):Prop:=
 ∀i,i<is.length→∃b off,a=M ⟨b,off,N⟩∧∃cb cf cc lb lf lc,w.cell? ⟨b,off+i*3,N⟩=M (J (M ⟨cb,cf,N⟩) (qx is i).code.length cc)∧w.cell? ⟨b,off+i*3+1,N⟩=M (J (M ⟨lb,lf,N⟩) (qx is i).looks.length lc)∧w.cell? ⟨b,off+i*3+2,N⟩=M (S (qx is i).out)∧Cn w (M ⟨cb,cf,N⟩) (qx is i).code∧Gf w (M ⟨lb,lf,N⟩) (qx is i).looks
theorem Wi.row(h:Wi w a is):Mk w a is:=λi hi=>by
 obtain⟨b,off,ha,cb,cf,cc,lb,lf,lc,h1,h2,h3,h4,h5⟩:=h i hi;exact⟨b,off,ha,_,cc,_,lc,h1,h2,h3,h4,h5⟩
theorem Wi.bl(h:Wi w a is)(hb:Bw w w'):Wi w' a is:=λi hi=>by
 obtain⟨b,off,ha,cb,cf,cc,lb,lf,lc,h1,h2,h3,h4,h5⟩:=h i hi;exact⟨b,off,ha,cb,cf,cc,lb,lf,lc,Aa hb h1,Aa hb h2,Aa hb h3,h4.bl hb,h5.bl hb⟩
theorem cloneS_any(b off cap:X)(is:L I3)(w:E)(hc:Cn w (M ⟨b,off,N⟩) is)(hl:is.length≤1048576):Calls prog 143 #[J (M ⟨b,off,N⟩) is.length cap] w λe w'=>Bw w w'∧∃g cp,e=H (J (p_ g) is.length cp)∧w'.ownsRow w.heap.size 174 3 (J (p_ g) is.length cp) is.length (Fd is):=by
 obtain⟨i0,hi,bq,bi,ci⟩:=info_parts Tryz.info165b;have dw:(w.alloc (O #[] 174)).ownsRow w.heap.size 174 3 (J (p_ w.heap.size) 0 0) 0 []:=World.ownsRow_lit (base:=w.heap.size) (e:=174) (size:=3) w #[] 0 (Nat.le_refl _) qq qi;have hn:=Od (hc.bl ((Below.refl w.heap.size w).alloc (Nat.le_refl _) (O #[] 174)));have HL:=Ab (Iy is);have HO:=Ab (Qs is);generalize Fd is=xs at *;clear hc;have hq:∀W:E,(binOp .eql 68 (J (M ⟨b,off,N⟩) is.length cap) nS).run prog W=.ok (F false) W:=λW=>Lib.run_eql_slice_nil W 68 174 _ _ _ 0 0 underlying68;go_enter func143,ntmps143
 go_wp2_with (at_builtin;refine wpList_append_own _ rfl (.tmp 5) (.tmp 6) 68 rfl w.heap.size 174 i0 (G #[I 0,ze,I 0]) 3 32 underlying68 hi bq bi ci rfl qh _ 0 [] rfl dw ⟨b,off,N⟩ is.length cap xs rfl HL.o hn HO.o qq qg qi ?_;intro v' w2 aw ae dj)
 exact qff
theorem Rt(b off cap:X)(is:L I3)(w:E)(hc:Cn w (M ⟨b,off,N⟩) is)(hl:is.length≤1048576):Calls prog 122 #[G #[J (M ⟨b,off,N⟩) is.length cap]] w λe w'=>Bw w w'∧∃g cp,e=H (G #[J (p_ g) is.length cp])∧w'.ownsRow w.heap.size 174 3 (J (p_ g) is.length cp) is.length (Fd is):=by
 have ak:Bw w ((w.alloc (O #[J (M ⟨b,off,N⟩) is.length cap] 70)).alloc (O #[nS] 70)):=(aN _ _).alloc qi _;go_enter func122,ntmps122;go_wp2_with fail;refine(cloneS_any b off cap is _ (hc.bl ak) hl).mono ?_;exact qik
theorem cloneG_any(b off cap:X)(is:L G3)(w:E)(hc:Gf w (M ⟨b,off,N⟩) is)(hl:is.length≤1048576):Calls prog 123 #[J (M ⟨b,off,N⟩) is.length cap] w λe w'=>Bw w w'∧∃g cp,e=H (J (p_ g) is.length cp)∧w'.ownsRow w.heap.size 115 3 (J (p_ g) is.length cp) is.length (Lf is):=by
 obtain⟨i0,hi,bq,bi,ci⟩:=info_parts Tryz.info88b;have dw:(w.alloc (O #[] 115)).ownsRow w.heap.size 115 3 (J (p_ w.heap.size) 0 0) 0 []:=World.ownsRow_lit (base:=w.heap.size) (e:=115) (size:=3) w #[] 0 (Nat.le_refl _) qq qi;have hn:=Yx (hc.bl ((Below.refl w.heap.size w).alloc (Nat.le_refl _) (O #[] 115)));have HL:=Ab (Nl is);have HO:=Ab (gloV_one is);generalize Lf is=xs at *;clear hc;have hq:∀W:E,(binOp .eql 71 (J (M ⟨b,off,N⟩) is.length cap) nS).run prog W=.ok (F false) W:=λW=>Lib.run_eql_slice_nil W 71 115 _ _ _ 0 0 underlying71;go_enter func123,ntmps123
 go_wp2_with (at_builtin;refine wpList_append_own _ rfl (.tmp 5) (.tmp 6) 71 rfl w.heap.size 115 i0 (G #[ze,F false,ze]) 3 40 underlying71 hi bq bi ci rfl qh _ 0 [] rfl dw ⟨b,off,N⟩ is.length cap xs rfl HL.o hn HO.o qq qg qi ?_;intro v' w2 aw ae dj)
 exact qff
theorem Ub(b off cap lb lf lc:X)(is:L I3)(gs:L G3)(out:By)(w:E)(rc:Cn w (M ⟨b,off,N⟩) is)(rg:Gf w (M ⟨lb,lf,N⟩) gs)(hl:is.length≤1048576)(hg:gs.length≤1048576):Calls prog 95 #[G #[J (M ⟨b,off,N⟩) is.length cap,J (M ⟨lb,lf,N⟩) gs.length lc,S out]] w λe w'=>Bw w w'∧Rz w.heap.size w' e is gs out:=by
 obtain⟨W,eW⟩:=Aj ((w.alloc (O #[J (M ⟨b,off,N⟩) is.length cap,J (M ⟨lb,lf,N⟩) gs.length lc,S out] 73)).alloc (O #[nS,nS,ze] 73));have ak:Bw w W:=by rw[←eW];exact(aN _ _).alloc qi _
 have jn:W.heap[w.heap.size]?=M (O #[J (M ⟨b,off,N⟩) is.length cap,J (M ⟨lb,lf,N⟩) gs.length lc,S out] 73 (0,0)):=qcc;have cu:W.heap[w.heap.size+1]?=M (O #[nS,nS,ze] 73 (0,0)):=qcd;have I0:w.heap.size+1+1≤W.heap.size:=qbn;obtain⟨c0,c1,c2⟩:=Bb jn;have fb:=Ab cu;have HA:Hd (∀W':E,Bw W W'→Calls prog 122 #[G #[J (M ⟨b,off,N⟩) is.length cap]] W' λe w'=>Bw W' w'∧∃g cp,e=H (G #[J (p_ g) is.length cp])∧w'.ownsRow W'.heap.size 174 3 (J (p_ g) is.length cp) is.length (Fd is)):=λW' hW=>Rt b off cap is W' (rc.bl (bt ak hW)) hl;have HG:Hd (∀W':E,Bw W W'→Calls prog 123 #[J (M ⟨lb,lf,N⟩) gs.length lc] W' λe w'=>Bw W' w'∧∃g cp,e=H (J (p_ g) gs.length cp)∧w'.ownsRow W'.heap.size 115 3 (J (p_ g) gs.length cp) gs.length (Lf gs)):=λW' hW=>cloneG_any lb lf lc gs W' (rg.bl (bt ak hW)) hg;have iz:Bw W W.drew:=(Below.refl _ _).drew;clear rc rg jn cu;go_enter func95,ntmps95;go_wp2_with fail;clear eW
 go_region_held3 (λw'=>w'.cell? ⟨w.heap.size,0,N⟩=M (J (M ⟨b,off,N⟩) is.length cap)∧w'.cell? ⟨w.heap.size,1,N⟩=M (J (M ⟨lb,lf,N⟩) gs.length lc)∧w'.cell? ⟨w.heap.size,2,N⟩=M (S out))
  (first|exact⟨c0,c1,c2⟩|(with_reducible exact⟨t0,t1,t2⟩)|(with_reducible exact⟨s0,s1,s2⟩)|(refine⟨?_,?_,?_⟩<;>(rw[World.cell?_setCell_far _ _ _ _ qi,World.cell?_setCell_far _ _ _ _ qi,World.cell?_setCell_far _ _ _ _ qi];assumption)))
  (first|(go_at_call 122;refine(HA.o _ iz).mono ?_;rintro e w2 ⟨af,g1,p1,rfl,i8⟩;have bg:=bt iz af;have s0:=Aa bg c0;have s1:=Aa bg c1;have s2:=Aa bg c2;have lj:Hd (w2.ownsRow W.heap.size 174 3 (J (p_ g1) is.length p1) is.length (Fd is)):=i8)|(go_at_call 123;refine(HG.o _ bg).mono ?_;rintro e w3 ⟨au,g2,p2,rfl,ky⟩;have ig:=bt bg au;have t0:=Aa ig c0;have t1:=Aa ig c1;have t2:=Aa ig c2;have A7:Hd (w3.ownsRow W.heap.size 174 3 (J (p_ g1) is.length p1) is.length (Fd is)):=Ad lj.o au;have xr:Hd (w3.ownsRow W.heap.size 115 3 (J (p_ g2) gs.length p2) gs.length (Lf gs)):=Ah ky bg.size;have P4:=Af fb.o ig;obtain⟨r0,r1,r2⟩:=Bb P4;have rf:=(λj=>fH P4 j)))
 have hg1:=(A7.o.lt g1 rfl).1;have xy:=(xr.o.lt g2 rfl).1;have hB:=bt ak ig;go_wp2_with fail;refine bR (v:=G #[J (p_ g1) is.length p1,J (p_ g2) gs.length p2,S out]) (by simp[results,results95,go_sem,r0,r1,r2]) rfl ⟨?_,g1,p1,g2,p2,rfl,?_,?_⟩
 ·exact qfl
 ·exact Dg (Dg (Dg (Ah A7.o qg) qg _) qg _) qg _
 ·exact Dg (Dg (Dg (Ah xr.o qg) qg _) qg _) qg _
theorem Ki(wd:Int)(b off tc:X)(ra:Option Addr)(rc:X)(ts:L By)(rs:L T3)(w:E)(st:Cu w (M ⟨b,off,N⟩) ts)(rp:Wi w ra rs)(ht:ts.length≤1048576)(hr:rs.length≤1048576)(hk:∀i,i<rs.length→(qx rs i).code.length≤1048576∧(qx rs i).looks.length≤1048576):Calls prog 60 #[G #[I wd,J (M ⟨b,off,N⟩) ts.length tc,J ra rs.length rc]] w λe w'=>Bw w w'∧∃g1 p1 v2,e=H (G #[I wd,J (p_ g1) ts.length p1,v2])∧Ds w' w.heap.size w'.heap.size (J (p_ g1) ts.length p1) ts∧Hr w' w.heap.size w'.heap.size v2 rs:=by
 obtain⟨W,eW⟩:=Aj ((w.alloc (O #[I wd,J (M ⟨b,off,N⟩) ts.length tc,J ra rs.length rc] 35)).alloc (O #[I 0,nS,nS] 35));have ak:Bw w W:=by rw[←eW];exact(aN _ _).alloc qi _
 have jn:W.heap[w.heap.size]?=M (O #[I wd,J (M ⟨b,off,N⟩) ts.length tc,J ra rs.length rc] 35 (0,0)):=qcc;have cu:W.heap[w.heap.size+1]?=M (O #[I 0,nS,nS] 35 (0,0)):=qcd;have I0:w.heap.size+1+1≤W.heap.size:=qbn;obtain⟨c0,c1,c2⟩:=Bb jn;have tz:=Ab jn;have fb:=Ab cu;have I5:=Ab rp;have HKK:=Ab hk;have iz:Bw W W.drew:=(Below.refl _ _).drew;have HX:Hd (∀W':E,Bw W W'→Calls prog 94 #[J (M ⟨b,off,N⟩) ts.length tc] W' λe w'=>Bw W' w'∧∃g cp,e=H (J (p_ g) ts.length cp)∧w'.ownsRow W'.heap.size 9 1 (J (p_ g) ts.length cp) ts.length (ts.map Value.string)):=λW' hW=>cloneX_any b off tc ts W' (st.bl (bt ak hW)) ht;clear st rp hk jn cu;go_enter func60,ntmps60;go_wp2_with fail;clear eW
 go_cut [3] (λp wx=>∃(P g1 p1:X),p=D (p_ P)∧Hd (wx.heap[P]?=M (O #[I wd,J (p_ g1) ts.length p1,nS] 35 (0,0)))∧Hd (wx.ownsRow W.heap.size 9 1 (J (p_ g1) ts.length p1) ts.length (ts.map Value.string))∧W.heap.size≤P∧Bw W wx)
 case first=>
  go_region_held3 (λw'=>w'.cell? ⟨w.heap.size,0,N⟩=M (I wd)∧w'.cell? ⟨w.heap.size,1,N⟩=M (J (M ⟨b,off,N⟩) ts.length tc))
   (first|(with_reducible exact⟨s0,s1⟩)|(with_reducible exact⟨Du s0,Du s1⟩)|(refine⟨?_,?_⟩<;>(rw[World.cell?_setCell_far _ _ _ _ qj,World.cell?_setCell_far _ _ _ _ qj,World.cell?_setCell_far _ _ _ _ qj];assumption))|exact⟨c0,c1⟩|exact⟨Du c0,Du c1⟩)
   (first|(go_at_call 94;(first|(refine(HX.o _ iz).mono ?_;rintro e w2 ⟨af,g1,p1,rfl,i8⟩;have bg:=bt iz af;have lj:Hd (w2.ownsRow W.heap.size 9 1 (J (p_ g1) ts.length p1) ts.length (ts.map Value.string)):=i8)|(refine(HX.o _ (iz.alloc qi _)).mono ?_;rintro e w2 ⟨af,g1,p1,rfl,i8⟩;have bg:=bt (iz.alloc qi _) af;have z2:w2.heap[W.heap.size]?=_:=Af (Cr W.drew _) af;obtain⟨k0,k1,k2⟩:=Bb z2;have kf:=(λj=>fH z2 j);have lj:Hd (w2.ownsRow W.heap.size 9 1 (J (p_ g1) ts.length p1) ts.length (ts.map Value.string)):=Ah i8 qi));have s0:=Aa bg c0;have s1:=Aa bg c1))
  all_goals
   go_wp2_with fail;go_meet
   first
    | exact⟨W.heap.size,g1,p1,rfl,Ru z2 _ _ _,Ak (Ak (Ak lj.o ⟨_,z2⟩ qh _) (Dl.set ⟨_,z2⟩ _) qh _) (Dl.set (Dl.set ⟨_,z2⟩ _) _) qh _,Nat.le_refl _,((bg.setCell (p:=⟨W.heap.size,0,N⟩) (Nat.le_refl _) _).setCell (p:=⟨W.heap.size,1,N⟩) (Nat.le_refl _) _).setCell (p:=⟨W.heap.size,2,N⟩) (Nat.le_refl _) _⟩
    | exact⟨w2.heap.size,g1,p1,rfl,Cr _ _,lj.o.alloc _,bg.size,bg.alloc bg.size _⟩
 case rest=>
  obtain⟨P,g1,p1,rfl,HP,lj,pe,M7⟩:=hcut;have d2:=Aa M7 c2;have HC0:=Ab (CS.zero rs HP.o lj.o);have HBX:=Ab M7;clear HP lj c0 c1 c2 iz M7 HX;go_wp2
  go_loopw [15] (λi wr=>∃(k:X)(v2:Z),k≤rs.length∧i=I k∧Hd (CS wr P W.heap.size wd (J (p_ g1) ts.length p1) v2 ts rs k)∧Bw W wr) (λi _=>rs.length-(intOf i).toNat)
  case atStart=>exact⟨0,_,Nat.zero_le _,rfl,HC0.o,HBX.o⟩
  case round=>
   obtain⟨k,v2,hk,rfl,HW,bc⟩:=hrel;have hw:=bt ak bc;clear HC0 d2
   by_cases ai:k<rs.length
   ·obtain⟨rb,ro,rfl,cb,cf,cc,lb,lf,lc,I4,A2,c3',r1,r2⟩:=(I5.o.bl hw) k ai
    obtain⟨ib,gu⟩:=HKK.o k ai;have fs:(k:Int)<(rs.length:Int):=qg;obtain⟨AM,eX⟩:=Aj (wr.alloc (O #[J (M ⟨cb,cf,N⟩) (qx rs k).code.length cc,J (M ⟨lb,lf,N⟩) (qx rs k).looks.length lc,S (qx rs k).out] 73));obtain⟨q,eq⟩:=Aj wr.heap.size;have d0:AM.cell? ⟨q,0,N⟩=M (J (M ⟨cb,cf,N⟩) (qx rs k).code.length cc):=qhp;have d1:AM.cell? ⟨q,1,N⟩=M (J (M ⟨lb,lf,N⟩) (qx rs k).looks.length lc):=qhp;have d2:AM.cell? ⟨q,2,N⟩=M (S (qx rs k).out):=qhp;have xd:=aB eX;have X1:=Ab (HW.o.bl xd);have dP:=X1.o.cell.2.2;(have hXq:AM.heap.size=q+1:=by rw[←eX,←eq];simp);have hXq1:q+1≤AM.heap.size:=qg;have hXW:=Nat.le_trans bc.size xd.size;(have hPq:P<q:=by rw[←eq];exact Fp HW.o.blk);obtain⟨ys0,cv0,lv0,H0,_⟩:=HW.o.t;(have HVQ:Hd (M q≠v2.ownBlock):=λe=>by have:=(H0.lt q e.symm).2;omega);have HVP:Hd (M P≠v2.ownBlock):=λe=>Dl.ne (T:=35) ⟨_,HW.o.blk⟩ H0 qh e.symm;have f9:=bt bc xd;have vh:Hd (∀W':E,Bw AM W'→Calls prog 95 #[G #[J (M ⟨cb,cf,N⟩) (qx rs k).code.length cc,J (M ⟨lb,lf,N⟩) (qx rs k).looks.length lc,S (qx rs k).out]] W' λe w'=>Bw W' w'∧Rz W'.heap.size w' e (qx rs k).code (qx rs k).looks (qx rs k).out):=λW' hW'=>Ub cb cf cc lb lf lc (qx rs k).code (qx rs k).looks (qx rs k).out W' ((r1.bl xd).bl hW') ((r2.bl xd).bl hW') ib gu;clear hXq H0 HW bc xd r1 r2 hw;obtain⟨ys,cv,lv,rm,ut⟩:=X1.o.t;have um:=Ab rm;have HPT:=Ab ut;have Y1:Hd (∀(AK AE:E)(nv c d:Z)(zs us:L Z),Bw AM AK→AK.ownsRow AM.heap.size 174 3 c (qx rs k).code.length zs→Cs (qx rs k).code (qx rs k).code.length zs→AK.ownsRow AM.heap.size 115 3 d (qx rs k).looks.length us→Bx (qx rs k).looks (qx rs k).looks.length us→(∃g cap,d=J (p_ g) (qx rs k).looks.length cap)→AK.grownBy AE v2.ownBlock→AE.ownsRow W.heap.size 73 3 nv (k+1) (ys++[c,d,S (qx rs k).out])→CS (AE.setCell ⟨P,2,N⟩ nv) P W.heap.size wd (J (p_ g1) ts.length p1) nv ts rs (k+1)):=λAK AE nv c d zs us j1 j2 j3 j4 j5 j6 j7 j8=>CS.put X1.o j1 hXW um.o HPT.o j2 j3 j4 j5 j6 j7 j8;clear rm ut;generalize qx rs k=s at *;go_wp2_with fail;refine Lt.begin 7 (λw'=>w'.cell? ⟨P,2,N⟩=M v2∧w'.cell? ⟨q,0,N⟩=M (J (M ⟨cb,cf,N⟩) s.code.length cc)∧w'.cell? ⟨q,1,N⟩=M (J (M ⟨lb,lf,N⟩) s.looks.length lc)∧w'.cell? ⟨q,2,N⟩=M (S s.out)) qk ?_;have gz:AM.drew.cell? ⟨P,2,N⟩=M v2∧AM.drew.cell? ⟨q,0,N⟩=M (J (M ⟨cb,cf,N⟩) s.code.length cc)∧AM.drew.cell? ⟨q,1,N⟩=M (J (M ⟨lb,lf,N⟩) s.looks.length lc)∧AM.drew.cell? ⟨q,2,N⟩=M (S s.out):=⟨dP,d0,d1,d2⟩;change K 0 _
    iterate 3
     refine Lt.ti (v:=?_) gz ?_ ?_;rotate_left 1
     ·exact qar
     simp only[gX]
    refine Lt.sp (i:=3) (λK hK=>?_);go_simp;refine(vh.o _ ((Below.refl _ _).drew)).mono ?_;rintro e w6 ⟨bj,gc,cpc,gd,cpd,rfl,hoc,hod⟩;have bo:Bw AM w6:=(Below.drew (Below.refl _ _)).trans (bj.mono qi);have HOC:Hd (w6.ownsRow AM.heap.size 174 3 (J (p_ gc) s.code.length cpc) s.code.length (Fd s.code)):=Ah hoc qi;have HOD:Hd (w6.ownsRow AM.heap.size 115 3 (J (p_ gd) s.looks.length cpd) s.looks.length (Lf s.looks)):=Ah hod qi;refine hK.out _ _ (λ_=>⟨Aa bo dP,Aa bo d0,Aa bo d1,Aa bo d2⟩) (λmu=>?_);replace mu:=mu qh;clear hK K gz bj hoc hod;refine Lt.sp (i:=4) (λK hK=>?_);go_simp;refine hK.out _ _ (λ_=>⟨Du mu.1,Du mu.2.1,Du mu.2.2.1,Du mu.2.2.2⟩) (λlx=>?_);replace lx:=lx qh;clear hK K mu;refine Lt.sp (i:=5) (λK hK=>?_);refine Yd rfl qt W.heap.size v2 _ ys qt ((Ad um.o bo).alloc _) w6.heap.size (J (p_ gc) s.code.length cpc) (J (p_ gd) s.looks.length cpd) s.out rfl rfl qt (Cr _ _) (by have:=bo.size;simp;omega) qg ?_;intro g' aj w7 d9 ae;have hsz6:=bo.size;(have x0:w7.cell? ⟨P,2,N⟩=M v2:=by rw[ae.cell_far ⟨P,2,N⟩ qj HVP.o];exact lx.1);(have x1:w7.cell? ⟨q,0,N⟩=M (J (M ⟨cb,cf,N⟩) s.code.length cc):=by rw[ae.cell_far ⟨q,0,N⟩ qj HVQ.o];exact lx.2.1);(have x2:w7.cell? ⟨q,1,N⟩=M (J (M ⟨lb,lf,N⟩) s.looks.length lc):=by rw[ae.cell_far ⟨q,1,N⟩ qj HVQ.o];exact lx.2.2.1);(have x3:w7.cell? ⟨q,2,N⟩=M (S s.out):=by rw[ae.cell_far ⟨q,2,N⟩ qj HVQ.o];exact lx.2.2.2);have HNP:Hd (CS (w7.setCell ⟨P,2,N⟩ (J (p_ g') (k+1) aj)) P W.heap.size wd (J (p_ g1) ts.length p1) (J (p_ g') (k+1) aj) ts rs (k+1)):=Y1.o _ w7 _ _ _ _ _ (bo.alloc qg _) (HOC.o.alloc _) (Iz _) (HOD.o.alloc _) (Nm _) ⟨_,_,rfl⟩ ae d9;have hbP7:Bw W w7:=((f9.trans (bo.mono qg)).alloc qg _).grown ae qj (λm hm=>by have:=(um.o.lt m hm).1;omega);(have fz:w7.frozen? ⟨P,2,N⟩=false:=by rw[ae.frozen_far ⟨P,2,N⟩ qj HVP.o];exact fH (by rw[Lib.alloc_old _ _ _ qg];exact(X1.o.bl bo).blk) 2);refine hK.out _ _ (λ_=>⟨x0,x1,x2,x3⟩) (λF5=>?_);replace F5:=F5 qh;clear hK K lx ae d9;simp only[gX];refine Lt.ti (i:=6) (v:=?_) F5 ?_ ?_;rotate_left 1
    ·exact qar
    simp only[gX];refine Lt.sp (i:=7) (λK hK=>?_);exact qjn
   ·have ek:k=rs.length:=qg
    subst ek;have kbr:=Af fb.o bc;obtain⟨r0,r1,r2⟩:=Bb kbr;have fr:=fZ kbr;obtain⟨d0,d1,d2⟩:=HW.o.cell;obtain⟨o1,o2⟩:=HW.o.own (lo:=W.heap.size) (hi:=wr.heap.size) (Nat.le_refl _) (Nat.le_refl _);have lj:=Ab o1;have xr:=Ab o2;obtain⟨a2,p2,rfl,_⟩:=o2.sl;clear kbr bc o1 o2 HW;go_wp2;refine bR (v:=G #[I wd,J (p_ g1) ts.length p1,J a2 rs.length p2]) (by simp[results,results60,go_sem,r0,r1,r2]) rfl ⟨((hw.setCell (p:=⟨w.heap.size+1,0,N⟩) qi _).setCell (p:=⟨w.heap.size+1,1,N⟩) qi _).setCell (p:=⟨w.heap.size+1,2,N⟩) qi _,_,_,_,rfl,?_,?_⟩
    ·exact qmz
    ·exact qmy
theorem Qf(n:Int)(b off tc:X)(ra:Option Addr)(rc:X)(ts:L By)(rs:L T3)(w:E)(hT:Mv w)(h:Nv w (M ⟨b,off,N⟩) ts ra rs)(rp:Wi w ra rs)(hr:rs.length≤1048576)(jg:∀i,i<rs.length→(qx rs i).code.length≤1048576∧(qx rs i).looks.length≤1048576):Calls prog 58 #[G #[I n,J (M ⟨b,off,N⟩) ts.length tc,J ra rs.length rc]] w λe w'=>Bw w w'∧((¬ Jc n ts rs∧e=H (.tuple #[D N,F false]))∨(Jc n ts rs∧∃g g1 p1 sv qv,e=H (.tuple #[D (p_ g),F true])∧w.heap.size≤g∧ShO w' g w.heap.size w'.heap.size n.toNat sv (J (p_ g1) ts.length p1) qv ts rs)):=by
 have ak:Bw w (w.alloc (O #[I n,J (M ⟨b,off,N⟩) ts.length tc,J ra rs.length rc] 35)):=aN _ _;have k0:(w.alloc (O #[I n,J (M ⟨b,off,N⟩) ts.length tc,J ra rs.length rc] 35)).cell? ⟨w.heap.size,0,N⟩=M (I n):=qo;have k1:(w.alloc (O #[I n,J (M ⟨b,off,N⟩) ts.length tc,J ra rs.length rc] 35)).cell? ⟨w.heap.size,1,N⟩=M (J (M ⟨b,off,N⟩) ts.length tc):=qo;have k2:(w.alloc (O #[I n,J (M ⟨b,off,N⟩) ts.length tc,J ra rs.length rc] 35)).cell? ⟨w.heap.size,2,N⟩=M (J ra rs.length rc):=qo;have HI:=Ab h;have I5:=Ab rp;have E5:=h.lt;have HT:=Ab hT;have HKK:=Ab jg;clear h hT rp jg;go_enter func58,ntmps58;go_wp2_with fail;refine(Xd n _ ra tc rc ts rs _ (HT.o.bl ak) (HI.o.bl ak)).mono ?_;rintro e w1 ⟨ag,⟨hw,v,rfl⟩|⟨hw,g,sg,rfl,dp,_,hge,how⟩⟩
 ·have HW:=Ab hw
  have bm:=bt ak ag;clear hw ag ak;go_wp2_with fail;exact bR (results_tmp2 rfl _ _ _) rfl ⟨bm,Or.inl ⟨HW.o,rfl⟩⟩
 ·obtain⟨m,rfl⟩:=Int.eq_ofNat_of_zero_le (show 0≤n by have:=hw.1;omega)
  have HW:=Ab hw;have bm:=bt ak ag;have c0:=Aa ag k0;have c1:=Aa ag k1;have c2:=Aa ag k2;have hge':=Nat.le_trans ak.size hge;have N5:=Ab dp
  have Of:Hd (Ds w1 w.heap.size w1.heap.size (J (p_ sg) ts.length ts.length) (ts.map (Ap m))):=by
   have h:=Bu.new (Ah how ak.size);unfold Ds;rw[List.length_map];exact h
  have HCY:Hd (∀_:Unit,Calls prog 60 #[G #[I (m:Int),J (M ⟨b,off,N⟩) ts.length tc,J ra rs.length rc]] w1 λe w'=>Bw w1 w'∧∃g1 p1 v2,e=H (G #[I (m:Int),J (p_ g1) ts.length p1,v2])∧Ds w' w1.heap.size w'.heap.size (J (p_ g1) ts.length p1) ts∧Hr w' w1.heap.size w'.heap.size v2 rs):=λ_=>Ki m b off tc ra rc ts rs w1 (HI.o.st.bl bm) (I5.o.bl bm) E5 hr HKK.o;have fg:=bm.size;clear hw dp how ak ag k0 k1 k2 hge;go_wp2_with fail;refine(HCY.o ()).mono ?_;rintro e w2 ⟨af,g1,p1,v2,rfl,o1,o2⟩;obtain⟨a2,p2,rfl,_⟩:=o2.sl;have kg:=Af N5.o af;have HKG:=Ab kg;have ht:Dl w2 g 136:=⟨_,kg⟩;have ir:=af.size;have bg:=bt bm af;have ol:Hd (Ds w2 w.heap.size w2.heap.size (J (p_ sg) ts.length ts.length) (ts.map (Ap m))):=(Of.o.bl af).wide (Nat.le_refl _) ir;have l7:Hd (Ds w2 w.heap.size w2.heap.size (J (p_ g1) ts.length p1) ts):=o1.wide fg (Nat.le_refl _);have HQX:Hd (Hr w2 w.heap.size w2.heap.size (J a2 rs.length p2) rs):=o2.wide fg (Nat.le_refl _)
  have D0:Hd (∀b,(Value.slice (p_ sg) ts.length ts.length).ownBlock=M b→(Value.slice (p_ g1) ts.length p1).ownBlock≠M b):=λb e e'=>by
   have h1:=Of.o.top b e;have h2:=((Bu.own o1).lt b e').1;omega
  obtain⟨q0,q1,q2,q3,qf⟩:=Kk kg;have S8:=Ab ht;clear o1 o2 kg ht af c0 c1 c2 HCY;go_wp2_with fail;refine bR (results_tmp2 rfl _ _ _) rfl ?_;refine⟨below_set3P bg hge' _ _ _,Or.inr ⟨HW.o,g,g1,p1,J (p_ sg) ts.length ts.length,J a2 rs.length p2,rfl,hge',?_⟩⟩;have de:(((w2.setCell ⟨g,0,N⟩ (I (m:Int))).setCell ⟨g,1,N⟩ (J (p_ g1) ts.length p1)).setCell ⟨g,2,N⟩ (J a2 rs.length p2)).heap.size=w2.heap.size:=qi;exact⟨blk4_set3 HKG.o _ _ _,by rw[de];exact((ol.o.setT S8.o qh _).setT (S8.o.set _) qh _).setT ((S8.o.set _).set _) qh _,by rw[de];exact((l7.o.setT S8.o qh _).setT (S8.o.set _) qh _).setT ((S8.o.set _).set _) qh _,by rw[de];exact((HQX.o.setT S8.o qh qh qh _).setT (S8.o.set _) qh qh qh _).setT ((S8.o.set _).set _) qh qh qh _,D0.o⟩
end Go.Proofs.YtnflkpmmfpfhlaaGreatDoor
