import Derived.Test.YtoihflimijabjaaGreatDoorBsZ
import Derived.Test.YtoihflimijabjaaGreatDoorBtA
import Derived.Test.YtoihflimijabjaaGreatDoorBtE
namespace Go.Proofs.YtoihflimijabjaaGreatDoor
open Value renaming slice->J,string->S,bool->F,agg->G
open Option renaming some->M,none->N
open Obj renaming cells->O
open Go renaming Value->Z,World->E
open Ending renaming returned->H
open _root_ renaming List->L,Nat->X
set_option maxHeartbeats 16000000
set_option maxRecDepth 100000
open _root_.Go.Proofs.Tryz Go.RowKit Go.Deep
set_option linter.unusedVariables false
set_option linter.unusedSimpArgs false
variable {hi B B' h n b e sz r i j:X} {v qv sv tv:Z} {w':E} {R:L T3} {T l:L By} {a:Option Addr} {cs:Array Z} {xs:L Z} {ss:L S2} {ts:L T2} {x:By}
theorem Tryz.info9y:(prog.info? 9).map (λi=>(i.zero,i.size,i.bytes))=M (M ze,1,16):=qk
theorem Rn(W0:E)(h:X)(sa ta:Option Addr)(c1 c2 n:X)(ss:L S2)(ts:L T2)(hE:EnvS W0 sa ta ss ts)(h1:1<=n)(h8:n<=8)(st:L By)(du:st.length<=60)(IH:st.length<60->∀nm,Ly W0 h (J sa ss.length c1) (J ta ts.length c2) n ss ts (st++[nm])):Ly W0 h (J sa ss.length c1) (J ta ts.length c2) n ss ts st:=by
 intro ms s v nm w hb hs hi cm iw J4 A5;obtain⟨W,eW⟩:=Aj (w.alloc (O #[I 0,ze,nS] 134));have HW:Hd (Bw w W):=by show Below _ _ _;rw[←eW];exact aN _ _
 obtain⟨Q,eQ⟩:=Aj w.heap.size;have HQ:=Ad (nW eW eQ);have HN:Hd (∀b,Q<=b->¬ Bs h v b):=λb hb=>hs.not qg;have aj:W0.heap.size<=w.heap.size:=hb.size;have HF:Hd (Cp W0.heap.size (Bs h v) (Bs h v) w W):=Cp.of_below HW.o aj;have bo:W0.heap.size<=W.heap.size:=Nat.le_trans aj HW.o.size;have hBQ:W0.heap.size<=Q:=qg;have P9:w.heap.size<=Q:=qg;have HS:=Ad (hs.bl HW.o);have HB:=Ad (hb.trans (HW.o.mono aj));have HI:=Ad hi;have HK:=Ad cm;have HE:=Ad hE;have HIH:=Ad IH;have vi:=Ad iw;have HPH:=Ad J4;have HCN:=Ad A5;have HHB:=Ad hs.hB;have htl:Hj ts ms st<=200:=Nat.le_trans (My ts ms st) hE.l2;have hml:ms.length<=80040000:=qg;have hrn:s.ran.length+s.held.length+st.length<=200:=Nat.le_trans A5 htl;obtain⟨m,em⟩:=Aj ms.length;have EM:=Ad em;obtain⟨ma,mc,hmv⟩:∃a cap,v.mv=J a ms.length cap:=by obtain⟨xs,m1,m2⟩:=hs.made;exact Ax m1
 have EMV:=Ad hmv;have k5:W.cell? ⟨h,5,N⟩=M (J ma m mc):=by rw[cH HS.o.blk,←em,←hmv];rfl
 rw[em]at hml;clear hs hb hi cm IH iw J4 A5 em hmv hE HW;go_enter func87,ntmps87;go_wp2_with fail
 try rw[eQ]
 clear eW
 go_loopw [5] (λi wr=>∃k:X,k<=m/\i=I k/\wr=W/\Hd (∀j,j<k->(mm ms j).1≠nm)) (λi _=>m-(intOf i).toNat)
 case atStart=>exact⟨0,Nat.zero_le _,rfl,rfl,(λj hj=>by omega:∀j,j<0->(mm ms j).1≠nm)⟩
 case round=>
  obtain⟨k,hk,rfl,we,md⟩:=hrel;subst we
  by_cases au:k<m
  ·have gi:(k:Int)<(m:Int):=qg
   have fe:(0:Int)<=(k:Int):=qg;obtain⟨xs,m1,m2⟩:=HS.o.made;rw[EMV.o]at m1;obtain⟨f1,f2,f3,f4,r,f5⟩:=m2 k qdq;obtain⟨b,rfl,g1⟩:=Bi m1 f1;obtain⟨b',qe,g2⟩:=Bi m1 f2;cases qe;obtain⟨b',qe,g3⟩:=Bi m1 f3;cases qe;obtain⟨b',qe,g4⟩:=Bi m1 f4;cases qe;clear m1 m2 f1 f2 f3 f4 f5 EMV;obtain⟨d,ed⟩:=Aj (mm ms k);rw[ed]at g1 g2 g3;obtain⟨x,d⟩:=d;dsimp only at g1 g2 g3;obtain⟨dc,edc⟩:=Aj d.c;obtain⟨dt,edt⟩:=Aj d.t;rw[edc]at g2;rw[edt]at g3;have ED:=Ad (And.intro ed (And.intro edc edt));clear ed edc edt
   by_cases hq:x=nm
   ·have dq:=Eu hq
    (have Io:Hd (fd ms nm=M d):=by have:=fd_at (ms:=ms) (i:=k) (nm:=nm) qdq (by rw[ED.o.1];exact hq) md.o;rw[ED.o.1]at this;exact this);obtain⟨z0,z1,z2,zf⟩:=Jp HQ.o;go_wp2_with fail;obtain⟨y0,y1,y2,_⟩:=Jp (Cx HQ.o (I dc) (S dt) nS);exact bR (v:=G #[I dc,S dt,nS]) qas rfl ⟨ms,s,.ok d,.known Io.o,Or.inl ⟨d,v,rfl,(by rw[ED.o.2.1,ED.o.2.2]),HF.o.set3 qg qg _ _ _,HS.o.set3 ⟨_,HQ.o⟩ qh _ _ _⟩⟩
   ·have dq:=Fx hq
    have M2:Hd (∀j,j<k+1->(mm ms j).1≠nm):=λj hj=>by
     rcases Nat.lt_or_ge j k with q|q
     ·exact md.o j q
     ·obtain rfl:j=k:=qg
      rw[ED.o.1];exact hq
    exact qjz
  ·have gi:¬ (k:Int)<(m:Int):=qg
   have Io:Hd (fd ms nm=N):=fd_no (λj hj=>md.o j (by rw[EM.o]at hj;omega));clear md EMV;obtain⟨k0,k1⟩:=ck2 HS.o.blk;go_wp2_with fail;clear k5 k0 k1;refine(Ps sa ta ts.length c1 c2 ss nm wr (HE.o.rs.bl HB.o) (zo HE.o.l1)).mono ?_;rintro e w1 ⟨ah,hsr⟩;replace HS:=Ad (HS.o.bl ah);replace HQ:=Ad (Ac HQ.o ah);replace HF:=Ad (HF.o.trans (Cp.of_below ah bo));replace HB:=Ad (HB.o.trans (Below.mono ah bo));replace bo:W0.heap.size<=w1.heap.size:=Nat.le_trans bo ah.size;clear ah;have HNQ:Hd (¬ Bs h v Q):=HN.o Q (Nat.le_refl _)
   rcases hsr with⟨i,rfl,A4,un⟩|⟨rfl,hns⟩
   ·have O5:(0:Int)<=(i:Int):=qg
    have t8:Hd (¬ Hs st nm):=λq=>HE.o.v.dis nm (by rw[←un];exact Gm A4) (HI.o.tgt _ q);obtain⟨bs,os,rfl,s1,s2⟩:=(HE.o.rs.bl HB.o) i A4;have k0:=cK HS.o.blk 0;have hiI:(i:Int)<(ss.length:Int):=qg;have jg:Hd (Ca ss ts n ms s st (.make nm) (ms++[(nm,⟨0,(sx ss i).text,[]⟩)]) s (.ok ⟨0,(sx ss i).text,[]⟩)):=.source Io.o t8.o A4 un;obtain⟨t,et⟩:=Aj ((sx ss i).text);rw[et]at s2 jg;clear et s1 HE HIH;go_wp2_with fail;clear k0 s2;refine(Nk W0.heap.size h n _ _ ms s st v nm ⟨0,t,[]⟩ (-1) w1 HS.o bo (by rw[EM.o];omega)).mono ?_;rintro e w2 ⟨rfl,v2,cu,dx⟩;have xz:=Ad (cu.blk HQ.o (HNQ.o));have dp:=Ad (HF.o.trans cu);have fo:=Ad dx;clear cu dx;obtain⟨z0,z1,z2,zf⟩:=Jp xz.o;go_wp2_with fail;obtain⟨y0,y1,y2,_⟩:=Jp (Cx xz.o (I 0) (S t) nS);exact bR (v:=G #[I 0,S t,nS]) qas rfl ⟨_,_,_,jg.o,Or.inl ⟨⟨0,t,[]⟩,v2,rfl,rfl,dp.o.set3 P9 hBQ _ _ _,fo.o.set3 ⟨_,xz.o⟩ qh _ _ _⟩⟩
   obtain⟨k0,k1⟩:=ck2 HS.o.blk;have HNS:=Ad hns;clear hns;go_wp2_with fail;clear k0 k1;refine(Pr sa ta ss.length c1 c2 ts nm w1 (HE.o.rt.bl HB.o) (zo HE.o.l2)).mono ?_;rintro e w3 ⟨bh,hsr⟩;replace HS:=Ad (HS.o.bl bh);replace HQ:=Ad (Ac HQ.o bh);replace HF:=Ad (HF.o.trans (Cp.of_below bh bo));replace HB:=Ad (HB.o.trans (Below.mono bh bo));replace bo:W0.heap.size<=w3.heap.size:=Nat.le_trans bo bh.size;clear bh
   rcases hsr with⟨i,rfl,A4,un⟩|⟨rfl,U1⟩
   rotate_left 1
   ·have t8:Hd (¬ Hs st nm):=λq=>U1 (HI.o.tgt _ q)
    have jg:Hd (Ca ss ts n ms s st (.make nm) (ms++[(nm,⟨4,nm,[]⟩)]) s (.ok ⟨4,nm,[]⟩)):=.missing Io.o t8.o (λq=>by rcases q with q|q;exact HNS.o q;exact U1 q);clear U1 HE HIH;go_wp2_with fail;refine(Nk W0.heap.size h n _ _ ms s st v nm ⟨4,nm,[]⟩ (-1) w3 HS.o bo (by rw[EM.o];omega)).mono ?_;rintro e w2 ⟨rfl,v2,cu,dx⟩;have xz:=Ad (cu.blk HQ.o (HNQ.o));have dp:=Ad (HF.o.trans cu);have fo:=Ad dx;clear cu dx;obtain⟨z0,z1,z2,zf⟩:=Jp xz.o;go_wp2_with fail;obtain⟨y0,y1,y2,_⟩:=Jp (Cx xz.o (I 4) (S nm) nS);exact bR (v:=G #[I 4,S nm,nS]) qas rfl ⟨_,_,_,jg.o,Or.inl ⟨⟨4,nm,[]⟩,v2,rfl,rfl,dp.o.set3 P9 hBQ _ _ _,fo.o.set3 ⟨_,xz.o⟩ qh _ _ _⟩⟩
   have Y0:=Ad A4;have yg:=Ad un;clear A4 un;obtain⟨p,ep⟩:=Aj st.length;have EP:=Ad ep;obtain⟨ka,kc,hkv⟩:=Ax HS.o.stk;rw[ep]at hkv;have EKV:=Ad hkv;(have k6:w3.cell? ⟨h,6,N⟩=M (J ka p kc):=by rw[cH HS.o.blk,←hkv];rfl);have hp60:p<=60:=qg;clear hkv ep;have O5:¬ (i:Int)<0:=qg;go_wp2_with fail
   go_loopw [8] (λi wr=>∃k:X,k<=p/\i=I k/\wr=w3/\Hd (∀j,j<k->nx st j≠nm)) (λi _=>p-(intOf i).toNat)
   case atStart=>exact⟨0,Nat.zero_le _,rfl,rfl,(λj hj=>by omega:∀j,j<0->nx st j≠nm)⟩
   case round=>
    obtain⟨k,hk,rfl,we,md⟩:=hrel;subst we;have io:=HS.o.stk;rw[EKV.o,EP.o]at io;have X2:=Ad io;clear io
    by_cases au:k<p
    ·have gi:(k:Int)<(p:Int):=qg
     have fe:(0:Int)<=(k:Int):=qg;obtain⟨b,rfl,g1⟩:=Bi X2.o (Ke (by rw[EP.o];exact au));obtain⟨x,ex⟩:=Aj (nx st k);rw[ex]at g1
     by_cases hq:x=nm
     ·have dq:=Eu hq
      have jg:Hd (Ca ss ts n ms s st (.make nm) ms s (.bad (.circle (st.drop k)))):=.circle Io.o (by rw[EP.o];exact au) (by rw[ex,hq]) md.o;obtain⟨AM,eL0⟩:=Aj wr.heap.size;obtain⟨wL,eL⟩:=Aj (wr.alloc (O #[] 9));have bz:=aB eL
      have rm:Hd (wL.ownsRow AM 9 1 (J (p_ AM) 0 0) 0 []):=by
       show World.ownsRow _ _ _ _ _ _ _;rw[←eL,←eL0];exact World.ownsRow_lit wr #[] 0 (Nat.le_refl _) qn rfl
      have M3:Hd (∀j u,((Ar st).drop k)[j]?=M u->wL.cell? ((⟨b,k,N⟩:Addr).add j)=M u):=λj u q=>by
       rw[List.getElem?_drop]at q;obtain⟨b2,q2,g2⟩:=Bi X2.o q;cases q2;have g3:=Aa bz g2;rw[show(⟨b,k,N⟩:Addr).add j=⟨b,k+j,N⟩ from by unfold Addr.add;split;(rename_i q;rw[q];rfl);rfl];exact g3
      (have oe:((Ar st).drop k).length=(p-k)*1:=by rw[List.length_drop];unfold Ar;rw[List.length_map,EP.o,Nat.mul_one]);have k6L:=Aa bz k6;have HDL:=Ad oe;have it:=Ad bz;clear oe bz;(have hkc:p<=kc:=by rcases X2.o.2 with⟨q,_⟩|⟨g,c,cur,q,_,_,q2,_⟩;cases q;cases q;exact q2);have hLw:AM<=wL.heap.size:=zo it.o.size;obtain⟨i0,xr,bm,bg,bi⟩:=info_parts Tryz.info9y;have EL0:=Ad eL0;have HEX:=Ad ex;clear ex Y0 yg HIH HE
      go_wp2_with (first|(at_builtin;refine wpList_append_own_at _ rfl (.tmp 91) (.tmp 97) 23 rfl AM 9 i0 ze 1 16 underlying23 xr bm bg bi rfl qh _ 0 [] rfl rm.o ⟨b,k,N⟩ (p-k) (kc-k) ((Ar st).drop k) rfl HDL.o M3.o (λu hu=>by obtain⟨z,_,rfl⟩:=List.mem_map.mp (List.mem_of_mem_drop hu);rfl) qn qg hLw ?_;intro v' wA ak ae bn lh;clear bn lh;rw[Nat.zero_add]at ak;obtain⟨ca,cc,ecv⟩:=Ax ak;subst ecv))
      have ce:Bw wr wA:=it.o.grown ae qg (λj q=>by cases q;exact Nat.le_of_eq EL0.o);have Q6:=Ad (HS.o.bl ce);have B9:=Ad ak;have HBA:=Ad ce;clear ak ae ce rm M3 HDL
      have hch:wA.ownsRow W0.heap.size 9 1 (J ca (p-k) cc) (st.drop k).length (Ar (st.drop k)):=by
       (have h2:(st.drop k).length=p-k:=by rw[List.length_drop,EP.o]);rw[h2,show Ar (st.drop k)=[]++(Ar st).drop k from by simp[Ar,List.map_drop]];exact Al B9.o (zo EL0.o)
      have HCH:Hd (∀w5:E,(∀b,b<wA.heap.size->b≠h->w5.heap[b]?=wA.heap[b]?)->w5.ownsRow W0.heap.size 9 1 (J ca (p-k) cc) (st.drop k).length (Ar (st.drop k))):=λw5 jt=>Cc hch (λb2 q=>jt b2 (hch.lt b2 q).2 (λq2=>by have:=(B9.o.lt b2 q).1;have:=Bq HS.o.blk;have:=EL0.o;omega));clear hch;refine(Kx h _ _ _ _ _ _ _ _ _ _ _ _ _ _ _ _ _ _ _ 6 ⟨#[]⟩ ⟨#[]⟩ ⟨#[]⟩ ca _ cc wA Q6.o.blk).mono ?_;rintro e w5 ⟨rfl,cw,jt,kt⟩;have N0:=Ad (HS.o.fall HBA.o bo cw jt);have HD:Hd (Fk W0.heap.size h st.length v.nv w5 (.circle (st.drop k))):=Q6.o.dead jt [I 6,ze,J ca (p-k) cc,I 0,nS,nS,nS,nS,ze,ze] kt ⟨J ca (p-k) cc,HCH.o w5 jt,rfl⟩ (λu b2 q1 q2 q3=>by cases q1;have:=(B9.o.lt b2 q2).1;have:=(HS.o.ran.lt b2 q3).2;have:=EL0.o;omega) qg;have Q8:=Ad (N0.o.blk HQ.o HNQ.o);have HF5:=Ad (HF.o.trans N0.o);clear cw jt kt N0;obtain⟨z0,z1,z2,zf⟩:=Jp Q8.o;go_wp2_with fail;obtain⟨y0,y1,y2,_⟩:=Jp (Cx Q8.o (I 6) ze nS);exact bR (v:=G #[I 6,ze,nS]) qas rfl ⟨_,_,_,jg.o,Or.inr ⟨_,v.nv,rfl,rfl,HF5.o.set3 P9 hBQ _ _ _,HD.o.set3 ⟨_,Q8.o⟩ qh qh _ _ _⟩⟩
     ·have dq:=Fx hq
      have M2:Hd (∀j,j<k+1->nx st j≠nm):=λj hj=>by
       rcases Nat.lt_or_ge j k with q|q
       ·exact md.o j q
       ·obtain rfl:j=k:=qg
        rw[ex];exact hq
      clear ex;exact qjz
    have gi:¬ (k:Int)<(p:Int):=qg;have t8:Hd (¬ Hs st nm):=λ⟨j,hj,q⟩=>md.o j (by rw[EP.o]at hj;omega) q;(have W9:Hd (Hs (Au ts) nm):=by have:=Il Y0.o;rw[yg.o]at this;exact this);clear md au
    by_cases lj:60<=p
    ·have d60:decide ((60:Int)<=(p:Int))=true:=qj
     have jg:Hd (Ca ss ts n ms s st (.make nm) ms s (.bad (.deep nm))):=.deep Io.o t8.o HNS.o W9.o (by rw[EP.o];exact lj);clear HE HIH Y0 yg;go_wp2_with fail;refine(Kx h _ _ _ _ _ _ _ _ _ _ _ _ _ _ _ _ _ _ _ 7 nm ⟨#[]⟩ ⟨#[]⟩ N 0 0 wr HS.o.blk).mono ?_;rintro e w5 ⟨rfl,cw,jt,kt⟩;have N0:=Ad (HS.o.fall (Below.refl _ _) bo cw jt);have HD:Hd (Fk W0.heap.size h st.length v.nv w5 (.deep nm)):=HS.o.dead jt [I 7,S nm,nS,I 0,nS,nS,nS,nS,ze,ze] kt rfl (noOwn rfl _) qg;have Q8:=Ad (N0.o.blk HQ.o HNQ.o);have HF5:=Ad (HF.o.trans N0.o);clear cw jt kt N0;obtain⟨z0,z1,z2,zf⟩:=Jp Q8.o;go_wp2_with fail;obtain⟨y0,y1,y2,_⟩:=Jp (Cx Q8.o (I 7) ze nS);exact bR (v:=G #[I 7,ze,nS]) qas rfl ⟨_,_,_,jg.o,Or.inr ⟨_,v.nv,rfl,rfl,HF5.o.set3 P9 hBQ _ _ _,HD.o.set3 ⟨_,Q8.o⟩ qh qh _ _ _⟩⟩
    have d60:decide ((60:Int)<=(p:Int))=false:=qj;obtain⟨i0,xr,bm,bg,bi⟩:=info_parts Tryz.info9y;have hp59:p<60:=qg;(have hsl:st.length<=60:=by rw[EP.o];omega);clear X2 EKV lj
    go_upto_region 19 with fail
    clear k6 d60 gi;obtain⟨LwS,eL0wS⟩:=Aj wr.heap.size;obtain⟨wLwS,eLwS⟩:=Aj (wr.alloc (O #[S nm] 9));have bz:=aB eLwS;have HL:=Ad (nW eLwS eL0wS);have it:=Ad bz;clear bz;have jy:=Ad (HS.o.bl it.o);obtain⟨xa,xc,exv⟩:=Ax jy.o.stk;obtain⟨xl,exl⟩:=Aj ((st).length);have EXL:=Ad exl;rw[exl]at exv;have EXV:=Ad exv;have sr:=jy.o.stk;rw[exv,exl]at sr;have jz:=Ad sr;(have kx:wr.cell? ⟨h,6,N⟩=M (J xa xl xc):=by rw[cH HS.o.blk,←exv];rfl);(have pi:xl<=1000:=by rw[←exl];omega);clear exv sr exl;have B1:W0.heap.size<=wLwS.heap.size:=Nat.le_trans bo it.o.size
    go_upto_region 20 with(first|(at_builtin;refine wpList_append_own_at _ rfl (.tmp 115) (.tmp 117) 23 rfl W0.heap.size 9 i0 ze 1 16 underlying23 xr bm bg bi rfl qh (J xa xl xc) xl _ rfl jz.o ⟨LwS,0,N⟩ 1 1 [S nm] rfl rfl (World.news_of_block (cs:=#[S nm]) HL.o) qbe qn qg B1 ?_;intro vw wAwS ak ae bn lh;clear bn;obtain⟨ya,yc,evw⟩:=Ax ak;subst evw;have J6:=Ah jz.o qh jy.o.blk;have D3:=Ao jy.o.blk ae J6;have kxA:wAwS.cell? ⟨h,6,N⟩=M _:=qgc;have kfA:∀j,wAwS.frozen? ⟨h,j,N⟩=false:=(λj=>fH D3 j);clear D3 J6 kx))
    clear kxA kfA;obtain⟨vw,evw⟩:=Aj (Value.slice ya (xl+1) yc);rw[evw]at ak lh ⊢;have EVW:=Ad evw;clear evw
    try clear k6 d60
    obtain⟨wS,eSwS⟩:=Aj (wAwS.setCell ⟨h,6,N⟩ vw)
    have oc:∀b,vw.ownBlock=M b->v.kv.ownBlock=M b\/wLwS.heap.size<=b:=λb q=>by
     exact qek
    have wi:wLwS.grownBy wAwS v.kv.ownBlock:=by rw[EXV.o];exact ae
    have gh:wAwS.ownsRow W0.heap.size 9 1 vw (st++[nm]).length (Ar (st++[nm])):=by
     rw[List.length_append,List.length_singleton,EXL.o,show Ar (st++[nm])=Ar (st)++[S nm] from qbw];exact ak
    have HG:=Ad (jy.o.growK B1 gh wi oc);rw[eSwS]at HG ⊢;clear eSwS eLwS ak ae lh oc wi gh;have jm:=Ad HG.o.1;have mn:=Ad (Cp.trans (Cp.of_below it.o bo) HG.o.2);have NOHQ:=Ad (mn.o.no (Bq HQ.o) HNQ.o);replace HQ:=Ad (mn.o.blk HQ.o HNQ.o);replace HF:=Ad (HF.o.trans mn.o);replace HB:=Ad (HB.o.trans mn.o.bel);replace bo:W0.heap.size<=wS.heap.size:=Nat.le_trans bo mn.o.bel.size;clear HG mn jy jz HL EXV EXL it pi eL0wS;obtain⟨vK,evK⟩:=Aj ((⟨v.tx,v.qv,v.mv,vw,v.nv,v.ev⟩:Hv));rw[evK]at HF jm NOHQ;have M4:=NOHQ;clear evK HS NOHQ;(have htc:Hj ts ms st+1<=Hj ts ms (st++[nm]):=by have:=tc_push (st:=st) (ms:=ms) Y0.o (by rw[yg.o];exact Io.o) (by rw[yg.o];exact t8.o);rwa [yg.o]at this);have zr:Hd (Fj ss ts ms (st++[nm])):=HI.o.push Io.o W9.o;have hr2:s.R.length<=2000:=HK.o.2.1;(have HPH2:Hd (ms.length+200*s.R.length<=400200*Hj ts ms (st++[nm])):=by have:=HPH.o;show _<=_;omega);(have HCN2:Hd (Mb ts ms s (st++[nm])):=by have:=HCN.o;show _<=_;unfold Mb at this;rw[List.length_append,List.length_singleton];omega);have X5:=Ad (HE.o.v.pr i Y0.o);obtain⟨bt,ot,eta,t1,a',ai,t2,r3⟩:=HE.o.rt i Y0.o;subst eta;have HXC:=Ad (HE.o.xc i);have HMAD:Hd (∀ms' s' d,Ca ss ts n ms s (st++[nm]) (.work nm (tx ts i).code) ms' s' (.ok d)->Ca ss ts n ms s st (.make nm) (ms'++[(nm,d)]) s' (.ok d)):=λms' s' d q=>.made Io.o t8.o HNS.o Y0.o yg.o (by rw[EP.o];exact hp59) q;have HFEL:Hd (∀ms' s' b,Ca ss ts n ms s (st++[nm]) (.work nm (tx ts i).code) ms' s' (.bad b)->Ca ss ts n ms s st (.make nm) ms' s' (.bad b)):=λms' s' b q=>.fell Io.o t8.o HNS.o Y0.o yg.o (by rw[EP.o];exact hp59) q;have htS:wS.cell? ⟨bt,ot+i*2+1,N⟩=M (J a' (tx ts i).code.length ai):=Aa HB.o t2;have hiI:(i:Int)<(ts.length:Int):=zo Y0.o;have hi00:(0:Int)<=(i:Int):=qg;have hM:=HIH.o (by rw[EP.o];exact hp59) nm;have HM:=Ad hM;clear hM HIH;generalize (tx ts i).code=is at *
    have o5:Hd (Oh W0.heap.size W0 a' is):=⟨r3,λb off q=>by
     have:=(Eo X5.o).1;obtain⟨b',bq,q',c1,_,_⟩:=r3 0 qg;rw[q]at q';cases q';exact World.block_lt_of_cell? _ _ c1⟩
    have hisl:is.length<=1048576:=zo (Eo X5.o);have HT0:=Ad t2;clear t1 t2 r3;have k1:=cK jm.o.blk 1;go_wp2_with fail;clear k1 htS;refine(try_any W0 h sa (M ⟨bt,ot,N⟩) c1 c2 n ss ts HE.o (st++[nm]) HM.o h1 h8 ms s vK a' ai is wS HB.o jm.o zr.o HK.o (o5.o.belowB HB.o) hisl HPH2.o HCN2.o).mono ?_;rintro e w5 ⟨ms',s',a,di,⟨c,t,r,v5,rfl,rfl,hr0,cu,dx⟩|⟨v5,rfl,rfl,cu,dx⟩|⟨bb,nb,rfl,rfl,cu,nj⟩⟩;rotate_left 1;rotate_left 1
    ·have jg:=Ad (HFEL.o _ _ _ (.tfell di))
     have jp:=Ad cu;replace HQ:=Ad (jp.o.blk HQ.o M4.o);replace HF:=Ad (HF.o.trans jp.o);replace HB:=Ad (HB.o.trans jp.o.bel);replace bo:W0.heap.size<=w5.heap.size:=Nat.le_trans bo jp.o.bel.size;have HD5:=Ad nj;clear di cu nj
     go_upto_region 21 with fail
     obtain⟨RR,eRR⟩:=Aj w5.heap.size;obtain⟨w6,e6⟩:=Aj (w5.alloc (O #[I 0,ze,nS] 134));have cj:Bw w5 w6:=qba;have ij:Hd (w6.heap[RR]?=M (O #[I 0,ze,nS] 134 (0,0))):=qcd;rw[e6]
     try rw[eRR]
     clear e6;have hRQ:Q<RR:=zo (Bq HQ.o);have hwR:w.heap.size<=RR:=qfz;have A9:W0.heap.size<=RR:=qg;have HD6:=Ad (HD5.o.frx cj);replace HQ:=Ad (Ac HQ.o cj);replace HF:=Ad (HF.o.trans (Cp.of_below cj bo));replace HB:=Ad (HB.o.trans (cj.mono bo));replace bo:W0.heap.size<=w6.heap.size:=Nat.le_trans bo cj.size;clear cj jp eRR;have HD7:=Ad (HD6.o.less);obtain⟨k9,I6,hhl⟩:=HD7.o.cells;obtain⟨z0,z1,z2,zf⟩:=Jp HQ.o;go_wp2_with fail;obtain⟨y0,y1,y2,_⟩:=Jp (Cx HQ.o (I (Jm bb)) ze nS);exact bR (v:=G #[I (Jm bb),ze,nS]) qas rfl ⟨_,_,_,jg.o,Or.inr ⟨bb,_,rfl,rfl,HF.o.set3 P9 hBQ _ _ _,HD7.o.set3 ⟨_,HQ.o⟩ qh qh _ _ _⟩⟩
    ·obtain⟨i1,i2,i3,i4⟩:=Ca.inv HE.o.v di zr.o HK.o (Nat.le_refl _) (λb q=>qz)
     have jx:=Ca.cost HE.o.v di zr.o HK.o (Nat.le_refl _) (λb q=>qz);simp only[Qi]at jx;have O8:=Ca.cntM HE.o.v di zr.o HK.o (Nat.le_refl _) (λb q=>qz) rfl HCN2.o;unfold Mb at O8;have htl2:=Nat.le_trans (My ts ms' (st++[nm])) HE.o.l2;have htl3:=Nat.le_trans (My ts ms (st++[nm])) HE.o.l2;have hml2:ms'.length<=200000000:=zo EM.o;have hxl2:s'.held.length<=200:=qg;have jg:=Ad (HMAD.o _ _ _ (.held di));have jp:=Ad cu;have zm:=Ad (jp.o.no (Bq HQ.o) M4.o);replace HQ:=Ad (jp.o.blk HQ.o M4.o);replace HF:=Ad (HF.o.trans jp.o);replace HB:=Ad (HB.o.trans jp.o.bel);replace bo:W0.heap.size<=w5.heap.size:=Nat.le_trans bo jp.o.bel.size;have km:=Ad dx;clear di cu dx i1 i2 i3 i4 jx O8
     go_upto_region 21 with fail
     obtain⟨RR,eRR⟩:=Aj w5.heap.size;obtain⟨w6,e6⟩:=Aj (w5.alloc (O #[I c,S t,nS] 134));have cj:Bw w5 w6:=qba;have ij:Hd (w6.heap[RR]?=M (O #[I c,S t,nS] 134 (0,0))):=qcd;rw[e6]
     try rw[eRR]
     clear e6;have hRQ:Q<RR:=zo (Bq HQ.o);have hwR:w.heap.size<=RR:=qfz;have A9:W0.heap.size<=RR:=qg;have HNR:Hd (¬ Bs h v5 RR):=km.o.not qg;have jn:=Ad (km.o.bl cj);replace HQ:=Ad (Ac HQ.o cj);replace HF:=Ad (HF.o.trans (Cp.of_below cj bo));replace HB:=Ad (HB.o.trans (cj.mono bo));replace bo:W0.heap.size<=w6.heap.size:=Nat.le_trans bo cj.size;clear cj jp eRR;clear km
     go_upto_region 22 with fail
     obtain⟨LwE,ws⟩:=Aj w6.heap.size;obtain⟨wLwE,eLwE⟩:=Aj (w6.alloc (O #[S nm] 9));have bz:=aB eLwE;have HL:=Ad (nW eLwE ws);have it:=Ad bz;clear bz;have jy:=Ad (jn.o.bl it.o);obtain⟨xa,xc,exv⟩:=Ax jy.o.held;obtain⟨xl,exl⟩:=Aj ((s'.held).length);have EXL:=Ad exl;rw[exl]at exv;have EXV:=Ad exv;have sr:=jy.o.held;rw[exv,exl]at sr;have jz:=Ad sr;(have kx:w6.cell? ⟨h,8,N⟩=M (J xa xl xc):=by rw[cH jn.o.blk,←exv];rfl);(have pi:xl<=1000:=by rw[←exl];omega);clear exv sr exl;have B1:W0.heap.size<=wLwE.heap.size:=Nat.le_trans bo it.o.size
     go_upto_region 26 with(first|(at_builtin;refine wpList_append_own_at _ rfl (.tmp 141) (.tmp 143) 23 rfl W0.heap.size 9 i0 ze 1 16 underlying23 xr bm bg bi rfl qh (J xa xl xc) xl _ rfl jz.o ⟨LwE,0,N⟩ 1 1 [S nm] rfl rfl (World.news_of_block (cs:=#[S nm]) HL.o) qbe qn qg B1 ?_;intro vw wAwE ak ae bn lh;clear bn;obtain⟨ya,yc,evw⟩:=Ax ak;subst evw;have J6:=Ah jz.o qh jy.o.blk;have D3:=Ao jy.o.blk ae J6;have kxA:wAwE.cell? ⟨h,8,N⟩=M _:=qgc;have kfA:∀j,wAwE.frozen? ⟨h,j,N⟩=false:=(λj=>fH D3 j);clear D3 J6 kx))
     clear kxA kfA;obtain⟨vw,evw⟩:=Aj (Value.slice ya (xl+1) yc);rw[evw]at ak lh ⊢;have EVW:=Ad evw;clear evw
     try clear k6 d60
     obtain⟨wE,eSwE⟩:=Aj (wAwE.setCell ⟨h,8,N⟩ vw)
     have oc:∀b,vw.ownBlock=M b->v5.ev.ownBlock=M b\/wLwE.heap.size<=b:=λb q=>by
      exact qek
     have wi:wLwE.grownBy wAwE v5.ev.ownBlock:=by rw[EXV.o];exact ae
     have gh:wAwE.ownsRow W0.heap.size 9 1 vw (s'.held++[nm]).length (Ar (s'.held++[nm])):=by
      rw[List.length_append,List.length_singleton,EXL.o,show Ar (s'.held++[nm])=Ar (s'.held)++[S nm] from qbw];exact ak
     have HG:=Ad (jy.o.growE B1 gh wi oc);rw[eSwE]at HG ⊢;clear eSwE eLwE ak ae lh oc wi gh;have jm:=Ad HG.o.1;have mn:=Ad (Cp.trans (Cp.of_below it.o bo) HG.o.2);have NOHQ:=Ad (mn.o.no (Bq HQ.o) zm.o);have NOHRR:=Ad (mn.o.no (Bq ij.o) HNR.o);replace HQ:=Ad (mn.o.blk HQ.o zm.o);replace ij:=Ad (mn.o.blk ij.o HNR.o);replace HF:=Ad (HF.o.trans mn.o);replace HB:=Ad (HB.o.trans mn.o.bel);replace bo:W0.heap.size<=wE.heap.size:=Nat.le_trans bo mn.o.bel.size;clear HG mn jy jz HL EXV EXL it pi ws;obtain⟨vE,evE⟩:=Aj ((⟨v5.tx,v5.qv,v5.mv,v5.kv,v5.nv,vw⟩:Hv));rw[evE]at HF jm NOHQ NOHRR;clear evE;have k9:=cK jm.o.blk 9
     go_upto_region 28 with fail
     clear k9;obtain⟨ka2,C8,sw⟩:=Ax jm.o.stk;rw[List.length_append,List.length_singleton]at sw;have ly:=jm.o.stk;rw[sw,List.length_append,List.length_singleton]at ly;obtain⟨bk,eka,_⟩:=Bi ly (Ke (st:=st++[nm]) (i:=st.length) qco);subst eka;(have K5:st.length+1<=C8:=by rcases ly.2 with⟨q,_⟩|⟨g,c,cur,q,_,_,q2,_⟩;cases q;cases q;exact q2);have Y6:=Ad sw;clear sw ly;have hhQ:h≠Q/\h≠RR:=⟨λq=>NOHQ.o (Or.inl q.symm),λq=>NOHRR.o (Or.inl q.symm)⟩;obtain⟨p1,ep1⟩:=Aj st.length;rw[ep1]at K5 Y6;have hp1:p1<=60:=qg;have we:IntKind.i64.wrap (p1:Int)=(p1:Int):=IntWalk.i64_in _ ⟨qg,qg⟩;have hp0:(0:Int)<=(p1:Int):=qg;have T7:(p1:Int)<=(C8:Int):=qg;refine Lt.begin 14 (λw'=>w'.cell? ⟨h,6,N⟩=M (J (p_ bk) (p1+1) C8)) qk ?_;obtain⟨wD,eD⟩:=Aj wE.drew;rw[eD];have ao:Bw wE wD:=qq;clear eD;replace jm:=Ad (jm.o.bl ao);replace HQ:=Ad (Ac HQ.o ao);replace ij:=Ad (Ac ij.o ao);replace HF:=Ad (HF.o.trans (Cp.of_below ao bo));have aw:(λw'=>w'.cell? ⟨h,6,N⟩=M (J (p_ bk) (p1+1) C8)) wD:=(by show _=_;rw[cH jm.o.blk,←Y6.o];rfl);replace bo:W0.heap.size<=wD.heap.size:=Nat.le_trans bo ao.size;change K 0 _
     iterate 12
      refine Lt.ti (v:=?_) aw ?_ ?_;rotate_left 1
      ·exact qcz
      simp only[gX]
     refine Lt.sp (i:=12) (λK hK=>?_);go_simp;refine hK.out _ _ (λ_=>aw) (λ_=>?_);clear hK K 
     try simp only[gX]
     refine Lt.ti (i:=13) (v:=?_) aw ?_ ?_;rotate_left 1
     ·exact qcz
     simp only[gX];have kf:=fZ jm.o.blk;(have k6:wD.cell? ⟨h,6,N⟩=M (J (p_ bk) (p1+1) C8):=by rw[cH jm.o.blk,←Y6.o];rfl);refine Lt.sp (i:=14) (λK hK=>?_);go_simp;refine hK.out _ _ (λh=>absurd rfl h) (λ_=>?_);clear hK K;refine Lt.done qk ?_ _;have kq:=jm.o.pop bo (by rw[Y6.o,ep1]);rw[ep1]at kq;obtain⟨V,eV⟩:=Aj (wD.setCell ⟨h,6,N⟩ (J (p_ bk) p1 C8));rw[eV]at kq ⊢;(have HQV:Hd (V.heap[Q]?=M (O #[I 0,ze,nS] 134 (0,0))):=by show _=_;rw[←eV];exact Af HQ.o (Ne.symm hhQ.1) _);(have HRV:Hd (V.heap[RR]?=M (O #[I c,S t,nS] 134 (0,0))):=by show _=_;rw[←eV];exact Af ij.o (Ne.symm hhQ.2) _);have HNQV:=Ad (kq.2.no (Bq HQ.o) NOHQ.o);have HSV:=Ad kq.1;have HFV:=Ad (HF.o.trans kq.2);have hBV:W0.heap.size<=V.heap.size:=Nat.le_trans bo kq.2.bel.size;clear kq eV kf k6 jm HF HQ ij;obtain⟨x0,x1,x2⟩:=Ab HRV.o;go_wp2_with fail;clear x0 x1 x2;refine(Nk W0.heap.size h n _ _ ms' _ st _ nm ⟨c,t,[]⟩ _ V HSV.o hBV qg).mono ?_;rintro e w9 ⟨rfl,v9,cu,dx⟩;have t6:=Ad (cu.blk HQV.o HNQV.o);have F9:=Ad (HFV.o.trans cu);have fa:=Ad dx;clear cu dx;obtain⟨z0,z1,z2,zf⟩:=Jp t6.o;go_wp2_with fail;obtain⟨y0,y1,y2,_⟩:=Jp (Cx t6.o (I c) (S t) nS);exact bR (v:=G #[I c,S t,nS]) qas rfl ⟨_,_,_,jg.o,Or.inl ⟨⟨c,t,[]⟩,v9,rfl,rfl,F9.o.set3 P9 hBQ _ _ _,fa.o.set3 ⟨_,t6.o⟩ qh _ _ _⟩⟩
    ·obtain⟨i1,i2,i3,i4⟩:=Ca.inv HE.o.v di zr.o HK.o (Nat.le_refl _) (λb q=>qz)
     have jx:=Ca.cost HE.o.v di zr.o HK.o (Nat.le_refl _) (λb q=>qz);simp only[Qi]at jx;have O8:=Ca.cntM HE.o.v di zr.o HK.o (Nat.le_refl _) (λb q=>qz) rfl HCN2.o;have HI3:=Ad i1;have oy:=Ad i2;have HCN3:=Ad O8;have htl2:=Nat.le_trans (My ts ms' (st++[nm])) HE.o.l2;have htl3:=Nat.le_trans (My ts ms (st++[nm])) HE.o.l2;(have HPH3:Hd (ms'.length+200<=400200*Hj ts ms' (st++[nm])):=by have:=HPH.o;show _<=_;omega);have HTRY:=Ad di;have jp:=Ad cu;have zm:=Ad (jp.o.no (Bq HQ.o) M4.o);replace HQ:=Ad (jp.o.blk HQ.o M4.o);replace HF:=Ad (HF.o.trans jp.o);replace HB:=Ad (HB.o.trans jp.o.bel);replace bo:W0.heap.size<=w5.heap.size:=Nat.le_trans bo jp.o.bel.size;have km:=Ad dx;clear di cu dx i1 i2 i3 i4 jx O8
     go_upto_region 21 with fail
     obtain⟨RR,eRR⟩:=Aj w5.heap.size;obtain⟨w6,e6⟩:=Aj (w5.alloc (O #[I 0,ze,nS] 134));have cj:Bw w5 w6:=qba;have ij:Hd (w6.heap[RR]?=M (O #[I 0,ze,nS] 134 (0,0))):=qcd;rw[e6]
     try rw[eRR]
     clear e6;have hRQ:Q<RR:=zo (Bq HQ.o);have hwR:w.heap.size<=RR:=qfz;have A9:W0.heap.size<=RR:=qg;have HNR:Hd (¬ Bs h v5 RR):=km.o.not qg;have jn:=Ad (km.o.bl cj);replace HQ:=Ad (Ac HQ.o cj);replace HF:=Ad (HF.o.trans (Cp.of_below cj bo));replace HB:=Ad (HB.o.trans (cj.mono bo));replace bo:W0.heap.size<=w6.heap.size:=Nat.le_trans bo cj.size;clear cj jp eRR;clear km;have k9:=cK jn.o.blk 9;have k1:=cK jn.o.blk 1;have htS:w6.cell? ⟨bt,ot+i*2+1,N⟩=M (J a' is.length ai):=Aa HB.o HT0.o;go_wp2_with fail;clear k9 k1 htS;refine(run5_any W0 h sa (M ⟨bt,ot,N⟩) c1 c2 n ss ts HE.o (st++[nm]) HM.o h1 h8 ms' s' v5 a' ai is w6 HB.o jn.o HI3.o oy.o (o5.o.belowB HB.o) X5.o HXC.o HPH3.o HCN3.o).mono ?_;rintro e w7 ⟨d7,s2,a2,di,⟨d,v7,r,rfl,rfl,hr0,cu,dx⟩|⟨bb,nb,rfl,rfl,cu,nj⟩⟩;rotate_left 1
     ·have jg:=Ad (HFEL.o _ _ _ (.rfell HTRY.o di))
      have HD7:=Ad nj;have jp:=Ad cu;replace HQ:=Ad (jp.o.blk HQ.o zm.o);replace ij:=Ad (jp.o.blk ij.o HNR.o);replace HF:=Ad (HF.o.trans jp.o);replace HB:=Ad (HB.o.trans jp.o.bel);replace bo:W0.heap.size<=w7.heap.size:=Nat.le_trans bo jp.o.bel.size;obtain⟨z0,z1,z2,zf⟩:=Jp ij.o
      go_upto_region 25 with fail
      clear z0 z1 z2 zf;have HS8:=Ad (HD7.o.set3 ⟨_,ij.o⟩ qh qh (I 0) ze nS);replace HF:=Ad (HF.o.set3 hwR A9 (I 0) ze nS);replace HQ:=Ad (Da HQ.o (show Q≠RR from qg) (I 0) ze nS);replace HB:=Ad (((HB.o.setCell (p:=⟨RR,0,N⟩) A9 (I 0)).setCell (p:=⟨RR,1,N⟩) A9 ze).setCell (p:=⟨RR,2,N⟩) A9 nS);replace ij:=Ad (Cx ij.o (I 0) ze nS);have yn:w7.heap.size<=(((w7.setCell ⟨RR,0,N⟩ (I 0)).setCell ⟨RR,1,N⟩ ze).setCell ⟨RR,2,N⟩ nS).heap.size:=qi;obtain⟨w8,e8⟩:=Aj (((w7.setCell ⟨RR,0,N⟩ (I 0)).setCell ⟨RR,1,N⟩ ze).setCell ⟨RR,2,N⟩ nS);rw[e8]at HS8 HF HQ HB ij yn ⊢;clear e8;replace bo:W0.heap.size<=w8.heap.size:=Nat.le_trans bo yn;clear yn jp;clear di cu nj HD7;obtain⟨pre,ee,dy,T7,T8,hp7,⟨xs,G2,S6⟩,hpa⟩:=HS8.o;rw[List.length_append,List.length_singleton]at S6;obtain⟨xa,xc,exv⟩:=Ax G2;subst exv;obtain⟨xl,exl⟩:=Aj xs.length;have EXL:=Ad exl;rw[exl]at G2 S6 hp7 hpa HS8 HF;obtain⟨L8,eL8⟩:=Aj w8.heap.size;obtain⟨wL,eL⟩:=Aj (w8.alloc (O #[S nm] 9));have bz:=aB eL;have HL:=Ad (nW eL eL8);have it:=Ad bz;have jz:=Ad (Ae G2 bz);have HPK:=Ad (Ac T7 bz);have HDL:=Ad (HS8.o.frx bz);(have kx:w8.cell? ⟨h,7,N⟩=M (J xa xl xc):=by rw[cH T7,List.getElem?_toArray,List.getElem?_append_left qgb,List.getElem?_append_left qg];exact hp7);have pi:xl<=1000:=qg;have B1:W0.heap.size<=wL.heap.size:=Nat.le_trans bo bz.size;(have hk20:(pre++[Value.bool true]++ee).length=20:=by rw[List.length_append,List.length_append,dy,T8.code.1];rfl);have HXS2:=Ad S6;clear bz T7 G2 T8 hpa S6 hp7 exl
      go_upto_region 26 with(first|(at_builtin;refine wpList_append_own_at _ rfl (.tmp 170) (.tmp 172) 23 rfl W0.heap.size 9 i0 ze 1 16 underlying23 xr bm bg bi rfl qh (J xa xl xc) xl _ rfl jz.o ⟨L8,0,N⟩ 1 1 [S nm] rfl rfl (World.news_of_block (cs:=#[S nm]) HL.o) qbe qn qg B1 ?_;intro vw wA ak ae bn lh;clear bn;obtain⟨ya,yc,evw⟩:=Ax ak;subst evw;have J6:=Ah jz.o qh HPK.o;have D3:=Ao HPK.o ae J6;have kxA:wA.cell? ⟨h,7,N⟩=M ((pre++[Value.bool true]++ee).toArray[7]'(by simp only[List.size_toArray];omega)):=(by rw[cH D3];exact Array.getElem?_eq_getElem _);have kfA:∀j,wA.frozen? ⟨h,j,N⟩=false:=(λj=>fH D3 j);clear D3 J6 kx))
      clear kxA kfA;(have jh:wA.ownsRow W0.heap.size 9 1 (J ya (xl+1) yc) (xs.length+1) (Ar xs++[S nm]):=by rw[EXL.o];exact ak);(have hrw3:wL.ownsRow W0.heap.size 9 1 (J xa xl xc) xs.length (Ar xs):=by rw[EXL.o];exact jz.o);(have HDL2:Fk W0.heap.size h (st.length+1) (J xa xl xc) wL bb:=by have:=HDL.o;rwa [List.length_append,List.length_singleton]at this);obtain⟨hd9,hf9⟩:=HDL2.grow HHB.o B1 hrw3 (by rw[EXL.o];have:=HXS2.o;omega) jh ae lh;obtain⟨w9,e9⟩:=Aj (wA.setCell ⟨h,7,N⟩ (J ya (xl+1) yc));rw[e9]at hd9 hf9 ⊢;have hhQ:Q≠h:=λq=>zm.o (Or.inl q)
      have hQ9:w9.heap[Q]?=M (O #[I 0,ze,nS] 134 (0,0)):=by
       have a1:=Ac HQ.o it.o;have a2:=Ao a1 ae (Ah jz.o qh a1);rw[←e9];exact Af a2 hhQ _
      have t6:=Ad hQ9;have HD9:=Ad hd9;have F9:=Ad ((HF.o.trans (Cp.of_below it.o bo)).trans hf9);clear hd9 hf9 hQ9 e9 eL ak ae lh jh hrw3 HDL2 hk20;obtain⟨k9,I6,hhl⟩:=HD9.o.cells;obtain⟨z0,z1,z2,zf⟩:=Jp t6.o;go_wp2_with fail;obtain⟨y0,y1,y2,_⟩:=Jp (Cx t6.o (I (Jm bb)) ze nS);exact bR (v:=G #[I (Jm bb),ze,nS]) qas rfl ⟨_,_,_,jg.o,Or.inr ⟨bb,_,rfl,rfl,F9.o.set3 P9 hBQ _ _ _,HD9.o.set3 ⟨_,t6.o⟩ qh qh _ _ _⟩⟩
     obtain⟨dc,dt,dl⟩:=d;have hjob:JobB s' (.run is [] []):=⟨⟨X5.o,λi hi=>Zk,rfl⟩,qi,λg hg=>by simp at hg⟩;have jx:=Ca.cost HE.o.v di HI3.o oy.o hjob (λb q=>qz);simp only[Qi]at jx;have O8:=Ca.cntM HE.o.v di HI3.o oy.o hjob (λb q=>qz) rfl HCN3.o;unfold Mb at O8;have htl4:=Nat.le_trans (My ts d7 (st++[nm])) HE.o.l2;have hml3:d7.length<=300000000:=zo HPH3.o;have hxl2:s2.ran.length<=200:=qg;have jg:=Ad (HMAD.o _ _ _ (.ran HTRY.o di));have xw:=Ad dx;have jp:=Ad cu;have NQ7:=Ad (jp.o.no (Bq HQ.o) zm.o);have NR7:=Ad (jp.o.no (Bq ij.o) HNR.o);replace HQ:=Ad (jp.o.blk HQ.o zm.o);replace ij:=Ad (jp.o.blk ij.o HNR.o);replace HF:=Ad (HF.o.trans jp.o);replace HB:=Ad (HB.o.trans jp.o.bel);replace bo:W0.heap.size<=w7.heap.size:=Nat.le_trans bo jp.o.bel.size;obtain⟨z0,z1,z2,zf⟩:=Jp ij.o
     go_upto_region 25 with fail
     clear z0 z1 z2 zf;have HS8:=Ad (xw.o.set3 ⟨_,ij.o⟩ qh (I dc) (S dt) nS);replace HF:=Ad (HF.o.set3 hwR A9 (I dc) (S dt) nS);replace HQ:=Ad (Da HQ.o (show Q≠RR from qg) (I dc) (S dt) nS);replace HB:=Ad (((HB.o.setCell (p:=⟨RR,0,N⟩) A9 (I dc)).setCell (p:=⟨RR,1,N⟩) A9 (S dt)).setCell (p:=⟨RR,2,N⟩) A9 nS);replace ij:=Ad (Cx ij.o (I dc) (S dt) nS);have yn:w7.heap.size<=(((w7.setCell ⟨RR,0,N⟩ (I dc)).setCell ⟨RR,1,N⟩ (S dt)).setCell ⟨RR,2,N⟩ nS).heap.size:=qi;obtain⟨w8,e8⟩:=Aj (((w7.setCell ⟨RR,0,N⟩ (I dc)).setCell ⟨RR,1,N⟩ (S dt)).setCell ⟨RR,2,N⟩ nS);rw[e8]at HS8 HF HQ HB ij yn ⊢;clear e8;replace bo:W0.heap.size<=w8.heap.size:=Nat.le_trans bo yn;clear yn jp;clear di cu dx jx O8 hjob xw HTRY jn;obtain⟨LwE,ws⟩:=Aj w8.heap.size;obtain⟨wLwE,eLwE⟩:=Aj (w8.alloc (O #[S nm] 9));have bz:=aB eLwE;have HL:=Ad (nW eLwE ws);have it:=Ad bz;clear bz;have jy:=Ad (HS8.o.bl it.o);obtain⟨xa,xc,exv⟩:=Ax jy.o.ran;obtain⟨xl,exl⟩:=Aj ((s2.ran).length);have EXL:=Ad exl;rw[exl]at exv;have EXV:=Ad exv;have sr:=jy.o.ran;rw[exv,exl]at sr;have jz:=Ad sr;(have kx:w8.cell? ⟨h,7,N⟩=M (J xa xl xc):=by rw[cH HS8.o.blk,←exv];rfl);(have pi:xl<=1000:=by rw[←exl];omega);clear exv sr exl;have B1:W0.heap.size<=wLwE.heap.size:=Nat.le_trans bo it.o.size
     go_upto_region 26 with(first|(at_builtin;refine wpList_append_own_at _ rfl (.tmp 170) (.tmp 172) 23 rfl W0.heap.size 9 i0 ze 1 16 underlying23 xr bm bg bi rfl qh (J xa xl xc) xl _ rfl jz.o ⟨LwE,0,N⟩ 1 1 [S nm] rfl rfl (World.news_of_block (cs:=#[S nm]) HL.o) qbe qn qg B1 ?_;intro vw wAwE ak ae bn lh;clear bn;obtain⟨ya,yc,evw⟩:=Ax ak;subst evw;have J6:=Ah jz.o qh jy.o.blk;have D3:=Ao jy.o.blk ae J6;have kxA:wAwE.cell? ⟨h,7,N⟩=M _:=qgc;have kfA:∀j,wAwE.frozen? ⟨h,j,N⟩=false:=(λj=>fH D3 j);clear D3 J6 kx))
     clear kxA kfA;obtain⟨vw,evw⟩:=Aj (Value.slice ya (xl+1) yc);rw[evw]at ak lh ⊢;have EVW:=Ad evw;clear evw
     try clear k6 d60
     obtain⟨wE,eSwE⟩:=Aj (wAwE.setCell ⟨h,7,N⟩ vw)
     have oc:∀b,vw.ownBlock=M b->v7.nv.ownBlock=M b\/wLwE.heap.size<=b:=λb q=>by
      exact qek
     have wi:wLwE.grownBy wAwE v7.nv.ownBlock:=by rw[EXV.o];exact ae
     have gh:wAwE.ownsRow W0.heap.size 9 1 vw (s2.ran++[nm]).length (Ar (s2.ran++[nm])):=by
      rw[List.length_append,List.length_singleton,EXL.o,show Ar (s2.ran++[nm])=Ar (s2.ran)++[S nm] from qbw];exact ak
     have HG:=Ad (jy.o.growN B1 gh wi oc);rw[eSwE]at HG ⊢;clear eSwE eLwE ak ae lh oc wi gh;have jm:=Ad HG.o.1;have mn:=Ad (Cp.trans (Cp.of_below it.o bo) HG.o.2);have NOHQ:=Ad (mn.o.no (Bq HQ.o) NQ7.o);have NOHRR:=Ad (mn.o.no (Bq ij.o) NR7.o);replace HQ:=Ad (mn.o.blk HQ.o NQ7.o);replace ij:=Ad (mn.o.blk ij.o NR7.o);replace HF:=Ad (HF.o.trans mn.o);replace HB:=Ad (HB.o.trans mn.o.bel);replace bo:W0.heap.size<=wE.heap.size:=Nat.le_trans bo mn.o.bel.size;clear HG mn jy jz HL EXV EXL it pi ws;obtain⟨vE,evE⟩:=Aj ((⟨v7.tx,v7.qv,v7.mv,v7.kv,vw,v7.ev⟩:Hv));rw[evE]at HF jm NOHQ NOHRR;clear evE;have k9:=cK jm.o.blk 9
     go_upto_region 28 with fail
     clear k9;obtain⟨ka2,C8,sw⟩:=Ax jm.o.stk;rw[List.length_append,List.length_singleton]at sw;have ly:=jm.o.stk;rw[sw,List.length_append,List.length_singleton]at ly;obtain⟨bk,eka,_⟩:=Bi ly (Ke (st:=st++[nm]) (i:=st.length) qco);subst eka;(have K5:st.length+1<=C8:=by rcases ly.2 with⟨q,_⟩|⟨g,c,cur,q,_,_,q2,_⟩;cases q;cases q;exact q2);have Y6:=Ad sw;clear sw ly;have hhQ:h≠Q/\h≠RR:=⟨λq=>NOHQ.o (Or.inl q.symm),λq=>NOHRR.o (Or.inl q.symm)⟩;obtain⟨p1,ep1⟩:=Aj st.length;rw[ep1]at K5 Y6;have hp1:p1<=60:=qg;have we:IntKind.i64.wrap (p1:Int)=(p1:Int):=IntWalk.i64_in _ ⟨qg,qg⟩;have hp0:(0:Int)<=(p1:Int):=qg;have T7:(p1:Int)<=(C8:Int):=qg;refine Lt.begin 14 (λw'=>w'.cell? ⟨h,6,N⟩=M (J (p_ bk) (p1+1) C8)) qk ?_;obtain⟨wD,eD⟩:=Aj wE.drew;rw[eD];have ao:Bw wE wD:=qq;clear eD;replace jm:=Ad (jm.o.bl ao);replace HQ:=Ad (Ac HQ.o ao);replace ij:=Ad (Ac ij.o ao);replace HF:=Ad (HF.o.trans (Cp.of_below ao bo));have aw:(λw'=>w'.cell? ⟨h,6,N⟩=M (J (p_ bk) (p1+1) C8)) wD:=(by show _=_;rw[cH jm.o.blk,←Y6.o];rfl);replace bo:W0.heap.size<=wD.heap.size:=Nat.le_trans bo ao.size;change K 0 _
     iterate 12
      refine Lt.ti (v:=?_) aw ?_ ?_;rotate_left 1
      ·exact qcz
      simp only[gX]
     refine Lt.sp (i:=12) (λK hK=>?_);go_simp;refine hK.out _ _ (λ_=>aw) (λ_=>?_);clear hK K 
     try simp only[gX]
     refine Lt.ti (i:=13) (v:=?_) aw ?_ ?_;rotate_left 1
     ·exact qcz
     simp only[gX];have kf:=fZ jm.o.blk;(have k6:wD.cell? ⟨h,6,N⟩=M (J (p_ bk) (p1+1) C8):=by rw[cH jm.o.blk,←Y6.o];rfl);refine Lt.sp (i:=14) (λK hK=>?_);go_simp;refine hK.out _ _ (λh=>absurd rfl h) (λ_=>?_);clear hK K;refine Lt.done qk ?_ _;have kq:=jm.o.pop bo (by rw[Y6.o,ep1]);rw[ep1]at kq;obtain⟨V,eV⟩:=Aj (wD.setCell ⟨h,6,N⟩ (J (p_ bk) p1 C8));rw[eV]at kq ⊢;(have HQV:Hd (V.heap[Q]?=M (O #[I 0,ze,nS] 134 (0,0))):=by show _=_;rw[←eV];exact Af HQ.o (Ne.symm hhQ.1) _);(have HRV:Hd (V.heap[RR]?=M (O #[I dc,S dt,nS] 134 (0,0))):=by show _=_;rw[←eV];exact Af ij.o (Ne.symm hhQ.2) _);have HNQV:=Ad (kq.2.no (Bq HQ.o) NOHQ.o);have HSV:=Ad kq.1;have HFV:=Ad (HF.o.trans kq.2);have hBV:W0.heap.size<=V.heap.size:=Nat.le_trans bo kq.2.bel.size;clear kq eV kf k6 jm HF HQ ij;obtain⟨x0,x1,x2⟩:=Ab HRV.o;go_wp2_with fail;clear x0 x1 x2;refine(Nk W0.heap.size h n _ _ d7 _ st _ nm ⟨dc,dt,dl⟩ _ V HSV.o hBV qg).mono ?_;rintro e w9 ⟨rfl,v9,cu,dx⟩;have t6:=Ad (cu.blk HQV.o HNQV.o);have F9:=Ad (HFV.o.trans cu);have fa:=Ad dx;clear cu dx;obtain⟨z0,z1,z2,zf⟩:=Jp t6.o;go_wp2_with fail;obtain⟨y0,y1,y2,_⟩:=Jp (Cx t6.o (I dc) (S dt) nS);exact bR (v:=G #[I dc,S dt,nS]) qas rfl ⟨_,_,_,jg.o,Or.inl ⟨⟨dc,dt,dl⟩,v9,rfl,rfl,F9.o.set3 P9 hBQ _ _ _,fa.o.set3 ⟨_,t6.o⟩ qh _ _ _⟩⟩
theorem make5_all(W0:E)(h:X)(sa ta:Option Addr)(c1 c2 n:X)(ss:L S2)(ts:L T2)(hE:EnvS W0 sa ta ss ts)(h1:1<=n)(h8:n<=8):∀(k:X)(st:L By),60-st.length=k->st.length<=60->Ly W0 h (J sa ss.length c1) (J ta ts.length c2) n ss ts st:=by
 intro k
 induction k with
 | zero=>intro st e1 e2;exact Rn W0 h sa ta c1 c2 n ss ts hE h1 h8 st e2 (λq=>qg)
 | succ k ih=>intro st e1 e2;exact Rn W0 h sa ta c1 c2 n ss ts hE h1 h8 st e2 (λq nm=>ih (st++[nm]) qco qco)
structure Hb (w:E) (B:X) (tx qv:Z) (T:L By) (R:L T3):Prop where
 txt:w.ownsRow B 9 1 tx T.length (Ar T)
 txa:∃g p,tx=J (p_ g) T.length p
 rcs:Gr w B qv R
theorem Ct.recO{w:E}{lo:X}{rs:L T3}(h:Ct w lo hi v rs):Gr w lo v rs:=by
 obtain⟨xs,cv,lv,q⟩:=h;exact⟨xs,cv,lv,q.row.own,q.fil,λi hi=>by obtain⟨ys,a,b⟩:=q.code i hi;exact⟨ys,a.own,b⟩,λi hi=>by obtain⟨ys,a,b⟩:=q.look i hi;exact⟨ys,a.own,b⟩,q.apc,q.apl⟩
theorem Gr.bl{w:E}(h:Gr w B v R)(hb:Bw w w'):Gr w' B v R:=by
 obtain⟨xs,cv,lv,q⟩:=h;exact⟨xs,cv,lv,q.bl hb⟩
theorem Gr.base{w:E}(h:Gr w B v R)(hB:B'<=B):Gr w B' v R:=by
 obtain⟨xs,cv,lv,r⟩:=h;exact⟨xs,cv,lv,Al r.row hB,r.fil,λi hi=>by obtain⟨ys,a,b⟩:=r.code i hi;exact⟨ys,Al a hB,b⟩,λi hi=>by obtain⟨ys,a,b⟩:=r.look i hi;exact⟨ys,Al a hB,b⟩,r.apc,r.apl⟩
theorem Hb.bl{w:E}{tx:Z}(h:Hb w B tx qv T R)(hb:Bw w w'):Hb w' B tx qv T R:=⟨Ae h.txt hb,h.txa,h.rcs.bl hb⟩
theorem Hb.base{w:E}{tx:Z}(h:Hb w B tx qv T R)(hB:B'<=B):Hb w B' tx qv T R:=⟨Al h.txt hB,h.txa,h.rcs.base hB⟩
theorem Fl.start{w:E}{tx:Z}(hB:B<=h)(hk:w.heap[h]?=M (O #[sv,tv,I n,tx,qv,nS,nS,nS,nS,F false,I 0,ze,nS,I 0,nS,nS,nS,nS,ze,ze] 120 (0,0)))(hs:Hb w B tx qv T R):Fl B h sv tv n w [] ⟨T,R,[],[]⟩ [] ⟨tx,qv,nS,nS,nS,nS⟩:=
 ⟨hB,hk,hs.txt,hs.rcs,⟨[],World.ownsRow_nil _ _ _ _,λi hi=>Zk⟩,World.ownsRow_nil _ _ _ _,World.ownsRow_nil _ _ _ _,World.ownsRow_nil _ _ _ _,hs.txa,λb q=>⟨(λq=>qz),(λq=>qz),(λq=>qz)⟩,(λb q=>qz),(λb q=>qz)⟩
theorem Hy.bl{w:E}{is:L T3}(h:Hy w a is)(hb:Bw w w'):Hy w' a is:=λi hi=>by
 obtain⟨b,off,e,ca,cc,la,lc,B2,us,c1,c2,c3,r1,r0,r2,r3⟩:=h i hi;exact⟨b,off,e,ca,cc,la,lc,B2,us,Aa hb c1,Aa hb c2,Aa hb c3,r1.bl hb,r0,Ae r2 hb,r3⟩
theorem Fl.notB{w:E}{ms:Mm}{s:Sb}{st:L By}{v:Hv}(k:Fl B h sv tv n w ms s st v){T:X}(hb:w.heap[b]?=M (O cs T (0,0)))(h1:T≠120)(h2:T≠56)(h3:T≠140)(h4:T≠9):¬ Bs h v b:=by
 obtain⟨xs,m1,m2⟩:=k.made;obtain⟨ys,cv,lv,r⟩:=k.rcs;rintro(q|q|q|q|q|q)
 ·subst q
  have hk:=k.blk;rw[hb]at hk;injection hk with hk;injection hk with _ h5;exact h1 h5
 ·exact Ah r.row h2 hb q
 ·exact Ah m1 h3 hb q
 ·exact Ah k.stk h4 hb q
 ·exact Ah k.ran h4 hb q
 ·exact Ah k.held h4 hb q
theorem Iu{w:E}{u:Z}{l:L (X×X×Z)}(ho:w.ownsRow B e sz u n xs)(hh:∀x∈l,x.1=h)(hk:w.heap[h]?=M (O cs 120 (0,0)))(he:120≠e):(Ef w l).ownsRow B e sz u n xs:=Cc ho λb q=>Kg l w λx hx r=>Ah ho he hk (by rw[←hh x hx,←r];exact q)
theorem Hb.setL{w:E}{tx:Z}{l:L (X×X×Z)}(k:Hb w B tx qv T R)(hh:∀x∈l,x.1=h)(hk:w.heap[h]?=M (O cs 120 (0,0))):Hb (Ef w l) B tx qv T R:=by
 obtain⟨xs,cv,lv,r⟩:=k.rcs;exact⟨Iu k.txt hh hk qh,k.txa,xs,cv,lv,Iu r.row hh hk qh,r.fil,λi hi=>by obtain⟨ys,a,b⟩:=r.code i hi;exact⟨ys,Iu a hh hk qh,b⟩,λi hi=>by obtain⟨ys,a,b⟩:=r.look i hi;exact⟨ys,Iu a hh hk qh,b⟩,r.apc,r.apl⟩
theorem len9{pre:L Z}(h:pre.length=9):∃a0 a1 a2 a3 a4 a5 a6 a7 a8,pre=[a0,a1,a2,a3,a4,a5,a6,a7,a8]:=by
 match pre,h with
 | [a0,a1,a2,a3,a4,a5,a6,a7,a8],_=>exact⟨a0,a1,a2,a3,a4,a5,a6,a7,a8,rfl⟩
theorem Jd.shape{w:E}{b:He}{e:L Z}(h:Jd B w b e):∃x y cv A B',e=[x,y,cv,I 0,nS,nS,nS,nS,A,B']/\∀c,cv.ownBlock=M c->c<w.heap.size:=by
 cases b with
 | circle ch=>obtain⟨cv,k,rfl⟩:=h;exact⟨_,_,_,_,_,rfl,λc q=>(k.lt c q).2⟩
 | deep nm=>cases h;exact⟨_,_,_,_,_,rfl,λc q=>qz⟩
 | clash A B=>cases h;exact⟨_,_,_,_,_,rfl,λc q=>qz⟩
 | full=>cases h;exact⟨_,_,_,_,_,rfl,λc q=>qz⟩
theorem Jd.setL{w:E}{b:He}{e:L Z}{l:L (X×X×Z)}(k:Jd B w b e)(hh:∀x∈l,x.1=h)(hk:w.heap[h]?=M (O cs 120 (0,0))):Jd B (Ef w l) b e:=by
 cases b with
 | circle ch=>obtain⟨cv,a,b⟩:=k;exact⟨cv,Iu a hh hk qh,b⟩
 | deep nm=>exact k
 | clash A B=>exact k
 | full=>exact k
def WorkE(B h n:X)(ss:L S2)(ts:L T2)(T:L By)(R:L T3)(nm:By)(w':E):Prop:=
 ∃ms' s' a,Ca ss ts n [] ⟨T,R,[],[]⟩ [] (.make nm) ms' s' a/\∃pre e,pre.length=10/\w'.heap[h]?=M (O ((pre++e).toArray) 120 (0,0))/\
  ((∃d tx qv nv ev,a=.ok d/\e=[I d.c,S d.t,nS,I n,tx,qv,nv,ev,ze,ze]/\Hb w' B tx qv s'.T s'.R/\w'.ownsRow B 9 1 nv s'.ran.length (Ar s'.ran)/\w'.ownsRow B 9 1 ev s'.held.length (Ar s'.held)/\(∀b,tx.ownBlock=M b->nv.ownBlock≠M b/\ev.ownBlock≠M b)/\(∀b,nv.ownBlock=M b->ev.ownBlock≠M b))\/
   (∃b x y cv tx qv A B',a=.bad b/\Jd B w' b [x,y,cv,I 0,nS,nS,nS,nS,A,B']/\e=[x,y,cv,I n,tx,qv,nS,nS,A,B']/\Hb w' B tx qv T R/\(∀b,cv.ownBlock=M b->tx.ownBlock≠M b)))
theorem Zu(sa ta qa:Option Addr)(c1 c2 n:X)(xa:Option Addr)(tc qc:X)(ss:L S2)(ts:L T2)(T:L By)(R:L T3)(nm:By)(w:E)(pj:∀a,xa=M a→∃b off,a=⟨b,off,N⟩)(n9:xa=N→T=[]∧tc=0)(hE:EnvS w sa ta ss ts)(h1:1<=n)(h8:n<=8)(du:Cs w xa T)(hrp:Hy w qa R)(cm:Gu n T R)(iw:Ay nm)(O7:T.length<=1048576/\R.length<=2000/\∀i,i<R.length→1≤(qx R i).code.length∧(qx R i).code.length≤1048576∧(qx R i).looks.length≤1048576):Calls prog 73 #[G #[I n,J xa T.length tc,J qa R.length qc],G #[J sa ss.length c1,J ta ts.length c2],S nm] w λe w'=>Bw w w'/\∃h,w.heap.size<=h/\e=H (.pointer (p_ h))/\WorkE w.heap.size h n ss ts T R nm w':=by
 obtain⟨W,eW⟩:=Aj ((w.alloc (O #[I n,J xa T.length tc,J qa R.length qc] 26)).alloc (O #[J sa ss.length c1,J ta ts.length c2] 44));have HW:Hd (Bw w W):=by show Below _ _ _;rw[←eW];exact(aN _ _).alloc qi _
 obtain⟨Q,eQ⟩:=Aj w.heap.size;have HQ:Hd (W.heap[Q]?=M (O #[I n,J xa T.length tc,J qa R.length qc] 26 (0,0))):=qff
 have HP:Hd (W.heap[Q+1]?=M (O #[J sa ss.length c1,J ta ts.length c2] 44 (0,0))):=by
  show _=_;rw[←eW,←eQ];have:=Ma (w.alloc (O #[I n,J xa T.length tc,J qa R.length qc] 26)) (O #[J sa ss.length c1,J ta ts.length c2] 44)
  rwa [show(w.alloc (O #[I n,J xa T.length tc,J qa R.length qc] 26)).heap.size=w.heap.size+1 from qi]at this
 have HCPY:Hd (∀V:E,Bw w V->Calls prog 23 #[G #[I n,J xa T.length tc,J qa R.length qc]] V λe w'=>Bw V w'/\∃tx qv,e=H (G #[I n,tx,qv])/\Hb w' V.heap.size tx qv T R):=λV hV=>by
  refine(Gy n xa tc qa qc T R V pj n9 (du.bl hV) (hrp.bl hV) O7.1 (zo O7.2.1) (λi hi=>(O7.2.2 i hi).2)).mono ?_;rintro e w' ⟨a1,g1,p1,v2,rfl,a2,a3⟩;exact⟨a1,_,_,rfl,a2.own,⟨g1,p1,rfl⟩,a3.recO⟩
 have HE:=Ad hE;have im:=Ad cm;have vi:=Ad iw;clear hE cm iw du hrp O7;obtain⟨q0,q1,q2⟩:=Ab HQ.o;obtain⟨p0,p1⟩:=Bg HP.o;go_enter func73,ntmps73;go_wp2_with fail
 try rw[eQ]
 clear eW q0 q1 q2 p0 p1;refine Lt.begin 5 (λw'=>w'.heap[Q]?=M (O #[I n,J xa T.length tc,J qa R.length qc] 26 (0,0))/\w'.heap[Q+1]?=M (O #[J sa ss.length c1,J ta ts.length c2] 44 (0,0))) qk ?_;obtain⟨wD,eD⟩:=Aj W.drew;rw[eD];have ao:Bw W wD:=qq;clear eD;replace HQ:=Ad (Ac HQ.o ao);replace HP:=Ad (Ac HP.o ao);replace HW:=Ad (bt HW.o ao);have aw:(λw'=>w'.heap[Q]?=M (O #[I n,J xa T.length tc,J qa R.length qc] 26 (0,0))/\w'.heap[Q+1]?=M (O #[J sa ss.length c1,J ta ts.length c2] 44 (0,0))) wD:=⟨HQ.o,HP.o⟩;change K 0 _
 iterate 2
  refine Lt.ti (v:=?_) aw ?_ ?_;rotate_left 1
  ·exact qjw
  simp only[gX]
 refine Lt.sp (i:=2) (λK hK=>?_);go_simp;refine(HCPY.o _ HW.o).mono ?_;rintro e wC ⟨ur,tx,qv,rfl,nf⟩;have hDs:w.heap.size<=wD.heap.size:=HW.o.size;have B6:=Ad (nf.base hDs);replace HQ:=Ad (Ac HQ.o ur);replace HP:=Ad (Ac HP.o ur);replace HW:=Ad (bt HW.o ur);have bj:(λw'=>w'.heap[Q]?=M (O #[I n,J xa T.length tc,J qa R.length qc] 26 (0,0))/\w'.heap[Q+1]?=M (O #[J sa ss.length c1,J ta ts.length c2] 44 (0,0))) wC:=⟨HQ.o,HP.o⟩;refine hK.out _ _ (λ_=>bj) (λ_=>?_);clear hK K ur nf
 try simp only[gX]
 refine Lt.ti (i:=3) (v:=?_) bj ?_ ?_;rotate_left 1
 ·exact qjw
 simp only[gX];refine Lt.sp (i:=4) (λK hK=>?_);go_simp;refine Bm (Q:=λx=>K _ x) ?_;intro wH hbH HH
 try dsimp only
 obtain⟨h,eh⟩:=Aj wC.heap.size;rw[eh]at HH ⊢;replace B6:=Ad (B6.o.bl hbH);have hhw:w.heap.size<=h:=by rw[←eh];exact HW.o.size
 replace HQ:=Ad (Ac HQ.o hbH);replace HP:=Ad (Ac HP.o hbH);replace HW:=Ad (bt HW.o hbH);have cz:(λw'=>w'.heap[Q]?=M (O #[I n,J xa T.length tc,J qa R.length qc] 26 (0,0))/\w'.heap[Q+1]?=M (O #[J sa ss.length c1,J ta ts.length c2] 44 (0,0))) wH:=⟨HQ.o,HP.o⟩;refine hK.out _ _ (λ_=>cz) (λ_=>?_);clear hK K hbH
 try simp only[gX]
 refine Lt.sp (i:=5) (λK hK=>?_);go_simp;refine hK.out _ _ (λh=>absurd rfl h) (λ_=>?_);clear hK K;refine Lt.done qk ?_ _;have HS:=Ad (Fl.start hhw HH.o B6.o);go_wp2_with fail;refine(make5_all w h sa ta c1 c2 n ss ts HE.o h1 h8 60 [] rfl qi [] ⟨T,R,[],[]⟩ _ nm wH HW.o HS.o (Fj.nil ss ts) im.o vi.o qi (by unfold Mb;simp)).mono ?_;rintro e w5 ⟨ms',s',a,di,⟨d,v',rfl,rfl,cu,dx⟩|⟨b,nb,rfl,rfl,cu,nj⟩⟩
 ·have HBLD:=Ad di
  have HF:=Ad cu;have km:=Ad dx;clear di cu dx;have vq:=Ad (HW.o.trans HF.o.bel);obtain⟨dc,dt,dl⟩:=d;dsimp only
  go_upto_region 3 with fail
  obtain⟨RR,eRR⟩:=Aj w5.heap.size;obtain⟨w6,e6⟩:=Aj (w5.alloc (O #[I dc,S dt,nS] 134));have cj:Bw w5 w6:=qba;have ij:Hd (w6.heap[RR]?=M (O #[I dc,S dt,nS] 134 (0,0))):=qcd;rw[e6]
  try rw[eRR]
  clear e6;have jn:=Ad (km.o.bl cj);have F3:=Ad (vq.o.trans (cj.mono (vq.o.size)));have jn:=Ad (km.o.bl cj);clear cj km vq;have k9:=cK jn.o.blk 9
  go_upto_region 6 with fail
  clear k9;obtain⟨vtx,vqv,vmv,vkv,vnv,vev⟩:=v';obtain⟨xg,xp,e1⟩:∃g p,vtx=J (p_ g) s'.T.length p:=jn.o.txa;subst e1;(obtain⟨sd,I4,e2⟩:∃a cap,vqv=J a s'.R.length cap:=by obtain⟨ys,cv,lv,r⟩:=jn.o.rcs;exact Ax r.row);subst e2;obtain⟨na,nc,e3⟩:∃a cap,vnv=J a s'.ran.length cap:=Ax jn.o.ran;subst e3;obtain⟨ea,ec,e4⟩:∃a cap,vev=J a s'.held.length cap:=Ax jn.o.held;subst e4;refine Lt.begin 20 (λw'=>w'.heap[h]?=M (O #[J sa ss.length c1,J ta ts.length c2,I n,J (p_ xg) s'.T.length xp,J sd s'.R.length I4,vmv,vkv,J na s'.ran.length nc,J ea s'.held.length ec,F false,I 0,ze,nS,I 0,nS,nS,nS,nS,ze,ze] 120 (0,0))/\w'.heap[RR]?=M (O #[I dc,S dt,nS] 134 (0,0))) qk ?_;obtain⟨wE,eD⟩:=Aj w6.drew;rw[eD];have ao:Bw w6 wE:=qq;clear eD;replace jn:=Ad (jn.o.bl ao);replace ij:=Ad (Ac ij.o ao);replace F3:=Ad (F3.o.trans (Below.mono ao F3.o.size));have aw:(λw'=>w'.heap[h]?=M (O #[J sa ss.length c1,J ta ts.length c2,I n,J (p_ xg) s'.T.length xp,J sd s'.R.length I4,vmv,vkv,J na s'.ran.length nc,J ea s'.held.length ec,F false,I 0,ze,nS,I 0,nS,nS,nS,nS,ze,ze] 120 (0,0))/\w'.heap[RR]?=M (O #[I dc,S dt,nS] 134 (0,0))) wE:=⟨jn.o.blk,ij.o⟩;change K 0 _
  iterate 18
   refine Lt.ti (v:=?_) aw ?_ ?_;rotate_left 1
   ·exact qjk
   simp only[gX]
  refine Lt.sp (i:=18) (λK hK=>?_);go_simp;refine hK.out _ _ (λ_=>aw) (λ_=>?_);clear hK K 
  try simp only[gX]
  refine Lt.ti (i:=19) (v:=?_) aw ?_ ?_;rotate_left 1
  ·exact qjk
  simp only[gX];(have kc:∀j,10<=j->j<20->∃x,wE.cell? ⟨h,j,N⟩=M x:=λj h1 h2=>by rw[cH jn.o.blk];exact⟨_,Array.getElem?_eq_getElem qj⟩);have kf:=fZ jn.o.blk;obtain⟨x10,f10⟩:=kc 10 qg qg;obtain⟨x11,f11⟩:=kc 11 qg qg;obtain⟨x12,f12⟩:=kc 12 qg qg;obtain⟨x13,f13⟩:=kc 13 qg qg;obtain⟨x14,f14⟩:=kc 14 qg qg;obtain⟨x15,f15⟩:=kc 15 qg qg;obtain⟨x16,f16⟩:=kc 16 qg qg;obtain⟨x17,f17⟩:=kc 17 qg qg;obtain⟨x18,f18⟩:=kc 18 qg qg;obtain⟨x19,f19⟩:=kc 19 qg qg;refine Lt.sp (i:=20) (λK hK=>?_);go_simp;refine hK.out _ _ (λh=>absurd rfl h) (λ_=>?_);clear hK K;refine Lt.done qk ?_ _;obtain⟨l,el⟩:∃l:L (X×X×Z),l=[(h,10,I dc),(h,11,S dt),(h,12,nS),(h,13,I n),(h,14,J (p_ xg) s'.T.length xp),(h,15,J sd s'.R.length I4),(h,16,J na s'.ran.length nc),(h,17,J ea s'.held.length ec),(h,18,ze),(h,19,ze)]:=⟨_,rfl⟩;have jw:∀x∈l,x.1=h:=qbv;have jk:=Jg l wE _ jw jn.o.blk;have o8:Bw w (Ef wE l):=Ek l wE F3.o (λx hx=>by rw[jw x hx];exact hhw);have L0:Hd (Hb (Ef wE l) w.heap.size (J (p_ xg) s'.T.length xp) (J sd s'.R.length I4) s'.T s'.R):=Hb.setL ⟨jn.o.txt,jn.o.txa,jn.o.rcs⟩ jw jn.o.blk;have HVN:=Ad (Iu jn.o.ran jw jn.o.blk qh);have HVE:=Ad (Iu jn.o.held jw jn.o.blk qh);obtain⟨V,eV⟩:=Aj (Ef wE l);rw[eV]at jk o8 L0 HVN HVE;rw[el]at jk eV;simp only[Ef,List.foldl]at eV;rw[eV];simp only[List.foldl,List.setIfInBounds_toArray,List.set_cons_zero,List.set_cons_succ]at jk;have Q5:=Ad jk;have HBV:=Ad o8;clear jk o8 eV el jw kf kc f10 f11 f12 f13 f14 f15 f16 f17 f18 f19;go_wp2_with fail;go_ret;rw[←eQ];exact⟨HBV.o,h,hhw,rfl,_,_,_,HBLD.o,[J sa ss.length c1,J ta ts.length c2,I n,J (p_ xg) s'.T.length xp,J sd s'.R.length I4,vmv,vkv,J na s'.ran.length nc,J ea s'.held.length ec,F false],_,rfl,Q5.o,Or.inl ⟨⟨dc,dt,dl⟩,_,_,_,_,rfl,rfl,L0.o,HVN.o,HVE.o,λb q=>⟨(jn.o.tk b q).2.1,(jn.o.tk b q).2.2⟩,jn.o.ne⟩⟩
 have HBLD:=Ad di;have fk:=Ad cu;have HD:=Ad nj;clear di cu nj;have Q8:=Ad (fk.o.blk HQ.o (HS.o.notB HQ.o qh qh qh qh));have vq:=Ad (HW.o.trans fk.o.bel)
 go_upto_region 3 with fail
 obtain⟨RR,eRR⟩:=Aj w5.heap.size;obtain⟨w6,e6⟩:=Aj (w5.alloc (O #[I (Jm b),ze,nS] 134));have cj:Bw w5 w6:=qba;rw[e6]
 try rw[eRR]
 clear e6;have HD6:=Ad (HD.o.frx cj);have HQ6:=Ad (Ac Q8.o cj);have F3:=Ad (vq.o.trans (cj.mono (vq.o.size)));clear cj Q8 vq HD;obtain⟨k9,I6,hhl⟩:=HD6.o.cells;obtain⟨q0,q1,q2⟩:=Ab HQ6.o;go_wp2_with fail;clear k9 I6 q0 q1 q2;refine(HCPY.o w6 F3.o).mono ?_;rintro e w7 ⟨bv,tx2,qv2,rfl,nf⟩;obtain⟨g2,p2,e1⟩:=nf.txa;subst e1;obtain⟨sd,I4,e2⟩:∃a cap,qv2=J a R.length cap:=by obtain⟨ys,cv,lv,r⟩:=nf.rcs;exact Ax r.row
 subst e2;obtain⟨pre,ee,dy,T7,T8,_⟩:=HD6.o;obtain⟨a0,a1,a2,a3,a4,a5,a6,a7,a8,ep⟩:=len9 dy;obtain⟨x,y,cv,A,B',ee2,O9⟩:=T8.shape;subst ep;subst ee2;have D4:=Ac T7 bv;simp only[List.cons_append,List.nil_append]at D4 T7
 have HPE:Hd (Jd w.heap.size w7 b [x,y,cv,I 0,nS,nS,nS,nS,A,B']):=by
  have:=HD6.o.frx bv;clear this
  cases b with
  | circle ch=>obtain⟨cv,a,b⟩:=T8;exact⟨cv,Ae a bv,b⟩
  | deep nm=>exact T8
  | clash A B=>exact T8
  | full=>exact T8
 have HW7:=Ad (F3.o.trans (bv.mono F3.o.size));have HCL:=Ad O9;have HSM2:=Ad nf;have jo:=Ad D4;have hw6:w.heap.size<=w6.heap.size:=F3.o.size;clear T8 T7 dy nf bv O9 D4;obtain⟨l,el⟩:∃l:L (X×X×Z),l=[(h,13,I n),(h,14,J (p_ g2) T.length p2),(h,15,J sd R.length I4)]:=⟨_,rfl⟩;have jw:∀x∈l,x.1=h:=qbv;have jk:=Jg l w7 _ jw jo.o;have o8:Bw w (Ef w7 l):=Ek l w7 HW7.o (λx hx=>by rw[jw x hx];exact hhw);have L0:=Ad (HSM2.o.setL jw jo.o);have HVE:=Ad (HPE.o.setL jw jo.o);obtain⟨V,eV⟩:=Aj (Ef w7 l);rw[eV]at jk o8 L0 HVE;rw[el]at jk eV;simp only[Ef,List.foldl]at eV;simp only[List.foldl,List.setIfInBounds_toArray,List.set_cons_zero,List.set_cons_succ]at jk;have Q5:=Ad jk;have HBV:=Ad o8;clear jk o8 el jw;have k13:=cK jo.o 13;have k14:=cK jo.o 14;have k15:=cK jo.o 15;have kf:=fZ jo.o;go_wp2_with fail
 try rw[eV]
 go_ret;rw[←eQ];exact⟨HBV.o,h,hhw,rfl,_,_,_,HBLD.o,[a0,a1,a2,a3,a4,a5,a6,a7,a8,F true],_,rfl,Q5.o,Or.inr ⟨b,x,y,cv,_,_,A,B',rfl,HVE.o,rfl,L0.o.base hw6,λc q1 q2=>by have:=HCL.o c q1;have:=(HSM2.o.txt.lt c q2).1;omega⟩⟩
theorem Rl{w:E}(h:w.ownsRow B e sz v n xs):(v=nS/\n=0)\/∃g cap,v=J (p_ g) n cap:=by
 exact qkw
theorem Dm.bl{w:E}{lo:X}(h:Dm w lo hi v ss)(hb:Bw w w'):Dm w' lo hi v ss:=by
 obtain⟨xs,h1,h2⟩:=h;exact⟨xs,h1.bl hb,h2⟩
theorem Dm.nil(w:E)(lo hi:X):Dm w lo hi nS []:=⟨[],Ck.nil _ _ _ _ _,λi hi=>Zk⟩
theorem Mi.bl{w:E}{lo:X}{cv:X->Z}(h:Mi w lo hi v ts xs cv)(hb:Bw w w'):Mi w' lo hi v ts xs cv:=
 ⟨h.row.bl hb,h.fil,λi hi=>by obtain⟨ys,h1,h2⟩:=h.code i hi;exact⟨ys,h1.bl hb,h2⟩,h.apart⟩
theorem Ec.bl{w:E}{lo:X}(h:Ec w lo hi v ts)(hb:Bw w w'):Ec w' lo hi v ts:=by
 obtain⟨xs,cv,h⟩:=h;exact⟨xs,cv,h.bl hb⟩
theorem Ec.nil(w:E)(lo hi:X):Ec w lo hi nS []:=⟨[],λ_=>nS,Ck.nil _ _ _ _ _,λi hi=>Zk,λi hi=>Zk,λi j _ hj=>by simp at hj⟩
theorem Qay{w:E}{lo:X}{ys:L Z}(h:Ck w lo hi 103 3 v n ys):∃va vc,v=J va n vc:=by
 rcases Rl h.own with⟨hv,rfl⟩|⟨g',c',hv⟩
 ·exact⟨_,_,hv⟩
 ·exact⟨_,_,hv⟩
theorem Jq.rowC{w:E}(h:Jq w a ts)(hk:∀i,i<ts.length->1<=(tx ts i).code.length/\(tx ts i).code.length<=1048576):RowC w a ts:=λi hi=>by
 obtain⟨b,off,ha,h1,a',ai,h2,h3⟩:=h i hi
 exact⟨b,off,ha,h1,a',ai,h2,λW hW=>Jo a' ai _ W (h3.bl hW) (hk i hi).1 (hk i hi).2⟩
theorem Hg(sa ta:Option Addr)(c1 c2:X)(ss:L S2)(ts:L T2)(t:By)(w:E)(rs:Hz w sa ss)(rt:Jq w ta ts)(h1:ss.length<=200)(h2:ts.length<=200)(hkt:∀i,i<ts.length->1<=(tx ts i).code.length/\(tx ts i).code.length<=1048576):Calls prog 89 #[G #[J sa ss.length c1,J ta ts.length c2],S t] w λe w'=>Bw w w'/\∃v1 v2,e=H (G #[v1,v2])/\Dm w' w.heap.size w'.heap.size v1 (Bl t ss)/\Ec w' w.heap.size w'.heap.size v2 (Bj t ts):=
 Sz sa ta c1 c2 ss ts t w rs (rt.rowC hkt) qg qg
structure Sp (ss:L S2) (ts:L T2):Prop where
 len:ss.length+ts.length<=200
 a1:Fg (Av ss)
 a2:Fg (Au ts)
 act:Sq ts
theorem Vs(h:Gp ss ts=0):Sp ss ts:=by
 by_cases g1:200<ss.length+ts.length
 ·rw[chk1 g1]at h;exact absurd h qh
 by_cases g2:Ib (Av ss)/\Ib (Au ts)
 ·by_cases g3:Fg (Av ss)
  ·by_cases g4:Fg (Au ts)
   ·by_cases g5:Qb (Av ss) (Au ts)
    ·rw[chk5 g1 g2 g3 g4 g5]at h;exact absurd h qh
    ·by_cases g6:Kr ss
     ·by_cases g7:Sq ts
      ·exact⟨qg,g3,g4,g7⟩
      ·rw[chk7 g1 g2 g3 g4 g5 g6 g7]at h;exact absurd h qh
     ·rw[chk6 g1 g2 g3 g4 g5 g6]at h;exact absurd h qh
   ·rw[chk4 g1 g2 g3 g4]at h;exact absurd h qh
  ·rw[chk3 g1 g2 g3]at h;exact absurd h qh
 ·rw[chk2 g1 g2]at h;exact absurd h qh
theorem Sp.codes(h:Sp ss ts):∀i,i<ts.length->1<=(tx ts i).code.length/\(tx ts i).code.length<=1048576:=by
 intro i hi
 have h1:=h.act i hi
 unfold Aq at h1
 simp only[Bool.and_eq_true,decide_eq_true_eq]at h1
 exact⟨h1.1.1,qg⟩
structure AtR (l:L By) (t:By) (r:X):Prop where
 le:r<=l.length
 lo:∀j,j<r->Aw (nx l j) t=true
 hi:∀j,r<=j->j<l.length->Aw (nx l j) t=false
theorem AtR.uniq{t:By}{s:X}(h:AtR l t r)(k:AtR l t s):r=s:=by
 rcases Nat.lt_trichotomy r s with e|e|e
 ·have h1:=h.hi r (Nat.le_refl _) (zo k.le);rw[k.lo r e]at h1;cases h1
 ·exact e
 ·have h1:=k.hi s (Nat.le_refl _) (zo h.le);rw[h.lo s e]at h1;cases h1
theorem Ko(ha:Fg l)(t:By):∃r,AtR l t r:=by
 have:∀k,k<=l.length->∃r,r<=k/\(∀j,j<r->Aw (nx l j) t=true)/\(∀j,r<=j->j<k->Aw (nx l j) t=false):=by
  intro k
  induction k with
  | zero=>intro _;exact⟨0,Nat.le_refl _,λj hj=>qg,λj _ hj=>qg⟩
  | succ k ih=>
   intro hk;obtain⟨r,h1,h2,h3⟩:=ih qg
   by_cases hr:r=k
   ·subst hr
    rcases hv:Aw (nx l r) t with _|_
    ·exact⟨r,qg,h2,λj g1 g2=>by obtain rfl:j=r:=qg;exact hv⟩
    ·refine⟨r+1,qg,λj hj=>?_,λj g1 g2=>qg⟩
     rcases Nat.lt_or_ge j r with h|h
     ·exact h2 j h
     ·obtain rfl:j=r:=qg;exact hv
   ·refine⟨r,qg,h2,λj g1 g2=>?_⟩;exact Vn ha (h3 r (Nat.le_refl _) qg) j g1 qg
 obtain⟨r,h1,h2,h3⟩:=this l.length (Nat.le_refl _)
 exact⟨r,h1,h2,h3⟩
open Classical in
noncomputable def Ic (l:L By) (t:By):X:=if h:∃r,AtR l t r then Classical.choose h else 0
theorem Ws{t:By}(h:AtR l t r):Ic l t=r:=by
 unfold Ic
 rw[dif_pos ⟨r,h⟩]
 exact(Classical.choose_spec (⟨r,h⟩:∃r,AtR l t r)).uniq h
theorem Vt(h:Fg l):l.Pairwise (λa b=>Aw a b=true):=by
 rw[List.pairwise_iff_getElem]
 intro i j hi hj l7
 have:=h.pair l7 hj
 simpa [nx,gG,gQ hi,gQ hj] using this
theorem Va(h:l.Pairwise (λa b=>Aw a b=true)):Fg l:=by
 rw[List.pairwise_iff_getElem]at h
 intro i h1 h2
 have:=h (i-1) i qg h2 qg
 simpa [nx,gG,gQ h2,gQ (show i-1<l.length from qg)] using this
theorem ascS(t:By)(h:Fg (Av ss)):Fg (Av (Bl t ss)):=by
 exact qlm
theorem ascT(t:By)(h:Fg (Au ts)):Fg (Au (Bj t ts)):=by
 exact qlm
theorem fltS_ne(t:By)(ss:L S2)(hi:i<(Bl t ss).length):(sx (Bl t ss) i).name≠t:=by
 rw[Ol hi]
 have:=(List.mem_filter.mp (List.getElem_mem hi)).2
 simpa using this
theorem fltT_ne(t:By)(ss:L T2)(hi:i<(Bj t ss).length):(tx (Bj t ss) i).name≠t:=by
 rw[Mk hi]
 have:=(List.mem_filter.mp (List.getElem_mem hi)).2
 simpa using this
theorem Dm.ofV{w:E}{lo:X}(h:Ck w lo hi 110 2 v ss.length (Eb ss)):Dm w lo hi v ss:=⟨_,h,Pn ss⟩
def Ll(l:L S2)(s:S2)(r:X):L S2:=l.take r++[s]++l.drop r
theorem Xm(l:L S2)(s:S2)(r:X)(h:r<=l.length):(Ll l s r).length=l.length+1:=by simp[Ll];omega
open Classical in
noncomputable def Cq (ss:L S2) (ts:L T2) (t:By) (ok:Bool):Int:=if Gp ss ts≠0 then 1 else if ¬ (Ay t/\ok=true) then 2 else if 200<=(Bl t ss).length+(Bj t ts).length then 3 else 0
theorem Zj{t:By}{ok:Bool}(h:Gp ss ts≠0):Cq ss ts t ok=1:=by unfold Cq;rw[if_pos h]
theorem Rh{t:By}{ok:Bool}(h:Gp ss ts=0)(h2:¬ (Ay t/\ok=true)):Cq ss ts t ok=2:=by unfold Cq;rw[if_neg (λk=>k h),if_pos h2]
theorem Zi{t:By}{ok:Bool}(h:Gp ss ts=0)(h2:Ay t/\ok=true)(h3:200<=(Bl t ss).length+(Bj t ts).length):Cq ss ts t ok=3:=by unfold Cq;rw[if_neg (λk=>k h),if_neg (λk=>k h2),if_pos h3]
theorem roomC0{t:By}{ok:Bool}(h:Gp ss ts=0)(h2:Ay t/\ok=true)(h3:¬ 200<=(Bl t ss).length+(Bj t ts).length):Cq ss ts t ok=0:=by unfold Cq;rw[if_neg (λk=>k h),if_neg (λk=>k h2),if_neg h3]
theorem Rg{t:By}{ok:Bool}(h:Cq ss ts t ok=0):Sp ss ts/\ok=true/\(Bl t ss).length+(Bj t ts).length<200:=by
 by_cases g:Gp ss ts=0
 ·by_cases g2:Ay t/\ok=true
  ·by_cases g3:200<=(Bl t ss).length+(Bj t ts).length
   ·rw[Zi g g2 g3]at h;exact absurd h qh
   ·exact⟨Vs g,g2.2,qg⟩
  ·rw[Rh g g2]at h;exact absurd h qh
 ·rw[Zj g]at h;exact absurd h qh
open Classical in
noncomputable def psS (ss:L S2) (ts:L T2) (t x:By) (ok:Bool):L S2:=if Cq ss ts t ok=0 then Ll (Bl t ss) ⟨t,x⟩ (Ic (Av (Bl t ss)) t) else []
open Classical in
noncomputable def psT (ss:L S2) (ts:L T2) (t:By) (ok:Bool):L T2:=if Cq ss ts t ok=0 then Bj t ts else []
theorem ps_no{t:By}{ok:Bool}(h:Cq ss ts t ok≠0):psS ss ts t x ok=[]/\psT ss ts t ok=[]:=by unfold psS psT;rw[if_neg h,if_neg h];exact⟨rfl,rfl⟩
theorem Zp{t:By}{ok:Bool}(h:Cq ss ts t ok=0)(hr:AtR (Av (Bl t ss)) t r):psS ss ts t x ok=Ll (Bl t ss) ⟨t,x⟩ r/\psT ss ts t ok=Bj t ts:=by unfold psS psT;rw[if_pos h,if_pos h,Ws hr];exact⟨rfl,rfl⟩
def Ug(lo:X)(w:E)(e:Ending)(ss:L S2)(ts:L T2)(t x:By)(ok:Bool):Prop:=∃v1 v2,e=H (.tuple #[G #[v1,v2],I (Cq ss ts t ok)])/\Dm w lo w.heap.size v1 (psS ss ts t x ok)/\Ec w lo w.heap.size v2 (psT ss ts t ok)
theorem Ug.no{lo:X}{w:E}{c:Int}{t:By}{ok:Bool}(h:Cq ss ts t ok=c)(h0:c≠0):Ug lo w (H (.tuple #[G #[nS,nS],I c])) ss ts t x ok:=by
 have h1:Cq ss ts t ok≠0:=by rw[h];exact h0
 refine⟨_,_,by rw[h],?_,?_⟩
 ·rw[(ps_no (x:=x) h1).1];exact Dm.nil _ _ _
 ·rw[(ps_no (x:=x) h1).2];exact Ec.nil _ _ _
theorem Dm.setT{w:E}{lo:X}(ho:Dm w lo hi v ss)(h:Ai w b 44)(u:Z):Dm (w.setCell ⟨b,j,N⟩ u) lo hi v ss:=by
 obtain⟨xs,k1,k2⟩:=ho
 exact⟨xs,⟨Ak k1.own h qh u,k1.top⟩,k2⟩
theorem Ec.setT{w:E}{lo:X}(ho:Ec w lo hi v ts)(h:Ai w b 44)(u:Z):Ec (w.setCell ⟨b,j,N⟩ u) lo hi v ts:=by
 obtain⟨xs,cv,k⟩:=ho
 exact⟨xs,cv,⟨Ak k.row.own h qh u,k.row.top⟩,k.fil,λi hi=>by
  obtain⟨ys,k1,k2⟩:=k.code i hi;exact⟨ys,⟨Ak k1.own h qh u,k1.top⟩,k2⟩,k.apart⟩
end Go.Proofs.YtoihflimijabjaaGreatDoor
