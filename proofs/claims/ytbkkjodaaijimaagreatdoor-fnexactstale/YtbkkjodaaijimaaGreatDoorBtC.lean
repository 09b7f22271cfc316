import Derived.Test.YtbkkjodaaijimaaGreatDoorBtA
import Derived.Test.YtbkkjodaaijimaaGreatDoorBtB
import Derived.Test.YtbkkjodaaijimaaGreatDoorBuL
namespace Go.Proofs.YtbkkjodaaijimaaGreatDoor
open Value renaming slice->J,string->S,agg->G
open Option renaming some->M,none->N
open Obj renaming cells->O
open _root_ renaming List->L,Nat->X
set_option maxHeartbeats 8000000
set_option maxRecDepth 100000
open _root_.Go.Proofs.Tryz Go.RowKit Go.Deep
set_option linter.unusedVariables false
set_option linter.unusedSimpArgs false
theorem Tryz.info9y:(prog.info? 9).map (λi=>(i.zero,i.size,i.bytes))=M (M ze,1,16):=qi
theorem Tt(W0:World)(h:X)(sa ta:Option Addr)(c1 c2 n:X)(ss:L S2)(ts:L T2)(hE:Hn W0 sa ta ss ts)(h1:1<=n)(h8:n<=8)(st:L By)(de:st.length<=60)(IH:st.length<60->∀nm,Nw W0 h (J sa ss.length c1) (J ta ts.length c2) n ss ts (st++[nm])):Nw W0 h (J sa ss.length c1) (J ta ts.length c2) n ss ts st:=by
 intro ms s v nm w hb hs hi ft cm T9 J4;obtain⟨W,eW⟩:=Aj (w.alloc (O #[I 0,ze,nS] 120));have HW:Hd (Bw w W):=by show Below _ _ _;rw[←eW];exact aN _ _
 obtain⟨Q,eQ⟩:=Aj w.heap.size;have HQ:=Ac (nW eW eQ);have HN:Hd (∀b,Q<=b->¬ Bz h v b):=λb hb=>hs.not qb;have fy:W0.heap.size<=w.heap.size:=hb.size;have HF:Hd (Cw W0.heap.size (Bz h v) (Bz h v) w W):=Cw.of_below HW.o fy;have bj:W0.heap.size<=W.heap.size:=Nat.le_trans fy HW.o.size;have hBQ:W0.heap.size<=Q:=qb;have hQW:w.heap.size<=Q:=qb;have HS:=Ac (hs.bl HW.o);have HB:=Ac (hb.trans (HW.o.mono fy));have HI:=Ac hi;have HK:=Ac ft;have HE:=Ac hE;have HIH:=Ac IH;have ox:=Ac cm;have HPH:=Ac T9;have HCN:=Ac J4;have HHB:=Ac hs.hB;have htl:Db ts ms st<=200:=Nat.le_trans (Mq ts ms st) hE.l2;have pn:ms.length<=80040000:=qb;have zj:s.ran.length+s.held.length+st.length<=200:=Nat.le_trans J4 htl;obtain⟨m,em⟩:=Aj ms.length;have EM:=Ac em;obtain⟨ma,mc,hmv⟩:∃a cap,v.mv=J a ms.length cap:=by obtain⟨xs,m1,m2⟩:=hs.made;exact Ay m1
 have EMV:=Ac hmv;have k5:W.cell? ⟨h,5,N⟩=M (J ma m mc):=by rw[cH HS.o.blk,←em,←hmv];rfl
 rw[em]at pn;clear hs hb hi ft IH cm T9 J4 em hmv hE HW;go_enter func63,ntmps63;go_wp2_with fail
 try rw[eQ]
 clear eW
 go_loopw [5] (λi wr=>∃k:X,k<=m/\i=I k/\wr=W/\Hd (∀j,j<k->(mm ms j).1≠nm)) (λi _=>m-(intOf i).toNat)
 case atStart=>exact⟨0,Nat.zero_le _,rfl,rfl,(λj hj=>by omega:∀j,j<0->(mm ms j).1≠nm)⟩
 case round=>
  obtain⟨k,hk,rfl,hwr,im⟩:=hrel;subst hwr
  by_cases aj:k<m
  ·have io:(k:Int)<(m:Int):=qb
   have iy:(0:Int)<=(k:Int):=qb;obtain⟨xs,m1,m2⟩:=HS.o.made;rw[EMV.o]at m1;obtain⟨f1,f2,f3,f4,r,f5⟩:=m2 k qbz;obtain⟨b,rfl,g1⟩:=Cy m1 f1;obtain⟨b',qe,g2⟩:=Cy m1 f2;cases qe;obtain⟨b',qe,g3⟩:=Cy m1 f3;cases qe;obtain⟨b',qe,g4⟩:=Cy m1 f4;cases qe;clear m1 m2 f1 f2 f3 f4 f5 EMV;obtain⟨d,ed⟩:=Aj (mm ms k);rw[ed]at g1 g2 g3;obtain⟨x,d⟩:=d;dsimp only at g1 g2 g3;obtain⟨dc,edc⟩:=Aj d.c;obtain⟨dt,edt⟩:=Aj d.t;rw[edc]at g2;rw[edt]at g3;have ED:=Ac (And.intro ed (And.intro edc edt));clear ed edc edt
   by_cases hq:x=nm
   ·have dq:=Dg hq
    (have HFD:Hd (fd ms nm=M d):=by have:=fd_at (ms:=ms) (i:=k) (nm:=nm) qbz (by rw[ED.o.1];exact hq) im.o;rw[ED.o.1]at this;exact this);obtain⟨z0,z1,z2,zf⟩:=Dw HQ.o;go_wp2_with fail;obtain⟨y0,y1,y2,_⟩:=Dw (Bn HQ.o (I dc) (S dt) nS);exact bR (v:=G #[I dc,S dt,nS]) qap rfl ⟨ms,s,.ok d,.known HFD.o,Or.inl ⟨d,v,rfl,(by rw[ED.o.2.1,ED.o.2.2]),HF.o.set3 qb qb _ _ _,HS.o.set3 ⟨_,HQ.o⟩ qd _ _ _⟩⟩
   ·have dq:=Gy hq
    have od:Hd (∀j,j<k+1->(mm ms j).1≠nm):=λj hj=>by
     rcases Nat.lt_or_ge j k with q|q
     ·exact im.o j q
     ·obtain rfl:j=k:=qb
      rw[ED.o.1];exact hq
    exact qki
  ·have io:¬ (k:Int)<(m:Int):=qb
   have HFD:Hd (fd ms nm=N):=fd_no (λj hj=>im.o j (by rw[EM.o]at hj;omega));clear im EMV;obtain⟨k0,k1⟩:=ck2 HS.o.blk;go_wp2_with fail;clear k5 k0 k1;refine(Rd sa ta ts.length c1 c2 ss nm wr (HE.o.rs.bl HB.o) (zo HE.o.l1)).mono ?_;rintro e w1 ⟨af,hsr⟩;replace HS:=Ac (HS.o.bl af);replace HQ:=Ac (Af HQ.o af);replace HF:=Ac (HF.o.trans (Cw.of_below af bj));replace HB:=Ac (HB.o.trans (Below.mono af bj));replace bj:W0.heap.size<=w1.heap.size:=Nat.le_trans bj af.size;clear af;have HNQ:Hd (¬ Bz h v Q):=HN.o Q (Nat.le_refl _)
   rcases hsr with⟨i,rfl,zq,l7⟩|⟨rfl,hns⟩
   ·have ye:(0:Int)<=(i:Int):=qb
    have HNH:Hd (¬ Ed st nm):=λq=>HE.o.v.dis nm (by rw[←l7];exact Hf zq) (HI.o.tgt _ q);obtain⟨bs,os,rfl,s1,s2⟩:=(HE.o.rs.bl HB.o) i zq;have k0:=cK HS.o.blk 0;have hiI:(i:Int)<(ss.length:Int):=qb;have jw:Hd (Bc ss ts n ms s st (.make nm) (ms++[(nm,⟨0,(sx ss i).text,[]⟩)]) s (.ok ⟨0,(sx ss i).text,[]⟩)):=.source HFD.o HNH.o zq l7;obtain⟨t,et⟩:=Aj ((sx ss i).text);rw[et]at s2 jw;clear et s1 HE HIH;go_wp2_with fail;clear k0 s2;refine(Pn W0.heap.size h n _ _ ms s st v nm ⟨0,t,[]⟩ (-1) w1 HS.o bj qca).mono ?_;rintro e w2 ⟨rfl,v2,bx,cw⟩;have D8:=Ac (bx.blk HQ.o (HNQ.o));have fl:=Ac (HF.o.trans bx);have cr:=Ac cw;clear bx cw;obtain⟨z0,z1,z2,zf⟩:=Dw D8.o;go_wp2_with fail;obtain⟨y0,y1,y2,_⟩:=Dw (Bn D8.o (I 0) (S t) nS);exact bR (v:=G #[I 0,S t,nS]) qap rfl ⟨_,_,_,jw.o,Or.inl ⟨⟨0,t,[]⟩,v2,rfl,rfl,fl.o.set3 hQW hBQ _ _ _,cr.o.set3 ⟨_,D8.o⟩ qd _ _ _⟩⟩
   obtain⟨k0,k1⟩:=ck2 HS.o.blk;have HNS:=Ac hns;clear hns;go_wp2_with fail;clear k0 k1;refine(Rc sa ta ss.length c1 c2 ts nm w1 (HE.o.rt.bl HB.o) (zo HE.o.l2)).mono ?_;rintro e w3 ⟨ba,hsr⟩;replace HS:=Ac (HS.o.bl ba);replace HQ:=Ac (Af HQ.o ba);replace HF:=Ac (HF.o.trans (Cw.of_below ba bj));replace HB:=Ac (HB.o.trans (Below.mono ba bj));replace bj:W0.heap.size<=w3.heap.size:=Nat.le_trans bj ba.size;clear ba
   rcases hsr with⟨i,rfl,zq,l7⟩|⟨rfl,hnt⟩
   rotate_left 1
   ·have HNH:Hd (¬ Ed st nm):=λq=>hnt (HI.o.tgt _ q)
    have jw:Hd (Bc ss ts n ms s st (.make nm) (ms++[(nm,⟨4,nm,[]⟩)]) s (.ok ⟨4,nm,[]⟩)):=.missing HFD.o HNH.o (λq=>by rcases q with q|q;exact HNS.o q;exact hnt q);clear hnt HE HIH;go_wp2_with fail;refine(Pn W0.heap.size h n _ _ ms s st v nm ⟨4,nm,[]⟩ (-1) w3 HS.o bj qca).mono ?_;rintro e w2 ⟨rfl,v2,bx,cw⟩;have D8:=Ac (bx.blk HQ.o (HNQ.o));have fl:=Ac (HF.o.trans bx);have cr:=Ac cw;clear bx cw;obtain⟨z0,z1,z2,zf⟩:=Dw D8.o;go_wp2_with fail;obtain⟨y0,y1,y2,_⟩:=Dw (Bn D8.o (I 4) (S nm) nS);exact bR (v:=G #[I 4,S nm,nS]) qap rfl ⟨_,_,_,jw.o,Or.inl ⟨⟨4,nm,[]⟩,v2,rfl,rfl,fl.o.set3 hQW hBQ _ _ _,cr.o.set3 ⟨_,D8.o⟩ qd _ _ _⟩⟩
   have HIL:=Ac zq;have pj:=Ac l7;clear zq l7;obtain⟨p,ep⟩:=Aj st.length;have EP:=Ac ep;obtain⟨ka,kc,C6⟩:=Ay HS.o.stk;rw[ep]at C6;have EKV:=Ac C6;(have k6:w3.cell? ⟨h,6,N⟩=M (J ka p kc):=by rw[cH HS.o.blk,←C6];rfl);have hp60:p<=60:=qb;clear C6 ep;have ye:¬ (i:Int)<0:=qb;go_wp2_with fail
   go_loopw [8] (λi wr=>∃k:X,k<=p/\i=I k/\wr=w3/\Hd (∀j,j<k->nx st j≠nm)) (λi _=>p-(intOf i).toNat)
   case atStart=>exact⟨0,Nat.zero_le _,rfl,rfl,(λj hj=>by omega:∀j,j<0->nx st j≠nm)⟩
   case round=>
    obtain⟨k,hk,rfl,hwr,im⟩:=hrel;subst hwr;have fg:=HS.o.stk;rw[EKV.o,EP.o]at fg;have HROW:=Ac fg;clear fg
    by_cases aj:k<p
    ·have io:(k:Int)<(p:Int):=qb
     have iy:(0:Int)<=(k:Int):=qb;obtain⟨b,rfl,g1⟩:=Cy HROW.o (Sw (by rw[EP.o];exact aj));obtain⟨x,ex⟩:=Aj (nx st k);rw[ex]at g1
     by_cases hq:x=nm
     ·have dq:=Dg hq
      have jw:Hd (Bc ss ts n ms s st (.make nm) ms s (.bad (.circle (st.drop k)))):=.circle HFD.o (by rw[EP.o];exact aj) (by rw[ex,hq]) im.o;obtain⟨AL,eL0⟩:=Aj wr.heap.size;obtain⟨wL,eL⟩:=Aj (wr.alloc (O #[] 9));have fb:=aB eL
      have tz:Hd (wL.ownsRow AL 9 1 (J (p_ AL) 0 0) 0 []):=by
       show World.ownsRow _ _ _ _ _ _ _;rw[←eL,←eL0];exact World.ownsRow_lit wr #[] 0 (Nat.le_refl _) qm rfl
      have O3:Hd (∀j u,((Aq st).drop k)[j]?=M u->wL.cell? ((⟨b,k,N⟩:Addr).add j)=M u):=λj u q=>by
       rw[List.getElem?_drop]at q;obtain⟨b2,q2,g2⟩:=Cy HROW.o q;cases q2;have g3:=Aa fb g2;rw[show(⟨b,k,N⟩:Addr).add j=⟨b,k+j,N⟩ from by unfold Addr.add;split;(rename_i q;rw[q];rfl);rfl];exact g3
      (have zu:((Aq st).drop k).length=(p-k)*1:=by rw[List.length_drop];unfold Aq;rw[List.length_map,EP.o,Nat.mul_one]);have k6L:=Aa fb k6;have HDL:=Ac zu;have jl:=Ac fb;clear zu fb;(have hkc:p<=kc:=by rcases HROW.o.2 with⟨q,_⟩|⟨g,c,cur,q,_,_,q2,_⟩;cases q;cases q;exact q2);have hLw:AL<=wL.heap.size:=zo jl.o.size;obtain⟨i0,Q3,bq,bg,bv⟩:=info_parts Tryz.info9y;have EL0:=Ac eL0;have HEX:=Ac ex;clear ex HIL pj HIH HE
      go_wp2_with (first|(at_builtin;refine wpList_append_own_at _ rfl (.tmp 91) (.tmp 97) 22 rfl AL 9 i0 ze 1 16 underlying22 Q3 bq bg bv rfl qd _ 0 [] rfl tz.o ⟨b,k,N⟩ (p-k) (kc-k) ((Aq st).drop k) rfl HDL.o O3.o (λu hu=>by obtain⟨z,_,rfl⟩:=List.mem_map.mp (List.mem_of_mem_drop hu);rfl) qm qb hLw ?_;intro v' wA ah ae cu pw;clear cu pw;rw[Nat.zero_add]at ah;obtain⟨ca,cc,ecv⟩:=Ay ah;subst ecv))
      have bu:Bw wr wA:=jl.o.grown ae qb (λj q=>by cases q;exact Nat.le_of_eq EL0.o);have D2:=Ac (HS.o.bl bu);have vk:=Ac ah;have HBA:=Ac bu;clear ah ae bu tz O3 HDL
      have hch:wA.ownsRow W0.heap.size 9 1 (J ca (p-k) cc) (st.drop k).length (Aq (st.drop k)):=by
       (have h2:(st.drop k).length=p-k:=by rw[List.length_drop,EP.o]);rw[h2,show Aq (st.drop k)=[]++(Aq st).drop k from by simp[Aq,List.map_drop]];exact Ah vk.o (zo EL0.o)
      have HCH:Hd (∀w5:World,(∀b,b<wA.heap.size->b≠h->w5.heap[b]?=wA.heap[b]?)->w5.ownsRow W0.heap.size 9 1 (J ca (p-k) cc) (st.drop k).length (Aq (st.drop k))):=λw5 jb=>Al hch (λb2 q=>jb b2 (hch.lt b2 q).2 (λq2=>by have:=(vk.o.lt b2 q).1;have:=Ag HS.o.blk;have:=EL0.o;omega));clear hch;refine(Mu h _ _ _ _ _ _ _ _ _ _ _ _ _ _ _ _ _ _ _ 6 ⟨#[]⟩ ⟨#[]⟩ ⟨#[]⟩ ca _ cc wA D2.o.blk).mono ?_;rintro e w5 ⟨rfl,cj,jb,aw⟩;have HFF:=Ac (HS.o.fall HBA.o bj cj jb);have HD:Hd (Fx W0.heap.size h st.length v.nv w5 (.circle (st.drop k))):=D2.o.dead jb [I 6,ze,J ca (p-k) cc,I 0,nS,nS,nS,nS,ze,ze] aw ⟨J ca (p-k) cc,HCH.o w5 jb,rfl⟩ (λu b2 q1 q2 q3=>by cases q1;have:=(vk.o.lt b2 q2).1;have:=(HS.o.ran.lt b2 q3).2;have:=EL0.o;omega) qb;have HQ5:=Ac (HFF.o.blk HQ.o HNQ.o);have HF5:=Ac (HF.o.trans HFF.o);clear cj jb aw HFF;obtain⟨z0,z1,z2,zf⟩:=Dw HQ5.o;go_wp2_with fail;obtain⟨y0,y1,y2,_⟩:=Dw (Bn HQ5.o (I 6) ze nS);exact bR (v:=G #[I 6,ze,nS]) qap rfl ⟨_,_,_,jw.o,Or.inr ⟨_,v.nv,rfl,rfl,HF5.o.set3 hQW hBQ _ _ _,HD.o.set3 ⟨_,HQ5.o⟩ qd qd _ _ _⟩⟩
     ·have dq:=Gy hq
      have od:Hd (∀j,j<k+1->nx st j≠nm):=λj hj=>by
       rcases Nat.lt_or_ge j k with q|q
       ·exact im.o j q
       ·obtain rfl:j=k:=qb
        rw[ex];exact hq
      clear ex;exact qki
    have io:¬ (k:Int)<(p:Int):=qb;have HNH:Hd (¬ Ed st nm):=λ⟨j,hj,q⟩=>im.o j (by rw[EP.o]at hj;omega) q;(have A6:Hd (Ed (Ak ts) nm):=by have:=Il HIL.o;rw[pj.o]at this;exact this);clear im aj
    by_cases jg:60<=p
    ·have d60:decide ((60:Int)<=(p:Int))=true:=qh
     have jw:Hd (Bc ss ts n ms s st (.make nm) ms s (.bad (.deep nm))):=.deep HFD.o HNH.o HNS.o A6.o (by rw[EP.o];exact jg);clear HE HIH HIL pj;go_wp2_with fail;refine(Mu h _ _ _ _ _ _ _ _ _ _ _ _ _ _ _ _ _ _ _ 7 nm ⟨#[]⟩ ⟨#[]⟩ N 0 0 wr HS.o.blk).mono ?_;rintro e w5 ⟨rfl,cj,jb,aw⟩;have HFF:=Ac (HS.o.fall (Below.refl _ _) bj cj jb);have HD:Hd (Fx W0.heap.size h st.length v.nv w5 (.deep nm)):=HS.o.dead jb [I 7,S nm,nS,I 0,nS,nS,nS,nS,ze,ze] aw rfl (noOwn rfl _) qb;have HQ5:=Ac (HFF.o.blk HQ.o HNQ.o);have HF5:=Ac (HF.o.trans HFF.o);clear cj jb aw HFF;obtain⟨z0,z1,z2,zf⟩:=Dw HQ5.o;go_wp2_with fail;obtain⟨y0,y1,y2,_⟩:=Dw (Bn HQ5.o (I 7) ze nS);exact bR (v:=G #[I 7,ze,nS]) qap rfl ⟨_,_,_,jw.o,Or.inr ⟨_,v.nv,rfl,rfl,HF5.o.set3 hQW hBQ _ _ _,HD.o.set3 ⟨_,HQ5.o⟩ qd qd _ _ _⟩⟩
    have d60:decide ((60:Int)<=(p:Int))=false:=qh;obtain⟨i0,Q3,bq,bg,bv⟩:=info_parts Tryz.info9y;have hp59:p<60:=qb;(have hsl:st.length<=60:=by rw[EP.o];omega);clear HROW EKV jg
    go_upto_region 19 with fail
    clear k6 d60 io;obtain⟨LwS,eL0wS⟩:=Aj wr.heap.size;obtain⟨wLwS,eLwS⟩:=Aj (wr.alloc (O #[S nm] 9));have fb:=aB eLwS;have HL:=Ac (nW eLwS eL0wS);have jl:=Ac fb;clear fb;have ou:=Ac (HS.o.bl jl.o);obtain⟨xa,xc,exv⟩:=Ay ou.o.stk;obtain⟨xl,exl⟩:=Aj ((st).length);have EXL:=Ac exl;rw[exl]at exv;have EXV:=Ac exv;have zh:=ou.o.stk;rw[exv,exl]at zh;have lm:=Ac zh;(have kx:wr.cell? ⟨h,6,N⟩=M (J xa xl xc):=by rw[cH HS.o.blk,←exv];rfl);(have sd:xl<=1000:=by rw[←exl];omega);clear exv zh exl;have J7:W0.heap.size<=wLwS.heap.size:=Nat.le_trans bj jl.o.size
    go_upto_region 20 with(first|(at_builtin;refine wpList_append_own_at _ rfl (.tmp 115) (.tmp 117) 22 rfl W0.heap.size 9 i0 ze 1 16 underlying22 Q3 bq bg bv rfl qd (J xa xl xc) xl _ rfl lm.o ⟨LwS,0,N⟩ 1 1 [S nm] rfl rfl (World.news_of_block (cs:=#[S nm]) HL.o) qae qm qb J7 ?_;intro vw wAwS ah ae cu pw;clear cu;obtain⟨ya,yc,evw⟩:=Ay ah;subst evw;have U7:=Ae lm.o qd ou.o.blk;have yd:=Br ou.o.blk ae U7;have kxA:wAwS.cell? ⟨h,6,N⟩=M _:=qgo;have kfA:∀j,wAwS.frozen? ⟨h,j,N⟩=false:=(λj=>fH yd j);clear yd U7 kx))
    clear kxA kfA;obtain⟨vw,evw⟩:=Aj (Value.slice ya (xl+1) yc);rw[evw]at ah pw ⊢;have EVW:=Ac evw;clear evw
    try clear k6 d60
    obtain⟨wS,eSwS⟩:=Aj (wAwS.setCell ⟨h,6,N⟩ vw)
    have po:∀b,vw.ownBlock=M b->v.kv.ownBlock=M b\/wLwS.heap.size<=b:=λb q=>by
     exact qet
    have zr:wLwS.grownBy wAwS v.kv.ownBlock:=by rw[EXV.o];exact ae
    have aq:wAwS.ownsRow W0.heap.size 9 1 vw (st++[nm]).length (Aq (st++[nm])):=by
     rw[List.length_append,List.length_singleton,EXL.o,show Aq (st++[nm])=Aq (st)++[S nm] from qai];exact ah
    have HG:=Ac (ou.o.growK J7 aq zr po);rw[eSwS]at HG ⊢;clear eSwS eLwS ah ae pw po zr aq;have mj:=Ac HG.o.1;have oe:=Ac (Cw.trans (Cw.of_below jl.o bj) HG.o.2);have NOHQ:=Ac (oe.o.no (Ag HQ.o) HNQ.o);replace HQ:=Ac (oe.o.blk HQ.o HNQ.o);replace HF:=Ac (HF.o.trans oe.o);replace HB:=Ac (HB.o.trans oe.o.bel);replace bj:W0.heap.size<=wS.heap.size:=Nat.le_trans bj oe.o.bel.size;clear HG oe ou lm HL EXV EXL jl sd eL0wS;obtain⟨vK,evK⟩:=Aj ((⟨v.tx,v.qv,v.mv,vw,v.nv,v.ev⟩:Hv));rw[evK]at HF mj NOHQ;have Z4:=NOHQ;clear evK HS NOHQ;(have htc:Db ts ms st+1<=Db ts ms (st++[nm]):=by have:=Xq (st:=st) (ms:=ms) HIL.o (by rw[pj.o];exact HFD.o) (by rw[pj.o];exact HNH.o);rwa [pj.o]at this);have E0:Hd (Fv ss ts ms (st++[nm])):=HI.o.push HFD.o A6.o;have ly:s.R.length<=2000:=HK.o.2.1;(have HPH2:Hd (ms.length+200*s.R.length<=400200*Db ts ms (st++[nm])):=by have:=HPH.o;show _<=_;omega);(have HCN2:Hd (Ku ts ms s (st++[nm])):=by have:=HCN.o;show _<=_;unfold Ku at this;rw[List.length_append,List.length_singleton];omega);have tm:=Ac (HE.o.v.pr i HIL.o);obtain⟨bt,ot,eta,t1,a',ai,t2,r3⟩:=HE.o.rt i HIL.o;subst eta;have HXC:=Ac (HE.o.xc i);have HMAD:Hd (∀ms' s' d,Bc ss ts n ms s (st++[nm]) (.work nm (tx ts i).code) ms' s' (.ok d)->Bc ss ts n ms s st (.make nm) (ms'++[(nm,d)]) s' (.ok d)):=λms' s' d q=>.made HFD.o HNH.o HNS.o HIL.o pj.o (by rw[EP.o];exact hp59) q;have HFEL:Hd (∀ms' s' b,Bc ss ts n ms s (st++[nm]) (.work nm (tx ts i).code) ms' s' (.bad b)->Bc ss ts n ms s st (.make nm) ms' s' (.bad b)):=λms' s' b q=>.fell HFD.o HNH.o HNS.o HIL.o pj.o (by rw[EP.o];exact hp59) q;have htS:wS.cell? ⟨bt,ot+i*2+1,N⟩=M (J a' (tx ts i).code.length ai):=Aa HB.o t2;have hiI:(i:Int)<(ts.length:Int):=zo HIL.o;have hi00:(0:Int)<=(i:Int):=qb;have hM:=HIH.o (by rw[EP.o];exact hp59) nm;have HM:=Ac hM;clear hM HIH;generalize (tx ts i).code=is at *
    have HC0:Hd (Kc W0.heap.size W0 a' is):=⟨r3,λb off q=>by
     have:=(Dh tm.o).1;obtain⟨b',bp,q',c1,_,_⟩:=r3 0 qb;rw[q]at q';cases q';exact World.block_lt_of_cell? _ _ c1⟩
    have hisl:is.length<=1048576:=zo (Dh tm.o);have HT0:=Ac t2;clear t1 t2 r3;have k1:=cK mj.o.blk 1;go_wp2_with fail;clear k1 htS;refine(try_any W0 h sa (M ⟨bt,ot,N⟩) c1 c2 n ss ts HE.o (st++[nm]) HM.o h1 h8 ms s vK a' ai is wS HB.o mj.o E0.o HK.o (HC0.o.belowB HB.o) hisl HPH2.o HCN2.o).mono ?_;rintro e w5 ⟨ms',s',a,bi,⟨c,t,r,v5,rfl,rfl,zk,bx,cw⟩|⟨v5,rfl,rfl,bx,cw⟩|⟨bb,nb,rfl,rfl,bx,pa⟩⟩;rotate_left 1;rotate_left 1
    ·have jw:=Ac (HFEL.o _ _ _ (.tfell bi))
     have jp:=Ac bx;replace HQ:=Ac (jp.o.blk HQ.o Z4.o);replace HF:=Ac (HF.o.trans jp.o);replace HB:=Ac (HB.o.trans jp.o.bel);replace bj:W0.heap.size<=w5.heap.size:=Nat.le_trans bj jp.o.bel.size;have HD5:=Ac pa;clear bi bx pa
     go_upto_region 21 with fail
     obtain⟨RR,eRR⟩:=Aj w5.heap.size;obtain⟨w6,e6⟩:=Aj (w5.alloc (O #[I 0,ze,nS] 120));have bz:Bw w5 w6:=qax;have iu:Hd (w6.heap[RR]?=M (O #[I 0,ze,nS] 120 (0,0))):=qbq;rw[e6]
     try rw[eRR]
     clear e6;have hRQ:Q<RR:=zo (Ag HQ.o);have hwR:w.heap.size<=RR:=qgk;have J6:W0.heap.size<=RR:=qb;have HD6:=Ac (HD5.o.frx bz);replace HQ:=Ac (Af HQ.o bz);replace HF:=Ac (HF.o.trans (Cw.of_below bz bj));replace HB:=Ac (HB.o.trans (bz.mono bj));replace bj:W0.heap.size<=w6.heap.size:=Nat.le_trans bj bz.size;clear bz jp eRR;have HD7:=Ac (HD6.o.less);obtain⟨k9,S8,hhl⟩:=HD7.o.cells;obtain⟨z0,z1,z2,zf⟩:=Dw HQ.o;go_wp2_with fail;obtain⟨y0,y1,y2,_⟩:=Dw (Bn HQ.o (I (Jw bb)) ze nS);exact bR (v:=G #[I (Jw bb),ze,nS]) qap rfl ⟨_,_,_,jw.o,Or.inr ⟨bb,_,rfl,rfl,HF.o.set3 hQW hBQ _ _ _,HD7.o.set3 ⟨_,HQ.o⟩ qd qd _ _ _⟩⟩
    ·obtain⟨i1,i2,i3,i4⟩:=Bc.inv HE.o.v bi E0.o HK.o (Nat.le_refl _) (λb q=>qw)
     have zv:=Bc.cost HE.o.v bi E0.o HK.o (Nat.le_refl _) (λb q=>qw);simp only[Ot]at zv;have F8:=Bc.cntM HE.o.v bi E0.o HK.o (Nat.le_refl _) (λb q=>qw) rfl HCN2.o;unfold Ku at F8;have htl2:=Nat.le_trans (Mq ts ms' (st++[nm])) HE.o.l2;have htl3:=Nat.le_trans (Mq ts ms (st++[nm])) HE.o.l2;have hml2:ms'.length<=200000000:=zo EM.o;have hxl2:s'.held.length<=200:=qb;have jw:=Ac (HMAD.o _ _ _ (.held bi));have jp:=Ac bx;have H0:=Ac (jp.o.no (Ag HQ.o) Z4.o);replace HQ:=Ac (jp.o.blk HQ.o Z4.o);replace HF:=Ac (HF.o.trans jp.o);replace HB:=Ac (HB.o.trans jp.o.bel);replace bj:W0.heap.size<=w5.heap.size:=Nat.le_trans bj jp.o.bel.size;have ie:=Ac cw;clear bi bx cw i1 i2 i3 i4 zv F8
     go_upto_region 21 with fail
     obtain⟨RR,eRR⟩:=Aj w5.heap.size;obtain⟨w6,e6⟩:=Aj (w5.alloc (O #[I c,S t,nS] 120));have bz:Bw w5 w6:=qax;have iu:Hd (w6.heap[RR]?=M (O #[I c,S t,nS] 120 (0,0))):=qbq;rw[e6]
     try rw[eRR]
     clear e6;have hRQ:Q<RR:=zo (Ag HQ.o);have hwR:w.heap.size<=RR:=qgk;have J6:W0.heap.size<=RR:=qb;have HNR:Hd (¬ Bz h v5 RR):=ie.o.not qb;have jz:=Ac (ie.o.bl bz);replace HQ:=Ac (Af HQ.o bz);replace HF:=Ac (HF.o.trans (Cw.of_below bz bj));replace HB:=Ac (HB.o.trans (bz.mono bj));replace bj:W0.heap.size<=w6.heap.size:=Nat.le_trans bj bz.size;clear bz jp eRR;clear ie
     go_upto_region 22 with fail
     obtain⟨LwE,A3⟩:=Aj w6.heap.size;obtain⟨wLwE,eLwE⟩:=Aj (w6.alloc (O #[S nm] 9));have fb:=aB eLwE;have HL:=Ac (nW eLwE A3);have jl:=Ac fb;clear fb;have ou:=Ac (jz.o.bl jl.o);obtain⟨xa,xc,exv⟩:=Ay ou.o.held;obtain⟨xl,exl⟩:=Aj ((s'.held).length);have EXL:=Ac exl;rw[exl]at exv;have EXV:=Ac exv;have zh:=ou.o.held;rw[exv,exl]at zh;have lm:=Ac zh;(have kx:w6.cell? ⟨h,8,N⟩=M (J xa xl xc):=by rw[cH jz.o.blk,←exv];rfl);(have sd:xl<=1000:=by rw[←exl];omega);clear exv zh exl;have J7:W0.heap.size<=wLwE.heap.size:=Nat.le_trans bj jl.o.size
     go_upto_region 26 with(first|(at_builtin;refine wpList_append_own_at _ rfl (.tmp 141) (.tmp 143) 22 rfl W0.heap.size 9 i0 ze 1 16 underlying22 Q3 bq bg bv rfl qd (J xa xl xc) xl _ rfl lm.o ⟨LwE,0,N⟩ 1 1 [S nm] rfl rfl (World.news_of_block (cs:=#[S nm]) HL.o) qae qm qb J7 ?_;intro vw wAwE ah ae cu pw;clear cu;obtain⟨ya,yc,evw⟩:=Ay ah;subst evw;have U7:=Ae lm.o qd ou.o.blk;have yd:=Br ou.o.blk ae U7;have kxA:wAwE.cell? ⟨h,8,N⟩=M _:=qgo;have kfA:∀j,wAwE.frozen? ⟨h,j,N⟩=false:=(λj=>fH yd j);clear yd U7 kx))
     clear kxA kfA;obtain⟨vw,evw⟩:=Aj (Value.slice ya (xl+1) yc);rw[evw]at ah pw ⊢;have EVW:=Ac evw;clear evw
     try clear k6 d60
     obtain⟨wE,eSwE⟩:=Aj (wAwE.setCell ⟨h,8,N⟩ vw)
     have po:∀b,vw.ownBlock=M b->v5.ev.ownBlock=M b\/wLwE.heap.size<=b:=λb q=>by
      exact qet
     have zr:wLwE.grownBy wAwE v5.ev.ownBlock:=by rw[EXV.o];exact ae
     have aq:wAwE.ownsRow W0.heap.size 9 1 vw (s'.held++[nm]).length (Aq (s'.held++[nm])):=by
      rw[List.length_append,List.length_singleton,EXL.o,show Aq (s'.held++[nm])=Aq (s'.held)++[S nm] from qai];exact ah
     have HG:=Ac (ou.o.growE J7 aq zr po);rw[eSwE]at HG ⊢;clear eSwE eLwE ah ae pw po zr aq;have mj:=Ac HG.o.1;have oe:=Ac (Cw.trans (Cw.of_below jl.o bj) HG.o.2);have NOHQ:=Ac (oe.o.no (Ag HQ.o) H0.o);have NOHRR:=Ac (oe.o.no (Ag iu.o) HNR.o);replace HQ:=Ac (oe.o.blk HQ.o H0.o);replace iu:=Ac (oe.o.blk iu.o HNR.o);replace HF:=Ac (HF.o.trans oe.o);replace HB:=Ac (HB.o.trans oe.o.bel);replace bj:W0.heap.size<=wE.heap.size:=Nat.le_trans bj oe.o.bel.size;clear HG oe ou lm HL EXV EXL jl sd A3;obtain⟨vE,evE⟩:=Aj ((⟨v5.tx,v5.qv,v5.mv,v5.kv,v5.nv,vw⟩:Hv));rw[evE]at HF mj NOHQ NOHRR;clear evE;have k9:=cK mj.o.blk 9
     go_upto_region 28 with fail
     clear k9;obtain⟨ka2,L2,iw⟩:=Ay mj.o.stk;rw[List.length_append,List.length_singleton]at iw;have nk:=mj.o.stk;rw[iw,List.length_append,List.length_singleton]at nk;obtain⟨bk,eka,_⟩:=Cy nk (Sw (st:=st++[nm]) (i:=st.length) qbp);subst eka;(have zw:st.length+1<=L2:=by rcases nk.2 with⟨q,_⟩|⟨g,c,cur,q,_,_,q2,_⟩;cases q;cases q;exact q2);have EK2:=Ac iw;clear iw nk;have hhQ:h≠Q/\h≠RR:=⟨λq=>NOHQ.o (Or.inl q.symm),λq=>NOHRR.o (Or.inl q.symm)⟩;obtain⟨p1,ep1⟩:=Aj st.length;rw[ep1]at zw EK2;have ja:p1<=60:=qb;have hwr:IntKind.i64.wrap (p1:Int)=(p1:Int):=IntWalk.i64_in _ ⟨qb,qb⟩;have vq:(0:Int)<=(p1:Int):=qb;have hpk:(p1:Int)<=(L2:Int):=qb;refine Lt.begin 14 (λw'=>w'.cell? ⟨h,6,N⟩=M (J (p_ bk) (p1+1) L2)) qi ?_;obtain⟨wD,eD⟩:=Aj wE.drew;rw[eD];have ct:Bw wE wD:=qy;clear eD;replace mj:=Ac (mj.o.bl ct);replace HQ:=Ac (Af HQ.o ct);replace iu:=Ac (Af iu.o ct);replace HF:=Ac (HF.o.trans (Cw.of_below ct bj));have gp:(λw'=>w'.cell? ⟨h,6,N⟩=M (J (p_ bk) (p1+1) L2)) wD:=(by show _=_;rw[cH mj.o.blk,←EK2.o];rfl);replace bj:W0.heap.size<=wD.heap.size:=Nat.le_trans bj ct.size;change K 0 _
     iterate 12
      refine Lt.ti (v:=?_) gp ?_ ?_;rotate_left 1
      ·exact qdh
      simp only[gX]
     refine Lt.sp (i:=12) (λK hK=>?_);go_simp;refine hK.out _ _ (λ_=>gp) (λ_=>?_);clear hK K 
     try simp only[gX]
     refine Lt.ti (i:=13) (v:=?_) gp ?_ ?_;rotate_left 1
     ·exact qdh
     simp only[gX];have kf:=fZ mj.o.blk;(have k6:wD.cell? ⟨h,6,N⟩=M (J (p_ bk) (p1+1) L2):=by rw[cH mj.o.blk,←EK2.o];rfl);refine Lt.sp (i:=14) (λK hK=>?_);go_simp;refine hK.out _ _ (λh=>absurd rfl h) (λ_=>?_);clear hK K;refine Lt.done qi ?_ _;have mg:=mj.o.pop bj (by rw[EK2.o,ep1]);rw[ep1]at mg;obtain⟨V,eV⟩:=Aj (wD.setCell ⟨h,6,N⟩ (J (p_ bk) p1 L2));rw[eV]at mg ⊢;(have HQV:Hd (V.heap[Q]?=M (O #[I 0,ze,nS] 120 (0,0))):=by show _=_;rw[←eV];exact Fi HQ.o (Ne.symm hhQ.1) _);(have K5:Hd (V.heap[RR]?=M (O #[I c,S t,nS] 120 (0,0))):=by show _=_;rw[←eV];exact Fi iu.o (Ne.symm hhQ.2) _);have HNQV:=Ac (mg.2.no (Ag HQ.o) NOHQ.o);have dm:=Ac mg.1;have R7:=Ac (HF.o.trans mg.2);have hBV:W0.heap.size<=V.heap.size:=Nat.le_trans bj mg.2.bel.size;clear mg eV kf k6 mj HF HQ iu;obtain⟨x0,x1,x2⟩:=Bd K5.o;go_wp2_with fail;clear x0 x1 x2;refine(Pn W0.heap.size h n _ _ ms' _ st _ nm ⟨c,t,[]⟩ _ V dm.o hBV qb).mono ?_;rintro e w9 ⟨rfl,v9,bx,cw⟩;have Z0:=Ac (bx.blk HQV.o HNQV.o);have HF9:=Ac (R7.o.trans bx);have A9:=Ac cw;clear bx cw;obtain⟨z0,z1,z2,zf⟩:=Dw Z0.o;go_wp2_with fail;obtain⟨y0,y1,y2,_⟩:=Dw (Bn Z0.o (I c) (S t) nS);exact bR (v:=G #[I c,S t,nS]) qap rfl ⟨_,_,_,jw.o,Or.inl ⟨⟨c,t,[]⟩,v9,rfl,rfl,HF9.o.set3 hQW hBQ _ _ _,A9.o.set3 ⟨_,Z0.o⟩ qd _ _ _⟩⟩
    ·obtain⟨i1,i2,i3,i4⟩:=Bc.inv HE.o.v bi E0.o HK.o (Nat.le_refl _) (λb q=>qw)
     have zv:=Bc.cost HE.o.v bi E0.o HK.o (Nat.le_refl _) (λb q=>qw);simp only[Ot]at zv;have F8:=Bc.cntM HE.o.v bi E0.o HK.o (Nat.le_refl _) (λb q=>qw) rfl HCN2.o;have HI3:=Ac i1;have ph:=Ac i2;have HCN3:=Ac F8;have htl2:=Nat.le_trans (Mq ts ms' (st++[nm])) HE.o.l2;have htl3:=Nat.le_trans (Mq ts ms (st++[nm])) HE.o.l2;(have HPH3:Hd (ms'.length+200<=400200*Db ts ms' (st++[nm])):=by have:=HPH.o;show _<=_;omega);have HTRY:=Ac bi;have jp:=Ac bx;have H0:=Ac (jp.o.no (Ag HQ.o) Z4.o);replace HQ:=Ac (jp.o.blk HQ.o Z4.o);replace HF:=Ac (HF.o.trans jp.o);replace HB:=Ac (HB.o.trans jp.o.bel);replace bj:W0.heap.size<=w5.heap.size:=Nat.le_trans bj jp.o.bel.size;have ie:=Ac cw;clear bi bx cw i1 i2 i3 i4 zv F8
     go_upto_region 21 with fail
     obtain⟨RR,eRR⟩:=Aj w5.heap.size;obtain⟨w6,e6⟩:=Aj (w5.alloc (O #[I 0,ze,nS] 120));have bz:Bw w5 w6:=qax;have iu:Hd (w6.heap[RR]?=M (O #[I 0,ze,nS] 120 (0,0))):=qbq;rw[e6]
     try rw[eRR]
     clear e6;have hRQ:Q<RR:=zo (Ag HQ.o);have hwR:w.heap.size<=RR:=qgk;have J6:W0.heap.size<=RR:=qb;have HNR:Hd (¬ Bz h v5 RR):=ie.o.not qb;have jz:=Ac (ie.o.bl bz);replace HQ:=Ac (Af HQ.o bz);replace HF:=Ac (HF.o.trans (Cw.of_below bz bj));replace HB:=Ac (HB.o.trans (bz.mono bj));replace bj:W0.heap.size<=w6.heap.size:=Nat.le_trans bj bz.size;clear bz jp eRR;clear ie;have k9:=cK jz.o.blk 9;have k1:=cK jz.o.blk 1;have htS:w6.cell? ⟨bt,ot+i*2+1,N⟩=M (J a' is.length ai):=Aa HB.o HT0.o;go_wp2_with fail;clear k9 k1 htS;refine(run5_any W0 h sa (M ⟨bt,ot,N⟩) c1 c2 n ss ts HE.o (st++[nm]) HM.o h1 h8 ms' s' v5 a' ai is w6 HB.o jz.o HI3.o ph.o (HC0.o.belowB HB.o) tm.o HXC.o HPH3.o HCN3.o).mono ?_;rintro e w7 ⟨br,s2,a2,bi,⟨d,v7,r,rfl,rfl,zk,bx,cw⟩|⟨bb,nb,rfl,rfl,bx,pa⟩⟩;rotate_left 1
     ·have jw:=Ac (HFEL.o _ _ _ (.rfell HTRY.o bi))
      have HD7:=Ac pa;have jp:=Ac bx;replace HQ:=Ac (jp.o.blk HQ.o H0.o);replace iu:=Ac (jp.o.blk iu.o HNR.o);replace HF:=Ac (HF.o.trans jp.o);replace HB:=Ac (HB.o.trans jp.o.bel);replace bj:W0.heap.size<=w7.heap.size:=Nat.le_trans bj jp.o.bel.size;obtain⟨z0,z1,z2,zf⟩:=Dw iu.o
      go_upto_region 25 with fail
      clear z0 z1 z2 zf;have gi:=Ac (HD7.o.set3 ⟨_,iu.o⟩ qd qd (I 0) ze nS);replace HF:=Ac (HF.o.set3 hwR J6 (I 0) ze nS);replace HQ:=Ac (Pt HQ.o (show Q≠RR from qb) (I 0) ze nS);replace HB:=Ac (((HB.o.setCell (p:=⟨RR,0,N⟩) J6 (I 0)).setCell (p:=⟨RR,1,N⟩) J6 ze).setCell (p:=⟨RR,2,N⟩) J6 nS);replace iu:=Ac (Bn iu.o (I 0) ze nS);have wm:w7.heap.size<=(((w7.setCell ⟨RR,0,N⟩ (I 0)).setCell ⟨RR,1,N⟩ ze).setCell ⟨RR,2,N⟩ nS).heap.size:=qg;obtain⟨w8,e8⟩:=Aj (((w7.setCell ⟨RR,0,N⟩ (I 0)).setCell ⟨RR,1,N⟩ ze).setCell ⟨RR,2,N⟩ nS);rw[e8]at gi HF HQ HB iu wm ⊢;clear e8;replace bj:W0.heap.size<=w8.heap.size:=Nat.le_trans bj wm;clear wm jp;clear bi bx pa HD7;obtain⟨pre,ee,dr,hpk,hpe,hp7,⟨xs,hxs,hxs2⟩,hpa⟩:=gi.o;rw[List.length_append,List.length_singleton]at hxs2;obtain⟨xa,xc,exv⟩:=Ay hxs;subst exv;obtain⟨xl,exl⟩:=Aj xs.length;have EXL:=Ac exl;rw[exl]at hxs hxs2 hp7 hpa gi HF;obtain⟨L8,eL8⟩:=Aj w8.heap.size;obtain⟨wL,eL⟩:=Aj (w8.alloc (O #[S nm] 9));have fb:=aB eL;have HL:=Ac (nW eL eL8);have jl:=Ac fb;have lm:=Ac (Ab hxs fb);have G6:=Ac (Af hpk fb);have HDL:=Ac (gi.o.frx fb);(have kx:w8.cell? ⟨h,7,N⟩=M (J xa xl xc):=by rw[cH hpk,List.getElem?_toArray,List.getElem?_append_left qgn,List.getElem?_append_left qb];exact hp7);have sd:xl<=1000:=qb;have J7:W0.heap.size<=wL.heap.size:=Nat.le_trans bj fb.size;(have hk20:(pre++[Value.bool true]++ee).length=20:=by rw[List.length_append,List.length_append,dr,hpe.code.1];rfl);have HXS2:=Ac hxs2;clear fb hpk hxs hpe hpa hxs2 hp7 exl
      go_upto_region 26 with(first|(at_builtin;refine wpList_append_own_at _ rfl (.tmp 170) (.tmp 172) 22 rfl W0.heap.size 9 i0 ze 1 16 underlying22 Q3 bq bg bv rfl qd (J xa xl xc) xl _ rfl lm.o ⟨L8,0,N⟩ 1 1 [S nm] rfl rfl (World.news_of_block (cs:=#[S nm]) HL.o) qae qm qb J7 ?_;intro vw wA ah ae cu pw;clear cu;obtain⟨ya,yc,evw⟩:=Ay ah;subst evw;have U7:=Ae lm.o qd G6.o;have yd:=Br G6.o ae U7;have kxA:wA.cell? ⟨h,7,N⟩=M ((pre++[Value.bool true]++ee).toArray[7]'(by simp only[List.size_toArray];omega)):=(by rw[cH yd];exact Array.getElem?_eq_getElem _);have kfA:∀j,wA.frozen? ⟨h,j,N⟩=false:=(λj=>fH yd j);clear yd U7 kx))
      clear kxA kfA;(have fj:wA.ownsRow W0.heap.size 9 1 (J ya (xl+1) yc) (xs.length+1) (Aq xs++[S nm]):=by rw[EXL.o];exact ah);(have hrw3:wL.ownsRow W0.heap.size 9 1 (J xa xl xc) xs.length (Aq xs):=by rw[EXL.o];exact lm.o);(have HDL2:Fx W0.heap.size h (st.length+1) (J xa xl xc) wL bb:=by have:=HDL.o;rwa [List.length_append,List.length_singleton]at this);obtain⟨hd9,hf9⟩:=HDL2.grow HHB.o J7 hrw3 (by rw[EXL.o];have:=HXS2.o;omega) fj ae pw;obtain⟨w9,e9⟩:=Aj (wA.setCell ⟨h,7,N⟩ (J ya (xl+1) yc));rw[e9]at hd9 hf9 ⊢;have hhQ:Q≠h:=λq=>H0.o (Or.inl q)
      have hQ9:w9.heap[Q]?=M (O #[I 0,ze,nS] 120 (0,0)):=by
       have a1:=Af HQ.o jl.o;have a2:=Br a1 ae (Ae lm.o qd a1);rw[←e9];exact Fi a2 hhQ _
      have Z0:=Ac hQ9;have HD9:=Ac hd9;have HF9:=Ac ((HF.o.trans (Cw.of_below jl.o bj)).trans hf9);clear hd9 hf9 hQ9 e9 eL ah ae pw fj hrw3 HDL2 hk20;obtain⟨k9,S8,hhl⟩:=HD9.o.cells;obtain⟨z0,z1,z2,zf⟩:=Dw Z0.o;go_wp2_with fail;obtain⟨y0,y1,y2,_⟩:=Dw (Bn Z0.o (I (Jw bb)) ze nS);exact bR (v:=G #[I (Jw bb),ze,nS]) qap rfl ⟨_,_,_,jw.o,Or.inr ⟨bb,_,rfl,rfl,HF9.o.set3 hQW hBQ _ _ _,HD9.o.set3 ⟨_,Z0.o⟩ qd qd _ _ _⟩⟩
     obtain⟨dc,dt,dl⟩:=d;have hjob:JobB s' (.run is [] []):=⟨⟨tm.o,λi hi=>qaa,rfl⟩,qg,λg hg=>by simp at hg⟩;have zv:=Bc.cost HE.o.v bi HI3.o ph.o hjob (λb q=>qw);simp only[Ot]at zv;have F8:=Bc.cntM HE.o.v bi HI3.o ph.o hjob (λb q=>qw) rfl HCN3.o;unfold Ku at F8;have htl4:=Nat.le_trans (Mq ts br (st++[nm])) HE.o.l2;have hml3:br.length<=300000000:=zo HPH3.o;have hxl2:s2.ran.length<=200:=qb;have jw:=Ac (HMAD.o _ _ _ (.ran HTRY.o bi));have D6:=Ac cw;have jp:=Ac bx;have NQ7:=Ac (jp.o.no (Ag HQ.o) H0.o);have NR7:=Ac (jp.o.no (Ag iu.o) HNR.o);replace HQ:=Ac (jp.o.blk HQ.o H0.o);replace iu:=Ac (jp.o.blk iu.o HNR.o);replace HF:=Ac (HF.o.trans jp.o);replace HB:=Ac (HB.o.trans jp.o.bel);replace bj:W0.heap.size<=w7.heap.size:=Nat.le_trans bj jp.o.bel.size;obtain⟨z0,z1,z2,zf⟩:=Dw iu.o
     go_upto_region 25 with fail
     clear z0 z1 z2 zf;have gi:=Ac (D6.o.set3 ⟨_,iu.o⟩ qd (I dc) (S dt) nS);replace HF:=Ac (HF.o.set3 hwR J6 (I dc) (S dt) nS);replace HQ:=Ac (Pt HQ.o (show Q≠RR from qb) (I dc) (S dt) nS);replace HB:=Ac (((HB.o.setCell (p:=⟨RR,0,N⟩) J6 (I dc)).setCell (p:=⟨RR,1,N⟩) J6 (S dt)).setCell (p:=⟨RR,2,N⟩) J6 nS);replace iu:=Ac (Bn iu.o (I dc) (S dt) nS);have wm:w7.heap.size<=(((w7.setCell ⟨RR,0,N⟩ (I dc)).setCell ⟨RR,1,N⟩ (S dt)).setCell ⟨RR,2,N⟩ nS).heap.size:=qg;obtain⟨w8,e8⟩:=Aj (((w7.setCell ⟨RR,0,N⟩ (I dc)).setCell ⟨RR,1,N⟩ (S dt)).setCell ⟨RR,2,N⟩ nS);rw[e8]at gi HF HQ HB iu wm ⊢;clear e8;replace bj:W0.heap.size<=w8.heap.size:=Nat.le_trans bj wm;clear wm jp;clear bi bx cw zv F8 hjob D6 HTRY jz;obtain⟨LwE,A3⟩:=Aj w8.heap.size;obtain⟨wLwE,eLwE⟩:=Aj (w8.alloc (O #[S nm] 9));have fb:=aB eLwE;have HL:=Ac (nW eLwE A3);have jl:=Ac fb;clear fb;have ou:=Ac (gi.o.bl jl.o);obtain⟨xa,xc,exv⟩:=Ay ou.o.ran;obtain⟨xl,exl⟩:=Aj ((s2.ran).length);have EXL:=Ac exl;rw[exl]at exv;have EXV:=Ac exv;have zh:=ou.o.ran;rw[exv,exl]at zh;have lm:=Ac zh;(have kx:w8.cell? ⟨h,7,N⟩=M (J xa xl xc):=by rw[cH gi.o.blk,←exv];rfl);(have sd:xl<=1000:=by rw[←exl];omega);clear exv zh exl;have J7:W0.heap.size<=wLwE.heap.size:=Nat.le_trans bj jl.o.size
     go_upto_region 26 with(first|(at_builtin;refine wpList_append_own_at _ rfl (.tmp 170) (.tmp 172) 22 rfl W0.heap.size 9 i0 ze 1 16 underlying22 Q3 bq bg bv rfl qd (J xa xl xc) xl _ rfl lm.o ⟨LwE,0,N⟩ 1 1 [S nm] rfl rfl (World.news_of_block (cs:=#[S nm]) HL.o) qae qm qb J7 ?_;intro vw wAwE ah ae cu pw;clear cu;obtain⟨ya,yc,evw⟩:=Ay ah;subst evw;have U7:=Ae lm.o qd ou.o.blk;have yd:=Br ou.o.blk ae U7;have kxA:wAwE.cell? ⟨h,7,N⟩=M _:=qgo;have kfA:∀j,wAwE.frozen? ⟨h,j,N⟩=false:=(λj=>fH yd j);clear yd U7 kx))
     clear kxA kfA;obtain⟨vw,evw⟩:=Aj (Value.slice ya (xl+1) yc);rw[evw]at ah pw ⊢;have EVW:=Ac evw;clear evw
     try clear k6 d60
     obtain⟨wE,eSwE⟩:=Aj (wAwE.setCell ⟨h,7,N⟩ vw)
     have po:∀b,vw.ownBlock=M b->v7.nv.ownBlock=M b\/wLwE.heap.size<=b:=λb q=>by
      exact qet
     have zr:wLwE.grownBy wAwE v7.nv.ownBlock:=by rw[EXV.o];exact ae
     have aq:wAwE.ownsRow W0.heap.size 9 1 vw (s2.ran++[nm]).length (Aq (s2.ran++[nm])):=by
      rw[List.length_append,List.length_singleton,EXL.o,show Aq (s2.ran++[nm])=Aq (s2.ran)++[S nm] from qai];exact ah
     have HG:=Ac (ou.o.growN J7 aq zr po);rw[eSwE]at HG ⊢;clear eSwE eLwE ah ae pw po zr aq;have mj:=Ac HG.o.1;have oe:=Ac (Cw.trans (Cw.of_below jl.o bj) HG.o.2);have NOHQ:=Ac (oe.o.no (Ag HQ.o) NQ7.o);have NOHRR:=Ac (oe.o.no (Ag iu.o) NR7.o);replace HQ:=Ac (oe.o.blk HQ.o NQ7.o);replace iu:=Ac (oe.o.blk iu.o NR7.o);replace HF:=Ac (HF.o.trans oe.o);replace HB:=Ac (HB.o.trans oe.o.bel);replace bj:W0.heap.size<=wE.heap.size:=Nat.le_trans bj oe.o.bel.size;clear HG oe ou lm HL EXV EXL jl sd A3;obtain⟨vE,evE⟩:=Aj ((⟨v7.tx,v7.qv,v7.mv,v7.kv,vw,v7.ev⟩:Hv));rw[evE]at HF mj NOHQ NOHRR;clear evE;have k9:=cK mj.o.blk 9
     go_upto_region 28 with fail
     clear k9;obtain⟨ka2,L2,iw⟩:=Ay mj.o.stk;rw[List.length_append,List.length_singleton]at iw;have nk:=mj.o.stk;rw[iw,List.length_append,List.length_singleton]at nk;obtain⟨bk,eka,_⟩:=Cy nk (Sw (st:=st++[nm]) (i:=st.length) qbp);subst eka;(have zw:st.length+1<=L2:=by rcases nk.2 with⟨q,_⟩|⟨g,c,cur,q,_,_,q2,_⟩;cases q;cases q;exact q2);have EK2:=Ac iw;clear iw nk;have hhQ:h≠Q/\h≠RR:=⟨λq=>NOHQ.o (Or.inl q.symm),λq=>NOHRR.o (Or.inl q.symm)⟩;obtain⟨p1,ep1⟩:=Aj st.length;rw[ep1]at zw EK2;have ja:p1<=60:=qb;have hwr:IntKind.i64.wrap (p1:Int)=(p1:Int):=IntWalk.i64_in _ ⟨qb,qb⟩;have vq:(0:Int)<=(p1:Int):=qb;have hpk:(p1:Int)<=(L2:Int):=qb;refine Lt.begin 14 (λw'=>w'.cell? ⟨h,6,N⟩=M (J (p_ bk) (p1+1) L2)) qi ?_;obtain⟨wD,eD⟩:=Aj wE.drew;rw[eD];have ct:Bw wE wD:=qy;clear eD;replace mj:=Ac (mj.o.bl ct);replace HQ:=Ac (Af HQ.o ct);replace iu:=Ac (Af iu.o ct);replace HF:=Ac (HF.o.trans (Cw.of_below ct bj));have gp:(λw'=>w'.cell? ⟨h,6,N⟩=M (J (p_ bk) (p1+1) L2)) wD:=(by show _=_;rw[cH mj.o.blk,←EK2.o];rfl);replace bj:W0.heap.size<=wD.heap.size:=Nat.le_trans bj ct.size;change K 0 _
     iterate 12
      refine Lt.ti (v:=?_) gp ?_ ?_;rotate_left 1
      ·exact qdh
      simp only[gX]
     refine Lt.sp (i:=12) (λK hK=>?_);go_simp;refine hK.out _ _ (λ_=>gp) (λ_=>?_);clear hK K 
     try simp only[gX]
     refine Lt.ti (i:=13) (v:=?_) gp ?_ ?_;rotate_left 1
     ·exact qdh
     simp only[gX];have kf:=fZ mj.o.blk;(have k6:wD.cell? ⟨h,6,N⟩=M (J (p_ bk) (p1+1) L2):=by rw[cH mj.o.blk,←EK2.o];rfl);refine Lt.sp (i:=14) (λK hK=>?_);go_simp;refine hK.out _ _ (λh=>absurd rfl h) (λ_=>?_);clear hK K;refine Lt.done qi ?_ _;have mg:=mj.o.pop bj (by rw[EK2.o,ep1]);rw[ep1]at mg;obtain⟨V,eV⟩:=Aj (wD.setCell ⟨h,6,N⟩ (J (p_ bk) p1 L2));rw[eV]at mg ⊢;(have HQV:Hd (V.heap[Q]?=M (O #[I 0,ze,nS] 120 (0,0))):=by show _=_;rw[←eV];exact Fi HQ.o (Ne.symm hhQ.1) _);(have K5:Hd (V.heap[RR]?=M (O #[I dc,S dt,nS] 120 (0,0))):=by show _=_;rw[←eV];exact Fi iu.o (Ne.symm hhQ.2) _);have HNQV:=Ac (mg.2.no (Ag HQ.o) NOHQ.o);have dm:=Ac mg.1;have R7:=Ac (HF.o.trans mg.2);have hBV:W0.heap.size<=V.heap.size:=Nat.le_trans bj mg.2.bel.size;clear mg eV kf k6 mj HF HQ iu;obtain⟨x0,x1,x2⟩:=Bd K5.o;go_wp2_with fail;clear x0 x1 x2;refine(Pn W0.heap.size h n _ _ br _ st _ nm ⟨dc,dt,dl⟩ _ V dm.o hBV qb).mono ?_;rintro e w9 ⟨rfl,v9,bx,cw⟩;have Z0:=Ac (bx.blk HQV.o HNQV.o);have HF9:=Ac (R7.o.trans bx);have A9:=Ac cw;clear bx cw;obtain⟨z0,z1,z2,zf⟩:=Dw Z0.o;go_wp2_with fail;obtain⟨y0,y1,y2,_⟩:=Dw (Bn Z0.o (I dc) (S dt) nS);exact bR (v:=G #[I dc,S dt,nS]) qap rfl ⟨_,_,_,jw.o,Or.inl ⟨⟨dc,dt,dl⟩,v9,rfl,rfl,HF9.o.set3 hQW hBQ _ _ _,A9.o.set3 ⟨_,Z0.o⟩ qd _ _ _⟩⟩
theorem make5_all(W0:World)(h:X)(sa ta:Option Addr)(c1 c2 n:X)(ss:L S2)(ts:L T2)(hE:Hn W0 sa ta ss ts)(h1:1<=n)(h8:n<=8):∀(k:X)(st:L By),60-st.length=k->st.length<=60->Nw W0 h (J sa ss.length c1) (J ta ts.length c2) n ss ts st:=by
 intro k
 induction k with
 | zero=>intro st e1 e2;exact Tt W0 h sa ta c1 c2 n ss ts hE h1 h8 st e2 (λq=>qb)
 | succ k ih=>intro st e1 e2;exact Tt W0 h sa ta c1 c2 n ss ts hE h1 h8 st e2 (λq nm=>ih (st++[nm]) qbp qbp)
end Go.Proofs.YtbkkjodaaijimaaGreatDoor
