import Derived.Test.YtoakjccojifagaaGreatDoorBsZ
import Derived.Test.YtoakjccojifagaaGreatDoorBtA
import Derived.Test.YtoakjccojifagaaGreatDoorBtE
import Derived.Test.YtoakjccojifagaaGreatDoorBuF
namespace Go.Proofs.YtoakjccojifagaaGreatDoor
open Value renaming slice->J,string->S,bool->F,agg->G
open Option renaming some->M,none->N
open Obj renaming cells->O
open Go renaming Value->Z,World->E
open _root_ renaming List->L,Nat->X
set_option maxHeartbeats 8000000
set_option maxRecDepth 100000
open _root_.Go.Proofs.Tryz Go.RowKit Go.Deep
set_option linter.unusedVariables false
set_option linter.unusedSimpArgs false
variable {w w':E} {v qv sv tv:Z} {B B' h n:X} {R:L T3} {T:L By} {b:Gl} {cs:Array Z} {e:L Z} {l:L (X×X×Z)}
theorem Tryz.info9y:(prog.info? 9).map (λi=>(i.zero,i.size,i.bytes))=M (M ze,1,16):=qi
theorem Uq(W0:E)(h:X)(sa ta:Option Addr)(c1 c2 n:X)(ss:L S2)(ts:L T2)(hE:He W0 sa ta ss ts)(h1:1<=n)(h8:n<=8)(st:L By)(cw:st.length<=60)(IH:st.length<60->∀nm,Ob W0 h (J sa ss.length c1) (J ta ts.length c2) n ss ts (st++[nm])):Ob W0 h (J sa ss.length c1) (J ta ts.length c2) n ss ts st:=by
 intro ms s v nm w hb hs hi fw de hph P7;obtain⟨W,eW⟩:=Aj (w.alloc (O #[I 0,ze,nS] 121));have HW:Hd (Bw w W):=by show Below _ _ _;rw[←eW];exact aN _ _
 obtain⟨Q,eQ⟩:=Aj w.heap.size;have HQ:=Ad (nW eW eQ);have HN:Hd (∀b,Q<=b->¬ Cj h v b):=λb hb=>hs.not qb;have gi:W0.heap.size<=w.heap.size:=hb.size;have HF:Hd (Dc W0.heap.size (Cj h v) (Cj h v) w W):=Dc.of_below HW.o gi;have bp:W0.heap.size<=W.heap.size:=Nat.le_trans gi HW.o.size;have hBQ:W0.heap.size<=Q:=qb;have hQW:w.heap.size<=Q:=qb;have HS:=Ad (hs.bl HW.o);have HB:=Ad (hb.trans (HW.o.mono gi));have HI:=Ad hi;have HK:=Ad fw;have HE:=Ad hE;have HIH:=Ad IH;have HPH:=Ad hph;have HCN:=Ad P7;have HHB:=Ad hs.hB;have htl:Dh ts ms st<=200:=Nat.le_trans (Pn ts ms st) hE.l2;have zm:ms.length<=80040000:=qb;have D7:s.ran.length+s.held.length+st.length<=200:=Nat.le_trans P7 htl;obtain⟨m,em⟩:=Aj ms.length;have EM:=Ad em;obtain⟨ma,mc,hmv⟩:∃a cap,v.mv=J a ms.length cap:=by obtain⟨xs,m1,m2⟩:=hs.made;exact Ax m1
 have EMV:=Ad hmv;have k5:W.cell? ⟨h,5,N⟩=M (J ma m mc):=by rw[cH HS.o.blk,←em,←hmv];rfl
 rw[em]at zm;clear hs hb hi fw IH de hph P7 em hmv hE HW;go_enter func70,ntmps70;go_wp2_with fail
 try rw[eQ]
 clear eW
 go_loopw [5] (λi wr=>∃k:X,k<=m/\i=I k/\wr=W/\Hd (∀j,j<k->(mm ms j).1≠nm)) (λi _=>m-(intOf i).toNat)
 case atStart=>exact⟨0,Nat.zero_le _,rfl,rfl,(λj hj=>by omega:∀j,j<0->(mm ms j).1≠nm)⟩
 case round=>
  obtain⟨k,hk,rfl,G6,jk⟩:=hrel;subst G6
  by_cases aj:k<m
  ·have iy:(k:Int)<(m:Int):=qb
   have jr:(0:Int)<=(k:Int):=qb;obtain⟨xs,m1,m2⟩:=HS.o.made;rw[EMV.o]at m1;obtain⟨f1,f2,f3,f4,r,f5⟩:=m2 k qbb;obtain⟨b,rfl,g1⟩:=Cv m1 f1;obtain⟨b',qe,g2⟩:=Cv m1 f2;cases qe;obtain⟨b',qe,g3⟩:=Cv m1 f3;cases qe;obtain⟨b',qe,g4⟩:=Cv m1 f4;cases qe;clear m1 m2 f1 f2 f3 f4 f5 EMV;obtain⟨d,ed⟩:=Aj (mm ms k);rw[ed]at g1 g2 g3;obtain⟨x,d⟩:=d;dsimp only at g1 g2 g3;obtain⟨dc,edc⟩:=Aj d.c;obtain⟨dt,edt⟩:=Aj d.t;rw[edc]at g2;rw[edt]at g3;have ED:=Ad (And.intro ed (And.intro edc edt));clear ed edc edt
   by_cases hq:x=nm
   ·have dq:=Fd hq
    (have HFD:Hd (fd ms nm=M d):=by have:=fd_at (ms:=ms) (i:=k) (nm:=nm) qbb (by rw[ED.o.1];exact hq) jk.o;rw[ED.o.1]at this;exact this);obtain⟨z0,z1,z2,zf⟩:=Dx HQ.o;go_wp2_with fail;obtain⟨y0,y1,y2,_⟩:=Dx (Bp HQ.o (I dc) (S dt) nS);exact bR (v:=G #[I dc,S dt,nS]) qaq rfl ⟨ms,s,.ok d,.known HFD.o,Or.inl ⟨d,v,rfl,(by rw[ED.o.2.1,ED.o.2.2]),HF.o.set3 qb qb _ _ _,HS.o.set3 ⟨_,HQ.o⟩ qd _ _ _⟩⟩
   ·have dq:=Hh hq
    have px:Hd (∀j,j<k+1->(mm ms j).1≠nm):=λj hj=>by
     rcases Nat.lt_or_ge j k with q|q
     ·exact jk.o j q
     ·obtain rfl:j=k:=qb
      rw[ED.o.1];exact hq
    exact qkw
  ·have iy:¬ (k:Int)<(m:Int):=qb
   have HFD:Hd (fd ms nm=N):=fd_no (λj hj=>jk.o j (by rw[EM.o]at hj;omega));clear jk EMV;obtain⟨k0,k1⟩:=ck2 HS.o.blk;go_wp2_with fail;clear k5 k0 k1;refine(Ru sa ta ts.length c1 c2 ss nm wr (HE.o.rs.bl HB.o) (zo HE.o.l1)).mono ?_;rintro e w1 ⟨af,hsr⟩;replace HS:=Ad (HS.o.bl af);replace HQ:=Ad (Af HQ.o af);replace HF:=Ad (HF.o.trans (Dc.of_below af bp));replace HB:=Ad (HB.o.trans (Below.mono af bp));replace bp:W0.heap.size<=w1.heap.size:=Nat.le_trans bp af.size;clear af;have HNQ:Hd (¬ Cj h v Q):=HN.o Q (Nat.le_refl _)
   rcases hsr with⟨i,rfl,E4,n8⟩|⟨rfl,hns⟩
   ·have E5:(0:Int)<=(i:Int):=qb
    have HNH:Hd (¬ Eg st nm):=λq=>HE.o.v.dis nm (by rw[←n8];exact Hl E4) (HI.o.tgt _ q);obtain⟨bs,os,rfl,s1,s2⟩:=(HE.o.rs.bl HB.o) i E4;have k0:=cK HS.o.blk 0;have hiI:(i:Int)<(ss.length:Int):=qb;have ll:Hd (Ba ss ts n ms s st (.make nm) (ms++[(nm,⟨0,(sx ss i).text,[]⟩)]) s (.ok ⟨0,(sx ss i).text,[]⟩)):=.source HFD.o HNH.o E4 n8;obtain⟨t,et⟩:=Aj ((sx ss i).text);rw[et]at s2 ll;clear et s1 HE HIH;go_wp2_with fail;clear k0 s2;refine(Qd W0.heap.size h n _ _ ms s st v nm ⟨0,t,[]⟩ (-1) w1 HS.o bp qas).mono ?_;rintro e w2 ⟨rfl,v2,ci,di⟩;have Is:=Ad (ci.blk HQ.o (HNQ.o));have fy:=Ad (HF.o.trans ci);have cu:=Ad di;clear ci di;obtain⟨z0,z1,z2,zf⟩:=Dx Is.o;go_wp2_with fail;obtain⟨y0,y1,y2,_⟩:=Dx (Bp Is.o (I 0) (S t) nS);exact bR (v:=G #[I 0,S t,nS]) qaq rfl ⟨_,_,_,ll.o,Or.inl ⟨⟨0,t,[]⟩,v2,rfl,rfl,fy.o.set3 hQW hBQ _ _ _,cu.o.set3 ⟨_,Is.o⟩ qd _ _ _⟩⟩
   obtain⟨k0,k1⟩:=ck2 HS.o.blk;have HNS:=Ad hns;clear hns;go_wp2_with fail;clear k0 k1;refine(Rt sa ta ss.length c1 c2 ts nm w1 (HE.o.rt.bl HB.o) (zo HE.o.l2)).mono ?_;rintro e w3 ⟨au,hsr⟩;replace HS:=Ad (HS.o.bl au);replace HQ:=Ad (Af HQ.o au);replace HF:=Ad (HF.o.trans (Dc.of_below au bp));replace HB:=Ad (HB.o.trans (Below.mono au bp));replace bp:W0.heap.size<=w3.heap.size:=Nat.le_trans bp au.size;clear au
   rcases hsr with⟨i,rfl,E4,n8⟩|⟨rfl,hnt⟩
   rotate_left 1
   ·have HNH:Hd (¬ Eg st nm):=λq=>hnt (HI.o.tgt _ q)
    have ll:Hd (Ba ss ts n ms s st (.make nm) (ms++[(nm,⟨4,nm,[]⟩)]) s (.ok ⟨4,nm,[]⟩)):=.missing HFD.o HNH.o (λq=>by rcases q with q|q;exact HNS.o q;exact hnt q);clear hnt HE HIH;go_wp2_with fail;refine(Qd W0.heap.size h n _ _ ms s st v nm ⟨4,nm,[]⟩ (-1) w3 HS.o bp qas).mono ?_;rintro e w2 ⟨rfl,v2,ci,di⟩;have Is:=Ad (ci.blk HQ.o (HNQ.o));have fy:=Ad (HF.o.trans ci);have cu:=Ad di;clear ci di;obtain⟨z0,z1,z2,zf⟩:=Dx Is.o;go_wp2_with fail;obtain⟨y0,y1,y2,_⟩:=Dx (Bp Is.o (I 4) (S nm) nS);exact bR (v:=G #[I 4,S nm,nS]) qaq rfl ⟨_,_,_,ll.o,Or.inl ⟨⟨4,nm,[]⟩,v2,rfl,rfl,fy.o.set3 hQW hBQ _ _ _,cu.o.set3 ⟨_,Is.o⟩ qd _ _ _⟩⟩
   have HIL:=Ad E4;have sq:=Ad n8;clear E4 n8;obtain⟨p,ep⟩:=Aj st.length;have EP:=Ad ep;obtain⟨ka,kc,hkv⟩:=Ax HS.o.stk;rw[ep]at hkv;have EKV:=Ad hkv;(have k6:w3.cell? ⟨h,6,N⟩=M (J ka p kc):=by rw[cH HS.o.blk,←hkv];rfl);have hp60:p<=60:=qb;clear hkv ep;have E5:¬ (i:Int)<0:=qb;go_wp2_with fail
   go_loopw [8] (λi wr=>∃k:X,k<=p/\i=I k/\wr=w3/\Hd (∀j,j<k->nx st j≠nm)) (λi _=>p-(intOf i).toNat)
   case atStart=>exact⟨0,Nat.zero_le _,rfl,rfl,(λj hj=>by omega:∀j,j<0->nx st j≠nm)⟩
   case round=>
    obtain⟨k,hk,rfl,G6,jk⟩:=hrel;subst G6;have gt:=HS.o.stk;rw[EKV.o,EP.o]at gt;have HROW:=Ad gt;clear gt
    by_cases aj:k<p
    ·have iy:(k:Int)<(p:Int):=qb
     have jr:(0:Int)<=(k:Int):=qb;obtain⟨b,rfl,g1⟩:=Cv HROW.o (Ys (by rw[EP.o];exact aj));obtain⟨x,ex⟩:=Aj (nx st k);rw[ex]at g1
     by_cases hq:x=nm
     ·have dq:=Fd hq
      have ll:Hd (Ba ss ts n ms s st (.make nm) ms s (.bad (.circle (st.drop k)))):=.circle HFD.o (by rw[EP.o];exact aj) (by rw[ex,hq]) jk.o;obtain⟨AL,eL0⟩:=Aj wr.heap.size;obtain⟨wL,eL⟩:=Aj (wr.alloc (O #[] 9));have ib:=aB eL
      have vj:Hd (wL.ownsRow AL 9 1 (J (p_ AL) 0 0) 0 []):=by
       show World.ownsRow _ _ _ _ _ _ _;rw[←eL,←eL0];exact World.ownsRow_lit wr #[] 0 (Nat.le_refl _) qm rfl
      have W8:Hd (∀j u,((Av st).drop k)[j]?=M u->wL.cell? ((⟨b,k,N⟩:Addr).add j)=M u):=λj u q=>by
       rw[List.getElem?_drop]at q;obtain⟨b2,q2,g2⟩:=Cv HROW.o q;cases q2;have g3:=Aa ib g2;rw[show(⟨b,k,N⟩:Addr).add j=⟨b,k+j,N⟩ from by unfold Addr.add;split;(rename_i q;rw[q];rfl);rfl];exact g3
      (have E8:((Av st).drop k).length=(p-k)*1:=by rw[List.length_drop];unfold Av;rw[List.length_map,EP.o,Nat.mul_one]);have k6L:=Aa ib k6;have HDL:=Ad E8;have kj:=Ad ib;clear E8 ib;(have hkc:p<=kc:=by rcases HROW.o.2 with⟨q,_⟩|⟨g,c,cur,q,_,_,q2,_⟩;cases q;cases q;exact q2);have hLw:AL<=wL.heap.size:=zo kj.o.size;obtain⟨i0,hi9,bo,bm,cm⟩:=info_parts Tryz.info9y;have EL0:=Ad eL0;clear ex HIL sq HIH HE
      go_wp2_with (first|(at_builtin;refine wpList_append_own_at _ rfl (.tmp 91) (.tmp 97) 22 rfl AL 9 i0 ze 1 16 underlying22 hi9 bo bm cm rfl qd _ 0 [] rfl vj.o ⟨b,k,N⟩ (p-k) (kc-k) ((Av st).drop k) rfl HDL.o W8.o (λu hu=>by obtain⟨z,_,rfl⟩:=List.mem_map.mp (List.mem_of_mem_drop hu);rfl) qm qb hLw ?_;intro v' wA ah ae dp th;clear dp th;rw[Nat.zero_add]at ah;obtain⟨ca,cc,ecv⟩:=Ax ah;subst ecv))
      have co:Bw wr wA:=kj.o.grown ae qb (λj q=>by cases q;exact Nat.le_of_eq EL0.o);have uj:=Ad (HS.o.bl co);have HOA:=Ad ah;have HBA:=Ad co;clear ah ae co vj W8 HDL
      have H0:wA.ownsRow W0.heap.size 9 1 (J ca (p-k) cc) (st.drop k).length (Av (st.drop k)):=by
       (have h2:(st.drop k).length=p-k:=by rw[List.length_drop,EP.o]);rw[h2,show Av (st.drop k)=[]++(Av st).drop k from by simp[Av,List.map_drop]];exact Ah HOA.o (zo EL0.o)
      have HCH:Hd (∀w5:E,(∀b,b<wA.heap.size->b≠h->w5.heap[b]?=wA.heap[b]?)->w5.ownsRow W0.heap.size 9 1 (J ca (p-k) cc) (st.drop k).length (Av (st.drop k))):=λw5 jq=>Al H0 (λb2 q=>jq b2 (H0.lt b2 q).2 (λq2=>by have:=(HOA.o.lt b2 q).1;have:=Ag HS.o.blk;have:=EL0.o;omega));clear H0;refine(Mx h _ _ _ _ _ _ _ _ _ _ _ _ _ _ _ _ _ _ _ 6 ⟨#[]⟩ ⟨#[]⟩ ⟨#[]⟩ ca _ cc wA uj.o.blk).mono ?_;rintro e w5 ⟨rfl,dh,jq,aw⟩;have HFF:=Ad (HS.o.fall HBA.o bp dh jq);have HD:Hd (Fz W0.heap.size h st.length v.nv w5 (.circle (st.drop k))):=uj.o.dead jq [I 6,ze,J ca (p-k) cc,I 0,nS,nS,nS,nS,ze,ze] aw ⟨J ca (p-k) cc,HCH.o w5 jq,rfl⟩ (λu b2 q1 q2 q3=>by cases q1;have:=(HOA.o.lt b2 q2).1;have:=(HS.o.ran.lt b2 q3).2;have:=EL0.o;omega) qb;have HQ5:=Ad (HFF.o.blk HQ.o HNQ.o);have HF5:=Ad (HF.o.trans HFF.o);clear dh jq aw HFF;obtain⟨z0,z1,z2,zf⟩:=Dx HQ5.o;go_wp2_with fail;obtain⟨y0,y1,y2,_⟩:=Dx (Bp HQ5.o (I 6) ze nS);exact bR (v:=G #[I 6,ze,nS]) qaq rfl ⟨_,_,_,ll.o,Or.inr ⟨_,v.nv,rfl,rfl,HF5.o.set3 hQW hBQ _ _ _,HD.o.set3 ⟨_,HQ5.o⟩ qd qd _ _ _⟩⟩
     ·have dq:=Hh hq
      have px:Hd (∀j,j<k+1->nx st j≠nm):=λj hj=>by
       rcases Nat.lt_or_ge j k with q|q
       ·exact jk.o j q
       ·obtain rfl:j=k:=qb
        rw[ex];exact hq
      clear ex;exact qkw
    have iy:¬ (k:Int)<(p:Int):=qb;have HNH:Hd (¬ Eg st nm):=λ⟨j,hj,q⟩=>jk.o j (by rw[EP.o]at hj;omega) q;(have F7:Hd (Eg (Ak ts) nm):=by have:=Iu HIL.o;rw[sq.o]at this;exact this);clear jk aj
    by_cases jy:60<=p
    ·have d60:decide ((60:Int)<=(p:Int))=true:=qh
     have ll:Hd (Ba ss ts n ms s st (.make nm) ms s (.bad (.deep nm))):=.deep HFD.o HNH.o HNS.o F7.o (by rw[EP.o];exact jy);clear HE HIH HIL sq;go_wp2_with fail;refine(Mx h _ _ _ _ _ _ _ _ _ _ _ _ _ _ _ _ _ _ _ 7 nm ⟨#[]⟩ ⟨#[]⟩ N 0 0 wr HS.o.blk).mono ?_;rintro e w5 ⟨rfl,dh,jq,aw⟩;have HFF:=Ad (HS.o.fall (Below.refl _ _) bp dh jq);have HD:Hd (Fz W0.heap.size h st.length v.nv w5 (.deep nm)):=HS.o.dead jq [I 7,S nm,nS,I 0,nS,nS,nS,nS,ze,ze] aw rfl (noOwn rfl _) qb;have HQ5:=Ad (HFF.o.blk HQ.o HNQ.o);have HF5:=Ad (HF.o.trans HFF.o);clear dh jq aw HFF;obtain⟨z0,z1,z2,zf⟩:=Dx HQ5.o;go_wp2_with fail;obtain⟨y0,y1,y2,_⟩:=Dx (Bp HQ5.o (I 7) ze nS);exact bR (v:=G #[I 7,ze,nS]) qaq rfl ⟨_,_,_,ll.o,Or.inr ⟨_,v.nv,rfl,rfl,HF5.o.set3 hQW hBQ _ _ _,HD.o.set3 ⟨_,HQ5.o⟩ qd qd _ _ _⟩⟩
    have d60:decide ((60:Int)<=(p:Int))=false:=qh;obtain⟨i0,hi9,bo,bm,cm⟩:=info_parts Tryz.info9y;have hp59:p<60:=qb;clear HROW EKV jy
    go_upto_region 19 with fail
    clear k6 d60 iy;obtain⟨LwS,eL0wS⟩:=Aj wr.heap.size;obtain⟨wLwS,eLwS⟩:=Aj (wr.alloc (O #[S nm] 9));have ib:=aB eLwS;have HL:=Ad (nW eLwS eL0wS);have kj:=Ad ib;clear ib;have ri:=Ad (HS.o.bl kj.o);obtain⟨xa,xc,exv⟩:=Ax ri.o.stk;obtain⟨xl,exl⟩:=Aj ((st).length);have EXL:=Ad exl;rw[exl]at exv;have EXV:=Ad exv;have yj:=ri.o.stk;rw[exv,exl]at yj;have ni:=Ad yj;(have kx:wr.cell? ⟨h,6,N⟩=M (J xa xl xc):=by rw[cH HS.o.blk,←exv];rfl);(have oq:xl<=1000:=by rw[←exl];omega);clear exv yj exl;have Q2:W0.heap.size<=wLwS.heap.size:=Nat.le_trans bp kj.o.size
    go_upto_region 20 with(first|(at_builtin;refine wpList_append_own_at _ rfl (.tmp 115) (.tmp 117) 22 rfl W0.heap.size 9 i0 ze 1 16 underlying22 hi9 bo bm cm rfl qd (J xa xl xc) xl _ rfl ni.o ⟨LwS,0,N⟩ 1 1 [S nm] rfl rfl (World.news_of_block (cs:=#[S nm]) HL.o) qaf qm qb Q2 ?_;intro vw wAwS ah ae dp th;clear dp;obtain⟨ya,yc,evw⟩:=Ax ah;subst evw;have hnh:=Ae ni.o qd ri.o.blk;have B4:=Bx ri.o.blk ae hnh;have kxA:wAwS.cell? ⟨h,6,N⟩=M _:=qhh;have kfA:∀j,wAwS.frozen? ⟨h,j,N⟩=false:=(λj=>fH B4 j);clear B4 hnh kx))
    clear kxA kfA;obtain⟨vw,evw⟩:=Aj (Value.slice ya (xl+1) yc);rw[evw]at ah th ⊢;clear evw
    try clear k6 d60
    obtain⟨wS,eSwS⟩:=Aj (wAwS.setCell ⟨h,6,N⟩ vw)
    have sw:∀b,vw.ownBlock=M b->v.kv.ownBlock=M b\/wLwS.heap.size<=b:=λb q=>by
     exact qfo
    have E6:wLwS.grownBy wAwS v.kv.ownBlock:=by rw[EXV.o];exact ae
    have aq:wAwS.ownsRow W0.heap.size 9 1 vw (st++[nm]).length (Av (st++[nm])):=by
     rw[List.length_append,List.length_singleton,EXL.o,show Av (st++[nm])=Av (st)++[S nm] from qah];exact ah
    have HG:=Ad (ri.o.growK Q2 aq E6 sw);rw[eSwS]at HG ⊢;clear eSwS eLwS ah ae th sw E6 aq;have oe:=Ad HG.o.1;have sr:=Ad (Dc.trans (Dc.of_below kj.o bp) HG.o.2);have NOHQ:=Ad (sr.o.no (Ag HQ.o) HNQ.o);replace HQ:=Ad (sr.o.blk HQ.o HNQ.o);replace HF:=Ad (HF.o.trans sr.o);replace HB:=Ad (HB.o.trans sr.o.bel);replace bp:W0.heap.size<=wS.heap.size:=Nat.le_trans bp sr.o.bel.size;clear HG sr ri ni HL EXV EXL kj oq eL0wS;obtain⟨vK,evK⟩:=Aj ((⟨v.tx,v.qv,v.mv,vw,v.nv,v.ev⟩:Hv));rw[evK]at HF oe NOHQ;have HNQK:=NOHQ;clear evK HS NOHQ;(have htc:Dh ts ms st+1<=Dh ts ms (st++[nm]):=by have:=Yk (st:=st) (ms:=ms) HIL.o (by rw[sq.o];exact HFD.o) (by rw[sq.o];exact HNH.o);rwa [sq.o]at this);have I2:Hd (Fy ss ts ms (st++[nm])):=HI.o.push HFD.o F7.o;have nr:s.R.length<=2000:=HK.o.2.1;(have HPH2:Hd (ms.length+200*s.R.length<=400200*Dh ts ms (st++[nm])):=by have:=HPH.o;show _<=_;omega);(have HCN2:Hd (Pf ts ms s (st++[nm])):=by have:=HCN.o;show _<=_;unfold Pf at this;rw[List.length_append,List.length_singleton];omega);have vh:=Ad (HE.o.v.pr i HIL.o);obtain⟨bt,ot,eta,t1,a',ai,t2,r3⟩:=HE.o.rt i HIL.o;subst eta;have HXC:=Ad (HE.o.xc i);have HMAD:Hd (∀ms' s' d,Ba ss ts n ms s (st++[nm]) (.work nm (tx ts i).code) ms' s' (.ok d)->Ba ss ts n ms s st (.make nm) (ms'++[(nm,d)]) s' (.ok d)):=λms' s' d q=>.made HFD.o HNH.o HNS.o HIL.o sq.o (by rw[EP.o];exact hp59) q;have HFEL:Hd (∀ms' s' b,Ba ss ts n ms s (st++[nm]) (.work nm (tx ts i).code) ms' s' (.bad b)->Ba ss ts n ms s st (.make nm) ms' s' (.bad b)):=λms' s' b q=>.fell HFD.o HNH.o HNS.o HIL.o sq.o (by rw[EP.o];exact hp59) q;have htS:wS.cell? ⟨bt,ot+i*2+1,N⟩=M (J a' (tx ts i).code.length ai):=Aa HB.o t2;have hiI:(i:Int)<(ts.length:Int):=zo HIL.o;have hM:=HIH.o (by rw[EP.o];exact hp59) nm;have HM:=Ad hM;clear hM HIH;generalize (tx ts i).code=is at *
    have HC0:Hd (Lp W0.heap.size W0 a' is):=⟨r3,λb off q=>by
     have:=(Eb vh.o).1;obtain⟨b',br,q',c1,_,_⟩:=r3 0 qb;rw[q]at q';cases q';exact World.block_lt_of_cell? _ _ c1⟩
    have hisl:is.length<=1048576:=zo (Eb vh.o);have HT0:=Ad t2;clear t1 t2 r3;have k1:=cK oe.o.blk 1;go_wp2_with fail;clear k1 htS;refine(try_any W0 h sa (M ⟨bt,ot,N⟩) c1 c2 n ss ts HE.o (st++[nm]) HM.o h1 h8 ms s vK a' ai is wS HB.o oe.o I2.o HK.o (HC0.o.belowB HB.o) hisl HPH2.o HCN2.o).mono ?_;rintro e w5 ⟨ms',s',a,bu,⟨c,t,r,v5,rfl,rfl,B3,ci,di⟩|⟨v5,rfl,rfl,ci,di⟩|⟨bb,nb,rfl,rfl,ci,rv⟩⟩;rotate_left 1;rotate_left 1
    ·have ll:=Ad (HFEL.o _ _ _ (.tfell bu))
     have kt:=Ad ci;replace HQ:=Ad (kt.o.blk HQ.o HNQK.o);replace HF:=Ad (HF.o.trans kt.o);replace HB:=Ad (HB.o.trans kt.o.bel);replace bp:W0.heap.size<=w5.heap.size:=Nat.le_trans bp kt.o.bel.size;have HD5:=Ad rv;clear bu ci rv
     go_upto_region 21 with fail
     obtain⟨RR,eRR⟩:=Aj w5.heap.size;obtain⟨w6,e6⟩:=Aj (w5.alloc (O #[I 0,ze,nS] 121));have bz:Bw w5 w6:=qaw;rw[e6]
     try rw[eRR]
     clear e6;have HD6:=Ad (HD5.o.frx bz);replace HQ:=Ad (Af HQ.o bz);replace HF:=Ad (HF.o.trans (Dc.of_below bz bp));clear bz kt eRR;have HD7:=Ad (HD6.o.less);obtain⟨k9,k10,hhl⟩:=HD7.o.cells;obtain⟨z0,z1,z2,zf⟩:=Dx HQ.o;go_wp2_with fail;obtain⟨y0,y1,y2,_⟩:=Dx (Bp HQ.o (I (Ja bb)) ze nS);exact bR (v:=G #[I (Ja bb),ze,nS]) qaq rfl ⟨_,_,_,ll.o,Or.inr ⟨bb,_,rfl,rfl,HF.o.set3 hQW hBQ _ _ _,HD7.o.set3 ⟨_,HQ.o⟩ qd qd _ _ _⟩⟩
    ·obtain⟨i1,i2,i3,i4⟩:=Ba.inv HE.o.v bu I2.o HK.o (Nat.le_refl _) (λb q=>qw)
     have xd:=Ba.cost HE.o.v bu I2.o HK.o (Nat.le_refl _) (λb q=>qw);simp only[Pe]at xd;have E9:=Ba.cntM HE.o.v bu I2.o HK.o (Nat.le_refl _) (λb q=>qw) rfl HCN2.o;unfold Pf at E9;have htl2:=Nat.le_trans (Pn ts ms' (st++[nm])) HE.o.l2;have htl3:=Nat.le_trans (Pn ts ms (st++[nm])) HE.o.l2;have hml2:ms'.length<=200000000:=zo EM.o;have hxl2:s'.held.length<=200:=qb;have ll:=Ad (HMAD.o _ _ _ (.held bu));have kt:=Ad ci;have M8:=Ad (kt.o.no (Ag HQ.o) HNQK.o);replace HQ:=Ad (kt.o.blk HQ.o HNQK.o);replace HF:=Ad (HF.o.trans kt.o);replace HB:=Ad (HB.o.trans kt.o.bel);replace bp:W0.heap.size<=w5.heap.size:=Nat.le_trans bp kt.o.bel.size;have ja:=Ad di;clear bu ci di i1 i2 i3 i4 xd E9
     go_upto_region 21 with fail
     obtain⟨RR,eRR⟩:=Aj w5.heap.size;obtain⟨w6,e6⟩:=Aj (w5.alloc (O #[I c,S t,nS] 121));have bz:Bw w5 w6:=qaw;have jo:Hd (w6.heap[RR]?=M (O #[I c,S t,nS] 121 (0,0))):=qcs;rw[e6]
     try rw[eRR]
     clear e6;have HNR:Hd (¬ Cj h v5 RR):=ja.o.not qb;have lp:=Ad (ja.o.bl bz);replace HQ:=Ad (Af HQ.o bz);replace HF:=Ad (HF.o.trans (Dc.of_below bz bp));replace HB:=Ad (HB.o.trans (bz.mono bp));replace bp:W0.heap.size<=w6.heap.size:=Nat.le_trans bp bz.size;clear bz kt eRR;clear ja
     go_upto_region 22 with fail
     obtain⟨LwE,F5⟩:=Aj w6.heap.size;obtain⟨wLwE,eLwE⟩:=Aj (w6.alloc (O #[S nm] 9));have ib:=aB eLwE;have HL:=Ad (nW eLwE F5);have kj:=Ad ib;clear ib;have ri:=Ad (lp.o.bl kj.o);obtain⟨xa,xc,exv⟩:=Ax ri.o.held;obtain⟨xl,exl⟩:=Aj ((s'.held).length);have EXL:=Ad exl;rw[exl]at exv;have EXV:=Ad exv;have yj:=ri.o.held;rw[exv,exl]at yj;have ni:=Ad yj;(have kx:w6.cell? ⟨h,8,N⟩=M (J xa xl xc):=by rw[cH lp.o.blk,←exv];rfl);(have oq:xl<=1000:=by rw[←exl];omega);clear exv yj exl;have Q2:W0.heap.size<=wLwE.heap.size:=Nat.le_trans bp kj.o.size
     go_upto_region 26 with(first|(at_builtin;refine wpList_append_own_at _ rfl (.tmp 141) (.tmp 143) 22 rfl W0.heap.size 9 i0 ze 1 16 underlying22 hi9 bo bm cm rfl qd (J xa xl xc) xl _ rfl ni.o ⟨LwE,0,N⟩ 1 1 [S nm] rfl rfl (World.news_of_block (cs:=#[S nm]) HL.o) qaf qm qb Q2 ?_;intro vw wAwE ah ae dp th;clear dp;obtain⟨ya,yc,evw⟩:=Ax ah;subst evw;have hnh:=Ae ni.o qd ri.o.blk;have B4:=Bx ri.o.blk ae hnh;have kxA:wAwE.cell? ⟨h,8,N⟩=M _:=qhh;have kfA:∀j,wAwE.frozen? ⟨h,j,N⟩=false:=(λj=>fH B4 j);clear B4 hnh kx))
     clear kxA kfA;obtain⟨vw,evw⟩:=Aj (Value.slice ya (xl+1) yc);rw[evw]at ah th ⊢;clear evw
     try clear k6 d60
     obtain⟨wE,eSwE⟩:=Aj (wAwE.setCell ⟨h,8,N⟩ vw)
     have sw:∀b,vw.ownBlock=M b->v5.ev.ownBlock=M b\/wLwE.heap.size<=b:=λb q=>by
      exact qfo
     have E6:wLwE.grownBy wAwE v5.ev.ownBlock:=by rw[EXV.o];exact ae
     have aq:wAwE.ownsRow W0.heap.size 9 1 vw (s'.held++[nm]).length (Av (s'.held++[nm])):=by
      rw[List.length_append,List.length_singleton,EXL.o,show Av (s'.held++[nm])=Av (s'.held)++[S nm] from qah];exact ah
     have HG:=Ad (ri.o.growE Q2 aq E6 sw);rw[eSwE]at HG ⊢;clear eSwE eLwE ah ae th sw E6 aq;have oe:=Ad HG.o.1;have sr:=Ad (Dc.trans (Dc.of_below kj.o bp) HG.o.2);have NOHQ:=Ad (sr.o.no (Ag HQ.o) M8.o);have NOHRR:=Ad (sr.o.no (Ag jo.o) HNR.o);replace HQ:=Ad (sr.o.blk HQ.o M8.o);replace jo:=Ad (sr.o.blk jo.o HNR.o);replace HF:=Ad (HF.o.trans sr.o);replace bp:W0.heap.size<=wE.heap.size:=Nat.le_trans bp sr.o.bel.size;clear HG sr ri ni HL EXV EXL kj oq F5;obtain⟨vE,evE⟩:=Aj ((⟨v5.tx,v5.qv,v5.mv,v5.kv,v5.nv,vw⟩:Hv));rw[evE]at HF oe NOHQ NOHRR;clear evE;have k9:=cK oe.o.blk 9
     go_upto_region 28 with fail
     clear k9;obtain⟨ka2,S4,io⟩:=Ax oe.o.stk;rw[List.length_append,List.length_singleton]at io;have pg:=oe.o.stk;rw[io,List.length_append,List.length_singleton]at pg;obtain⟨bk,eka,_⟩:=Cv pg (Ys (st:=st++[nm]) (i:=st.length) qbt);subst eka;(have T8:st.length+1<=S4:=by rcases pg.2 with⟨q,_⟩|⟨g,c,cur,q,_,_,q2,_⟩;cases q;cases q;exact q2);have EK2:=Ad io;clear io pg;have hhQ:h≠Q/\h≠RR:=⟨λq=>NOHQ.o (Or.inl q.symm),λq=>NOHRR.o (Or.inl q.symm)⟩;obtain⟨p1,ep1⟩:=Aj st.length;rw[ep1]at T8 EK2;have G6:IntKind.i64.wrap (p1:Int)=(p1:Int):=IntWalk.i64_in _ ⟨qb,qb⟩;have yk:(0:Int)<=(p1:Int):=qb;have hpk:(p1:Int)<=(S4:Int):=qb;refine Lt.begin 14 (λw'=>w'.cell? ⟨h,6,N⟩=M (J (p_ bk) (p1+1) S4)) qi ?_;obtain⟨wD,eD⟩:=Aj wE.drew;rw[eD];have dj:Bw wE wD:=qab;clear eD;replace oe:=Ad (oe.o.bl dj);replace HQ:=Ad (Af HQ.o dj);replace jo:=Ad (Af jo.o dj);replace HF:=Ad (HF.o.trans (Dc.of_below dj bp));have ia:(λw'=>w'.cell? ⟨h,6,N⟩=M (J (p_ bk) (p1+1) S4)) wD:=(by show _=_;rw[cH oe.o.blk,←EK2.o];rfl);replace bp:W0.heap.size<=wD.heap.size:=Nat.le_trans bp dj.size;change K 0 _
     iterate 12
      refine Lt.ti (v:=?_) ia ?_ ?_;rotate_left 1
      ·exact qdw
      simp only[gX]
     refine Lt.sp (i:=12) (λK hK=>?_);go_simp;refine hK.out _ _ (λ_=>ia) (λ_=>?_);clear hK K 
     try simp only[gX]
     refine Lt.ti (i:=13) (v:=?_) ia ?_ ?_;rotate_left 1
     ·exact qdw
     simp only[gX];have kf:=fZ oe.o.blk;(have k6:wD.cell? ⟨h,6,N⟩=M (J (p_ bk) (p1+1) S4):=by rw[cH oe.o.blk,←EK2.o];rfl);refine Lt.sp (i:=14) (λK hK=>?_);go_simp;refine hK.out _ _ (λh=>absurd rfl h) (λ_=>?_);clear hK K;refine Lt.done qi ?_ _;have n6:=oe.o.pop bp (by rw[EK2.o,ep1]);rw[ep1]at n6;obtain⟨V,eV⟩:=Aj (wD.setCell ⟨h,6,N⟩ (J (p_ bk) p1 S4));rw[eV]at n6 ⊢;(have HQV:Hd (V.heap[Q]?=M (O #[I 0,ze,nS] 121 (0,0))):=by show _=_;rw[←eV];exact Fk HQ.o (Ne.symm hhQ.1) _);(have Q8:Hd (V.heap[RR]?=M (O #[I c,S t,nS] 121 (0,0))):=by show _=_;rw[←eV];exact Fk jo.o (Ne.symm hhQ.2) _);have HNQV:=Ad (n6.2.no (Ag HQ.o) NOHQ.o);have bh:=Ad n6.1;have Z8:=Ad (HF.o.trans n6.2);have hBV:W0.heap.size<=V.heap.size:=Nat.le_trans bp n6.2.bel.size;clear n6 eV kf k6 oe HF HQ jo;obtain⟨x0,x1,x2⟩:=Bb Q8.o;go_wp2_with fail;clear x0 x1 x2;refine(Qd W0.heap.size h n _ _ ms' _ st _ nm ⟨c,t,[]⟩ _ V bh.o hBV qb).mono ?_;rintro e w9 ⟨rfl,v9,ci,di⟩;have W4:=Ad (ci.blk HQV.o HNQV.o);have HF9:=Ad (Z8.o.trans ci);have xj:=Ad di;clear ci di;obtain⟨z0,z1,z2,zf⟩:=Dx W4.o;go_wp2_with fail;obtain⟨y0,y1,y2,_⟩:=Dx (Bp W4.o (I c) (S t) nS);exact bR (v:=G #[I c,S t,nS]) qaq rfl ⟨_,_,_,ll.o,Or.inl ⟨⟨c,t,[]⟩,v9,rfl,rfl,HF9.o.set3 hQW hBQ _ _ _,xj.o.set3 ⟨_,W4.o⟩ qd _ _ _⟩⟩
    ·obtain⟨i1,i2,i3,i4⟩:=Ba.inv HE.o.v bu I2.o HK.o (Nat.le_refl _) (λb q=>qw)
     have xd:=Ba.cost HE.o.v bu I2.o HK.o (Nat.le_refl _) (λb q=>qw);simp only[Pe]at xd;have E9:=Ba.cntM HE.o.v bu I2.o HK.o (Nat.le_refl _) (λb q=>qw) rfl HCN2.o;have HI3:=Ad i1;have si:=Ad i2;have HCN3:=Ad E9;(have HPH3:Hd (ms'.length+200<=400200*Dh ts ms' (st++[nm])):=by have:=HPH.o;show _<=_;omega);have HTRY:=Ad bu;have kt:=Ad ci;have M8:=Ad (kt.o.no (Ag HQ.o) HNQK.o);replace HQ:=Ad (kt.o.blk HQ.o HNQK.o);replace HF:=Ad (HF.o.trans kt.o);replace HB:=Ad (HB.o.trans kt.o.bel);replace bp:W0.heap.size<=w5.heap.size:=Nat.le_trans bp kt.o.bel.size;have ja:=Ad di;clear bu ci di i1 i2 i3 i4 xd E9
     go_upto_region 21 with fail
     obtain⟨RR,eRR⟩:=Aj w5.heap.size;obtain⟨w6,e6⟩:=Aj (w5.alloc (O #[I 0,ze,nS] 121));have bz:Bw w5 w6:=qaw;have jo:Hd (w6.heap[RR]?=M (O #[I 0,ze,nS] 121 (0,0))):=qcs;rw[e6]
     try rw[eRR]
     clear e6;have hRQ:Q<RR:=zo (Ag HQ.o);(have hwR:w.heap.size<=RR:=by rw[←eRR];exact HF.o.bel.size);have Y7:W0.heap.size<=RR:=qb;have HNR:Hd (¬ Cj h v5 RR):=ja.o.not qb;have lp:=Ad (ja.o.bl bz);replace HQ:=Ad (Af HQ.o bz);replace HF:=Ad (HF.o.trans (Dc.of_below bz bp));replace HB:=Ad (HB.o.trans (bz.mono bp));replace bp:W0.heap.size<=w6.heap.size:=Nat.le_trans bp bz.size;clear bz kt eRR;clear ja;have k9:=cK lp.o.blk 9;have k1:=cK lp.o.blk 1;have htS:w6.cell? ⟨bt,ot+i*2+1,N⟩=M (J a' is.length ai):=Aa HB.o HT0.o;go_wp2_with fail;clear k9 k1 htS;refine(run5_any W0 h sa (M ⟨bt,ot,N⟩) c1 c2 n ss ts HE.o (st++[nm]) HM.o h1 h8 ms' s' v5 a' ai is w6 HB.o lp.o HI3.o si.o (HC0.o.belowB HB.o) vh.o HXC.o HPH3.o HCN3.o).mono ?_;rintro e w7 ⟨bv,s2,a2,bu,⟨d,v7,r,rfl,rfl,B3,ci,di⟩|⟨bb,nb,rfl,rfl,ci,rv⟩⟩;rotate_left 1
     ·have ll:=Ad (HFEL.o _ _ _ (.rfell HTRY.o bu))
      have HD7:=Ad rv;have kt:=Ad ci;replace HQ:=Ad (kt.o.blk HQ.o M8.o);replace jo:=Ad (kt.o.blk jo.o HNR.o);replace HF:=Ad (HF.o.trans kt.o);replace HB:=Ad (HB.o.trans kt.o.bel);replace bp:W0.heap.size<=w7.heap.size:=Nat.le_trans bp kt.o.bel.size;obtain⟨z0,z1,z2,zf⟩:=Dx jo.o
      go_upto_region 25 with fail
      clear z0 z1 z2 zf;have gw:=Ad (HD7.o.set3 ⟨_,jo.o⟩ qd qd (I 0) ze nS);replace HF:=Ad (HF.o.set3 hwR Y7 (I 0) ze nS);replace HQ:=Ad (Ql HQ.o (show Q≠RR from qb) (I 0) ze nS);replace HB:=Ad (((HB.o.setCell (p:=⟨RR,0,N⟩) Y7 (I 0)).setCell (p:=⟨RR,1,N⟩) Y7 ze).setCell (p:=⟨RR,2,N⟩) Y7 nS);replace jo:=Ad (Bp jo.o (I 0) ze nS);have zh:w7.heap.size<=(((w7.setCell ⟨RR,0,N⟩ (I 0)).setCell ⟨RR,1,N⟩ ze).setCell ⟨RR,2,N⟩ nS).heap.size:=qg;obtain⟨w8,e8⟩:=Aj (((w7.setCell ⟨RR,0,N⟩ (I 0)).setCell ⟨RR,1,N⟩ ze).setCell ⟨RR,2,N⟩ nS);rw[e8]at gw HF HQ HB jo zh ⊢;clear e8;replace bp:W0.heap.size<=w8.heap.size:=Nat.le_trans bp zh;clear zh kt;clear bu ci rv HD7;obtain⟨pre,ee,dy,hpk,hpe,hp7,⟨xs,D6,hxs2⟩,hpa⟩:=gw.o;rw[List.length_append,List.length_singleton]at hxs2;obtain⟨xa,xc,exv⟩:=Ax D6;subst exv;obtain⟨xl,exl⟩:=Aj xs.length;have EXL:=Ad exl;rw[exl]at D6 hxs2 hp7 hpa gw HF;obtain⟨L8,eL8⟩:=Aj w8.heap.size;obtain⟨wL,eL⟩:=Aj (w8.alloc (O #[S nm] 9));have ib:=aB eL;have HL:=Ad (nW eL eL8);have kj:=Ad ib;have ni:=Ad (Ac D6 ib);have M4:=Ad (Af hpk ib);have HDL:=Ad (gw.o.frx ib);(have kx:w8.cell? ⟨h,7,N⟩=M (J xa xl xc):=by rw[cH hpk,List.getElem?_toArray,List.getElem?_append_left qhg,List.getElem?_append_left qb];exact hp7);have oq:xl<=1000:=qb;have Q2:W0.heap.size<=wL.heap.size:=Nat.le_trans bp ib.size;(have hk20:(pre++[Value.bool true]++ee).length=20:=by rw[List.length_append,List.length_append,dy,hpe.code.1];rfl);have HXS2:=Ad hxs2;clear ib hpk D6 hpe hpa hxs2 hp7 exl
      go_upto_region 26 with(first|(at_builtin;refine wpList_append_own_at _ rfl (.tmp 170) (.tmp 172) 22 rfl W0.heap.size 9 i0 ze 1 16 underlying22 hi9 bo bm cm rfl qd (J xa xl xc) xl _ rfl ni.o ⟨L8,0,N⟩ 1 1 [S nm] rfl rfl (World.news_of_block (cs:=#[S nm]) HL.o) qaf qm qb Q2 ?_;intro vw wA ah ae dp th;clear dp;obtain⟨ya,yc,evw⟩:=Ax ah;subst evw;have hnh:=Ae ni.o qd M4.o;have B4:=Bx M4.o ae hnh;have kxA:wA.cell? ⟨h,7,N⟩=M ((pre++[Value.bool true]++ee).toArray[7]'(by simp only[List.size_toArray];omega)):=(by rw[cH B4];exact Array.getElem?_eq_getElem _);have kfA:∀j,wA.frozen? ⟨h,j,N⟩=false:=(λj=>fH B4 j);clear B4 hnh kx))
      clear kxA kfA;(have fu:wA.ownsRow W0.heap.size 9 1 (J ya (xl+1) yc) (xs.length+1) (Av xs++[S nm]):=by rw[EXL.o];exact ah);(have hrw3:wL.ownsRow W0.heap.size 9 1 (J xa xl xc) xs.length (Av xs):=by rw[EXL.o];exact ni.o);(have HDL2:Fz W0.heap.size h (st.length+1) (J xa xl xc) wL bb:=by have:=HDL.o;rwa [List.length_append,List.length_singleton]at this);obtain⟨hd9,hf9⟩:=HDL2.grow HHB.o Q2 hrw3 (by rw[EXL.o];have:=HXS2.o;omega) fu ae th;obtain⟨w9,e9⟩:=Aj (wA.setCell ⟨h,7,N⟩ (J ya (xl+1) yc));rw[e9]at hd9 hf9 ⊢;have hhQ:Q≠h:=λq=>M8.o (Or.inl q)
      have hQ9:w9.heap[Q]?=M (O #[I 0,ze,nS] 121 (0,0)):=by
       have a1:=Af HQ.o kj.o;have a2:=Bx a1 ae (Ae ni.o qd a1);rw[←e9];exact Fk a2 hhQ _
      have W4:=Ad hQ9;have HD9:=Ad hd9;have HF9:=Ad ((HF.o.trans (Dc.of_below kj.o bp)).trans hf9);clear hd9 hf9 hQ9 e9 eL ah ae th fu hrw3 HDL2 hk20;obtain⟨k9,k10,hhl⟩:=HD9.o.cells;obtain⟨z0,z1,z2,zf⟩:=Dx W4.o;go_wp2_with fail;obtain⟨y0,y1,y2,_⟩:=Dx (Bp W4.o (I (Ja bb)) ze nS);exact bR (v:=G #[I (Ja bb),ze,nS]) qaq rfl ⟨_,_,_,ll.o,Or.inr ⟨bb,_,rfl,rfl,HF9.o.set3 hQW hBQ _ _ _,HD9.o.set3 ⟨_,W4.o⟩ qd qd _ _ _⟩⟩
     obtain⟨dc,dt,dl⟩:=d;have hjob:JobB s' (.run is [] []):=⟨⟨vh.o,λi hi=>qai,rfl⟩,qg,λg hg=>by simp at hg⟩;have xd:=Ba.cost HE.o.v bu HI3.o si.o hjob (λb q=>qw);simp only[Pe]at xd;have E9:=Ba.cntM HE.o.v bu HI3.o si.o hjob (λb q=>qw) rfl HCN3.o;unfold Pf at E9;have htl4:=Nat.le_trans (Pn ts bv (st++[nm])) HE.o.l2;have hml3:bv.length<=300000000:=zo HPH3.o;have hxl2:s2.ran.length<=200:=qb;have ll:=Ad (HMAD.o _ _ _ (.ran HTRY.o bu));have A1:=Ad di;have kt:=Ad ci;have NQ7:=Ad (kt.o.no (Ag HQ.o) M8.o);have NR7:=Ad (kt.o.no (Ag jo.o) HNR.o);replace HQ:=Ad (kt.o.blk HQ.o M8.o);replace jo:=Ad (kt.o.blk jo.o HNR.o);replace HF:=Ad (HF.o.trans kt.o);replace HB:=Ad (HB.o.trans kt.o.bel);replace bp:W0.heap.size<=w7.heap.size:=Nat.le_trans bp kt.o.bel.size;obtain⟨z0,z1,z2,zf⟩:=Dx jo.o
     go_upto_region 25 with fail
     clear z0 z1 z2 zf;have gw:=Ad (A1.o.set3 ⟨_,jo.o⟩ qd (I dc) (S dt) nS);replace HF:=Ad (HF.o.set3 hwR Y7 (I dc) (S dt) nS);replace HQ:=Ad (Ql HQ.o (show Q≠RR from qb) (I dc) (S dt) nS);replace HB:=Ad (((HB.o.setCell (p:=⟨RR,0,N⟩) Y7 (I dc)).setCell (p:=⟨RR,1,N⟩) Y7 (S dt)).setCell (p:=⟨RR,2,N⟩) Y7 nS);replace jo:=Ad (Bp jo.o (I dc) (S dt) nS);have zh:w7.heap.size<=(((w7.setCell ⟨RR,0,N⟩ (I dc)).setCell ⟨RR,1,N⟩ (S dt)).setCell ⟨RR,2,N⟩ nS).heap.size:=qg;obtain⟨w8,e8⟩:=Aj (((w7.setCell ⟨RR,0,N⟩ (I dc)).setCell ⟨RR,1,N⟩ (S dt)).setCell ⟨RR,2,N⟩ nS);rw[e8]at gw HF HQ HB jo zh ⊢;clear e8;replace bp:W0.heap.size<=w8.heap.size:=Nat.le_trans bp zh;clear zh kt;clear bu ci di xd E9 hjob A1 HTRY lp;obtain⟨LwE,F5⟩:=Aj w8.heap.size;obtain⟨wLwE,eLwE⟩:=Aj (w8.alloc (O #[S nm] 9));have ib:=aB eLwE;have HL:=Ad (nW eLwE F5);have kj:=Ad ib;clear ib;have ri:=Ad (gw.o.bl kj.o);obtain⟨xa,xc,exv⟩:=Ax ri.o.ran;obtain⟨xl,exl⟩:=Aj ((s2.ran).length);have EXL:=Ad exl;rw[exl]at exv;have EXV:=Ad exv;have yj:=ri.o.ran;rw[exv,exl]at yj;have ni:=Ad yj;(have kx:w8.cell? ⟨h,7,N⟩=M (J xa xl xc):=by rw[cH gw.o.blk,←exv];rfl);(have oq:xl<=1000:=by rw[←exl];omega);clear exv yj exl;have Q2:W0.heap.size<=wLwE.heap.size:=Nat.le_trans bp kj.o.size
     go_upto_region 26 with(first|(at_builtin;refine wpList_append_own_at _ rfl (.tmp 170) (.tmp 172) 22 rfl W0.heap.size 9 i0 ze 1 16 underlying22 hi9 bo bm cm rfl qd (J xa xl xc) xl _ rfl ni.o ⟨LwE,0,N⟩ 1 1 [S nm] rfl rfl (World.news_of_block (cs:=#[S nm]) HL.o) qaf qm qb Q2 ?_;intro vw wAwE ah ae dp th;clear dp;obtain⟨ya,yc,evw⟩:=Ax ah;subst evw;have hnh:=Ae ni.o qd ri.o.blk;have B4:=Bx ri.o.blk ae hnh;have kxA:wAwE.cell? ⟨h,7,N⟩=M _:=qhh;have kfA:∀j,wAwE.frozen? ⟨h,j,N⟩=false:=(λj=>fH B4 j);clear B4 hnh kx))
     clear kxA kfA;obtain⟨vw,evw⟩:=Aj (Value.slice ya (xl+1) yc);rw[evw]at ah th ⊢;clear evw
     try clear k6 d60
     obtain⟨wE,eSwE⟩:=Aj (wAwE.setCell ⟨h,7,N⟩ vw)
     have sw:∀b,vw.ownBlock=M b->v7.nv.ownBlock=M b\/wLwE.heap.size<=b:=λb q=>by
      exact qfo
     have E6:wLwE.grownBy wAwE v7.nv.ownBlock:=by rw[EXV.o];exact ae
     have aq:wAwE.ownsRow W0.heap.size 9 1 vw (s2.ran++[nm]).length (Av (s2.ran++[nm])):=by
      rw[List.length_append,List.length_singleton,EXL.o,show Av (s2.ran++[nm])=Av (s2.ran)++[S nm] from qah];exact ah
     have HG:=Ad (ri.o.growN Q2 aq E6 sw);rw[eSwE]at HG ⊢;clear eSwE eLwE ah ae th sw E6 aq;have oe:=Ad HG.o.1;have sr:=Ad (Dc.trans (Dc.of_below kj.o bp) HG.o.2);have NOHQ:=Ad (sr.o.no (Ag HQ.o) NQ7.o);have NOHRR:=Ad (sr.o.no (Ag jo.o) NR7.o);replace HQ:=Ad (sr.o.blk HQ.o NQ7.o);replace jo:=Ad (sr.o.blk jo.o NR7.o);replace HF:=Ad (HF.o.trans sr.o);replace bp:W0.heap.size<=wE.heap.size:=Nat.le_trans bp sr.o.bel.size;clear HG sr ri ni HL EXV EXL kj oq F5;obtain⟨vE,evE⟩:=Aj ((⟨v7.tx,v7.qv,v7.mv,v7.kv,vw,v7.ev⟩:Hv));rw[evE]at HF oe NOHQ NOHRR;clear evE;have k9:=cK oe.o.blk 9
     go_upto_region 28 with fail
     clear k9;obtain⟨ka2,S4,io⟩:=Ax oe.o.stk;rw[List.length_append,List.length_singleton]at io;have pg:=oe.o.stk;rw[io,List.length_append,List.length_singleton]at pg;obtain⟨bk,eka,_⟩:=Cv pg (Ys (st:=st++[nm]) (i:=st.length) qbt);subst eka;(have T8:st.length+1<=S4:=by rcases pg.2 with⟨q,_⟩|⟨g,c,cur,q,_,_,q2,_⟩;cases q;cases q;exact q2);have EK2:=Ad io;clear io pg;have hhQ:h≠Q/\h≠RR:=⟨λq=>NOHQ.o (Or.inl q.symm),λq=>NOHRR.o (Or.inl q.symm)⟩;obtain⟨p1,ep1⟩:=Aj st.length;rw[ep1]at T8 EK2;have G6:IntKind.i64.wrap (p1:Int)=(p1:Int):=IntWalk.i64_in _ ⟨qb,qb⟩;have yk:(0:Int)<=(p1:Int):=qb;have hpk:(p1:Int)<=(S4:Int):=qb;refine Lt.begin 14 (λw'=>w'.cell? ⟨h,6,N⟩=M (J (p_ bk) (p1+1) S4)) qi ?_;obtain⟨wD,eD⟩:=Aj wE.drew;rw[eD];have dj:Bw wE wD:=qab;clear eD;replace oe:=Ad (oe.o.bl dj);replace HQ:=Ad (Af HQ.o dj);replace jo:=Ad (Af jo.o dj);replace HF:=Ad (HF.o.trans (Dc.of_below dj bp));have ia:(λw'=>w'.cell? ⟨h,6,N⟩=M (J (p_ bk) (p1+1) S4)) wD:=(by show _=_;rw[cH oe.o.blk,←EK2.o];rfl);replace bp:W0.heap.size<=wD.heap.size:=Nat.le_trans bp dj.size;change K 0 _
     iterate 12
      refine Lt.ti (v:=?_) ia ?_ ?_;rotate_left 1
      ·exact qdw
      simp only[gX]
     refine Lt.sp (i:=12) (λK hK=>?_);go_simp;refine hK.out _ _ (λ_=>ia) (λ_=>?_);clear hK K 
     try simp only[gX]
     refine Lt.ti (i:=13) (v:=?_) ia ?_ ?_;rotate_left 1
     ·exact qdw
     simp only[gX];have kf:=fZ oe.o.blk;(have k6:wD.cell? ⟨h,6,N⟩=M (J (p_ bk) (p1+1) S4):=by rw[cH oe.o.blk,←EK2.o];rfl);refine Lt.sp (i:=14) (λK hK=>?_);go_simp;refine hK.out _ _ (λh=>absurd rfl h) (λ_=>?_);clear hK K;refine Lt.done qi ?_ _;have n6:=oe.o.pop bp (by rw[EK2.o,ep1]);rw[ep1]at n6;obtain⟨V,eV⟩:=Aj (wD.setCell ⟨h,6,N⟩ (J (p_ bk) p1 S4));rw[eV]at n6 ⊢;(have HQV:Hd (V.heap[Q]?=M (O #[I 0,ze,nS] 121 (0,0))):=by show _=_;rw[←eV];exact Fk HQ.o (Ne.symm hhQ.1) _);(have Q8:Hd (V.heap[RR]?=M (O #[I dc,S dt,nS] 121 (0,0))):=by show _=_;rw[←eV];exact Fk jo.o (Ne.symm hhQ.2) _);have HNQV:=Ad (n6.2.no (Ag HQ.o) NOHQ.o);have bh:=Ad n6.1;have Z8:=Ad (HF.o.trans n6.2);have hBV:W0.heap.size<=V.heap.size:=Nat.le_trans bp n6.2.bel.size;clear n6 eV kf k6 oe HF HQ jo;obtain⟨x0,x1,x2⟩:=Bb Q8.o;go_wp2_with fail;clear x0 x1 x2;refine(Qd W0.heap.size h n _ _ bv _ st _ nm ⟨dc,dt,dl⟩ _ V bh.o hBV qb).mono ?_;rintro e w9 ⟨rfl,v9,ci,di⟩;have W4:=Ad (ci.blk HQV.o HNQV.o);have HF9:=Ad (Z8.o.trans ci);have xj:=Ad di;clear ci di;obtain⟨z0,z1,z2,zf⟩:=Dx W4.o;go_wp2_with fail;obtain⟨y0,y1,y2,_⟩:=Dx (Bp W4.o (I dc) (S dt) nS);exact bR (v:=G #[I dc,S dt,nS]) qaq rfl ⟨_,_,_,ll.o,Or.inl ⟨⟨dc,dt,dl⟩,v9,rfl,rfl,HF9.o.set3 hQW hBQ _ _ _,xj.o.set3 ⟨_,W4.o⟩ qd _ _ _⟩⟩
theorem make5_all(W0:E)(h:X)(sa ta:Option Addr)(c1 c2 n:X)(ss:L S2)(ts:L T2)(hE:He W0 sa ta ss ts)(h1:1<=n)(h8:n<=8):∀(k:X)(st:L By),60-st.length=k->st.length<=60->Ob W0 h (J sa ss.length c1) (J ta ts.length c2) n ss ts st:=by
 intro k
 induction k with
 | zero=>intro st e1 e2;exact Uq W0 h sa ta c1 c2 n ss ts hE h1 h8 st e2 (λq=>qb)
 | succ k ih=>intro st e1 e2;exact Uq W0 h sa ta c1 c2 n ss ts hE h1 h8 st e2 (λq nm=>ih (st++[nm]) qbt qbt)
structure Ev (w:E) (B:X) (tx qv:Z) (T:L By) (R:L T3):Prop where
 txt:w.ownsRow B 9 1 tx T.length (Av T)
 txa:∃g p,tx=J (p_ g) T.length p
 rcs:Fx w B qv R
theorem Ht.recO{lo hi:X}{rs:L T3}(h:Ht w lo hi v rs):Fx w lo v rs:=by
 obtain⟨xs,cv,lv,q⟩:=h;exact⟨xs,cv,lv,q.row.own,q.fil,λi hi=>by obtain⟨ys,a,b⟩:=q.code i hi;exact⟨ys,a.own,b⟩,λi hi=>by obtain⟨ys,a,b⟩:=q.look i hi;exact⟨ys,a.own,b⟩,q.apc,q.apl⟩
theorem Fx.bl(h:Fx w B v R)(hb:Bw w w'):Fx w' B v R:=by
 obtain⟨xs,cv,lv,q⟩:=h;exact⟨xs,cv,lv,q.bl hb⟩
theorem Fx.base(h:Fx w B v R)(hB:B'<=B):Fx w B' v R:=by
 obtain⟨xs,cv,lv,r⟩:=h;exact⟨xs,cv,lv,Ah r.row hB,r.fil,λi hi=>by obtain⟨ys,a,b⟩:=r.code i hi;exact⟨ys,Ah a hB,b⟩,λi hi=>by obtain⟨ys,a,b⟩:=r.look i hi;exact⟨ys,Ah a hB,b⟩,r.apc,r.apl⟩
theorem Ev.bl{tx:Z}(h:Ev w B tx qv T R)(hb:Bw w w'):Ev w' B tx qv T R:=⟨Ac h.txt hb,h.txa,h.rcs.bl hb⟩
theorem Ev.base{tx:Z}(h:Ev w B tx qv T R)(hB:B'<=B):Ev w B' tx qv T R:=⟨Ah h.txt hB,h.txa,h.rcs.base hB⟩
theorem Gb.start{tx:Z}(hB:B<=h)(hk:w.heap[h]?=M (O #[sv,tv,I n,tx,qv,nS,nS,nS,nS,F false,I 0,ze,nS,I 0,nS,nS,nS,nS,ze,ze] 105 (0,0)))(hs:Ev w B tx qv T R):Gb B h sv tv n w [] ⟨T,R,[],[]⟩ [] ⟨tx,qv,nS,nS,nS,nS⟩:=
 ⟨hB,hk,hs.txt,hs.rcs,⟨[],World.ownsRow_nil _ _ _ _,λi hi=>qai⟩,World.ownsRow_nil _ _ _ _,World.ownsRow_nil _ _ _ _,World.ownsRow_nil _ _ _ _,hs.txa,λb q=>⟨(λq=>qw),(λq=>qw),(λq=>qw)⟩,(λb q=>qw),(λb q=>qw)⟩
theorem Rl.bl{a:Option Addr}{is:L T3}(h:Rl w a is)(hb:Bw w w'):Rl w' a is:=λi hi=>by
 obtain⟨b,off,e,ca,cc,la,lc,B2,us,c1,c2,c3,r1,r0,r2,r3⟩:=h i hi;exact⟨b,off,e,ca,cc,la,lc,B2,us,Aa hb c1,Aa hb c2,Aa hb c3,r1.bl hb,r0,Ac r2 hb,r3⟩
theorem Gb.notB{ms:Mm}{s:Sb}{st:L By}{v:Hv}(k:Gb B h sv tv n w ms s st v){b T:X}(hb:w.heap[b]?=M (O cs T (0,0)))(h1:T≠105)(h2:T≠95)(h3:T≠166)(h4:T≠9):¬ Cj h v b:=by
 obtain⟨xs,m1,m2⟩:=k.made;obtain⟨ys,cv,lv,r⟩:=k.rcs;rintro(q|q|q|q|q|q)
 ·subst q
  have hk:=k.blk;rw[hb]at hk;injection hk with hk;injection hk with _ h5;exact h1 h5
 ·exact Ae r.row h2 hb q
 ·exact Ae m1 h3 hb q
 ·exact Ae k.stk h4 hb q
 ·exact Ae k.ran h4 hb q
 ·exact Ae k.held h4 hb q
theorem Jz{e sz:X}{u:Z}{xs:L Z}(ho:w.ownsRow B e sz u n xs)(hh:∀x∈l,x.1=h)(hk:w.heap[h]?=M (O cs 105 (0,0)))(he:105≠e):(Be w l).ownsRow B e sz u n xs:=Al ho λb q=>Es l w λx hx r=>Ae ho he hk (by rw[←hh x hx,←r];exact q)
theorem Ev.setL{tx:Z}(k:Ev w B tx qv T R)(hh:∀x∈l,x.1=h)(hk:w.heap[h]?=M (O cs 105 (0,0))):Ev (Be w l) B tx qv T R:=by
 obtain⟨xs,cv,lv,r⟩:=k.rcs;exact⟨Jz k.txt hh hk qd,k.txa,xs,cv,lv,Jz r.row hh hk qd,r.fil,λi hi=>by obtain⟨ys,a,b⟩:=r.code i hi;exact⟨ys,Jz a hh hk qd,b⟩,λi hi=>by obtain⟨ys,a,b⟩:=r.look i hi;exact⟨ys,Jz a hh hk qd,b⟩,r.apc,r.apl⟩
theorem len9{pre:L Z}(h:pre.length=9):∃a0 a1 a2 a3 a4 a5 a6 a7 a8,pre=[a0,a1,a2,a3,a4,a5,a6,a7,a8]:=by
 match pre,h with
 | [a0,a1,a2,a3,a4,a5,a6,a7,a8],_=>exact⟨a0,a1,a2,a3,a4,a5,a6,a7,a8,rfl⟩
theorem Oh.shape(h:Oh B w b e):∃x y cv A B',e=[x,y,cv,I 0,nS,nS,nS,nS,A,B']/\∀c,cv.ownBlock=M c->c<w.heap.size:=by
 cases b with
 | circle ch=>obtain⟨cv,k,rfl⟩:=h;exact⟨_,_,_,_,_,rfl,λc q=>(k.lt c q).2⟩
 | deep nm=>cases h;exact⟨_,_,_,_,_,rfl,λc q=>qw⟩
 | clash A B=>cases h;exact⟨_,_,_,_,_,rfl,λc q=>qw⟩
 | full=>cases h;exact⟨_,_,_,_,_,rfl,λc q=>qw⟩
theorem Oh.setL(k:Oh B w b e)(hh:∀x∈l,x.1=h)(hk:w.heap[h]?=M (O cs 105 (0,0))):Oh B (Be w l) b e:=by
 cases b with
 | circle ch=>obtain⟨cv,a,b⟩:=k;exact⟨cv,Jz a hh hk qd,b⟩
 | deep nm=>exact k
 | clash A B=>exact k
 | full=>exact k
def WorkE(B h n:X)(ss:L S2)(ts:L T2)(T:L By)(R:L T3)(nm:By)(w':E):Prop:=
 ∃ms' s' a,Ba ss ts n [] ⟨T,R,[],[]⟩ [] (.make nm) ms' s' a/\∃pre e,pre.length=10/\w'.heap[h]?=M (O ((pre++e).toArray) 105 (0,0))/\
  ((∃d tx qv nv ev,a=.ok d/\e=[I d.c,S d.t,nS,I n,tx,qv,nv,ev,ze,ze]/\Ev w' B tx qv s'.T s'.R/\w'.ownsRow B 9 1 nv s'.ran.length (Av s'.ran)/\w'.ownsRow B 9 1 ev s'.held.length (Av s'.held)/\(∀b,tx.ownBlock=M b->nv.ownBlock≠M b/\ev.ownBlock≠M b)/\(∀b,nv.ownBlock=M b->ev.ownBlock≠M b))\/
   (∃b x y cv tx qv A B',a=.bad b/\Oh B w' b [x,y,cv,I 0,nS,nS,nS,nS,A,B']/\e=[x,y,cv,I n,tx,qv,nS,nS,A,B']/\Ev w' B tx qv T R/\(∀b,cv.ownBlock=M b->tx.ownBlock≠M b)))
theorem l5Work_any(sa ta qa:Option Addr)(c1 c2 n tb tc qc:X)(ss:L S2)(ts:L T2)(T:L By)(R:L T3)(nm:By)(w:E)(hE:He w sa ta ss ts)(h1:1<=n)(h8:n<=8)(cw:Ca w (p_ tb) T)(hrp:Rl w qa R)(fw:Hx n T R)(de:Ar nm)(hcp:T.length<=1048576/\R.length<=2000/\∀i,i<R.length→1≤(qx R i).code.length∧(qx R i).code.length≤1048576∧(qx R i).looks.length≤1048576):Calls prog 51 #[G #[I n,J (p_ tb) T.length tc,J qa R.length qc],G #[J sa ss.length c1,J ta ts.length c2],S nm] w λe w'=>Bw w w'/\∃h,w.heap.size<=h/\e=.returned (.pointer (p_ h))/\WorkE w.heap.size h n ss ts T R nm w':=by
 obtain⟨W,eW⟩:=Aj ((w.alloc (O #[I n,J (p_ tb) T.length tc,J qa R.length qc] 35)).alloc (O #[J sa ss.length c1,J ta ts.length c2] 43));have HW:Hd (Bw w W):=by show Below _ _ _;rw[←eW];exact(aN _ _).alloc qg _
 obtain⟨Q,eQ⟩:=Aj w.heap.size;have HQ:Hd (W.heap[Q]?=M (O #[I n,J (p_ tb) T.length tc,J qa R.length qc] 35 (0,0))):=qgr
 have HP:Hd (W.heap[Q+1]?=M (O #[J sa ss.length c1,J ta ts.length c2] 43 (0,0))):=by
  show _=_;rw[←eW,←eQ];have:=Hj (w.alloc (O #[I n,J (p_ tb) T.length tc,J qa R.length qc] 35)) (O #[J sa ss.length c1,J ta ts.length c2] 43)
  rwa [show(w.alloc (O #[I n,J (p_ tb) T.length tc,J qa R.length qc] 35)).heap.size=w.heap.size+1 from qg]at this
 have HCPY:Hd (∀V:E,Bw w V->Calls prog 26 #[G #[I n,J (p_ tb) T.length tc,J qa R.length qc]] V λe w'=>Bw V w'/\∃tx qv,e=.returned (G #[I n,tx,qv])/\Ev w' V.heap.size tx qv T R):=λV hV=>by
  refine(Lu n tb 0 tc qa qc T R V (cw.bl hV) (hrp.bl hV) hcp.1 (zo hcp.2.1) (λi hi=>(hcp.2.2 i hi).2)).mono ?_;rintro e w' ⟨a1,g1,p1,v2,rfl,a2,a3⟩;exact⟨a1,_,_,rfl,a2.own,⟨g1,p1,rfl⟩,a3.recO⟩
 have HE:=Ad hE;have oh:=Ad fw;have sf:=Ad de;clear hE fw de cw hrp hcp;obtain⟨q0,q1,q2⟩:=Bb HQ.o;obtain⟨p0,p1⟩:=Ft HP.o;go_enter func51,ntmps51;go_wp2_with fail
 try rw[eQ]
 clear eW q0 q1 q2 p0 p1;refine Lt.begin 5 (λw'=>w'.heap[Q]?=M (O #[I n,J (p_ tb) T.length tc,J qa R.length qc] 35 (0,0))/\w'.heap[Q+1]?=M (O #[J sa ss.length c1,J ta ts.length c2] 43 (0,0))) qi ?_;obtain⟨wD,eD⟩:=Aj W.drew;rw[eD];have dj:Bw W wD:=qab;clear eD;replace HQ:=Ad (Af HQ.o dj);replace HP:=Ad (Af HP.o dj);replace HW:=Ad (bt HW.o dj);have ia:(λw'=>w'.heap[Q]?=M (O #[I n,J (p_ tb) T.length tc,J qa R.length qc] 35 (0,0))/\w'.heap[Q+1]?=M (O #[J sa ss.length c1,J ta ts.length c2] 43 (0,0))) wD:=⟨HQ.o,HP.o⟩;change K 0 _
 iterate 2
  refine Lt.ti (v:=?_) ia ?_ ?_;rotate_left 1
  ·exact qkv
  simp only[gX]
 refine Lt.sp (i:=2) (λK hK=>?_);go_simp;refine(HCPY.o _ HW.o).mono ?_;rintro e wC ⟨gu,tx,qv,rfl,ly⟩;have hDs:w.heap.size<=wD.heap.size:=HW.o.size;have tj:=Ad (ly.base hDs);replace HQ:=Ad (Af HQ.o gu);replace HP:=Ad (Af HP.o gu);replace HW:=Ad (bt HW.o gu);have wg:(λw'=>w'.heap[Q]?=M (O #[I n,J (p_ tb) T.length tc,J qa R.length qc] 35 (0,0))/\w'.heap[Q+1]?=M (O #[J sa ss.length c1,J ta ts.length c2] 43 (0,0))) wC:=⟨HQ.o,HP.o⟩;refine hK.out _ _ (λ_=>wg) (λ_=>?_);clear hK K gu ly
 try simp only[gX]
 refine Lt.ti (i:=3) (v:=?_) wg ?_ ?_;rotate_left 1
 ·exact qkv
 simp only[gX];refine Lt.sp (i:=4) (λK hK=>?_);go_simp;refine Bq (Q:=λx=>K _ x) ?_;intro wH hbH HH
 try dsimp only
 obtain⟨h,eh⟩:=Aj wC.heap.size;rw[eh]at HH ⊢;replace tj:=Ad (tj.o.bl hbH);have hhw:w.heap.size<=h:=by rw[←eh];exact HW.o.size
 replace HQ:=Ad (Af HQ.o hbH);replace HP:=Ad (Af HP.o hbH);replace HW:=Ad (bt HW.o hbH);have hS2:(λw'=>w'.heap[Q]?=M (O #[I n,J (p_ tb) T.length tc,J qa R.length qc] 35 (0,0))/\w'.heap[Q+1]?=M (O #[J sa ss.length c1,J ta ts.length c2] 43 (0,0))) wH:=⟨HQ.o,HP.o⟩;refine hK.out _ _ (λ_=>hS2) (λ_=>?_);clear hK K hbH
 try simp only[gX]
 refine Lt.sp (i:=5) (λK hK=>?_);go_simp;refine hK.out _ _ (λh=>absurd rfl h) (λ_=>?_);clear hK K;refine Lt.done qi ?_ _;have HS:=Ad (Gb.start hhw HH.o tj.o);go_wp2_with fail;refine(make5_all w h sa ta c1 c2 n ss ts HE.o h1 h8 60 [] rfl qg [] ⟨T,R,[],[]⟩ _ nm wH HW.o HS.o (Fy.nil ss ts) oh.o sf.o qg (by unfold Pf;simp)).mono ?_;rintro e w5 ⟨ms',s',a,bu,⟨d,v',rfl,rfl,ci,di⟩|⟨b,nb,rfl,rfl,ci,rv⟩⟩
 ·have N5:=Ad bu
  have HF:=Ad ci;have ja:=Ad di;clear bu ci di;have C6:=Ad (HW.o.trans HF.o.bel);obtain⟨dc,dt,dl⟩:=d;dsimp only
  go_upto_region 3 with fail
  obtain⟨RR,eRR⟩:=Aj w5.heap.size;obtain⟨w6,e6⟩:=Aj (w5.alloc (O #[I dc,S dt,nS] 121));have bz:Bw w5 w6:=qaw;have jo:Hd (w6.heap[RR]?=M (O #[I dc,S dt,nS] 121 (0,0))):=qcs;rw[e6]
  try rw[eRR]
  clear e6;have lp:=Ad (ja.o.bl bz);have V4:=Ad (C6.o.trans (bz.mono (C6.o.size)));have lp:=Ad (ja.o.bl bz);clear bz ja C6;have k9:=cK lp.o.blk 9
  go_upto_region 6 with fail
  clear k9;obtain⟨vtx,vqv,vmv,vkv,vnv,vev⟩:=v';obtain⟨xg,xp,e1⟩:∃g p,vtx=J (p_ g) s'.T.length p:=lp.o.txa;subst e1;(obtain⟨qa2,qc2,e2⟩:∃a cap,vqv=J a s'.R.length cap:=by obtain⟨ys,cv,lv,r⟩:=lp.o.rcs;exact Ax r.row);subst e2;obtain⟨na,nc,e3⟩:∃a cap,vnv=J a s'.ran.length cap:=Ax lp.o.ran;subst e3;obtain⟨ea,ec,e4⟩:∃a cap,vev=J a s'.held.length cap:=Ax lp.o.held;subst e4;refine Lt.begin 20 (λw'=>w'.heap[h]?=M (O #[J sa ss.length c1,J ta ts.length c2,I n,J (p_ xg) s'.T.length xp,J qa2 s'.R.length qc2,vmv,vkv,J na s'.ran.length nc,J ea s'.held.length ec,F false,I 0,ze,nS,I 0,nS,nS,nS,nS,ze,ze] 105 (0,0))/\w'.heap[RR]?=M (O #[I dc,S dt,nS] 121 (0,0))) qi ?_;obtain⟨wE,eD⟩:=Aj w6.drew;rw[eD];have dj:Bw w6 wE:=qab;clear eD;replace lp:=Ad (lp.o.bl dj);replace jo:=Ad (Af jo.o dj);replace V4:=Ad (V4.o.trans (Below.mono dj V4.o.size));have ia:(λw'=>w'.heap[h]?=M (O #[J sa ss.length c1,J ta ts.length c2,I n,J (p_ xg) s'.T.length xp,J qa2 s'.R.length qc2,vmv,vkv,J na s'.ran.length nc,J ea s'.held.length ec,F false,I 0,ze,nS,I 0,nS,nS,nS,nS,ze,ze] 105 (0,0))/\w'.heap[RR]?=M (O #[I dc,S dt,nS] 121 (0,0))) wE:=⟨lp.o.blk,jo.o⟩;change K 0 _
  iterate 8
   refine Lt.ti (v:=?_) ia ?_ ?_;rotate_left 1
   ·exact qbm
   simp only[gX]
  refine Lt.ti (i:=8) (v:=?_) ia ?_ ?_;rotate_left 1
  ·rintro w ⟨s1,s2⟩
   obtain⟨-,-,u2,u3,u4⟩:=ck5 s1;exact qfu
  simp only[gX];change K 9 _
  iterate 3
   refine Lt.ti (v:=?_) ia ?_ ?_;rotate_left 1
   ·exact qbm
   simp only[gX]
  refine Lt.ti (i:=12) (v:=?_) ia ?_ ?_;rotate_left 1
  ·rintro w ⟨s1,s2⟩
   have u7:=cK s1 7;exact qfu
  simp only[gX];change K 13 _
  iterate 3
   refine Lt.ti (v:=?_) ia ?_ ?_;rotate_left 1
   ·exact qbm
   simp only[gX]
  refine Lt.ti (i:=16) (v:=?_) ia ?_ ?_;rotate_left 1
  ·rintro w ⟨s1,s2⟩
   have u8:=cK s1 8;exact qfu
  simp only[gX];refine Lt.ti (i:=17) (v:=?_) ia ?_ ?_;rotate_left 1
  ·exact qbm
  simp only[gX];refine Lt.sp (i:=18) (λK hK=>?_);go_simp;refine hK.out _ _ (λ_=>ia) (λ_=>?_);clear hK K 
  try simp only[gX]
  refine Lt.ti (i:=19) (v:=?_) ia ?_ ?_;rotate_left 1
  ·exact qbm
  simp only[gX];(have kc:∀j,10<=j->j<20->∃x,wE.cell? ⟨h,j,N⟩=M x:=λj h1 h2=>by rw[cH lp.o.blk];exact⟨_,Array.getElem?_eq_getElem qh⟩);have kf:=fZ lp.o.blk;obtain⟨x10,f10⟩:=kc 10 qb qb;obtain⟨x11,f11⟩:=kc 11 qb qb;obtain⟨x12,f12⟩:=kc 12 qb qb;obtain⟨x13,f13⟩:=kc 13 qb qb;obtain⟨x14,f14⟩:=kc 14 qb qb;obtain⟨x15,f15⟩:=kc 15 qb qb;obtain⟨x16,f16⟩:=kc 16 qb qb;obtain⟨x17,f17⟩:=kc 17 qb qb;obtain⟨x18,f18⟩:=kc 18 qb qb;obtain⟨x19,f19⟩:=kc 19 qb qb;refine Lt.sp (i:=20) (λK hK=>?_);go_simp;refine hK.out _ _ (λh=>absurd rfl h) (λ_=>?_);clear hK K;refine Lt.done qi ?_ _;obtain⟨l,el⟩:∃l:L (X×X×Z),l=[(h,10,I dc),(h,11,S dt),(h,12,nS),(h,13,I n),(h,14,J (p_ xg) s'.T.length xp),(h,15,J qa2 s'.R.length qc2),(h,16,J na s'.ran.length nc),(h,17,J ea s'.held.length ec),(h,18,ze),(h,19,ze)]:=⟨_,rfl⟩;have bi:∀x∈l,x.1=h:=qy;have be:=Cl l wE _ bi lp.o.blk;have cr:Bw w (Be wE l):=Az l wE V4.o (λx hx=>by rw[bi x hx];exact hhw);have HVS:Hd (Ev (Be wE l) w.heap.size (J (p_ xg) s'.T.length xp) (J qa2 s'.R.length qc2) s'.T s'.R):=Ev.setL ⟨lp.o.txt,lp.o.txa,lp.o.rcs⟩ bi lp.o.blk;have HVN:=Ad (Jz lp.o.ran bi lp.o.blk qd);have HVE:=Ad (Jz lp.o.held bi lp.o.blk qd);obtain⟨V,eV⟩:=Aj (Be wE l);rw[eV]at be cr HVS HVN HVE;rw[el]at be eV;simp only[Be,List.foldl]at eV;rw[eV];simp only[List.foldl,List.setIfInBounds_toArray,List.set_cons_zero,List.set_cons_succ]at be;have jz:=Ad be;have D0:=Ad cr;clear be cr eV el bi kf kc f10 f11 f12 f13 f14 f15 f16 f17 f18 f19;go_wp2_with fail;go_ret;rw[←eQ];exact⟨D0.o,h,hhw,rfl,_,_,_,N5.o,[J sa ss.length c1,J ta ts.length c2,I n,J (p_ xg) s'.T.length xp,J qa2 s'.R.length qc2,vmv,vkv,J na s'.ran.length nc,J ea s'.held.length ec,F false],_,rfl,jz.o,Or.inl ⟨⟨dc,dt,dl⟩,_,_,_,_,rfl,rfl,HVS.o,HVN.o,HVE.o,λb q=>⟨(lp.o.tk b q).2.1,(lp.o.tk b q).2.2⟩,lp.o.ne⟩⟩
 have N5:=Ad bu;have gj:=Ad ci;have HD:=Ad rv;clear bu ci rv;have HQ5:=Ad (gj.o.blk HQ.o (HS.o.notB HQ.o qd qd qd qd));have C6:=Ad (HW.o.trans gj.o.bel)
 go_upto_region 3 with fail
 obtain⟨RR,eRR⟩:=Aj w5.heap.size;obtain⟨w6,e6⟩:=Aj (w5.alloc (O #[I (Ja b),ze,nS] 121));have bz:Bw w5 w6:=qaw;rw[e6]
 try rw[eRR]
 clear e6;have HD6:=Ad (HD.o.frx bz);have Q9:=Ad (Af HQ5.o bz);have V4:=Ad (C6.o.trans (bz.mono (C6.o.size)));clear bz HQ5 C6 HD;obtain⟨k9,k10,hhl⟩:=HD6.o.cells;obtain⟨q0,q1,q2⟩:=Bb Q9.o;go_wp2_with fail;clear k9 k10 q0 q1 q2;refine(HCPY.o w6 V4.o).mono ?_;rintro e w7 ⟨cj,tx2,qv2,rfl,ly⟩;obtain⟨g2,p2,e1⟩:=ly.txa;subst e1;obtain⟨qa2,qc2,e2⟩:∃a cap,qv2=J a R.length cap:=by obtain⟨ys,cv,lv,r⟩:=ly.rcs;exact Ax r.row
 subst e2;obtain⟨pre,ee,dy,hpk,hpe,_⟩:=HD6.o;obtain⟨a0,a1,a2,a3,a4,a5,a6,a7,a8,ep⟩:=len9 dy;obtain⟨x,y,cv,A,B',ee2,pw⟩:=hpe.shape;subst ep;subst ee2;have hk7:=Af hpk cj;simp only[List.cons_append,List.nil_append]at hk7 hpk
 have HPE:Hd (Oh w.heap.size w7 b [x,y,cv,I 0,nS,nS,nS,nS,A,B']):=by
  have:=HD6.o.frx cj;clear this
  cases b with
  | circle ch=>obtain⟨cv,a,b⟩:=hpe;exact⟨cv,Ac a cj,b⟩
  | deep nm=>exact hpe
  | clash A B=>exact hpe
  | full=>exact hpe
 have HW7:=Ad (V4.o.trans (cj.mono V4.o.size));have HCL:=Ad pw;have HSM2:=Ad ly;have HK7:=Ad hk7;have hw6:w.heap.size<=w6.heap.size:=V4.o.size;clear hpe hpk dy ly cj pw hk7;obtain⟨l,el⟩:∃l:L (X×X×Z),l=[(h,13,I n),(h,14,J (p_ g2) T.length p2),(h,15,J qa2 R.length qc2)]:=⟨_,rfl⟩;have bi:∀x∈l,x.1=h:=qy;have be:=Cl l w7 _ bi HK7.o;have cr:Bw w (Be w7 l):=Az l w7 HW7.o (λx hx=>by rw[bi x hx];exact hhw);have HVS:=Ad (HSM2.o.setL bi HK7.o);have HVE:=Ad (HPE.o.setL bi HK7.o);obtain⟨V,eV⟩:=Aj (Be w7 l);rw[eV]at be cr HVS HVE;rw[el]at be eV;simp only[Be,List.foldl]at eV;simp only[List.foldl,List.setIfInBounds_toArray,List.set_cons_zero,List.set_cons_succ]at be;have jz:=Ad be;have D0:=Ad cr;clear be cr el bi;have k13:=cK HK7.o 13;have k14:=cK HK7.o 14;have k15:=cK HK7.o 15;have kf:=fZ HK7.o;go_wp2_with fail
 try rw[eV]
 go_ret;rw[←eQ];exact⟨D0.o,h,hhw,rfl,_,_,_,N5.o,[a0,a1,a2,a3,a4,a5,a6,a7,a8,F true],_,rfl,jz.o,Or.inr ⟨b,x,y,cv,_,_,A,B',rfl,HVE.o,rfl,HVS.o.base hw6,λc q1 q2=>by have:=HCL.o c q1;have:=(HSM2.o.txt.lt c q2).1;omega⟩⟩
end Go.Proofs.YtoakjccojifagaaGreatDoor
