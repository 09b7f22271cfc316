import Derived.Test.YtbkkjodaaijimaaGreatDoorBsR
namespace Go.Proofs.YtbkkjodaaijimaaGreatDoor
open Value renaming slice->J,string->S,bool->F,agg->G,pointer->D
open Option renaming some->M,none->N
open Obj renaming cells->O
open Go renaming Value->Z,World->E
open Ending renaming returned->H
open _root_ renaming List->L,Nat->X
set_option maxHeartbeats 4000000
set_option maxRecDepth 100000
open _root_.Go.Proofs.Tryz Go.RowKit Go.Deep
set_option linter.unusedVariables false
set_option linter.unusedSimpArgs false
def Cu(w:E)(l:L (X×X×Z)):E:=l.foldl (λw x=>w.setCell ⟨x.1,x.2.1,N⟩ x.2.2) w
theorem Gz{b:X}:∀(l:L (X×X×Z)) (w:E),(∀x∈l,b≠x.1)->(Cu w l).heap[b]?=w.heap[b]?
 | [],w,_=>rfl
 | x::l,w,h=>by
   show(Cu (w.setCell ⟨x.1,x.2.1,N⟩ x.2.2) l).heap[b]?=_;rw[Gz l _ (λy hy=>h y (List.mem_cons_of_mem _ hy)),hC w ⟨x.1,x.2.1,N⟩ _ b (h x (List.mem_cons_self ..))]
theorem Cm{B:X}{w:E}:∀(l:L (X×X×Z)) (w':E),Below B w w'->(∀x∈l,B<=x.1)->Below B w (Cu w' l)
 | [],w',h,_=>h
 | x::l,w',h,k=>Cm l _ (h.setCell (p:=⟨x.1,x.2.1,N⟩) (k x (List.mem_cons_self ..)) _) (λy hy=>k y (List.mem_cons_of_mem _ hy))
theorem Ep{b T:X}:∀(l:L (X×X×Z)) (w:E) (cs:Array Z),(∀x∈l,x.1=b)->w.heap[b]?=M (O cs T (0,0))->(Cu w l).heap[b]?=M (O (l.foldl (λa x=>a.setIfInBounds x.2.1 x.2.2) cs) T (0,0))
 | [],w,cs,_,h=>h
 | x::l,w,cs,hx,h=>by
   show(Cu (w.setCell ⟨x.1,x.2.1,N⟩ x.2.2) l).heap[b]?=_;obtain rfl:x.1=b:=hx x (List.mem_cons_self ..);exact Ep l _ _ (λy hy=>hx y (List.mem_cons_of_mem _ hy)) (jB h x.2.2)
theorem Hc(w:E)(o:Obj):(w.alloc o).heap[w.heap.size]?=M o:=Bf w o
theorem Ph{w:E}{b:X}{o o':Obj}(h:w.heap[b]?=M o):(w.alloc o').heap[b]?=M o:=by
 rw[Lib.alloc_old _ _ _ (by rcases Nat.lt_or_ge b w.heap.size with k|k;exact k;rw[Array.getElem?_eq_none k]at h;cases h)];exact h
theorem Mu(h:X)(a0 a1 a2 a3 a4 a5 a6 a7 a8 z0 z1 z2 z3 z4 z5 z6 z7 z8 z9:Z)(c:Int)(t AM AK:By)(ca:Option Addr)(cn cc:X)(w:E)(hk:w.heap[h]?=M (O #[a0,a1,a2,a3,a4,a5,a6,a7,a8,F false,z0,z1,z2,z3,z4,z5,z6,z7,z8,z9] 86 (0,0))):Calls prog 87 #[D (p_ h),G #[I c,S t,J ca cn cc,I 0,nS,nS,nS,nS,S AM,S AK]] w λe w'=>e=H (G #[I c,ze,nS])/\Below h w w'/\(∀b,b<w.heap.size->b≠h->w'.heap[b]?=w.heap[b]?)/\w'.heap[h]?=M (O #[a0,a1,a2,a3,a4,a5,a6,a7,a8,F true,I c,S t,J ca cn cc,I 0,nS,nS,nS,nS,S AM,S AK] 86 (0,0)):=by
 have aj:h<w.heap.size:=by rcases Nat.lt_or_ge h w.heap.size with k|k;exact k;rw[Array.getElem?_eq_none k]at hk;cases hk
 obtain⟨W,eW⟩:=Aj ((w.alloc (O #[I c,S t,J ca cn cc,I 0,nS,nS,nS,nS,S AM,S AK] 54)).alloc (O #[I 0,ze,nS] 120));have hW:Hd (Bw w W):=by show Below _ _ _;rw[←eW];exact(aN _ _).alloc qg _
 have HB:Hd (W.heap[w.heap.size]?=M (O #[I c,S t,J ca cn cc,I 0,nS,nS,nS,nS,S AM,S AK] 54 (0,0))):=qge
 have HR:Hd (W.heap[w.heap.size+1]?=M (O #[I 0,ze,nS] 120 (0,0))):=by
  show _=_;rw[←eW];have:=Hc (w.alloc (O #[I c,S t,J ca cn cc,I 0,nS,nS,nS,nS,S AM,S AK] 54)) (O #[I 0,ze,nS] 120)
  rwa [show(w.alloc (O #[I c,S t,J ca cn cc,I 0,nS,nS,nS,nS,S AM,S AK] 54)).heap.size=w.heap.size+1 from qg]at this
 have HK:Hd (W.heap[h]?=M (O #[a0,a1,a2,a3,a4,a5,a6,a7,a8,F false,z0,z1,z2,z3,z4,z5,z6,z7,z8,z9] 86 (0,0))):=by show _=_;rw[hW.out.block h aj];exact hk
 have k9:=cK HK.o 9;have S8:=cK HK.o 10;have L5:=cK HK.o 11;have L4:=cK HK.o 12;have k13:=cK HK.o 13;have k14:=cK HK.o 14;have k15:=cK HK.o 15;have k16:=cK HK.o 16;have k17:=cK HK.o 17;have k18:=cK HK.o 18;have k19:=cK HK.o 19;have kf:=fZ HK.o;obtain⟨b0,b1,b2,b3,b4,b5,b6,b7,b8,b9⟩:=Fz HB.o;obtain⟨r0,r1,r2⟩:=ck3 HR.o;have rf:=fZ HR.o;have hne:h≠w.heap.size:=qb;have hne2:h≠w.heap.size+1:=qb;clear hk;go_enter func87,ntmps87;go_wp2;have hL1:∀x∈([(h,9,F true),(h,10,I c),(h,11,S t),(h,12,J ca cn cc),(h,13,I 0),(h,14,nS),(h,15,nS),(h,16,nS),(h,17,nS),(h,18,S AM),(h,19,S AK)]:L (X×X×Z)),x.1=h:=qg;have hL2:∀x∈([(w.heap.size+1,0,I c),(w.heap.size+1,1,ze),(w.heap.size+1,2,nS)]:L (X×X×Z)),x.1=w.heap.size+1:=qg;have e1:=Ep _ W _ hL1 HK.o;have e2:=Gz (b:=h) [(w.heap.size+1,0,I c),(w.heap.size+1,1,ze),(w.heap.size+1,2,nS)] (Cu W [(h,9,F true),(h,10,I c),(h,11,S t),(h,12,J ca cn cc),(h,13,I 0),(h,14,nS),(h,15,nS),(h,16,nS),(h,17,nS),(h,18,S AM),(h,19,S AK)]) (λx hx=>by rw[hL2 x hx];exact hne2);have h1:Below h w (Cu (Cu W [(h,9,F true),(h,10,I c),(h,11,S t),(h,12,J ca cn cc),(h,13,I 0),(h,14,nS),(h,15,nS),(h,16,nS),(h,17,nS),(h,18,S AM),(h,19,S AK)]) [(w.heap.size+1,0,I c),(w.heap.size+1,1,ze),(w.heap.size+1,2,nS)]):=Cm [(w.heap.size+1,0,I c),(w.heap.size+1,1,ze),(w.heap.size+1,2,nS)] (Cu W [(h,9,F true),(h,10,I c),(h,11,S t),(h,12,J ca cn cc),(h,13,I 0),(h,14,nS),(h,15,nS),(h,16,nS),(h,17,nS),(h,18,S AM),(h,19,S AK)]) (Cm [(h,9,F true),(h,10,I c),(h,11,S t),(h,12,J ca cn cc),(h,13,I 0),(h,14,nS),(h,15,nS),(h,16,nS),(h,17,nS),(h,18,S AM),(h,19,S AK)] W (hW.out.mono qb) (λx hx=>by rw[hL1 x hx];exact Nat.le_refl _)) (λx hx=>by rw[hL2 x hx];omega);have h2:∀b,b<w.heap.size->b≠h->(Cu (Cu W [(h,9,F true),(h,10,I c),(h,11,S t),(h,12,J ca cn cc),(h,13,I 0),(h,14,nS),(h,15,nS),(h,16,nS),(h,17,nS),(h,18,S AM),(h,19,S AK)]) [(w.heap.size+1,0,I c),(w.heap.size+1,1,ze),(w.heap.size+1,2,nS)]).heap[b]?=w.heap[b]?:=λb hb hbh=>((Gz (b:=b) [(w.heap.size+1,0,I c),(w.heap.size+1,1,ze),(w.heap.size+1,2,nS)] (Cu W [(h,9,F true),(h,10,I c),(h,11,S t),(h,12,J ca cn cc),(h,13,I 0),(h,14,nS),(h,15,nS),(h,16,nS),(h,17,nS),(h,18,S AM),(h,19,S AK)]) (λx hx=>by rw[hL2 x hx];omega)).trans (Gz (b:=b) [(h,9,F true),(h,10,I c),(h,11,S t),(h,12,J ca cn cc),(h,13,I 0),(h,14,nS),(h,15,nS),(h,16,nS),(h,17,nS),(h,18,S AM),(h,19,S AK)] W (λx hx=>by rw[hL1 x hx];exact hbh))).trans (hW.out.block b hb);rw[e1]at e2;simp only[List.foldl_cons,List.foldl_nil,List.setIfInBounds_toArray,List.set_cons_zero,List.set_cons_succ]at e2;obtain⟨V,eV⟩:=Aj (Cu (Cu W [(h,9,F true),(h,10,I c),(h,11,S t),(h,12,J ca cn cc),(h,13,I 0),(h,14,nS),(h,15,nS),(h,16,nS),(h,17,nS),(h,18,S AM),(h,19,S AK)]) [(w.heap.size+1,0,I c),(w.heap.size+1,1,ze),(w.heap.size+1,2,nS)]);rw[eV]at e2 h1 h2;simp only[Cu,List.foldl_cons,List.foldl_nil]at eV;rw[eV]
 have hV:V.cell? ⟨w.heap.size+1,0,N⟩=M (I c)/\V.cell? ⟨w.heap.size+1,1,N⟩=M ze/\V.cell? ⟨w.heap.size+1,2,N⟩=M nS:=by
  rw[←eV];simp[go_sem,r0,r1,r2]
 obtain⟨v0,v1,v2⟩:=hV;exact bR (v:=G #[I c,ze,nS]) (by simp[results,results87,go_sem,v0,v1,v2]) rfl ⟨rfl,h1,h2,e2⟩
theorem has_any(h:X)(sa ta:Option Addr)(c1 c2:X)(ss:L S2)(ts:L T2)(nm:By)(w:E)(k0:w.cell? ⟨h,0,N⟩=M (J sa ss.length c1))(k1:w.cell? ⟨h,1,N⟩=M (J ta ts.length c2))(rs:Ho w sa ss)(rt:Gu w ta ts)(hl:ss.length<=1048576)(V7:ts.length<=1048576):Calls prog 112 #[D (p_ h),S nm] w λe w'=>Bw w w'/\e=H (F (Cf ss ts nm)):=by
 have HS:Hd (Ho w sa ss):=rs
 have HT:Hd (Gu w ta ts):=rt
 clear rs rt
 go_enter func112,ntmps112
 go_wp2_with fail
 refine(Rd sa ta ts.length c1 c2 ss nm _ HS.o hl).mono ?_
 rintro e w1 ⟨af,hr⟩
 have j0:=Aa af k0
 have j1:=Aa af k1
 rcases hr with⟨i,rfl,hi,e1⟩|⟨rfl,hn⟩
 ·have HO:Hd (Cf ss ts nm=true):=Qw (Or.inl (e1▸Hf hi));have d0:decide ((0:Int)<=(i:Int))=true:=qg;clear hi e1 k0 k1;go_wp2_with fail;go_ret;exact⟨af,by rw[HO.o];rfl⟩
 ·have HN:Hd (¬ Ed (Am ss) nm):=hn;clear hn k0 k1;go_wp2_with fail;refine(Rc sa ta ss.length c1 c2 ts nm _ (HT.o.bl af) V7).mono ?_;rintro e w2 ⟨ag,hr⟩;have be:=bt af ag
  rcases hr with⟨i,rfl,hi,e1⟩|⟨rfl,hn⟩
  ·have HO:Hd (Cf ss ts nm=true):=Qw (Or.inr (e1▸Il hi));have d0:decide ((0:Int)<=(i:Int))=true:=qg;clear hi e1;go_wp2_with fail;go_ret;exact⟨be,by rw[HO.o];rfl⟩
  ·have HO:Hd (Cf ss ts nm=false):=Xp (λh=>h.elim HN.o hn);clear hn;go_wp2_with fail;go_ret;exact⟨be,by rw[HO.o];rfl⟩
theorem Tryz.info131x:(prog.info? 153).map (λi=>(i.zero,i.size,i.bytes))=M (M (G #[ze,I 0,ze,nS,I 0]),5,72):=qi
theorem step_appM{s x:Operand}{W:E}{ops:Array Oper}{o:Oper}{a:Act}{K:Act->E->Prop}{Q:Exit->Act->E->Prop}{AF:Prop}(ri:o.guard=N)(ho:o.op=.call { callee:=.builtin .append,args:=#[s,x],argTypes:=#[84,84] })(B:X)(v:Z)(nn:X)(xs:L Z)(hs:a.eval s=v)(ah:W.ownsRow B 153 5 v nn xs)(d:X)(u0 u1 u2 u3 u4:Z)(hx:a.eval x=J (p_ d) 1 1)(hc:W.heap[d]?=M (O #[u0,u1,u2,u3,u4] 153 (0,0)))(h1:∀u∈[u0,u1,u2,u3,u4],u.oneCell'=true)(hB:B<=W.heap.size)(hn:nn<=1000000000000)(h:∀g' ai w',w'.ownsRow B 153 5 (J (p_ g') (nn+1) ai) (nn+1) (xs++[u0,u1,u2,u3,u4])->W.grownBy w' v.ownBlock->(v.ownBlock=M g'\/g'=W.heap.size)->K (a.put o.dst (J (p_ g') (nn+1) ai)) w'):if Region.wanted o (yielded ops a.tmps)=true then Oper.wp prog o a W K Q else AF:=by
 obtain⟨i0,hi,bq,bg,bv⟩:=info_parts Tryz.info131x
 refine step_append_lies (w:=W) ri s x 84 ho B 153 i0 (G #[ze,I 0,ze,nS,I 0]) 5 72 underlying84 hi bq bg bv rfl qd _ nn xs hs ah ⟨d,0,N⟩ 1 1 [u0,u1,u2,u3,u4] hx rfl
  (World.news_of_block (cs:=#[u0,u1,u2,u3,u4]) (t:=153) (fr:=(0,0)) hc) h1 qb qm qb hB W.heap.size rfl ?_
 exact qfh
theorem Pn(B h n:X)(sv tv:Z)(ms:Mm)(s:Sb)(st:L By)(v:Hv)(nm:By)(d:Md)(r:Int)(w:E)(hs:Fy B h sv tv n w ms s st v)(hB:B<=w.heap.size)(hm:ms.length<=1000000000000):Calls prog 86 #[D (p_ h),S nm,G #[I d.c,S d.t,nS],I r] w λe w'=>e=H (G #[I d.c,S d.t,nS])/\∃v',Cw B (Bz h v) (Bz h v') w w'/\Fy B h sv tv n w' (ms++[(nm,d)]) s st v':=by
 obtain⟨c,ec⟩:=Aj d.c;obtain⟨t,et⟩:=Aj d.t;rw[ec,et];have EC:=Ac (And.intro ec et);clear ec et;obtain⟨W,eW⟩:=Aj ((w.alloc (O #[I c,S t,nS] 120)).alloc (O #[I 0,ze,nS] 120));have HW:Hd (Bw w W):=by show Below _ _ _;rw[←eW];exact(aN _ _).alloc qg _
 have HQ:Hd (W.heap[w.heap.size]?=M (O #[I c,S t,nS] 120 (0,0))):=qge
 have HR:Hd (W.heap[w.heap.size+1]?=M (O #[I 0,ze,nS] 120 (0,0))):=by
  show _=_;rw[←eW];have:=Hc (w.alloc (O #[I c,S t,nS] 120)) (O #[I 0,ze,nS] 120)
  rwa [show(w.alloc (O #[I c,S t,nS] 120)).heap.size=w.heap.size+1 from qg]at this
 have HS:=Ac (hs.bl HW.o);have aj:h<w.heap.size:=Ag hs.blk;obtain⟨Q,eQ⟩:=Aj w.heap.size;have HHB:=Ac hs.hB;have HWS:Hd (Q+1<W.heap.size):=by show _<_;rw[←eQ];exact Ag HR.o
 clear hs;rw[eQ]at HQ HR aj hB;go_enter func86,ntmps86;go_wp2_with fail
 try rw[eQ]
 clear eW;refine Lt.begin 13 (λw'=>w'.cell? ⟨h,5,N⟩=M v.mv/\w'.heap[Q]?=M (O #[I c,S t,nS] 120 (0,0))) qi ?_;obtain⟨wD,eD⟩:=Aj W.drew;rw[eD];have ct:Bw W wD:=qy;clear eD;replace HS:=Ac (HS.o.bl ct);replace HQ:=Ac (Af HQ.o ct);replace HR:=Ac (Af HR.o ct);replace HW:=Ac (bt HW.o ct);have gp:(λw'=>w'.cell? ⟨h,5,N⟩=M v.mv/\w'.heap[Q]?=M (O #[I c,S t,nS] 120 (0,0))) wD:=⟨(by rw[cH HS.o.blk];rfl),HQ.o⟩;change K 0 _
 iterate 9
  refine Lt.ti (v:=?_) gp ?_ ?_;rotate_left 1
  ·exact qlr
  simp only[gX]
 refine Lt.sp (i:=9) (λK hK=>?_);go_simp;refine Dn (Q:=λx=>K _ x) ?_;intro wL fb HL
 try dsimp only
 obtain⟨dL,edL⟩:=Aj wD.heap.size;rw[edL]at HL ⊢;replace HS:=Ac (HS.o.bl fb);replace HQ:=Ac (Af HQ.o fb);replace HR:=Ac (Af HR.o fb);replace HW:=Ac (bt HW.o fb);have uq:(λw'=>w'.cell? ⟨h,5,N⟩=M v.mv/\w'.heap[Q]?=M (O #[I c,S t,nS] 120 (0,0))) wL:=⟨(by rw[cH HS.o.blk];rfl),HQ.o⟩;have J7:B<=wL.heap.size:=zo HW.o.size;refine hK.out _ _ (λ_=>uq) (λ_=>?_);clear hK K 
 try simp only[gX]
 refine Lt.sp (i:=10) (λK hK=>?_);obtain⟨xs,m1,m2⟩:=HS.o.made;refine step_appM rfl qo B v.mv ms.length xs qo m1 dL _ _ _ _ _ qo HL.o qcs J7 hm ?_;intro g' ai w7 ah ae ci
 have po:∀b,(Value.slice (p_ g') (ms.length+1) ai).ownBlock=M b->v.mv.ownBlock=M b\/wL.heap.size<=b:=λb q=>by
  obtain rfl:g'=b:=qaq
  rcases ci with q|q
  ·exact Or.inl q
  ·right;omega
 have hfil:FilM (ms++[(nm,d)]) (xs++[S nm,I c,S t,nS,I r]):=by have:=m2.snoc (zo m1.1) nm d r;rw[EC.o.1,EC.o.2]at this;exact this
 have HG:=Ac (HS.o.growM (nw:=J (p_ g') (ms.length+1) ai) (ms':=ms++[(nm,d)]) J7 qg ah hfil ae po);have hmh:v.mv.ownBlock≠M h:=Ae m1 qd HS.o.blk;have hmq:v.mv.ownBlock≠M Q:=Ae m1 qd HQ.o;have hmr:v.mv.ownBlock≠M (Q+1):=Ae m1 qd HR.o;have R9:=Ac (Br HS.o.blk ae hmh);have HQ7:=Ac (Br HQ.o ae hmq);have HR7:=Ac (Br HR.o ae hmr);have HFL:Hd (Cw B (Bz h v) (Bz h v) w wL):=Cw.of_below HW.o qb;have Do:(λw'=>w'.cell? ⟨h,5,N⟩=M v.mv/\w'.heap[Q]?=M (O #[I c,S t,nS] 120 (0,0))) w7:=⟨(by rw[cH R9.o];rfl),HQ7.o⟩;refine hK.out _ _ (λ_=>Do) (λ_=>?_);clear hK K ae ah;simp only[gX];refine Lt.sp (i:=11) (λK hK=>?_);go_simp;refine hK.out _ _ (λ_=>Do) (λ_=>?_);clear hK K 
 try simp only[gX]
 refine Lt.ti (i:=12) (v:=?_) Do ?_ ?_;rotate_left 1
 ·exact qlr
 simp only[gX];have k5:w7.cell? ⟨h,5,N⟩=M v.mv:=Do.1;have kf:=fZ R9.o;refine Lt.sp (i:=13) (λK hK=>?_);go_simp;refine hK.out _ _ (λh=>absurd rfl h) (λ_=>?_);clear hK K;refine Lt.done qi ?_ _;obtain⟨V,eV⟩:=Aj (w7.setCell ⟨h,5,N⟩ (J (p_ g') (ms.length+1) ai));rw[eV]at HG ⊢;have HQV:V.heap[Q]?=M (O #[I c,S t,nS] 120 (0,0)):=by rw[←eV];exact Fi HQ7.o qb _
 have K5:V.heap[Q+1]?=M (O #[I 0,ze,nS] 120 (0,0)):=by rw[←eV];exact Fi HR7.o qb _
 obtain⟨q0,q1,q2⟩:=Bd HQV;obtain⟨r0,r1,r2,rf⟩:=Dw K5;have hRs:Q+1<V.heap.size:=Ag K5;clear eV k5 kf Do;go_wp2_with fail;obtain⟨v0,v1,v2,_⟩:=Dw (Bn K5 (I c) (S t) nS);exact bR (v:=G #[I c,S t,nS]) (by simp[results,results86,go_sem,v0,v1,v2]) rfl ⟨rfl,_,(HFL.o.trans HG.o.2).set3 qb qb _ _ _,HG.o.1.set3 ⟨_,K5⟩ qd _ _ _⟩
end Go.Proofs.YtbkkjodaaijimaaGreatDoor
