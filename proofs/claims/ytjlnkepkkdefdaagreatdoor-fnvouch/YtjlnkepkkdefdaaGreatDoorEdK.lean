import Derived.Test.YtjlnkepkkdefdaaGreatDoorEdJ
import Derived.Test.YtjlnkepkkdefdaaGreatDoorEdF
import Derived.Test.YtjlnkepkkdefdaaGreatDoorEdH
namespace Go.Proofs.YtjlnkepkkdefdaaGreatDoor
set_option maxHeartbeats 16000000
set_option maxRecDepth 100000
open Go.RowKit Go.Deep
set_option linter.unusedVariables false
set_option linter.unusedSimpArgs false
theorem step_appI {s x:Operand} {W:World} {ops:Array Oper} {o:Oper} {a:Act} {K:Act->World->Prop} {Q:Exit->Act->World->Prop} {E:Prop} (hgd:o.guard=none)
  (ho:o.op=.call { callee:=.builtin .append,args:=#[s,x],argTypes:=#[35,35] }) (B:Nat) (v:Value) (nn:Nat) (xs:List Value)
  (hs:a.eval s=v) (hown:W.ownsRow B 106 3 v nn xs) (d m c:Nat) (is:List I3) (hx:a.eval x=.slice (some ⟨d,0,none⟩) m c) (hm:m=is.length) (hc:Dr W (some ⟨d,0,none⟩) is) (hB:B<=W.heap.size) (hn:nn+m<=1000) (h0:0<m)
  (h:∀ g' cap' w',w'.ownsRow B 106 3 (.slice (some ⟨g',0,none⟩) (nn+m) cap') (nn+m) (xs++Di is)->W.grownBy w' v.ownBlock->K (a.put o.dst (.slice (some ⟨g',0,none⟩) (nn+m) cap')) w') :
  if Region.wanted o (yielded ops a.tmps)=true then Oper.wp Tryz.prog o a W K Q else E:=by
 obtain⟨i0,hi,hz0,hz1,hz2⟩:=info_parts Tryz.info165b
 refine step_append_lies (w:=W) hgd s x 35 ho B 106 i0 (.agg #[.int .i64 0,.string ⟨#[]⟩,.int .i64 0]) 3 32 Tryz.underlying35 hi hz0 hz1 hz2 rfl (by decide) _ nn xs hs hown ⟨d,0,none⟩ m c (Di is) hx (by rw[Bu,hm])
  (Uu (m:=0) hc) (Bg is) h0 (by unfold maxLen;omega) (by omega) hB W.heap.size rfl ?_
 intro g' cap' w' h1 h2 h3 h4
 exact h g' cap' w' h1 h2
theorem l3Any_any (B R:Nat) (a:Option Addr) (len cap p:Nat) (w:World) (h:Rd B w R a len cap p) (hBw:B<=w.heap.size) (hp:p<=10000) :
  Calls Tryz.prog 38 #[.pointer (some ⟨R,0,none⟩)] w fun e w'=>SpS B R a len cap p 12000 w e w':=by
 unfold SpS
 have hRB:=h.lt
 have hRw:R<w.heap.size:=by omega
 obtain⟨w1,e1⟩:∃ y,w.alloc (.cells #[.slice none 0 0,.slice none 0 0] 26)=y:=⟨_,rfl⟩
 have hb1:Below w.heap.size w w1:=by rw[<- e1];exact aN _ _
 have HQ:Hd (w1.heap[w.heap.size]?=some (.cells #[.slice none 0 0,.slice none 0 0] 26 (0,0))):=by show _=_;rw[<- e1];exact Al _ _
 have HR:Hd (Bd B R a len cap p (0) w w1):=⟨Dk (Pf w R) hb1,p,by omega,h.bl hBw hb1⟩
 clear hb1 h
 go_enter Tryz.func38,Tryz.ntmps38
 go_wp2_with fail
 clear e1
 refine(HR.o.pick (by omega) 24 (by omega) (by omega)).mono ?_
 rintro e w2 ⟨x,rfl,hx,hr1,hg1⟩
 replace HQ:=hid (Br HQ.o hg1 (by omega))
 clear HR
 have HR:=hid hr1
 clear hg1 hr1
 by_cases hx1:x=1
 ·subst hx1;go_wp2_with fail;refine(HR.o.pick (by omega) 2 (by omega) (by omega)).mono ?_;rintro e w3 ⟨y,rfl,hy,hr1,hg1⟩;replace HQ:=hid (Br HQ.o hg1 (by omega));clear HR;have HR:=hid hr1;clear hg1 hr1;have hlo:=HR.o.size;have hch:=Qv (60+y) ⟨#[122,109,97,100,101]⟩ w3 (by omega) (by decide);rw[show ((60+y:Nat):Int)=60+(y:Int) from by omega] at hch;have HCH:=hid hch;clear hch;go_wp2_with fail;refine HCH.o.mono ?_;rintro e w4 ⟨hb4,v1,v2,l1,l2,rfl,hd,hbd,hl2,hl1,hc,hch⟩;have HCT:Hd (l2.map (·.t)=(List.range (60+y)).map (Tq (60+y) Tp)):=hch;have HY:Hd (60+y=60\/60+y=61):=(by omega:60+y=60\/60+y=61);clear hch;clear HCH;obtain⟨a1,p1,rfl⟩:=hd.s1;obtain⟨g2,p2,rfl,hg2,_⟩:=hd.tc 0 (by omega);obtain⟨w5,e5⟩:∃ y,w4.alloc (.cells #[.slice a1 l1.length p1,.slice (some ⟨g2,0,none⟩) l2.length p2] 26)=y:=⟨_,rfl⟩;have hb5:Below w4.heap.size w4 w5:=by rw[<- e5];exact aN _ _
  obtain⟨P,eP⟩:∃ P,w4.heap.size=P:=⟨_,rfl⟩;have q5:w5.heap[P]?=some (.cells #[.slice a1 l1.length p1,.slice (some ⟨g2,0,none⟩) l2.length p2] 26 (0,0)):=by rw[<- e5,<- eP];exact Al _ _
  have hPw:w.heap.size<=P:=by have:=hb4.size;omega
  have hPn:w.heap.size≠P:=by have:=Dj (Aa HQ.o hb4);omega
  have HS:Hd (Sw w5 P w.heap.size (.slice a1 l1.length p1) (.slice (some ⟨g2,0,none⟩) l2.length p2) l1 l2):=⟨q5,(hd.base hlo).bl hb5,hbd,hPw⟩;replace HQ:=hid (Aa (Aa HQ.o hb4) hb5);replace HR:=hid ((HR.o.bl hBw hb4).bl hBw hb5);have hl0:0<l2.length:=by omega
  have hln:l2.length<=100:=by omega
  have HC0:=hid (hc _ (Dq hl0));replace hg2:w.heap.size<=g2:=by omega
  clear hd hbd hc hb4 hb5 q5 hl2;have HO:=hid (HS.o.dw.c _ (Dq hl0));obtain⟨gc,cc,ecc⟩:∃ gc cc,(cx l2 0).c=.slice (some ⟨gc,0,none⟩) (cx l2 0).t.code.length cc:=Lx HO.o (fun e=>by have h1:=HO.o.2;have h0:=HC0.o;rw[e] at h1;rcases h1 with ⟨_,q⟩|⟨g,c,cur,q,_⟩;omega;cases q);have HEC:=hid ecc;rw[ecc] at HO;obtain⟨_,_,ev,_,t0,t1,_⟩:=HS.o.dw.tc 0 hl0;cases ev;rw[ecc] at t1;obtain⟨d0,d1,_⟩:=HS.o.c;clear ecc;go_wp2_with fail;clear e5 eP d0 d1 t0 t1;refine Lt.begin 11 (fun w'=>w'.heap[P]?=some (.cells #[.slice a1 l1.length p1,.slice (some ⟨g2,0,none⟩) l2.length p2] 26 (0,0))) (by kernel_rfl) ?_;obtain⟨wD,eD⟩:∃ y,w5.drew=y:=⟨_,rfl⟩;rw[eD];have hbD:Below w5.heap.size w5 wD:=by rw[<- eD];exact(Below.refl _ _).drew
  clear eD;replace HS:=hid (HS.o.bl hbD);replace HR:=hid (HR.o.bl hBw hbD);replace HQ:=hid (Aa HQ.o hbD);replace HO:=hid (Cg HO.o hbD);have hS0:(fun w'=>w'.heap[P]?=some (.cells #[.slice a1 l1.length p1,.slice (some ⟨g2,0,none⟩) l2.length p2] 26 (0,0))) wD:=HS.o.blk;change K 0 _
  iterate 2
   refine Lt.ti (v:=?_) hS0 ?_ ?_;rotate_left 1
   ·rintro w hSw;obtain⟨c0,c1⟩:=Am hSw;go_simp;first|done|with_reducible rfl
   simp only[gX]
  refine Lt.ti (i:=6) (v:=?_) hS0 ?_ ?_;rotate_left 1
  ·rintro w hSw;obtain⟨c0,c1⟩:=Am hSw;go_simp;first|done|with_reducible rfl
  simp only[gX];refine Lt.sp (i:=2) (fun K hK=>?_);go_simp;refine(Ax _ _).mono ?_;rintro e wA ⟨rfl,hbA⟩;replace HS:=hid (HS.o.bl hbA);replace HR:=hid (HR.o.bl hBw hbA);replace HQ:=hid (Aa HQ.o hbA);replace HO:=hid (Cg HO.o hbA);have hS1:(fun w'=>w'.heap[P]?=some (.cells #[.slice a1 l1.length p1,.slice (some ⟨g2,0,none⟩) l2.length p2] 26 (0,0))) wA:=HS.o.blk;refine hK.out _ _ (fun _=>hS1) (fun _=>?_);clear hK K hbA
  try simp only[gX]
  refine Lt.sp (i:=3) (fun K hK=>?_);go_simp;refine(Au _ _).mono ?_;rintro e wB ⟨rfl,hbB⟩;replace HS:=hid (HS.o.bl hbB);replace HR:=hid (HR.o.bl hBw hbB);replace HQ:=hid (Aa HQ.o hbB);replace HO:=hid (Cg HO.o hbB);have hS2:(fun w'=>w'.heap[P]?=some (.cells #[.slice a1 l1.length p1,.slice (some ⟨g2,0,none⟩) l2.length p2] 26 (0,0))) wB:=HS.o.blk;refine hK.out _ _ (fun _=>hS2) (fun _=>?_);clear hK K hbB
  try simp only[gX]
  refine Lt.sp (i:=4) (fun K hK=>?_);go_simp;refine(Au _ _).mono ?_;rintro e wC ⟨rfl,hbC⟩;replace HS:=hid (HS.o.bl hbC);replace HR:=hid (HR.o.bl hBw hbC);replace HQ:=hid (Aa HQ.o hbC);replace HO:=hid (Cg HO.o hbC);have hS3:(fun w'=>w'.heap[P]?=some (.cells #[.slice a1 l1.length p1,.slice (some ⟨g2,0,none⟩) l2.length p2] 26 (0,0))) wC:=HS.o.blk;refine hK.out _ _ (fun _=>hS3) (fun _=>?_);clear hK K hbC
  try simp only[gX]
  have hsC:w.heap.size<=wC.heap.size:=HR.o.size;have HSC:=HS;have HRC:=HR;have HQC:=HQ;refine Lt.sp (i:=5) (fun K hK=>?_);go_simp;refine Bz (Q:=fun x=>K _ x) ?_;intro wF hbwF HF
  try dsimp only
  have HBF:=hid hbwF;replace HS:=hid (HS.o.bl hbwF);replace HR:=hid (HR.o.bl hBw hbwF);replace HQ:=hid (Aa HQ.o hbwF);replace HO:=hid (Cg HO.o hbwF);have hS4:(fun w'=>w'.heap[P]?=some (.cells #[.slice a1 l1.length p1,.slice (some ⟨g2,0,none⟩) l2.length p2] 26 (0,0))) wF:=HS.o.blk;refine hK.out _ _ (fun _=>hS4) (fun _=>?_);clear hK K hbwF
  try simp only[gX]
  refine Lt.sp (i:=7) (fun K hK=>?_);have HOL:=hid (Jw (n:=3) (is:=[⟨1,⟨#[122,109,97,100,101]⟩,0⟩,⟨12,⟨#[]⟩,0⟩,⟨9,⟨#[]⟩,0⟩]) HF.o (Nat.le_refl wC.heap.size) rfl rfl (by omega));obtain⟨_,_,ee,r3⟩:=Ej rfl HO.o;cases ee;have hcl:=HC0.o;refine step_appI rfl (by rfl) wC.heap.size _ 3 _ (by rfl) HOL.o gc _ cc _ (by rfl) rfl r3 (by have:=Dj HF.o;omega) (by omega) (by omega) ?_;intro g' cap' w7 hown7 hgrow;clear hcl;have hrow:∀ j,Value.ownBlock (.slice (some ⟨wC.heap.size,0,none⟩) 3 3)=some j->wC.heap.size<=j:=fun j hj=>(HOL.o.lt j hj).1;have hbC7:Below wC.heap.size wC w7:=HBF.o.grown hgrow HBF.o.size (fun j hj=>hrow j hj);have HOW:=hid (Co (B':=w.heap.size) hown7 hsC);clear HS HR HQ HF HOL HO hgrow hown7 hrow r3 HBF;have HS:=hid (HSC.o.bl hbC7);have HR:=hid (HRC.o.bl hBw hbC7);have HQ:=hid (Aa HQC.o hbC7);clear HSC HRC HQC hbC7;have hS5:(fun w'=>w'.heap[P]?=some (.cells #[.slice a1 l1.length p1,.slice (some ⟨g2,0,none⟩) l2.length p2] 26 (0,0))) w7:=HS.o.blk;refine hK.out _ _ (fun _=>hS5) (fun _=>?_);clear hK K
  try simp only[gX]
  refine Lt.sp (i:=8) (fun K hK=>?_);go_simp;refine hK.out _ _ (fun _=>hS5) (fun _=>?_);clear hK K
  try simp only[gX]
  refine Lt.sp (i:=9) (fun K hK=>?_);go_simp;refine hK.out _ _ (fun _=>hS5) (fun _=>?_);clear hK K
  try simp only[gX]
  refine Lt.sp (i:=10) (fun K hK=>?_);go_simp;refine hK.out _ _ (fun _=>hS5) (fun _=>?_);clear hK K
  try simp only[gX]
  obtain⟨_,_,ev2,_,t0,t1,ft2⟩:=HS.o.dw.tc 0 hl0;cases ev2;refine Lt.sp (i:=11) (fun K hK=>?_);go_simp;refine hK.out _ _ (fun h=>absurd rfl h) (fun _=>?_);clear hK K;refine Lt.done (by kernel_rfl) ?_ _;obtain⟨nl,enl⟩:∃ y,3+(cx l2 0).t.code.length=y:=⟨_,rfl⟩;rw[enl] at HOW ⊢;obtain⟨is3,eis3⟩:∃ y,[(⟨1,⟨#[122,109,97,100,101]⟩,0⟩:I3),⟨12,⟨#[]⟩,0⟩,⟨9,⟨#[]⟩,0⟩]++(cx l2 0).t.code=y:=⟨_,rfl⟩;have hn3:nl=is3.length:=by rw[<- eis3,<- enl,List.length_append];rfl
  have ho3:w7.ownsRow w.heap.size 106 3 (.slice (some ⟨g',0,none⟩) nl cap') nl (Di is3):=by rw[<- eis3,Sl];exact HOW.o
  have hx3:∀ x∈is3,x.text.size<=50000:=by rw[<- eis3];intro x hx;rcases List.mem_append.1 hx with q|q;exact short3 (by decide) (by decide) (by decide) x q;exact(HS.o.bd.t _ (Dq hl0)).2.2 x q
  subst hn3;have hl3:is3.length<=400:=by rw[<- enl,HC0.o];omega
  have HN:=hid (HS.o.setC 0 hl0 ho3 hl3 hx3);have hgQ:w.heap.size≠g2:=fun e=>Cx.ne (T:=26) ⟨_,HQ.o⟩ HS.o.dw.t (by decide) (by rw[e];rfl);have HQ8:=hid (Bp HQ.o hgQ (j:=1) (.slice (some ⟨g',0,none⟩) is3.length cap'));have HR8:=hid (HR.o.set (b:=g2) (j:=1) hBw hg2 (.slice (some ⟨g',0,none⟩) is3.length cap'));obtain⟨l3,el3⟩:∃ y,l2.set 0 ⟨⟨(cx l2 0).t.name,is3⟩,.slice (some ⟨g',0,none⟩) is3.length cap'⟩=y:=⟨_,rfl⟩;have hl3l:l3.length<=100:=by rw[<- el3,List.length_set];omega
  rw[el3] at HN;obtain⟨wE,eE⟩:∃ y,w7.setCell ⟨g2,1,none⟩ (.slice (some ⟨g',0,none⟩) is3.length cap')=y:=⟨_,rfl⟩;replace HN:Hd (Sw wE P w.heap.size (.slice a1 l1.length p1) (.slice (some ⟨g2,0,none⟩) l2.length p2) l1 l3):=by show Sw _ _ _ _ _ _ _;rw[<- eE];exact HN.o
  rw[eE] at HQ8 HR8 ⊢;have HEL:=hid el3;have HEI:=hid eis3;clear eE el3 HS HQ HR HOW ho3 hx3 hl3 t0 t1 ft2 eis3 enl;have HS:=HN;have HQ:=HQ8;have HR:=HR8;clear HN HQ8 HR8;go_wp2_with fail;refine Lt.begin 10 (fun w'=>w'.heap[P]?=some (.cells #[.slice a1 l1.length p1,.slice (some ⟨g2,0,none⟩) l2.length p2] 26 (0,0))) (by kernel_rfl) ?_;obtain⟨wD2,eD⟩:∃ y,wE.drew=y:=⟨_,rfl⟩;rw[eD];have hbD:Below wE.heap.size wE wD2:=by rw[<- eD];exact(Below.refl _ _).drew
  clear eD;replace HS:=hid (HS.o.bl hbD);replace HR:=hid (HR.o.bl hBw hbD);replace HQ:=hid (Aa HQ.o hbD);have hS0:(fun w'=>w'.heap[P]?=some (.cells #[.slice a1 l1.length p1,.slice (some ⟨g2,0,none⟩) l2.length p2] 26 (0,0))) wD2:=HS.o.blk;change K 0 _
  iterate 2
   refine Lt.ti (v:=?_) hS0 ?_ ?_;rotate_left 1
   ·rintro w hSw;obtain⟨c0,c1⟩:=Am hSw;go_simp;first|done|with_reducible rfl
   simp only[gX]
  refine Lt.sp (i:=2) (fun K hK=>?_);go_simp;refine(Ax _ _).mono ?_;rintro e wA2 ⟨rfl,hbA⟩;replace HS:=hid (HS.o.bl hbA);replace HR:=hid (HR.o.bl hBw hbA);replace HQ:=hid (Aa HQ.o hbA);have hS1:(fun w'=>w'.heap[P]?=some (.cells #[.slice a1 l1.length p1,.slice (some ⟨g2,0,none⟩) l2.length p2] 26 (0,0))) wA2:=HS.o.blk;refine hK.out _ _ (fun _=>hS1) (fun _=>?_);clear hK K hbA
  try simp only[gX]
  refine Lt.sp (i:=3) (fun K hK=>?_);go_simp;refine(Au _ _).mono ?_;rintro e wE2 ⟨rfl,hbE⟩;replace HS:=hid (HS.o.bl hbE);replace HR:=hid (HR.o.bl hBw hbE);replace HQ:=hid (Aa HQ.o hbE);have hS2:(fun w'=>w'.heap[P]?=some (.cells #[.slice a1 l1.length p1,.slice (some ⟨g2,0,none⟩) l2.length p2] 26 (0,0))) wE2:=HS.o.blk;refine hK.out _ _ (fun _=>hS2) (fun _=>?_);clear hK K hbE
  try simp only[gX]
  have hsE:w.heap.size<=wE2.heap.size:=HR.o.size;refine Lt.sp (i:=4) (fun K hK=>?_);go_simp;refine Bz (Q:=fun x=>K _ x) ?_;intro wF2 hbwF2 HF
  try dsimp only
  replace HS:=hid (HS.o.bl hbwF2);replace HR:=hid (HR.o.bl hBw hbwF2);replace HQ:=hid (Aa HQ.o hbwF2);have hS3:(fun w'=>w'.heap[P]?=some (.cells #[.slice a1 l1.length p1,.slice (some ⟨g2,0,none⟩) l2.length p2] 26 (0,0))) wF2:=HS.o.blk;refine hK.out _ _ (fun _=>hS3) (fun _=>?_);clear hK K hbwF2
  try simp only[gX]
  change K 5 _
  iterate 2
   refine Lt.ti (v:=?_) hS3 ?_ ?_;rotate_left 1
   ·rintro w hSw;obtain⟨c0,c1⟩:=Am hSw;go_simp;first|done|with_reducible rfl
   simp only[gX]
  refine Lt.sp (i:=7) (fun K hK=>?_);go_simp;refine Bz (Q:=fun x=>K _ x) ?_;intro wG2 hbwG2 HG
  try dsimp only
  replace HS:=hid (HS.o.bl hbwG2);replace HR:=hid (HR.o.bl hBw hbwG2);replace HQ:=hid (Aa HQ.o hbwG2);replace HF:=hid (Aa HF.o hbwG2);have hS4:(fun w'=>w'.heap[P]?=some (.cells #[.slice a1 l1.length p1,.slice (some ⟨g2,0,none⟩) l2.length p2] 26 (0,0))) wG2:=HS.o.blk;refine hK.out _ _ (fun _=>hS4) (fun _=>?_);clear hK K hbwG2
  try simp only[gX]
  refine Lt.sp (i:=8) (fun K hK=>?_);refine Et rfl (by rfl) w.heap.size (.slice (some ⟨g2,0,none⟩) l2.length p2) _ (Ha l3) (by rfl) HS.o.dw.t wF2.heap.size _ _ rfl (by rfl) HG.o HR.o.size (by omega) ?_;intro g' cap' w7 hown7 hgrow;have HN:=hid (HS.o.putT (s:=⟨_,[⟨1,⟨#[109,97,100,101]⟩,0⟩,⟨15,⟨#[]⟩,0⟩]⟩) (Jw (n:=2) HF.o hsE rfl rfl (by omega)) hgrow hown7 (by omega) ⟨by decide,by simp,short2 (by decide) (Nat.zero_le _)⟩);have hrow:∀ j,Value.ownBlock (.slice (some ⟨g2,0,none⟩) l2.length p2)=some j->w.heap.size<=j:=fun j hj=>(HS.o.dw.t.lt j hj).1;have HP7:=hid (HS.o.app hgrow (Or.inr rfl));have HR7:=hid ((HR.o.grow hBw hgrow hrow).set (b:=P) (j:=1) hBw hPw (.slice (some ⟨g',0,none⟩) (l3.length+1) cap'));have HQ7:=hid (Bp (Cj HQ.o hgrow (Cx.ne ⟨_,HQ.o⟩ HS.o.dw.t (by decide))) (by omega) (c:=P) (j:=1) (.slice (some ⟨g',0,none⟩) (l3.length+1) cap'));obtain⟨c0,c1⟩:=Am HP7.o;have fz:=fun j=>fH HP7.o j;have hS7:(fun w'=>w'.heap[P]?=some (.cells #[.slice a1 l1.length p1,.slice (some ⟨g2,0,none⟩) l2.length p2] 26 (0,0))) w7:=HP7.o;refine hK.out _ _ (fun _=>hS7) (fun _=>?_);clear hK K hgrow hown7 hrow;simp only[gX];refine Lt.ti (i:=9) (v:=?_) hS7 ?_ ?_;rotate_left 1
  ·rintro w hSw;obtain⟨c0,c1⟩:=Am hSw;go_simp;first|done|with_reducible rfl
  simp only[gX];refine Lt.sp (i:=10) (fun K hK=>?_);go_simp;refine hK.out _ _ (fun h=>absurd rfl h) (fun _=>?_);clear hK K;refine Lt.done (by kernel_rfl) ?_ _;obtain⟨d0,d1,_⟩:=HN.o.c;obtain⟨r0,r1⟩:=Am HQ7.o;have fr:=fun j=>fH HQ7.o j;go_wp2;refine bR (v:=.agg #[.slice a1 l1.length p1,(.slice (some ⟨g',0,none⟩) (l3.length+1) cap')]) (by simp[results,Tryz.results38,go_sem,r0,r1]) rfl ?_;have hSh:=fun c=>shal_zm (c:=c) HY.o HCT.o hl0 HEI.o HEL.o
  first|exact⟨_,_,_,_,rfl,HN.o.dw.ret HQ7.o,HN.o.bd,((HR7.o.set hBw (Nat.le_refl _) _).set hBw (Nat.le_refl _) _).more (by omega),hSh _⟩|exact⟨_,_,rfl,_,_,HN.o.dw.ret HQ7.o,HN.o.bd,((HR7.o.set hBw (Nat.le_refl _) _).set hBw (Nat.le_refl _) _).more (by omega),hSh _⟩
 ·have hx1I:¬ ((x:Int)=1):=by omega
  by_cases hx0:x=0
  ·subst hx0;go_wp2_with fail;refine(HR.o.pick (by omega) 3 (by omega) (by omega)).mono ?_;rintro e w3 ⟨y,rfl,hy,hr1,hg1⟩;replace HQ:=hid (Br HQ.o hg1 (by omega));clear HR;have HR:=hid hr1;clear hg1 hr1;obtain⟨wL,eL⟩:∃ y,w3.alloc (.cells #[.string ⟨#[97]⟩,.string ⟨#[110,111,110,101]⟩,.string ⟨#[116,48,48,48]⟩] 9)=y:=⟨_,rfl⟩;have hbL:Below w3.heap.size w3 wL:=by rw[<- eL];exact aN _ _
   have HL:Hd (wL.heap[w3.heap.size]?=some (.cells #[.string ⟨#[97]⟩,.string ⟨#[110,111,110,101]⟩,.string ⟨#[116,48,48,48]⟩] 9 (0,0))):=by show _=_;rw[<- eL];exact Al _ _
   have hLR:R<w3.heap.size:=by have:=HR.o.size;omega
   replace HR:=hid (HR.o.bl hBw hbL);replace HQ:=hid (Aa HQ.o hbL);clear hbL;go_wp2_with fail
   try rw[eL]
   clear eL;refine(HR.o.pick (by omega) 3 (by omega) (by omega)).mono ?_;rintro e wM ⟨j,rfl,hj,hr1,hg1⟩;replace HL:=hid (Br HL.o hg1 (by omega));replace HQ:=hid (Br HQ.o hg1 (by omega));clear HR;have HR:=hid hr1;clear hg1 hr1;have k0:wM.cell? ⟨w3.heap.size,0,none⟩=some (.string ⟨#[97]⟩):=by rw[cH HL.o];rfl
   have k1:wM.cell? ⟨w3.heap.size,1,none⟩=some (.string ⟨#[110,111,110,101]⟩):=by rw[cH HL.o];rfl
   have k2:wM.cell? ⟨w3.heap.size,2,none⟩=some (.string ⟨#[116,48,48,48]⟩):=by rw[cH HL.o];rfl
   obtain⟨nm,knm,hnm⟩:∃ nm:ByteArray,wM.cell? ⟨w3.heap.size,j,none⟩=some (.string nm)/\nm.size<=50000:=by rcases (show j=0\/j=1\/j=2 from by omega) with rfl|rfl|rfl<;>first|exact⟨_,k0,by decide⟩|exact⟨_,k1,by decide⟩|exact⟨_,k2,by decide⟩
   clear k0 k1 k2;have hjI:(j:Int)<3:=by omega
   have hlo:=HR.o.size;have hch:=Qv (59+y) nm wM (by omega) hnm;rw[show ((59+y:Nat):Int)=60+(y:Int)-1 from by omega] at hch;have HCH:=hid hch;clear hch;go_wp2_with fail;refine HCH.o.mono ?_;rintro e w4 ⟨hb4,v1,v2,l1,l2,rfl,hd,hbd,hqq⟩;have HSH:Hd (Pm (l2.map (·.t))):=by show Pm _;rw[hqq.2.2.2];exact shal_chain _ _ (by omega)
   clear HCH hqq;obtain⟨a1,p1,rfl⟩:=hd.s1;obtain⟨a2,p2,rfl⟩:=hd.s2;have HD:=hid (hd.base hlo);have HBD:=hid hbd;replace HQ:=hid (Aa HQ.o hb4);replace HR:=hid (HR.o.bl hBw hb4);clear hd hbd hb4 knm;obtain⟨r0,r1⟩:=Am HQ.o;have fr:=fun j=>fH HQ.o j;go_wp2;refine bR (v:=.agg #[.slice a1 l1.length p1,.slice a2 l2.length p2]) (by simp[results,Tryz.results38,go_sem,r0,r1]) rfl ?_
   first|exact⟨_,_,_,_,rfl,HD.o.ret HQ.o,HBD.o,((HR.o.set hBw (Nat.le_refl _) _).set hBw (Nat.le_refl _) _).more (by omega),HSH.o⟩|exact⟨_,_,rfl,_,_,HD.o.ret HQ.o,HBD.o,((HR.o.set hBw (Nat.le_refl _) _).set hBw (Nat.le_refl _) _).more (by omega),HSH.o⟩
  ·have hx0I:¬ ((x:Int)=0):=by omega
   go_wp2_with fail;obtain⟨k1,pp,k2,k3⟩:=HR.o;have hlo:=k1.size;refine(l3Draw_any B R a len cap pp w2 k3 (Nat.le_trans hBw k1.size) (by omega)).mono ?_;rintro e w3 ⟨v1,v2,l1,l2,rfl,hd,hbd,hk,hn1,hn2,hc⟩;replace HQ:=hid (Br HQ.o hk.1 (by omega));clear HR;have HR:=hid (Bd.then k1 k2 hk);clear hk k1 k2 k3;obtain⟨a1,p1,rfl⟩:=hd.s1;obtain⟨a2,p2,rfl⟩:=hd.s2;obtain⟨w4,e4⟩:∃ y,w3.alloc (.cells #[.slice a1 l1.length p1,.slice a2 l2.length p2] 26)=y:=⟨_,rfl⟩;have hb4:Below w3.heap.size w3 w4:=by rw[<- e4];exact aN _ _
   have q4:w4.heap[w3.heap.size]?=some (.cells #[.slice a1 l1.length p1,.slice a2 l2.length p2] 26 (0,0)):=by rw[<- e4];exact Al _ _
   have hP3:R<w3.heap.size:=by have:=HR.o.size;omega
   have HD:=hid ((hd.base hlo).bl hb4);have HBD:=hid hbd;have HC:=hid hc;replace HQ:=hid (Aa HQ.o hb4);replace HR:=hid (HR.o.bl hBw hb4);obtain⟨c0,c1⟩:=Am q4;clear hd hbd hb4 hc
   by_cases hx3:x<3
   ·(have hx3I:(x:Int)<3:=by omega);go_wp2_with fail;clear e4 c0 c1;obtain⟨k1,p5,k2,k3⟩:=HR.o;refine(Yt B R a len cap p5 w4 k3 (Nat.le_trans hBw k1.size) (by omega) HD.o HBD.o hn1 hn2 HC.o).mono ?_;unfold SpS;rintro e w5 ⟨u1,u2,m1,m2,rfl,hd,hbd,hk,hsh⟩;have HSH:=hid hsh;clear hsh;replace HQ:=hid (Br HQ.o hk.1 (by omega));clear HR;have HR:=hid (Bd.then k1 k2 hk);have HD5:=hid (hd.base k1.size);have HB5:=hid hbd;clear hk k1 k2 k3 hd hbd;obtain⟨b1,n1,rfl⟩:=HD5.o.s1;obtain⟨b2,n2,rfl⟩:=HD5.o.s2;obtain⟨r0,r1⟩:=Am HQ.o;have fr:=fun j=>fH HQ.o j;go_wp2;refine bR (v:=.agg #[.slice b1 m1.length n1,.slice b2 m2.length n2]) (by simp[results,Tryz.results38,go_sem,r0,r1]) rfl ?_
    first|exact⟨_,_,_,_,rfl,HD5.o.ret HQ.o,HB5.o,((HR.o.set hBw (Nat.le_refl _) _).set hBw (Nat.le_refl _) _).more (by omega),HSH.o⟩|exact⟨_,_,rfl,_,_,HD5.o.ret HQ.o,HB5.o,((HR.o.set hBw (Nat.le_refl _) _).set hBw (Nat.le_refl _) _).more (by omega),HSH.o⟩
   ·(have hx3I:¬ (x:Int)<3:=by omega);obtain⟨r0,r1⟩:=Am HQ.o;have fr:=fun j=>fH HQ.o j;go_wp2;refine bR (v:=.agg #[.slice a1 l1.length p1,.slice a2 l2.length p2]) (by simp[results,Tryz.results38,go_sem,r0,r1]) rfl ?_
    first|exact⟨_,_,_,_,rfl,HD.o.ret HQ.o,HBD.o,((HR.o.set hBw (Nat.le_refl _) _).set hBw (Nat.le_refl _) _).more (by omega),Em _ (by omega)⟩|exact⟨_,_,rfl,_,_,HD.o.ret HQ.o,HBD.o,((HR.o.set hBw (Nat.le_refl _) _).set hBw (Nat.le_refl _) _).more (by omega),Em _ (by omega)⟩
end Go.Proofs.YtjlnkepkkdefdaaGreatDoor
