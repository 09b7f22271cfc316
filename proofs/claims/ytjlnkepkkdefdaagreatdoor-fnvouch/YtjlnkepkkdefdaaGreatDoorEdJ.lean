import Derived.Test.YtjlnkepkkdefdaaGreatDoorEdI
namespace Go.Proofs.YtjlnkepkkdefdaaGreatDoor
set_option maxHeartbeats 16000000
set_option maxRecDepth 100000
open Go.RowKit Go.Deep
set_option linter.unusedVariables false
set_option linter.unusedSimpArgs false
theorem Yt (B R:Nat) (a:Option Addr) (len cap p:Nat) (w:World) {lo0:Nat} {v1 v2:Value} {l1:List S2} {l2:List TC} (h:Rd B w R a len cap p) (hBw:B<=w.heap.size) (hp:p<=40000) (hd:Dw w lo0 v1 v2 l1 l2) (hbd:Tm l1 l2) (hn1:l1.length<=6) (hn2:l2.length<=8) (hc:∀ x∈l2,0<x.t.code.length) :
  Calls Tryz.prog 65 #[.pointer (some ⟨R,0,none⟩),.agg #[v1,v2]] w fun e w'=>SpS B R a len cap p 600 w e w':=by
 unfold SpS
 have hRB:=h.lt
 have hRw:R<w.heap.size:=by omega
 obtain⟨s1,q1,rfl⟩:=hd.s1
 obtain⟨s2,q2,rfl⟩:=hd.s2
 obtain⟨w2,e2⟩:∃ y,(w.alloc (.cells #[.slice s1 l1.length q1,.slice s2 l2.length q2] 26)).alloc (.cells #[.slice none 0 0,.slice none 0 0] 26)=y:=⟨_,rfl⟩
 have hb2:Below w.heap.size w w2:=by rw[<- e2];exact(aN _ _).alloc (by simp) _
 have qQ:w2.heap[w.heap.size+1]?=some (.cells #[.slice none 0 0,.slice none 0 0] 26 (0,0)):=by
  have hh:=Al (w.alloc (.cells #[.slice s1 l1.length q1,.slice s2 l2.length q2] 26)) (.cells #[.slice none 0 0,.slice none 0 0] 26);rw[show (w.alloc (.cells #[.slice s1 l1.length q1,.slice s2 l2.length q2] 26)).heap.size=w.heap.size+1 from by simp,e2] at hh;exact hh
 have hws:w.heap.size+2=w2.heap.size:=by rw[<- e2];simp
 have HW:=hid (Wd ⟨#[]⟩ (hd.bl hb2) hbd)
 have HR2:Hd (Bd B R a len cap p (0) w w2):=⟨Dk (Pf w R) hb2,p,by omega,h.bl hBw hb2⟩
 have E2:Hd ((w.alloc (.cells #[.slice s1 l1.length q1,.slice s2 l2.length q2] 26)).alloc (.cells #[.slice none 0 0,.slice none 0 0] 26)=w2):=e2
 have HQ:=hid qQ
 have HWS:=hid hws
 have HC0:=hid hc
 have hn1o:=hn1
 have hn2o:=hn2
 clear h hd hbd hb2 e2 qQ hws hc hn1 hn2
 go_enter Tryz.func65,Tryz.ntmps65
 go_wp2_with fail
 rw[E2.o]
 clear E2
 refine HW.o.mono ?_
 rintro e w3 ⟨hb3,u1,u2,m1,m2,rfl,hd,hbd,hm1,hm2,hsub⟩
 clear HW
 have hn1:m1.length<=6:=by omega
 have hn2:m2.length<=8:=by omega
 have HC:Hd (∀ x∈m2,0<x.t.code.length):=fun x hx=>by obtain⟨y,hy,ey⟩:=hsub x hx;rw[<- ey];exact HC0.o y hy
 obtain⟨a1,p1,rfl⟩:=hd.s1
 obtain⟨a2,p2,rfl⟩:=hd.s2
 obtain⟨w4,e4⟩:∃ y,w3.alloc (.cells #[.slice a1 m1.length p1,.slice a2 m2.length p2] 26)=y:=⟨_,rfl⟩
 have hb4:Below w3.heap.size w3 w4:=by rw[<- e4];exact aN _ _
 obtain⟨P,eP⟩:∃ P,w3.heap.size=P:=⟨_,rfl⟩
 have hP2:w.heap.size+2<=P:=by have:=hb3.size;have:=HWS.o;omega
 have q4:w4.heap[P]?=some (.cells #[.slice a1 m1.length p1,.slice a2 m2.length p2] 26 (0,0)):=by rw[<- e4,<- eP];exact Al _ _
 have HS:Hd (Sw w4 P w.heap.size (.slice a1 m1.length p1) (.slice a2 m2.length p2) m1 m2):=⟨q4,(hd.base (by have:=HWS.o;omega)).bl hb4,hbd,by omega⟩
 replace HQ:=hid (Aa (Aa HQ.o hb3) hb4)
 have HR:=hid ((HR2.o.bl hBw hb3).bl hBw hb4)
 have hPw:w.heap.size<=P:=by omega
 have hPn:w.heap.size+1≠P:=by omega
 clear hd hbd q4 hb3 hb4 HR2 HWS HC0 hsub hm1 hm2 hn1o hn2o
 go_wp2_with fail
 clear e4 eP
 refine(HR.o.pick (by omega) 8 (by omega) (by omega)).mono ?_
 rintro e w5 ⟨x,rfl,hx,hr1,hg1⟩
 replace HS:=hid (HS.o.gb hg1 hRw)
 replace HQ:=hid (Br HQ.o hg1 (by omega))
 clear HR
 have HR:=hid hr1
 clear hg1 hr1
 rcases (show x=0\/x=1\/x=2\/x=3\/x=4\/x=5\/x=6\/x=7 from by omega) with rfl|rfl|rfl|rfl|rfl|rfl|rfl|rfl
 ·go_wp2_with fail;refine Lt.begin 11 (fun w'=>w'.heap[P]?=some (.cells #[.slice a1 m1.length p1,.slice a2 m2.length p2] 26 (0,0))) (by kernel_rfl) ?_;obtain⟨wD,eD⟩:∃ y,w5.drew=y:=⟨_,rfl⟩;rw[eD];have hbD:Below w5.heap.size w5 wD:=by rw[<- eD];exact(Below.refl _ _).drew
  clear eD;replace HS:=hid (HS.o.bl hbD);replace HR:=hid (HR.o.bl hBw hbD);replace HQ:=hid (Aa HQ.o hbD);have hS0:(fun w'=>w'.heap[P]?=some (.cells #[.slice a1 m1.length p1,.slice a2 m2.length p2] 26 (0,0))) wD:=HS.o.blk;change K 0 _
  iterate 2
   refine Lt.ti (v:=?_) hS0 ?_ ?_;rotate_left 1
   ·rintro w hSw;obtain⟨c0,c1⟩:=Am hSw;go_simp;first|done|with_reducible rfl
   simp only[gX]
  refine Lt.ti (i:=3) (v:=?_) hS0 ?_ ?_;rotate_left 1
  ·rintro w hSw;obtain⟨c0,c1⟩:=Am hSw;go_simp;first|done|with_reducible rfl
  simp only[gX];refine Lt.two (i:=2) (j:=4) (by kernel_rfl) rfl rfl (fun K hK=>?_) (fun K hK=>?_)
  ·go_simp;refine Bz (Q:=fun x=>K _ x) ?_;intro wX hbX HL
   try dsimp only
   obtain⟨dl,edl⟩:∃ y,wD.heap.size=y:=⟨_,rfl⟩;have hdl:R<dl:=by have:=HR.o.size;omega
   rw[edl] at HL ⊢;clear edl;replace HS:=hid (HS.o.bl hbX);replace HR:=hid (HR.o.bl hBw hbX);replace HQ:=hid (Aa HQ.o hbX);have hS1:(fun w'=>w'.heap[P]?=some (.cells #[.slice a1 m1.length p1,.slice a2 m2.length p2] 26 (0,0))) wX:=HS.o.blk;refine hK.out _ _ (fun _=>hS1) (fun _=>?_);clear hK K hbX
   try simp only[gX]
   refine Lt.sp (i:=4) (fun K hK=>?_);go_simp;refine(HR.o.pick (by omega) 5 (by omega) (by omega)).mono ?_;rintro e wA ⟨j,rfl,hj,hrA,hgA⟩;replace HS:=hid (HS.o.gb hgA (by omega));replace HR:=hid hrA;replace HQ:=hid (Br HQ.o hgA (by omega));replace HL:=hid (Br HL.o hgA (by omega));have hS2:(fun w'=>w'.heap[P]?=some (.cells #[.slice a1 m1.length p1,.slice a2 m2.length p2] 26 (0,0))) wA:=HS.o.blk;refine hK.out _ _ (fun _=>hS2) (fun _=>?_);clear hK K hgA hrA
   try simp only[gX]
   replace hj:j<5:=by omega
   have k0:wA.cell? ⟨dl,0,none⟩=some (.string ⟨#[97]⟩):=by rw[cH HL.o];rfl
   have k1:wA.cell? ⟨dl,1,none⟩=some (.string ⟨#[122,122]⟩):=by rw[cH HL.o];rfl
   have k2:wA.cell? ⟨dl,2,none⟩=some (.string ⟨#[]⟩):=by rw[cH HL.o];rfl
   have k3:wA.cell? ⟨dl,3,none⟩=some (.string ⟨#[120,32,121]⟩):=by rw[cH HL.o];rfl
   have k4:wA.cell? ⟨dl,4,none⟩=some (.string ⟨#[116,48]⟩):=by rw[cH HL.o];rfl
   obtain⟨nm,knm,hnm⟩:∃ nm:ByteArray,wA.cell? ⟨dl,j,none⟩=some (.string nm)/\nm.size<=50000:=by rcases (show j=0\/j=1\/j=2\/j=3\/j=4 from by omega) with rfl|rfl|rfl|rfl|rfl<;>first|exact⟨_,k0,by decide⟩|exact⟨_,k1,by decide⟩|exact⟨_,k2,by decide⟩|exact⟨_,k3,by decide⟩|exact⟨_,k4,by decide⟩
   have hjI:(j:Int)<5:=by omega
   clear k0 k1 k2 k3 k4;refine Lt.sp (i:=5) (fun K hK=>?_);go_simp;refine hK.out _ _ (fun _=>hS2) (fun _=>?_);clear hK K
   try simp only[gX]
   refine Lt.sp (i:=6) (fun K hK=>?_);go_simp;refine hK.out _ _ (fun _=>hS2) (fun _=>?_);clear hK K
   try simp only[gX]
   refine Lt.sp (i:=7) (fun K hK=>?_);go_simp;refine hK.out _ _ (fun _=>hS2) (fun _=>?_);clear hK K
   try simp only[gX]
   clear knm;refine Lt.sp (i:=8) (fun K hK=>?_);go_simp;refine Bz (Q:=fun x=>K _ x) ?_;intro wG hbwG HG
   try dsimp only
   replace HS:=hid (HS.o.bl hbwG);replace HR:=hid (HR.o.bl hBw hbwG);replace HQ:=hid (Aa HQ.o hbwG);replace HL:=hid (Aa HL.o hbwG);have hS3:(fun w'=>w'.heap[P]?=some (.cells #[.slice a1 m1.length p1,.slice a2 m2.length p2] 26 (0,0))) wG:=HS.o.blk;refine hK.out _ _ (fun _=>hS3) (fun _=>?_);clear hK K hbwG
   try simp only[gX]
   refine Lt.sp (i:=9) (fun K hK=>?_);refine Kv rfl (by rfl) w.heap.size (.slice a1 m1.length p1) _ (Fp m1) (by rfl) HS.o.dw.s wA.heap.size _ _ (by rfl) HG.o HR.o.size (by omega) ?_;intro g' cap' w7 hown7 hgrow;have HN:=hid (HS.o.putS (s:=⟨_,_⟩) hgrow hown7 (by omega) ⟨hnm,Nat.zero_le _⟩);have hrow:∀ j,Value.ownBlock (.slice a1 m1.length p1)=some j->w.heap.size<=j:=fun j hj=>(HS.o.dw.s.lt j hj).1;have HP7:=hid (HS.o.app hgrow (Or.inl rfl));have HR7:=hid ((HR.o.grow hBw hgrow hrow).set (b:=P) (j:=0) hBw hPw (.slice (some ⟨g',0,none⟩) (m1.length+1) cap'));have HQ7:=hid (Bp (Cj HQ.o hgrow (Cx.ne ⟨_,HQ.o⟩ HS.o.dw.s (by decide))) (by omega) (c:=P) (j:=0) (.slice (some ⟨g',0,none⟩) (m1.length+1) cap'));obtain⟨c0,c1⟩:=Am HP7.o;have fz:=fun j=>fH HP7.o j;have hS7:(fun w'=>w'.heap[P]?=some (.cells #[.slice a1 m1.length p1,.slice a2 m2.length p2] 26 (0,0))) w7:=HP7.o;refine hK.out _ _ (fun _=>hS7) (fun _=>?_);clear hK K hgrow hown7 hrow;simp only[gX];refine Lt.ti (i:=10) (v:=?_) hS7 ?_ ?_;rotate_left 1
   ·rintro w hSw;obtain⟨c0,c1⟩:=Am hSw;go_simp;first|done|with_reducible rfl
   simp only[gX];refine Lt.sp (i:=11) (fun K hK=>?_);go_simp;refine hK.out _ _ (fun h=>absurd rfl h) (fun _=>?_);clear hK K;refine Lt.done (by kernel_rfl) ?_ _;obtain⟨d0,d1,_⟩:=HN.o.c;obtain⟨r0,r1⟩:=Am HQ7.o;have fr:=fun j=>fH HQ7.o j;go_wp2;refine bR (v:=.agg #[(.slice (some ⟨g',0,none⟩) (m1.length+1) cap'),.slice a2 m2.length p2]) (by simp[results,Tryz.results65,go_sem,r0,r1]) rfl ?_;obtain⟨u1,u2,n1,n2,k1,k2,k3,k4⟩:=Ea HN.o HR7.o hBw HQ7.o (by omega) (by omega) (Em _ (by first|omega|(simp;omega)))
   first|exact⟨u1,u2,n1,n2,k1,k2,k3,k4⟩|exact⟨u1,u2,k1,n1,n2,k2,k3,k4⟩
  ·go_simp;refine(HR.o.pick (by omega) 5 (by omega) (by omega)).mono ?_;rintro e wA ⟨j,rfl,hj,hrA,hgA⟩;replace HS:=hid (HS.o.gb hgA (by omega));replace HR:=hid hrA;replace HQ:=hid (Br HQ.o hgA (by omega));have hS4:(fun w'=>w'.heap[P]?=some (.cells #[.slice a1 m1.length p1,.slice a2 m2.length p2] 26 (0,0))) wA:=HS.o.blk;refine hK.out _ _ (fun _=>hS4) (fun _=>?_);clear hK K hgA hrA
   try simp only[gX]
   refine Lt.sp (i:=2) (fun K hK=>?_);go_simp;refine Bz (Q:=fun x=>K _ x) ?_;intro wX hbX HL
   try dsimp only
   obtain⟨dl,edl⟩:∃ y,wA.heap.size=y:=⟨_,rfl⟩;rw[edl] at HL ⊢;clear edl;replace HS:=hid (HS.o.bl hbX);replace HR:=hid (HR.o.bl hBw hbX);replace HQ:=hid (Aa HQ.o hbX);have hS5:(fun w'=>w'.heap[P]?=some (.cells #[.slice a1 m1.length p1,.slice a2 m2.length p2] 26 (0,0))) wX:=HS.o.blk;refine hK.out _ _ (fun _=>hS5) (fun _=>?_);clear hK K hbX
   try simp only[gX]
   replace hj:j<5:=by omega
   have k0:wX.cell? ⟨dl,0,none⟩=some (.string ⟨#[97]⟩):=by rw[cH HL.o];rfl
   have k1:wX.cell? ⟨dl,1,none⟩=some (.string ⟨#[122,122]⟩):=by rw[cH HL.o];rfl
   have k2:wX.cell? ⟨dl,2,none⟩=some (.string ⟨#[]⟩):=by rw[cH HL.o];rfl
   have k3:wX.cell? ⟨dl,3,none⟩=some (.string ⟨#[120,32,121]⟩):=by rw[cH HL.o];rfl
   have k4:wX.cell? ⟨dl,4,none⟩=some (.string ⟨#[116,48]⟩):=by rw[cH HL.o];rfl
   obtain⟨nm,knm,hnm⟩:∃ nm:ByteArray,wX.cell? ⟨dl,j,none⟩=some (.string nm)/\nm.size<=50000:=by rcases (show j=0\/j=1\/j=2\/j=3\/j=4 from by omega) with rfl|rfl|rfl|rfl|rfl<;>first|exact⟨_,k0,by decide⟩|exact⟨_,k1,by decide⟩|exact⟨_,k2,by decide⟩|exact⟨_,k3,by decide⟩|exact⟨_,k4,by decide⟩
   have hjI:(j:Int)<5:=by omega
   clear k0 k1 k2 k3 k4;refine Lt.sp (i:=5) (fun K hK=>?_);go_simp;refine hK.out _ _ (fun _=>hS5) (fun _=>?_);clear hK K
   try simp only[gX]
   refine Lt.sp (i:=6) (fun K hK=>?_);go_simp;refine hK.out _ _ (fun _=>hS5) (fun _=>?_);clear hK K
   try simp only[gX]
   refine Lt.sp (i:=7) (fun K hK=>?_);go_simp;refine hK.out _ _ (fun _=>hS5) (fun _=>?_);clear hK K
   try simp only[gX]
   clear knm;refine Lt.sp (i:=8) (fun K hK=>?_);go_simp;refine Bz (Q:=fun x=>K _ x) ?_;intro wG hbwG HG
   try dsimp only
   replace HS:=hid (HS.o.bl hbwG);replace HR:=hid (HR.o.bl hBw hbwG);replace HQ:=hid (Aa HQ.o hbwG);replace HL:=hid (Aa HL.o hbwG);have hS6:(fun w'=>w'.heap[P]?=some (.cells #[.slice a1 m1.length p1,.slice a2 m2.length p2] 26 (0,0))) wG:=HS.o.blk;refine hK.out _ _ (fun _=>hS6) (fun _=>?_);clear hK K hbwG
   try simp only[gX]
   refine Lt.sp (i:=9) (fun K hK=>?_);refine Kv rfl (by rfl) w.heap.size (.slice a1 m1.length p1) _ (Fp m1) (by rfl) HS.o.dw.s wX.heap.size _ _ (by rfl) HG.o HR.o.size (by omega) ?_;intro g' cap' w7 hown7 hgrow;have HN:=hid (HS.o.putS (s:=⟨_,_⟩) hgrow hown7 (by omega) ⟨hnm,Nat.zero_le _⟩);have hrow:∀ j,Value.ownBlock (.slice a1 m1.length p1)=some j->w.heap.size<=j:=fun j hj=>(HS.o.dw.s.lt j hj).1;have HP7:=hid (HS.o.app hgrow (Or.inl rfl));have HR7:=hid ((HR.o.grow hBw hgrow hrow).set (b:=P) (j:=0) hBw hPw (.slice (some ⟨g',0,none⟩) (m1.length+1) cap'));have HQ7:=hid (Bp (Cj HQ.o hgrow (Cx.ne ⟨_,HQ.o⟩ HS.o.dw.s (by decide))) (by omega) (c:=P) (j:=0) (.slice (some ⟨g',0,none⟩) (m1.length+1) cap'));obtain⟨c0,c1⟩:=Am HP7.o;have fz:=fun j=>fH HP7.o j;have hS7:(fun w'=>w'.heap[P]?=some (.cells #[.slice a1 m1.length p1,.slice a2 m2.length p2] 26 (0,0))) w7:=HP7.o;refine hK.out _ _ (fun _=>hS7) (fun _=>?_);clear hK K hgrow hown7 hrow;simp only[gX];refine Lt.ti (i:=10) (v:=?_) hS7 ?_ ?_;rotate_left 1
   ·rintro w hSw;obtain⟨c0,c1⟩:=Am hSw;go_simp;first|done|with_reducible rfl
   simp only[gX];refine Lt.sp (i:=11) (fun K hK=>?_);go_simp;refine hK.out _ _ (fun h=>absurd rfl h) (fun _=>?_);clear hK K;refine Lt.done (by kernel_rfl) ?_ _;obtain⟨d0,d1,_⟩:=HN.o.c;obtain⟨r0,r1⟩:=Am HQ7.o;have fr:=fun j=>fH HQ7.o j;go_wp2;refine bR (v:=.agg #[(.slice (some ⟨g',0,none⟩) (m1.length+1) cap'),.slice a2 m2.length p2]) (by simp[results,Tryz.results65,go_sem,r0,r1]) rfl ?_;obtain⟨u1,u2,n1,n2,k1,k2,k3,k4⟩:=Ea HN.o HR7.o hBw HQ7.o (by omega) (by omega) (Em _ (by first|omega|(simp;omega)))
   first|exact⟨u1,u2,n1,n2,k1,k2,k3,k4⟩|exact⟨u1,u2,k1,n1,n2,k2,k3,k4⟩
 ·obtain⟨d0,d1,_⟩:=HS.o.c
  by_cases hl:1<m2.length
  ·have hlI:(1:Int)<(m2.length:Int):=by omega
   have hl0:0<m2.length:=by omega
   obtain⟨g2,cp2,ev,hg2,t0,t1,ft⟩:=HS.o.dw.tc 0 (by omega);cases ev;obtain⟨_,_,ev3,_,t2,t3,_⟩:=HS.o.dw.tc 1 (by omega);cases ev3;have HO0:=hid (HS.o.dw.c _ (Dq (show 0<m2.length by omega)));have HO1:=hid (HS.o.dw.c _ (Dq (show 1<m2.length by omega)));have HB0:=hid (HS.o.bd.t _ (Dq (show 0<m2.length by omega)));have HB1:=hid (HS.o.bd.t _ (Dq (show 1<m2.length by omega)));obtain⟨y0,ey0⟩:∃ y,cx m2 0=y:=⟨_,rfl⟩;obtain⟨y1,ey1⟩:∃ y,cx m2 1=y:=⟨_,rfl⟩;rw[ey0] at t0 t1 HO0 HB0;rw[ey1] at t2 t3 HO1 HB1;clear ey0 ey1;obtain⟨f0,f1,ec0,_⟩:=Ej rfl HO0.o;obtain⟨f2,f3,ec1,_⟩:=Ej rfl HO1.o;have E0:=hid ec0;have E1:=hid ec1;rw[ec0] at t1;rw[ec1] at t3;clear ec0 ec1;obtain⟨w6,e6⟩:∃ y,w5.alloc (.cells #[.string y0.t.name,.slice f0 y0.t.code.length f1] 62)=y:=⟨_,rfl⟩;have hb6:Below w5.heap.size w5 w6:=by rw[<- e6];exact aN _ _
   have HX:Hd (w6.heap[w5.heap.size]?=some (.cells #[.string y0.t.name,.slice f0 y0.t.code.length f1] 62 (0,0))):=by show _=_;rw[<- e6];exact Al _ _
   have hg5:g2<w5.heap.size:=World.block_lt_of_cell? _ _ t0;have HT2:=hid (Ab hb6 t2);have HT3:=hid (Ab hb6 t3);go_wp2_with fail;clear e6 t0 t1 t2 t3 d0 d1;replace HS:=hid (HS.o.bl hb6);replace HR:=hid (HR.o.bl hBw hb6);replace HQ:=hid (Aa HQ.o hb6);replace HO0:=hid (Cg HO0.o hb6);replace HO1:=hid (Cg HO1.o hb6);clear hb6;refine Lt.begin 7 (fun w'=>w'.heap[P]?=some (.cells #[.slice a1 m1.length p1,.slice (some ⟨g2,0,none⟩) m2.length p2] 26 (0,0))/\w'.cell? ⟨g2,2,none⟩=some (.string y1.t.name)/\w'.cell? ⟨g2,3,none⟩=some (.slice f2 y1.t.code.length f3)) (by kernel_rfl) ?_;obtain⟨wD,eD⟩:∃ y,w6.drew=y:=⟨_,rfl⟩;rw[eD];have hbD:Below w6.heap.size w6 wD:=by rw[<- eD];exact(Below.refl _ _).drew
   clear eD;replace HS:=hid (HS.o.bl hbD);replace HR:=hid (HR.o.bl hBw hbD);replace HQ:=hid (Aa HQ.o hbD);replace HX:=hid (Aa HX.o hbD);replace HO0:=hid (Cg HO0.o hbD);replace HO1:=hid (Cg HO1.o hbD);replace HT2:=hid (Ab hbD HT2.o);replace HT3:=hid (Ab hbD HT3.o);have hS0:(fun w'=>w'.heap[P]?=some (.cells #[.slice a1 m1.length p1,.slice (some ⟨g2,0,none⟩) m2.length p2] 26 (0,0))/\w'.cell? ⟨g2,2,none⟩=some (.string y1.t.name)/\w'.cell? ⟨g2,3,none⟩=some (.slice f2 y1.t.code.length f3)) wD:=⟨HS.o.blk,HT2.o,HT3.o⟩;change K 0 _
   iterate 6
    refine Lt.ti (v:=?_) hS0 ?_ ?_;rotate_left 1
    ·rintro w ⟨hs1,hs2,hs3⟩;obtain⟨c0,c1⟩:=Am hs1;go_simp;first|done|with_reducible rfl
    simp only[gX]
   refine Lt.sp (i:=6) (fun K hK=>?_);go_simp;refine hK.out _ _ (fun _=>hS0) (fun _=>?_);clear hK K
   try simp only[gX]
   obtain⟨_,_,ev2,_,t0,t1,ft2⟩:=HS.o.dw.tc 0 (by omega);cases ev2;refine Lt.sp (i:=7) (fun K hK=>?_);go_simp;refine hK.out _ _ (fun h=>absurd rfl h) (fun _=>?_);clear hK K;refine Lt.done (by kernel_rfl) ?_ _;have HN1:=hid (HS.o.setX 0 (by omega) HO1.o HB1.o);rw[E1.o] at HN1;have hs1:=(HS.o.dw.t.stored 0 (.string y1.t.name)).1;have hgQ:w.heap.size+1≠g2:=fun e=>Cx.ne (T:=26) ⟨_,HQ.o⟩ HS.o.dw.t (by decide) (by rw[e];rfl);have hgP:P≠g2:=fun e=>HS.o.noR.2 (by rw[e];rfl);have hgX:w5.heap.size≠g2:=by omega
   obtain⟨wE,eE⟩:∃ y,(wD.setCell ⟨g2,0,none⟩ (.string y1.t.name)).setCell ⟨g2,1,none⟩ (.slice f2 y1.t.code.length f3)=y:=⟨_,rfl⟩;have HQ1:Hd (wE.heap[w.heap.size+1]?=some (.cells #[.slice none 0 0,.slice none 0 0] 26 (0,0))):=by show _=_;rw[<- eE];exact Bp (Bp HQ.o hgQ _) hgQ _
   have HX1:Hd (wE.heap[w5.heap.size]?=some (.cells #[.string y0.t.name,.slice f0 y0.t.code.length f1] 62 (0,0))):=by show _=_;rw[<- eE];exact Bp (Bp HX.o hgX _) hgX _
   have HR1:Hd (Bd B R a len cap p (0+1) w wE):=by show Bd _ _ _ _ _ _ _ _ _;rw[<- eE];exact(HR.o.set hBw hg2 _).set hBw hg2 _
   have HO01:Hd (wE.ownsRow w.heap.size 106 3 y0.c y0.t.code.length (Di y0.t.code)):=by show World.ownsRow _ _ _ _ _ _ _;rw[<- eE];exact Ee (Ee HO0.o HS.o.dw.t (by decide) _) hs1 (by decide) _
   replace HN1:Hd (Sw wE P w.heap.size (.slice a1 m1.length p1) (.slice (some ⟨g2,0,none⟩) m2.length p2) m1 (m2.set 0 y1)):=by show Sw _ _ _ _ _ _ _;rw[<- eE];exact HN1.o
   rw[eE];clear eE HS HQ HR HX HO0 HO1 HT2 HT3 hs1 t0 t1;obtain⟨_,_,ev4,_,t2,t3,ft4⟩:=HN1.o.dw.tc 1 (by rw[List.length_set];omega);rw[List.length_set] at ev4;cases ev4;obtain⟨d0,d1,_⟩:=HN1.o.c;obtain⟨x0,x1⟩:=Am HX1.o;obtain⟨r0,r1⟩:=Am HQ1.o;have fr:=fun j=>fH HQ1.o j;have HN2:=hid ((show Sw wE P w.heap.size (.slice a1 m1.length p1) (.slice (some ⟨g2,0,none⟩) (m2.set 0 y1).length p2) m1 (m2.set 0 y1) by rw[List.length_set];exact HN1.o).setX 1 (by rw[List.length_set];omega) HO01.o HB0.o);rw[E0.o,List.length_set] at HN2;have HQ3:=hid (Bp (Bp HQ1.o hgQ (j:=2) (.string y0.t.name)) hgQ (j:=3) (.slice f0 y0.t.code.length f1));have HR3:=hid ((HR1.o.set (j:=2) hBw hg2 (.string y0.t.name)).set (j:=3) hBw hg2 (.slice f0 y0.t.code.length f1));go_wp2;refine bR (v:=.agg #[.slice a1 m1.length p1,.slice (some ⟨g2,0,none⟩) m2.length p2]) (by simp[results,Tryz.results65,go_sem,r0,r1]) rfl ?_;obtain⟨u1,u2,n1,n2,k1,k2,k3,k4⟩:=Ea HN2.o HR3.o hBw HQ3.o (by omega) (by omega) (Em _ (by first|omega|(simp;omega)))
   first|exact⟨u1,u2,n1,n2,k1,k2,k3,k4⟩|exact⟨u1,u2,k1,n1,n2,k2,k3,k4⟩
  ·have hlI:¬ (1:Int)<(m2.length:Int):=by omega
   clear d0 d1;obtain⟨d0,d1,_⟩:=HS.o.c;obtain⟨r0,r1⟩:=Am HQ.o;have fr:=fun j=>fH HQ.o j;go_wp2;refine bR (v:=.agg #[.slice a1 m1.length p1,.slice a2 m2.length p2]) (by simp[results,Tryz.results65,go_sem,r0,r1]) rfl ?_;obtain⟨u1,u2,n1,n2,k1,k2,k3,k4⟩:=Ea HS.o HR.o hBw HQ.o (by omega) (by omega) (Em _ (by first|omega|(simp;omega)))
   first|exact⟨u1,u2,n1,n2,k1,k2,k3,k4⟩|exact⟨u1,u2,k1,n1,n2,k2,k3,k4⟩
 ·obtain⟨d0,d1,_⟩:=HS.o.c
  by_cases hl:0<m2.length
  ·have hlI:(0:Int)<(m2.length:Int):=by omega
   have hl0:0<m2.length:=by omega
   obtain⟨g2,cp2,ev,hg2,t0,t1,ft⟩:=HS.o.dw.tc 0 (by omega);cases ev;clear d0 d1 t0 t1;obtain⟨d0,d1,_⟩:=HS.o.c;go_wp2_with fail;clear d0 d1;have hco:=hid (HS.o.dw.c _ (Dq (show 0<m2.length by omega)));obtain⟨gc,cc,ecc⟩:∃ gc cc,(cx m2 0).c=.slice (some ⟨gc,0,none⟩) (cx m2 0).t.code.length cc:=Lx hco.out (fun e=>by have h1:=hco.out.2;have h0:=HC.o _ (Dq (show 0<m2.length by omega));rw[e] at h1;rcases h1 with ⟨_,q⟩|⟨g,c,cur,q,_⟩;omega;cases q);rw[ecc] at hco;have HEC:=hid ecc;clear ecc;refine Lt.begin 11 (fun w'=>w'.heap[P]?=some (.cells #[.slice a1 m1.length p1,.slice (some ⟨g2,0,none⟩) m2.length p2] 26 (0,0))/\w'.ownsRow w.heap.size 62 2 (.slice (some ⟨g2,0,none⟩) m2.length p2) m2.length (Ha m2)) (by kernel_rfl) ?_;obtain⟨wD,eD⟩:∃ y,w5.drew=y:=⟨_,rfl⟩;rw[eD];have hbD:Below w5.heap.size w5 wD:=by rw[<- eD];exact(Below.refl _ _).drew
   clear eD;replace HS:=hid (HS.o.bl hbD);replace HR:=hid (HR.o.bl hBw hbD);replace HQ:=hid (Aa HQ.o hbD);replace hco:=hid (Cg hco.out hbD);have hS0:(fun w'=>w'.heap[P]?=some (.cells #[.slice a1 m1.length p1,.slice (some ⟨g2,0,none⟩) m2.length p2] 26 (0,0))/\w'.ownsRow w.heap.size 62 2 (.slice (some ⟨g2,0,none⟩) m2.length p2) m2.length (Ha m2)) wD:=⟨HS.o.blk,HS.o.dw.t⟩;change K 0 _
   iterate 8
    refine Lt.ti (v:=?_) hS0 ?_ ?_;rotate_left 1
    ·rintro w ⟨hs1,hs2⟩;obtain⟨c0,c1⟩:=Am hs1;obtain⟨c2,c3⟩:=Ot hs2 0 (by omega) rfl;rw[HEC.o] at c3;go_simp;first|done|with_reducible rfl
    simp only[gX]
   refine Lt.sp (i:=8) (fun K hK=>?_);go_simp;obtain⟨aa,cc2,ee,r3⟩:=Ej rfl hco.out;cases ee;obtain⟨k1,pp,k2,k3⟩:=HR.o;refine(Yy B R a len cap pp gc cc _ wD k3 (Nat.le_trans hBw k1.size) (by omega) r3 (HC.o _ (Dq (show 0<m2.length by omega))) (HS.o.bd.t _ (Dq (show 0<m2.length by omega))).2.1 (HS.o.bd.t _ (Dq (show 0<m2.length by omega))).2.2).mono ?_;rintro e wA ⟨g',n',c',is',rfl,ho,hL',hk⟩;have hgA:=hk.1;have hrA:=Bd.then k1 k2 hk;have HO5:=hid (Co (B':=w.heap.size) ho.row k1.size);have HN5:=hid ho.ln;have HX5:=hid ho.tx;clear ho hk k1 k2 k3 r3;replace HS:=hid (HS.o.gb hgA (by omega));replace HR:=hid hrA;replace HQ:=hid (Br HQ.o hgA (by omega));replace hco:=hid (own_gb hco.out hgA (by omega));have hS1:(fun w'=>w'.heap[P]?=some (.cells #[.slice a1 m1.length p1,.slice (some ⟨g2,0,none⟩) m2.length p2] 26 (0,0))/\w'.ownsRow w.heap.size 62 2 (.slice (some ⟨g2,0,none⟩) m2.length p2) m2.length (Ha m2)) wA:=⟨HS.o.blk,HS.o.dw.t⟩;refine hK.out _ _ (fun _=>hS1) (fun _=>?_);clear hK K hgA hrA
   try simp only[gX]
   refine Lt.sp (i:=9) (fun K hK=>?_);go_simp;refine hK.out _ _ (fun _=>hS1) (fun _=>?_);clear hK K
   try simp only[gX]
   refine Lt.sp (i:=10) (fun K hK=>?_);go_simp;refine hK.out _ _ (fun _=>hS1) (fun _=>?_);clear hK K
   try simp only[gX]
   obtain⟨_,_,ev2,_,t0,t1,ft2⟩:=HS.o.dw.tc 0 (by omega);cases ev2;refine Lt.sp (i:=11) (fun K hK=>?_);go_simp;refine hK.out _ _ (fun h=>absurd rfl h) (fun _=>?_);clear hK K;refine Lt.done (by kernel_rfl) ?_ _;have hn5:=HN5.o;subst hn5;have HN:=hid (HS.o.setC 0 (by omega) HO5.o hL' HX5.o);have HQ7:=hid (Bp HQ.o (c:=g2) (j:=1) (fun e=>Cx.ne (T:=26) ⟨_,HQ.o⟩ HS.o.dw.t (by decide) (by rw[e];rfl)) (.slice (some ⟨g',0,none⟩) is'.length c'));have HR7:=hid (HR.o.set (b:=g2) (j:=1) hBw hg2 (.slice (some ⟨g',0,none⟩) is'.length c'));obtain⟨d0,d1,_⟩:=HN.o.c;obtain⟨r0,r1⟩:=Am HQ7.o;have fr:=fun j=>fH HQ7.o j;go_wp2;refine bR (v:=.agg #[.slice a1 m1.length p1,.slice (some ⟨g2,0,none⟩) m2.length p2]) (by simp[results,Tryz.results65,go_sem,r0,r1]) rfl ?_;obtain⟨u1,u2,n1,n2,k1,k2,k3,k4⟩:=Ea HN.o HR7.o hBw HQ7.o (by omega) (by omega) (Em _ (by first|omega|(simp;omega)))
   first|exact⟨u1,u2,n1,n2,k1,k2,k3,k4⟩|exact⟨u1,u2,k1,n1,n2,k2,k3,k4⟩
  ·have hlI:¬ (0:Int)<(m2.length:Int):=by omega
   clear d0 d1;obtain⟨d0,d1,_⟩:=HS.o.c;obtain⟨r0,r1⟩:=Am HQ.o;have fr:=fun j=>fH HQ.o j;go_wp2;refine bR (v:=.agg #[.slice a1 m1.length p1,.slice a2 m2.length p2]) (by simp[results,Tryz.results65,go_sem,r0,r1]) rfl ?_;obtain⟨u1,u2,n1,n2,k1,k2,k3,k4⟩:=Ea HS.o HR.o hBw HQ.o (by omega) (by omega) (Em _ (by first|omega|(simp;omega)))
   first|exact⟨u1,u2,n1,n2,k1,k2,k3,k4⟩|exact⟨u1,u2,k1,n1,n2,k2,k3,k4⟩
 ·obtain⟨d0,d1,_⟩:=HS.o.c
  by_cases hl:0<m1.length
  ·have hlI:(0:Int)<(m1.length:Int):=by omega
   have hl0:0<m1.length:=by omega
   obtain⟨g2,cp2,ev,hg2,t0,t1,ft⟩:=HS.o.dw.sc 0 (by omega);cases ev;go_wp2_with fail;clear d0 d1 t0 t1;refine Lt.begin 8 (fun w'=>w'.heap[P]?=some (.cells #[.slice (some ⟨g2,0,none⟩) m1.length p1,.slice a2 m2.length p2] 26 (0,0))) (by kernel_rfl) ?_;obtain⟨wD,eD⟩:∃ y,w5.drew=y:=⟨_,rfl⟩;rw[eD];have hbD:Below w5.heap.size w5 wD:=by rw[<- eD];exact(Below.refl _ _).drew
   clear eD;replace HS:=hid (HS.o.bl hbD);replace HR:=hid (HR.o.bl hBw hbD);replace HQ:=hid (Aa HQ.o hbD);have hS0:(fun w'=>w'.heap[P]?=some (.cells #[.slice (some ⟨g2,0,none⟩) m1.length p1,.slice a2 m2.length p2] 26 (0,0))) wD:=HS.o.blk;change K 0 _
   iterate 3
    refine Lt.ti (v:=?_) hS0 ?_ ?_;rotate_left 1
    ·rintro w hSw;obtain⟨c0,c1⟩:=Am hSw;go_simp;first|done|with_reducible rfl
    simp only[gX]
   refine Lt.sp (i:=3) (fun K hK=>?_);go_simp;refine(HR.o.pick (by omega) 2 (by omega) (by omega)).mono ?_;rintro e wA ⟨j,rfl,hj,hrA,hgA⟩;replace HS:=hid (HS.o.gb hgA (by omega));replace HR:=hid hrA;replace HQ:=hid (Br HQ.o hgA (by omega));have hS1:(fun w'=>w'.heap[P]?=some (.cells #[.slice (some ⟨g2,0,none⟩) m1.length p1,.slice a2 m2.length p2] 26 (0,0))) wA:=HS.o.blk;refine hK.out _ _ (fun _=>hS1) (fun _=>?_);clear hK K hgA hrA
   try simp only[gX]
   have hwr:IntKind.i64.wrap (2000+(j:Int))=2000+(j:Int):=by rw[IntKind.wrap_i64];omega
   refine Lt.ti (i:=4) (v:=?_) hS1 ?_ ?_;rotate_left 1
   ·rintro w hSw;obtain⟨c0,c1⟩:=Am hSw;go_simp;first|done|with_reducible rfl
   simp only[gX];refine Lt.sp (i:=5) (fun K hK=>?_);go_simp;have hmq:=Ky ⟨#[115]⟩ (2000+j) wA (by decide) (by omega);rw[show ((2000+j:Nat):Int)=2000+(j:Int) from by omega] at hmq;refine hmq.mono ?_;rintro e wB ⟨r,rfl,hrs,rfl⟩;have hrs2:r.size<=50000:=by rw[hrs];show 1*(2000+j)<=50000;omega
   clear hrs hmq;refine hK.out _ _ (fun _=>hS1) (fun _=>?_);clear hK K
   try simp only[gX]
   refine Lt.sp (i:=6) (fun K hK=>?_);go_simp;refine hK.out _ _ (fun _=>hS1) (fun _=>?_);clear hK K
   try simp only[gX]
   refine Lt.sp (i:=7) (fun K hK=>?_);go_simp;refine hK.out _ _ (fun _=>hS1) (fun _=>?_);clear hK K
   try simp only[gX]
   obtain⟨_,_,ev2,_,t0,t1,ft2⟩:=HS.o.dw.sc 0 (by omega);cases ev2;refine Lt.sp (i:=8) (fun K hK=>?_);go_simp;refine hK.out _ _ (fun h=>absurd rfl h) (fun _=>?_);clear hK K;refine Lt.done (by kernel_rfl) ?_ _;have HN:=hid (HS.o.setT 0 (by omega) hrs2);have HQ7:=hid (Bp HQ.o (c:=g2) (j:=1) (fun e=>Cx.ne (T:=26) ⟨_,HQ.o⟩ HS.o.dw.s (by decide) (by rw[e];rfl)) (.string r));have HR7:=hid (HR.o.set (b:=g2) (j:=1) hBw hg2 (.string r));obtain⟨d0,d1,_⟩:=HN.o.c;obtain⟨r0,r1⟩:=Am HQ7.o;have fr:=fun j=>fH HQ7.o j;go_wp2;refine bR (v:=.agg #[.slice (some ⟨g2,0,none⟩) m1.length p1,.slice a2 m2.length p2]) (by simp[results,Tryz.results65,go_sem,r0,r1]) rfl ?_;obtain⟨u1,u2,n1,n2,k1,k2,k3,k4⟩:=Ea HN.o HR7.o hBw HQ7.o (by omega) (by omega) (Em _ (by first|omega|(simp;omega)))
   first|exact⟨u1,u2,n1,n2,k1,k2,k3,k4⟩|exact⟨u1,u2,k1,n1,n2,k2,k3,k4⟩
  ·have hlI:¬ (0:Int)<(m1.length:Int):=by omega
   clear d0 d1;obtain⟨d0,d1,_⟩:=HS.o.c;obtain⟨r0,r1⟩:=Am HQ.o;have fr:=fun j=>fH HQ.o j;go_wp2;refine bR (v:=.agg #[.slice a1 m1.length p1,.slice a2 m2.length p2]) (by simp[results,Tryz.results65,go_sem,r0,r1]) rfl ?_;obtain⟨u1,u2,n1,n2,k1,k2,k3,k4⟩:=Ea HS.o HR.o hBw HQ.o (by omega) (by omega) (Em _ (by first|omega|(simp;omega)))
   first|exact⟨u1,u2,n1,n2,k1,k2,k3,k4⟩|exact⟨u1,u2,k1,n1,n2,k2,k3,k4⟩
 ·have HS5:=HS;have HR5:=HR;have HQ5:=HQ;clear HS HR HQ;go_wp2_with fail
  go_loopw [7] (fun i wr=>∃(k:Nat) (u2:Value) (l2:List TC),k<=202/\i=.int .i64 k/\Hd (l2.length=m2.length+k)/\Hd (Sw wr P w.heap.size (.slice a1 m1.length p1) u2 m1 l2)/\Hd (Bd B R a len cap p (1+k) w wr)/\Hd (wr.heap[w.heap.size+1]?=some (.cells #[.slice none 0 0,.slice none 0 0] 26 (0,0)))/\Hd ((l2.filter fun a=>Js a.t.code).length<=8)) (fun i _=>300-(intOf i).toNat)
  case atStart=>exact⟨0,_,m2,by omega,rfl,(rfl:m2.length=m2.length+0),HS5,HR5,HQ5,(Nat.le_trans (List.length_filter_le _ _) hn2:(m2.filter fun a=>Js a.t.code).length<=8)⟩
  case round=>
   obtain⟨k,u2,l3,hk,rfl,HL,HS,HR,HQ,HA⟩:=hrel;clear HS5 HR5 HQ5;obtain⟨a3,p3,rfl⟩:=HS.o.dw.s2;have hm3:=HS.o.bd.n2;go_wp2_with fail;refine Lt.begin 99 (fun w'=>w'.heap[P]?=some (.cells #[.slice a1 m1.length p1,.slice a3 l3.length p3] 26 (0,0))) (by kernel_rfl) ?_;obtain⟨wD,eD⟩:∃ y,wr.drew=y:=⟨_,rfl⟩;rw[eD];have hbD:Below wr.heap.size wr wD:=by rw[<- eD];exact(Below.refl _ _).drew
   clear eD;replace HS:=hid (HS.o.bl hbD);replace HR:=hid (HR.o.bl hBw hbD);replace HQ:=hid (Aa HQ.o hbD);have hS0:(fun w'=>w'.heap[P]?=some (.cells #[.slice a1 m1.length p1,.slice a3 l3.length p3] 26 (0,0))) wD:=HS.o.blk;have hwr0:IntKind.i64.wrap ((m1.length:Int)+(l3.length:Int))=(m1.length:Int)+(l3.length:Int):=by rw[IntKind.wrap_i64];omega
   change K 0 _
   iterate 8
    refine Lt.ti (v:=?_) hS0 ?_ ?_;rotate_left 1
    ·rintro w hSw;obtain⟨c0,c1⟩:=Am hSw;go_simp;first|done|with_reducible rfl
    simp only[gX]
   refine Lt.sp (i:=8) (fun K hK=>?_);go_simp;refine(HR.o.pick (by omega) 2 (by omega) (by omega)).mono ?_;rintro e wA ⟨j,rfl,hj,hrA,hgA⟩;replace HS:=hid (HS.o.gb hgA (by omega));replace HR:=hid hrA;replace HQ:=hid (Br HQ.o hgA (by omega));have hS1:(fun w'=>w'.heap[P]?=some (.cells #[.slice a1 m1.length p1,.slice a3 l3.length p3] 26 (0,0))) wA:=HS.o.blk;refine hK.out _ _ (fun _=>hS1) (fun _=>?_);clear hK K hgA hrA
   try simp only[gX]
   have hwr:IntKind.i64.wrap (200+(j:Int))=200+(j:Int):=by rw[IntKind.wrap_i64];omega
   refine Lt.ti (i:=9) (v:=?_) hS1 ?_ ?_;rotate_left 1
   ·rintro w hSw;obtain⟨c0,c1⟩:=Am hSw;go_simp;first|done|with_reducible rfl
   simp only[gX];refine Lt.sp (i:=10) (fun K hK=>?_);go_simp;refine hK.out _ _ (fun _=>hS1) (fun _=>?_);clear hK K
   try simp only[gX]
   refine Lt.done (by kernel_rfl) ?_ _
   by_cases hlt:(m1.length:Int)+(l3.length:Int)<200+(j:Int)
   ·(have hkk:k<=201:=by have:=HL.o;omega);(have hl2:l3.length<=200:=by omega);have hltd:=decide_eq_true hlt;go_wp2_with fail;clear hlt hltd hwr hwr0;refine Lt.begin 13 (fun w'=>w'.heap[P]?=some (.cells #[.slice a1 m1.length p1,.slice a3 l3.length p3] 26 (0,0))) (by kernel_rfl) ?_;obtain⟨wD2,eD⟩:∃ y,wA.drew=y:=⟨_,rfl⟩;rw[eD];(have hbD:Below wA.heap.size wA wD2:=by rw[<- eD];exact(Below.refl _ _).drew);clear eD;replace HS:=hid (HS.o.bl hbD);replace HR:=hid (HR.o.bl hBw hbD);replace HQ:=hid (Aa HQ.o hbD);have hS0:(fun w'=>w'.heap[P]?=some (.cells #[.slice a1 m1.length p1,.slice a3 l3.length p3] 26 (0,0))) wD2:=HS.o.blk;change K 0 _
    iterate 3
     refine Lt.ti (v:=?_) hS0 ?_ ?_;rotate_left 1
     ·rintro w hSw;obtain⟨c0,c1⟩:=Am hSw;go_simp;first|done|with_reducible rfl
     simp only[gX]
    refine Lt.sp (i:=3) (fun K hK=>?_);go_simp;refine(Yu (k:Int) _ (by omega) (by omega)).mono ?_;rintro e wB ⟨⟨nm,rfl,hnm⟩,hbA⟩;(have hqm:¬ 9223372036854775807<1+nm.size:=by omega);replace HS:=hid (HS.o.bl hbA);replace HR:=hid (HR.o.bl hBw hbA);replace HQ:=hid (Aa HQ.o hbA);have hS1:(fun w'=>w'.heap[P]?=some (.cells #[.slice a1 m1.length p1,.slice a3 l3.length p3] 26 (0,0))) wB:=HS.o.blk;refine hK.out _ _ (fun _=>hS1) (fun _=>?_);clear hK K hbA
    try simp only[gX]
    refine Lt.ti (i:=4) (v:=?_) hS1 ?_ ?_;rotate_left 1
    ·rintro w hSw;obtain⟨c0,c1⟩:=Am hSw;go_simp;first|done|with_reducible rfl
    simp only[gX];refine Lt.sp (i:=5) (fun K hK=>?_);go_simp;refine(Ax _ _).mono ?_;rintro e wC ⟨rfl,hbB⟩;replace HS:=hid (HS.o.bl hbB);replace HR:=hid (HR.o.bl hBw hbB);replace HQ:=hid (Aa HQ.o hbB);have hS2:(fun w'=>w'.heap[P]?=some (.cells #[.slice a1 m1.length p1,.slice a3 l3.length p3] 26 (0,0))) wC:=HS.o.blk;refine hK.out _ _ (fun _=>hS2) (fun _=>?_);clear hK K hbB
    try simp only[gX]
    refine Lt.sp (i:=6) (fun K hK=>?_);go_simp;refine(Au _ _).mono ?_;rintro e wE ⟨rfl,hbE⟩;replace HS:=hid (HS.o.bl hbE);replace HR:=hid (HR.o.bl hBw hbE);replace HQ:=hid (Aa HQ.o hbE);have hS3:(fun w'=>w'.heap[P]?=some (.cells #[.slice a1 m1.length p1,.slice a3 l3.length p3] 26 (0,0))) wE:=HS.o.blk;refine hK.out _ _ (fun _=>hS3) (fun _=>?_);clear hK K hbE
    try simp only[gX]
    have hsE:w.heap.size<=wE.heap.size:=HR.o.size;refine Lt.sp (i:=7) (fun K hK=>?_);go_simp;refine Bz (Q:=fun x=>K _ x) ?_;intro wF hbwF HF
    try dsimp only
    replace HS:=hid (HS.o.bl hbwF);replace HR:=hid (HR.o.bl hBw hbwF);replace HQ:=hid (Aa HQ.o hbwF);have hS4:(fun w'=>w'.heap[P]?=some (.cells #[.slice a1 m1.length p1,.slice a3 l3.length p3] 26 (0,0))) wF:=HS.o.blk;refine hK.out _ _ (fun _=>hS4) (fun _=>?_);clear hK K hbwF
    try simp only[gX]
    change K 8 _
    iterate 2
     refine Lt.ti (v:=?_) hS4 ?_ ?_;rotate_left 1
     ·rintro w hSw;obtain⟨c0,c1⟩:=Am hSw;go_simp;first|done|with_reducible rfl
     simp only[gX]
    refine Lt.sp (i:=10) (fun K hK=>?_);go_simp;refine Bz (Q:=fun x=>K _ x) ?_;intro wG hbwG HG
    try dsimp only
    replace HS:=hid (HS.o.bl hbwG);replace HR:=hid (HR.o.bl hBw hbwG);replace HQ:=hid (Aa HQ.o hbwG);replace HF:=hid (Aa HF.o hbwG);have hS5:(fun w'=>w'.heap[P]?=some (.cells #[.slice a1 m1.length p1,.slice a3 l3.length p3] 26 (0,0))) wG:=HS.o.blk;refine hK.out _ _ (fun _=>hS5) (fun _=>?_);clear hK K hbwG
    try simp only[gX]
    refine Lt.sp (i:=11) (fun K hK=>?_);refine Et rfl (by rfl) w.heap.size (.slice a3 l3.length p3) _ (Ha l3) (by rfl) HS.o.dw.t wF.heap.size _ _ rfl (by rfl) HG.o HR.o.size (by omega) ?_;intro g' cap' w7 hown7 hgrow;have HN:=hid (HS.o.putT (s:=⟨_,[⟨1,⟨#[107]⟩,0⟩,⟨15,⟨#[]⟩,0⟩]⟩) (Jw (n:=2) HF.o hsE rfl rfl (by omega)) hgrow hown7 (by omega) ⟨by show (_++_:ByteArray).size<=50000;rw[ByteArray.size_append];show 1+nm.size<=50000;omega,by simp,short2 (by show 1<=50000;omega) (Nat.zero_le _)⟩);have hrow:∀ j,Value.ownBlock (.slice a3 l3.length p3)=some j->w.heap.size<=j:=fun j hj=>(HS.o.dw.t.lt j hj).1;have HP7:=hid (HS.o.app hgrow (Or.inr rfl));have HR7:=hid ((HR.o.grow hBw hgrow hrow).set (b:=P) (j:=1) hBw hPw (.slice (some ⟨g',0,none⟩) (l3.length+1) cap'));have HQ7:=hid (Bp (Cj HQ.o hgrow (Cx.ne ⟨_,HQ.o⟩ HS.o.dw.t (by decide))) (by omega) (c:=P) (j:=1) (.slice (some ⟨g',0,none⟩) (l3.length+1) cap'));obtain⟨c0,c1⟩:=Am HP7.o;have fz:=fun j=>fH HP7.o j;have hS7:(fun w'=>w'.heap[P]?=some (.cells #[.slice a1 m1.length p1,.slice a3 l3.length p3] 26 (0,0))) w7:=HP7.o;refine hK.out _ _ (fun _=>hS7) (fun _=>?_);clear hK K hgrow hown7 hrow;simp only[gX];refine Lt.ti (i:=12) (v:=?_) hS7 ?_ ?_;rotate_left 1
    ·rintro w hSw;obtain⟨c0,c1⟩:=Am hSw;go_simp;first|done|with_reducible rfl
    simp only[gX];refine Lt.sp (i:=13) (fun K hK=>?_);go_simp;refine hK.out _ _ (fun h=>absurd rfl h) (fun _=>?_);clear hK K;refine Lt.done (by kernel_rfl) ?_ _;go_wp2;go_roundw
    case rel=>exact⟨k+1,_,_,by omega,by go_num,hid (by have:=HL.o;simp;omega),HN,hid (HR7.o.more (by omega)),HQ7,hid (by rw[ask_skip rfl];exact HA.o)⟩
    case measure=>simp[intOf];omega
   ·have hltd:=decide_eq_false hlt;obtain⟨d0,d1,_⟩:=HS.o.c;obtain⟨r0,r1⟩:=Am HQ.o;have fr:=fun j=>fH HQ.o j;go_wp2;refine bR (v:=.agg #[.slice a1 m1.length p1,.slice a3 l3.length p3]) (by simp[results,Tryz.results65,go_sem,r0,r1]) rfl ?_;obtain⟨u1,u2,n1,n2,k1,k2,k3,k4⟩:=Ea HS.o HR.o hBw HQ.o (by omega) (by omega) (Xv (Nat.le_trans HA.o (by omega)))
    first|exact⟨u1,u2,n1,n2,k1,k2,k3,k4⟩|exact⟨u1,u2,k1,n1,n2,k2,k3,k4⟩
 ·go_wp2_with fail;refine Lt.begin 14 (fun w'=>w'.heap[P]?=some (.cells #[.slice a1 m1.length p1,.slice a2 m2.length p2] 26 (0,0))) (by kernel_rfl) ?_;obtain⟨wD,eD⟩:∃ y,w5.drew=y:=⟨_,rfl⟩;rw[eD];have hbD:Below w5.heap.size w5 wD:=by rw[<- eD];exact(Below.refl _ _).drew
  clear eD;replace HS:=hid (HS.o.bl hbD);replace HR:=hid (HR.o.bl hBw hbD);replace HQ:=hid (Aa HQ.o hbD);have hS0:(fun w'=>w'.heap[P]?=some (.cells #[.slice a1 m1.length p1,.slice a2 m2.length p2] 26 (0,0))) wD:=HS.o.blk;change K 0 _
  iterate 3
   refine Lt.ti (v:=?_) hS0 ?_ ?_;rotate_left 1
   ·rintro w hSw;obtain⟨c0,c1⟩:=Am hSw;go_simp;first|done|with_reducible rfl
   simp only[gX]
  refine Lt.sp (i:=3) (fun K hK=>?_);go_simp;refine(HR.o.pick (by omega) 2 (by omega) (by omega)).mono ?_;rintro e wA ⟨j,rfl,hj,hrA,hgA⟩;replace HS:=hid (HS.o.gb hgA (by omega));replace HR:=hid hrA;replace HQ:=hid (Br HQ.o hgA (by omega));have hS1:(fun w'=>w'.heap[P]?=some (.cells #[.slice a1 m1.length p1,.slice a2 m2.length p2] 26 (0,0))) wA:=HS.o.blk;refine hK.out _ _ (fun _=>hS1) (fun _=>?_);clear hK K hgA hrA
  try simp only[gX]
  have hwr:IntKind.i64.wrap (60+(j:Int))=60+(j:Int):=by rw[IntKind.wrap_i64];omega
  refine Lt.ti (i:=4) (v:=?_) hS1 ?_ ?_;rotate_left 1
  ·rintro w hSw;obtain⟨c0,c1⟩:=Am hSw;go_simp;first|done|with_reducible rfl
  simp only[gX];refine Lt.sp (i:=5) (fun K hK=>?_);go_simp;have hmq:=Ky ⟨#[110]⟩ (60+j) wA (by decide) (by omega);rw[show ((60+j:Nat):Int)=60+(j:Int) from by omega] at hmq;refine hmq.mono ?_;rintro e wB ⟨r,rfl,hrs,rfl⟩;have hrs2:r.size<=50000:=by rw[hrs];show 1*(60+j)<=50000;omega
  clear hrs hmq;refine hK.out _ _ (fun _=>hS1) (fun _=>?_);clear hK K
  try simp only[gX]
  refine Lt.sp (i:=6) (fun K hK=>?_);go_simp;refine(Ax _ _).mono ?_;rintro e wC ⟨rfl,hbB⟩;replace HS:=hid (HS.o.bl hbB);replace HR:=hid (HR.o.bl hBw hbB);replace HQ:=hid (Aa HQ.o hbB);have hS2:(fun w'=>w'.heap[P]?=some (.cells #[.slice a1 m1.length p1,.slice a2 m2.length p2] 26 (0,0))) wC:=HS.o.blk;refine hK.out _ _ (fun _=>hS2) (fun _=>?_);clear hK K hbB
  try simp only[gX]
  refine Lt.sp (i:=7) (fun K hK=>?_);go_simp;refine(Au _ _).mono ?_;rintro e wE ⟨rfl,hbE⟩;replace HS:=hid (HS.o.bl hbE);replace HR:=hid (HR.o.bl hBw hbE);replace HQ:=hid (Aa HQ.o hbE);have hS3:(fun w'=>w'.heap[P]?=some (.cells #[.slice a1 m1.length p1,.slice a2 m2.length p2] 26 (0,0))) wE:=HS.o.blk;refine hK.out _ _ (fun _=>hS3) (fun _=>?_);clear hK K hbE
  try simp only[gX]
  have hsE:w.heap.size<=wE.heap.size:=HR.o.size;refine Lt.sp (i:=8) (fun K hK=>?_);go_simp;refine Bz (Q:=fun x=>K _ x) ?_;intro wF hbwF HF
  try dsimp only
  replace HS:=hid (HS.o.bl hbwF);replace HR:=hid (HR.o.bl hBw hbwF);replace HQ:=hid (Aa HQ.o hbwF);have hS4:(fun w'=>w'.heap[P]?=some (.cells #[.slice a1 m1.length p1,.slice a2 m2.length p2] 26 (0,0))) wF:=HS.o.blk;refine hK.out _ _ (fun _=>hS4) (fun _=>?_);clear hK K hbwF
  try simp only[gX]
  change K 9 _
  iterate 2
   refine Lt.ti (v:=?_) hS4 ?_ ?_;rotate_left 1
   ·rintro w hSw;obtain⟨c0,c1⟩:=Am hSw;go_simp;first|done|with_reducible rfl
   simp only[gX]
  refine Lt.sp (i:=11) (fun K hK=>?_);go_simp;refine Bz (Q:=fun x=>K _ x) ?_;intro wG hbwG HG
  try dsimp only
  replace HS:=hid (HS.o.bl hbwG);replace HR:=hid (HR.o.bl hBw hbwG);replace HQ:=hid (Aa HQ.o hbwG);replace HF:=hid (Aa HF.o hbwG);have hS5:(fun w'=>w'.heap[P]?=some (.cells #[.slice a1 m1.length p1,.slice a2 m2.length p2] 26 (0,0))) wG:=HS.o.blk;refine hK.out _ _ (fun _=>hS5) (fun _=>?_);clear hK K hbwG
  try simp only[gX]
  refine Lt.sp (i:=12) (fun K hK=>?_);refine Et rfl (by rfl) w.heap.size (.slice a2 m2.length p2) _ (Ha m2) (by rfl) HS.o.dw.t wF.heap.size _ _ rfl (by rfl) HG.o HR.o.size (by omega) ?_;intro g' cap' w7 hown7 hgrow;have HN:=hid (HS.o.putT (s:=⟨_,[⟨1,⟨#[107]⟩,0⟩,⟨15,⟨#[]⟩,0⟩]⟩) (Jw (n:=2) HF.o hsE rfl rfl (by omega)) hgrow hown7 (by omega) ⟨hrs2,by simp,short2 (by show 1<=50000;omega) (Nat.zero_le _)⟩);have hrow:∀ j,Value.ownBlock (.slice a2 m2.length p2)=some j->w.heap.size<=j:=fun j hj=>(HS.o.dw.t.lt j hj).1;have HP7:=hid (HS.o.app hgrow (Or.inr rfl));have HR7:=hid ((HR.o.grow hBw hgrow hrow).set (b:=P) (j:=1) hBw hPw (.slice (some ⟨g',0,none⟩) (m2.length+1) cap'));have HQ7:=hid (Bp (Cj HQ.o hgrow (Cx.ne ⟨_,HQ.o⟩ HS.o.dw.t (by decide))) (by omega) (c:=P) (j:=1) (.slice (some ⟨g',0,none⟩) (m2.length+1) cap'));obtain⟨c0,c1⟩:=Am HP7.o;have fz:=fun j=>fH HP7.o j;have hS7:(fun w'=>w'.heap[P]?=some (.cells #[.slice a1 m1.length p1,.slice a2 m2.length p2] 26 (0,0))) w7:=HP7.o;refine hK.out _ _ (fun _=>hS7) (fun _=>?_);clear hK K hgrow hown7 hrow;simp only[gX];refine Lt.ti (i:=13) (v:=?_) hS7 ?_ ?_;rotate_left 1
  ·rintro w hSw;obtain⟨c0,c1⟩:=Am hSw;go_simp;first|done|with_reducible rfl
  simp only[gX];refine Lt.sp (i:=14) (fun K hK=>?_);go_simp;refine hK.out _ _ (fun h=>absurd rfl h) (fun _=>?_);clear hK K;refine Lt.done (by kernel_rfl) ?_ _;obtain⟨d0,d1,_⟩:=HN.o.c;obtain⟨r0,r1⟩:=Am HQ7.o;have fr:=fun j=>fH HQ7.o j;go_wp2;refine bR (v:=.agg #[.slice a1 m1.length p1,(.slice (some ⟨g',0,none⟩) (m2.length+1) cap')]) (by simp[results,Tryz.results65,go_sem,r0,r1]) rfl ?_;obtain⟨u1,u2,n1,n2,k1,k2,k3,k4⟩:=Ea HN.o HR7.o hBw HQ7.o (by omega) (by omega) (Em _ (by first|omega|(simp;omega)))
  first|exact⟨u1,u2,n1,n2,k1,k2,k3,k4⟩|exact⟨u1,u2,k1,n1,n2,k2,k3,k4⟩
 ·obtain⟨d0,d1,fd⟩:=HS.o.c;obtain⟨i0,hi,hz0,hz1,hz2⟩:=info_parts Tryz.info118b;obtain⟨w6,e6⟩:∃ y,w5.alloc (.cells #[.string ⟨#[97]⟩,.slice none 0 0] 62)=y:=⟨_,rfl⟩;have hb6:Below w5.heap.size w5 w6:=by rw[<- e6];exact aN _ _
  have h6:w6.heap[w5.heap.size]?=some (.cells #[.string ⟨#[97]⟩,.slice none 0 0] 62 (0,0)):=by rw[<- e6];exact Al _ _
  replace HS:=hid (HS.o.bl hb6);replace HR:=hid (HR.o.bl hBw hb6);replace HQ:=hid (Aa HQ.o hb6)
  go_wp2_with (at_builtin;refine wpList_append_own _ rfl _ _ 24 rfl w.heap.size 62 i0 (.agg #[.string ⟨#[]⟩,.slice none 0 0]) 2 40 Tryz.underlying24 hi hz0 hz1 hz2 rfl (by decide) _ m2.length (Ha m2) rfl HS.o.dw.t ⟨w5.heap.size,0,none⟩ 1 1 [.string ⟨#[97]⟩,.slice none 0 0] rfl rfl (World.news_of_block (cs:=#[.string ⟨#[97]⟩,.slice none 0 0]) (t:=62) (fr:=(0,0)) h6) (by intro u' hu;simp at hu;rcases hu with rfl|rfl<;>rfl) (by unfold maxLen;omega) (by omega) HR.o.size ?_;intro v' w7 hown7 hgrow hnil;obtain⟨g',cap',rfl⟩:=Lx hown7 (fun e=>by have:=(hnil.1 e).2;omega);have HP7:=hid (HS.o.app hgrow (Or.inr rfl));obtain⟨c0,c1⟩:=Am HP7.o;have fz:=(fun j=>fH HP7.o j);have HN:=hid (HS.o.putT (s:=⟨⟨#[97]⟩,[]⟩) (World.ownsRow_nil _ _ _ _) hgrow hown7 (by omega) ⟨by decide,by simp,fun x hx=>(by cases hx)⟩);have HQ7:=hid (Bp (Cj HQ.o hgrow (Cx.ne ⟨_,HQ.o⟩ HS.o.dw.t (by decide))) hPn (c:=P) (j:=1) (.slice (some ⟨g',0,none⟩) (m2.length+1) cap'));have HR7:=hid ((HR.o.grow hBw hgrow (fun j hj=>(HS.o.dw.t.lt j hj).1)).set (b:=P) (j:=1) hBw hPw (.slice (some ⟨g',0,none⟩) (m2.length+1) cap'));have HQ6:=hid (Cj HQ.o hgrow (Cx.ne ⟨_,HQ.o⟩ HS.o.dw.t (by decide)));obtain⟨r0,r1⟩:=Am HQ6.o;have fr:=(fun j=>fH HQ6.o j);clear hgrow hown7 hnil HS HR HQ d0 d1 fd h6 hb6 e6)
  refine bR (v:=.agg #[.slice a1 m1.length p1,(.slice (some ⟨g',0,none⟩) (m2.length+1) cap')]) (by simp[results,Tryz.results65,go_sem,r0,r1]) rfl ?_;obtain⟨u1,u2,n1,n2,k1,k2,k3,k4⟩:=Ea HN.o HR7.o hBw HQ7.o (by omega) (by omega) (Em _ (by first|omega|(simp;omega)))
  first|exact⟨u1,u2,n1,n2,k1,k2,k3,k4⟩|exact⟨u1,u2,k1,n1,n2,k2,k3,k4⟩
 ·obtain⟨d0,d1,_⟩:=HS.o.c
  by_cases hl:1<m1.length
  ·have hlI:(1:Int)<(m1.length:Int):=by omega
   have hl0:0<m1.length:=by omega
   obtain⟨g2,cp2,ev,hg2,t0,t1,ft⟩:=HS.o.dw.sc 0 (by omega);cases ev;go_wp2_with fail;clear d0 d1 t0 t1;refine Lt.begin 9 (fun w'=>w'.heap[P]?=some (.cells #[.slice (some ⟨g2,0,none⟩) m1.length p1,.slice a2 m2.length p2] 26 (0,0))/\w'.cell? ⟨g2,0,none⟩=some (.string (sx m1 0).name)) (by kernel_rfl) ?_;obtain⟨wD,eD⟩:∃ y,w5.drew=y:=⟨_,rfl⟩;rw[eD];have hbD:Below w5.heap.size w5 wD:=by rw[<- eD];exact(Below.refl _ _).drew
   clear eD;replace HS:=hid (HS.o.bl hbD);replace HR:=hid (HR.o.bl hBw hbD);replace HQ:=hid (Aa HQ.o hbD);have hS0:(fun w'=>w'.heap[P]?=some (.cells #[.slice (some ⟨g2,0,none⟩) m1.length p1,.slice a2 m2.length p2] 26 (0,0))/\w'.cell? ⟨g2,0,none⟩=some (.string (sx m1 0).name)) wD:=⟨HS.o.blk,by obtain⟨_,_,ev2,_,t0,_⟩:=HS.o.dw.sc 0 (by omega);cases ev2;exact t0⟩;change K 0 _
   iterate 7
    refine Lt.ti (v:=?_) hS0 ?_ ?_;rotate_left 1
    ·rintro w ⟨hs1,hs2⟩;obtain⟨c0,c1⟩:=Am hs1;go_simp;first|done|with_reducible rfl
    simp only[gX]
   refine Lt.sp (i:=7) (fun K hK=>?_);go_simp;refine hK.out _ _ (fun _=>hS0) (fun _=>?_);clear hK K
   try simp only[gX]
   refine Lt.sp (i:=8) (fun K hK=>?_);go_simp;refine hK.out _ _ (fun _=>hS0) (fun _=>?_);clear hK K
   try simp only[gX]
   obtain⟨_,_,ev2,_,t0,t1,ft2⟩:=HS.o.dw.sc 1 (by omega);cases ev2;refine Lt.sp (i:=9) (fun K hK=>?_);go_simp;refine hK.out _ _ (fun h=>absurd rfl h) (fun _=>?_);clear hK K;refine Lt.done (by kernel_rfl) ?_ _;have HN:=hid (HS.o.setN 1 (by omega) (HS.o.bd.s _ (Vp (show 0<m1.length by omega))).1);have HQ7:=hid (Bp HQ.o (c:=g2) (j:=2) (fun e=>Cx.ne (T:=26) ⟨_,HQ.o⟩ HS.o.dw.s (by decide) (by rw[e];rfl)) (.string (sx m1 0).name));have HR7:=hid (HR.o.set (b:=g2) (j:=2) hBw hg2 (.string (sx m1 0).name));obtain⟨d0,d1,_⟩:=HN.o.c;obtain⟨r0,r1⟩:=Am HQ7.o;have fr:=fun j=>fH HQ7.o j;go_wp2;refine bR (v:=.agg #[.slice (some ⟨g2,0,none⟩) m1.length p1,.slice a2 m2.length p2]) (by simp[results,Tryz.results65,go_sem,r0,r1]) rfl ?_;obtain⟨u1,u2,n1,n2,k1,k2,k3,k4⟩:=Ea HN.o HR7.o hBw HQ7.o (by omega) (by omega) (Em _ (by first|omega|(simp;omega)))
   first|exact⟨u1,u2,n1,n2,k1,k2,k3,k4⟩|exact⟨u1,u2,k1,n1,n2,k2,k3,k4⟩
  ·have hlI:¬ (1:Int)<(m1.length:Int):=by omega
   clear d0 d1;obtain⟨d0,d1,_⟩:=HS.o.c;obtain⟨r0,r1⟩:=Am HQ.o;have fr:=fun j=>fH HQ.o j;go_wp2;refine bR (v:=.agg #[.slice a1 m1.length p1,.slice a2 m2.length p2]) (by simp[results,Tryz.results65,go_sem,r0,r1]) rfl ?_;obtain⟨u1,u2,n1,n2,k1,k2,k3,k4⟩:=Ea HS.o HR.o hBw HQ.o (by omega) (by omega) (Em _ (by first|omega|(simp;omega)))
   first|exact⟨u1,u2,n1,n2,k1,k2,k3,k4⟩|exact⟨u1,u2,k1,n1,n2,k2,k3,k4⟩
end Go.Proofs.YtjlnkepkkdefdaaGreatDoor
