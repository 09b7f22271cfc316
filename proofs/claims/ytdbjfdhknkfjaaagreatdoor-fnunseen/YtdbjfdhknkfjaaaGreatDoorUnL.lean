import Derived.Test.YtdbjfdhknkfjaaaGreatDoorUnB
namespace Go.Proofs.YtdbjfdhknkfjaaaGreatDoor
set_option maxHeartbeats 16000000
set_option maxRecDepth 100000
open Go.RowKit Go.Deep
set_option linter.unusedVariables false
set_option linter.unusedSimpArgs false
def Qo (w:World) (e:Ending) (w':World):Prop:=Below w.heap.size w w'/\∃ v1 v2 l1 l2,∃ nm tx:ByteArray,e=.returned (.tuple #[.agg #[v1,v2],.string nm,.string tx])/\Dw w' w.heap.size v1 v2 l1 l2/\Ox l1 l2/\nm.size<=50000/\tx.size<=50000
theorem Qo.mk' {w w1 w2 W:World} {v1 v2 x y:Value} {l1:List S2} {l2:List TC} {nm tx:ByteArray} {R:Nat} (hb:Below w.heap.size w w2) (hg:w2.grownBy W (some R)) (hR:w.heap.size<R) (hd:Dw W w.heap.size v1 v2 l1 l2) (hbd:Ox l1 l2) (hq:W.heap[w.heap.size]?=some (.cells #[x,y] 26 (0,0))) (h1:nm.size<=50000) (h2:tx.size<=50000) :
  Qo w (.returned (.tuple #[.agg #[v1,v2],.string nm,.string tx])) ((W.setCell ⟨w.heap.size,0,none⟩ v1).setCell ⟨w.heap.size,1,none⟩ v2):=by
 have hbW:Below w.heap.size w W:=hb.grown hg hb.size (fun k hk=>by cases hk;omega)
 exact⟨Jb hbW (Nat.le_refl _) _ _,v1,v2,l1,l2,nm,tx,rfl,hd.ret hq,hbd,h1,h2⟩
theorem Qo.bel {w W W':World} {e:Ending} (h:Qo w e W) (hb:Below W.heap.size W W'):Qo w e W':=by
 obtain⟨h1,v1,v2,l1,l2,nm,tx,he,h2,h3⟩:=h
 exact⟨bt h1 hb,v1,v2,l1,l2,nm,tx,he,h2.bl hb,h3⟩
theorem blk_set2q {W:World} {b:Nat} {x y:Value} (h:W.heap[b]?=some (.cells #[x,y] 26 (0,0))) (u v:Value):((W.setCell ⟨b,0,none⟩ u).setCell ⟨b,1,none⟩ v).heap[b]?=some (.cells #[u,v] 26 (0,0)):=by
 have h1:(W.setCell ⟨b,0,none⟩ u).heap[b]?=some (.cells #[u,y] 26 (0,0)):=by rw[jB h];rfl
 rw[jB h1];rfl
theorem Sc (w:World) (a:Option Addr) (len cap:Nat) (h:Jf w a len) (hlc:len<=cap) (hl:len<=1048576) :
  Calls Tryz.prog 6 #[.slice a len cap] w fun e w'=>Qo w e w':=by
 obtain⟨w1,e1⟩:∃ y,w.alloc (.cells #[.slice none 0 0,.slice none 0 0] 26)=y:=⟨_,rfl⟩
 have hb1:Below w.heap.size w w1:=by rw[<- e1];exact aN _ _
 have hs1:w1.heap.size=w.heap.size+1:=by rw[<- e1];simp
 have HQ:Hd (w1.heap[w.heap.size]?=some (.cells #[.slice none 0 0,.slice none 0 0] 26 (0,0))):=by show _=_;rw[<- e1];exact Ai _ _
 have hby:Jf w1 a len:=fun i hi=>by obtain⟨b,off,v,h1,h2,h3⟩:=h i hi;exact⟨b,off,v,h1,Ab hb1 h2,h3⟩
 have HO:=hid (Nf w1 a len cap hby hlc hl)
 obtain⟨R,eR⟩:∃ y,w1.heap.size=y:=⟨_,rfl⟩
 rw[eR] at HO
 have hRw:w.heap.size<R:=by omega
 have HER:=hid eR
 have HB1:=hid hb1
 clear hby h hlc hs1 eR hb1
 go_enter Tryz.func6,Tryz.ntmps6
 go_wp2_with fail
 clear e1
 refine HO.o.mono ?_
 rintro e w2 ⟨len',rfl,hr,hsz,hb2⟩
 clear HO
 have hR2:R<w2.heap.size:=by omega
 have hBw:R+1<=w2.heap.size:=by omega
 have HR:Hd (Be (R+1) R a len' cap 0 (0) w2 w2):=⟨Kn w2 R,0,by omega,hr⟩
 have HB:Hd (Below w.heap.size w w2):=HB1.o.trans (hb2.mono (by have:=HER.o;omega))
 replace HQ:=hid (Aa HQ.o (by rw[HER.o];exact hb2))
 have HR0:=hid hr
 clear hr hsz hb2 HER HB1
 go_wp2_with fail
 refine(Tv (R+1) R a len' cap 0 w2 HR0.o hBw (by omega)).mono ?_
 unfold SpS
 rintro e w3 ⟨v1,v2,l1,l2,rfl,hd,hbd,hk,_⟩
 replace HQ:=hid (Ao HQ.o hk.1 (by omega))
 clear HR HR0
 have HR:=hid hk
 obtain⟨a1,p1,rfl⟩:=hd.s1
 obtain⟨a2,p2,rfl⟩:=hd.s2
 obtain⟨w4,e4⟩:∃ y,w3.alloc (.cells #[.slice a1 l1.length p1,.slice a2 l2.length p2] 26)=y:=⟨_,rfl⟩
 have hb4:Below w3.heap.size w3 w4:=by rw[<- e4];exact aN _ _
 obtain⟨P,eP⟩:∃ P,w3.heap.size=P:=⟨_,rfl⟩
 have HP:Hd (w4.heap[P]?=some (.cells #[.slice a1 l1.length p1,.slice a2 l2.length p2] 26 (0,0))):=by show _=_;rw[<- e4,<- eP];exact Ai _ _
 have hPR:R<P:=by have:=hk.size;omega
 have hPQ:w.heap.size<P:=by omega
 have HD:=hid (hd.bl hb4)
 have HBD:=hid hbd
 replace HQ:=hid (Aa HQ.o hb4)
 replace HR:=hid (HR.o.bl hBw hb4)
 clear hd hbd hk hb4
 go_wp2_with fail
 clear e4 eP
 refine(HR.o.name hBw (by omega)).mono ?_
 rintro e w5 ⟨nm0,rfl,hnm0,hr1,hg1⟩
 replace HQ:=hid (Ao HQ.o hg1 (by omega))
 replace HP:=hid (Ao HP.o hg1 (by omega))
 replace HD:=hid (HD.o.gb hg1 hR2)
 clear HR
 have HR:=hid hr1
 clear hg1 hr1
 go_wp2_with fail
 refine(HR.o.pick (by omega) 10 (by omega) (by omega)).mono ?_
 rintro e w6 ⟨x,rfl,hx,hr1,hg1⟩
 replace HQ:=hid (Ao HQ.o hg1 (by omega))
 replace HP:=hid (Ao HP.o hg1 (by omega))
 replace HD:=hid (HD.o.gb hg1 hR2)
 clear HR
 have HR:=hid hr1
 clear hg1 hr1
 obtain⟨c0,c1⟩:=Af HP.o
 rcases Nat.eq_zero_or_pos x with rfl|hx0
 case' inl=>
  go_wp2_with fail;clear c0 c1;obtain⟨k1,p5,k2,k3⟩:=HR.o;refine(Qd (R+1) R a len' cap p5 w6 k3 (Nat.le_trans hBw k1.size) (by omega) HD.o HBD.o hR2).mono ?_;rintro e wT ⟨nm,rfl,hnm,hk⟩;have hg1:=hk.1;have hr1:=Be.then k1 k2 hk;clear hk k1 k2 k3;replace HQ:=hid (Ao HQ.o hg1 (by omega));replace HP:=hid (Ao HP.o hg1 (by omega));replace HD:=hid (HD.o.gb hg1 hR2);clear HR;have HR:=hid hr1;clear hg1 hr1;replace HR:=hid (HR.o.more (K':=12020) (by omega));go_wp2_with fail
 case' inr=>
  have hx0I:¬ ((x:Int)=0):=by omega
  obtain⟨wT,rfl⟩:∃ z,z=w6:=⟨_,rfl⟩;obtain⟨nm,rfl⟩:∃ z,z=nm0:=⟨_,rfl⟩;have hnm:nm.size<=50000:=by omega
  replace HR:=hid (HR.o.more (K':=12020) (by omega));go_wp2_with fail;clear c0 c1
 all_goals
  refine(HR.o.pick (by omega) 12 (by omega) (by omega)).mono ?_;rintro e w7 ⟨y,rfl,hy,hr1,hg1⟩;replace HQ:=hid (Ao HQ.o hg1 (by omega));replace HP:=hid (Ao HP.o hg1 (by omega));replace HD:=hid (HD.o.gb hg1 hR2);clear HR;have HR:=hid hr1;clear hg1 hr1
  rcases Nat.eq_zero_or_pos y with rfl|hy0
  ·go_wp2_with fail;refine Lt.begin 99 (fun w'=>w'.heap[P]?=some (.cells #[.slice a1 l1.length p1,.slice a2 l2.length p2] 26 (0,0))) (by kernel_rfl) ?_;obtain⟨wD,eD⟩:∃ y,w7.drew=y:=⟨_,rfl⟩;rw[eD];have hbD:Below w7.heap.size w7 wD:=by rw[<- eD];exact(Below.refl _ _).drew
   clear eD;replace HP:=hid (Aa HP.o hbD);replace HQ:=hid (Aa HQ.o hbD);replace HD:=hid (HD.o.bl hbD);replace HR:=hid (HR.o.bl hBw hbD);have hS0:(fun w'=>w'.heap[P]?=some (.cells #[.slice a1 l1.length p1,.slice a2 l2.length p2] 26 (0,0))) wD:=HP.o;change K 0 _
   iterate 2
    refine Lt.ti (v:=?_) hS0 ?_ ?_;rotate_left 1
    ·rintro w hSw;obtain⟨c0,c1⟩:=Af hSw;go_simp;first|done|with_reducible rfl
    simp only[gX]
   refine Lt.ti (i:=5) (v:=?_) hS0 ?_ ?_;rotate_left 1
   ·rintro w hSw;obtain⟨c0,c1⟩:=Af hSw;go_simp;first|done|with_reducible rfl
   simp only[gX];refine Lt.two (i:=2) (j:=4) (by kernel_rfl) rfl rfl (fun K hK=>?_) (fun K hK=>?_)
   ·go_simp;refine(HR.o.pick (by omega) 2 (by omega) (by omega)).mono ?_;rintro e wA ⟨q,rfl,hq,hrA,hgA⟩;replace HP:=hid (Ao HP.o hgA (by omega));replace HQ:=hid (Ao HQ.o hgA (by omega));replace HD:=hid (HD.o.gb hgA hR2);replace HR:=hid hrA;have hS1:(fun w'=>w'.heap[P]?=some (.cells #[.slice a1 l1.length p1,.slice a2 l2.length p2] 26 (0,0))) wA:=HP.o;refine hK.out _ _ (fun _=>hS1) (fun _=>?_);clear hK K hgA hrA
    try simp only[gX]
    refine Lt.two (i:=3) (j:=4) (by kernel_rfl) rfl rfl (fun K hK=>?_) (fun K hK=>?_)
    ·go_simp;refine(Nc q (by omega) HD.o HBD.o).mono ?_;rintro e wF ⟨hbF,u1,u2,m1,m2,rfl,hdF,hbdF⟩;obtain⟨b1,n1,rfl⟩:=hdF.s1;obtain⟨b2,n2,rfl⟩:=hdF.s2;have HDF:=hid (hdF.base (lo':=w2.heap.size) HR.o.size);have HBF:=hid hbdF;clear hdF hbdF;replace HP:=hid (Aa HP.o hbF);replace HQ:=hid (Aa HQ.o hbF);replace HD:=hid (HD.o.bl hbF);replace HR:=hid (HR.o.bl hBw hbF);have hS2:(fun w'=>w'.heap[P]?=some (.cells #[.slice a1 l1.length p1,.slice a2 l2.length p2] 26 (0,0))) wF:=HP.o;refine hK.out _ _ (fun _=>hS2) (fun _=>?_);clear hK K hbF
     try simp only[gX]
     refine Lt.two (i:=4) (j:=6) (by kernel_rfl) rfl rfl (fun K hK=>?_) (fun K hK=>?_)
     ·go_simp;refine Bb (Q:=fun x=>K _ x) ?_;intro wX hbX HL
      try dsimp only
      obtain⟨dl,edl⟩:∃ y,wF.heap.size=y:=⟨_,rfl⟩;(have hdl:w2.heap.size<=dl:=by have:=HR.o.size;omega);rw[edl] at HL ⊢;clear edl;replace HP:=hid (Aa HP.o hbX);replace HQ:=hid (Aa HQ.o hbX);replace HD:=hid (HD.o.bl hbX);replace HR:=hid (HR.o.bl hBw hbX);replace HDF:=hid (HDF.o.bl hbX);have hS3:(fun w'=>w'.heap[P]?=some (.cells #[.slice a1 l1.length p1,.slice a2 l2.length p2] 26 (0,0))) wX:=HP.o;refine hK.out _ _ (fun _=>hS3) (fun _=>?_);clear hK K hbX
      try simp only[gX]
      refine Lt.sp (i:=6) (fun K hK=>?_);go_simp;refine(HR.o.pick (by omega) 2 (by omega) (by omega)).mono ?_;rintro e wM ⟨j,rfl,hj,hrA,hgA⟩;replace HP:=hid (Ao HP.o hgA (by omega));replace HQ:=hid (Ao HQ.o hgA (by omega));replace HD:=hid (HD.o.gb hgA hR2);replace HR:=hid hrA;replace HDF:=hid (HDF.o.gb hgA hR2);replace HL:=hid (Ao HL.o hgA (by omega));have hS4:(fun w'=>w'.heap[P]?=some (.cells #[.slice a1 l1.length p1,.slice a2 l2.length p2] 26 (0,0))) wM:=HP.o;refine hK.out _ _ (fun _=>hS4) (fun _=>?_);clear hK K hgA hrA
      try simp only[gX]
      (have k0:wM.cell? ⟨dl,0,none⟩=some (.string ⟨#[97]⟩):=by rw[cH HL.o];rfl);(have k1:wM.cell? ⟨dl,1,none⟩=some (.string ⟨#[122,110,101,119]⟩):=by rw[cH HL.o];rfl);(obtain⟨nl,knl,hnl⟩:∃ nl:ByteArray,wM.cell? ⟨dl,j,none⟩=some (.string nl)/\nl.size<=50000:=by rcases (show j=0\/j=1 from by omega) with rfl|rfl<;>first|exact⟨_,k0,by decide⟩|exact⟨_,k1,by decide⟩);(have hjI:(j:Int)<2:=by omega);clear k0 k1;obtain⟨r0,r1⟩:=Af HQ.o;have fr:=fun j=>fH HQ.o j;(have kq:∀ z1 z2,((wM.setCell ⟨w.heap.size,0,none⟩ z1).setCell ⟨w.heap.size,1,none⟩ z2).cell? ⟨dl,j,none⟩=some (.string nl):=fun z1 z2=>by rw[World.cell?_setCell_far _ _ _ _ (by simp;omega),World.cell?_setCell_far _ _ _ _ (by simp;omega)];exact knl);refine Lt.two (i:=7) (j:=9) (by kernel_rfl) rfl rfl (fun K hK=>?_) (fun K hK=>?_)
      ·go_simp;refine hK.out _ _ (fun _=>hS4) (fun _=>?_);clear hK K
       try simp only[gX]
       refine Lt.two (i:=8) (j:=9) (by kernel_rfl) rfl rfl (fun K hK=>?_) (fun K hK=>?_)
       ·go_simp;refine hK.out _ _ (fun _=>hS4) (fun _=>?_);clear hK K
        try simp only[gX]
        refine Lt.sp (i:=9) (fun K hK=>?_);go_simp;refine hK.out _ _ (fun _=>Ac (Ac HP.o (by omega) _) (by omega) _) (fun _=>?_);clear hK K
        try simp only[gX]
        refine Lt.sp (i:=10) (fun K hK=>?_);go_simp;refine hK.out _ _ (fun _=>Ac (Ac HP.o (by omega) _) (by omega) _) (fun _=>?_);clear hK K
        try simp only[gX]
        refine Lt.sp (i:=11) (fun K hK=>?_);go_simp;refine hK.out _ _ (fun _=>Ac (Ac HP.o (by omega) _) (by omega) _) (fun _=>?_);clear hK K
        try simp only[gX]
        refine Lt.done (by kernel_rfl) ?_ _;go_wp2;refine bR (v:=.tuple #[.agg #[.slice b1 m1.length n1,.slice b2 m2.length n2],.string nl,.string ⟨#[120]⟩]) (by simp[results,Tryz.results6,go_sem,r0,r1]) rfl ?_;exact Qo.mk' (w1:=w) HB.o HR.o.1 hRw (HDF.o.base (by omega)) HBF.o HQ.o hnl (by decide)
       ·go_simp;refine hK.out _ _ (fun _=>Ac (Ac HP.o (by omega) _) (by omega) _) (fun _=>?_);clear hK K
        try simp only[gX]
        refine Lt.sp (i:=8) (fun K hK=>?_);go_simp;refine hK.out _ _ (fun _=>Ac (Ac HP.o (by omega) _) (by omega) _) (fun _=>?_);clear hK K
        try simp only[gX]
        refine Lt.sp (i:=10) (fun K hK=>?_);go_simp;refine hK.out _ _ (fun _=>Ac (Ac HP.o (by omega) _) (by omega) _) (fun _=>?_);clear hK K
        try simp only[gX]
        refine Lt.sp (i:=11) (fun K hK=>?_);go_simp;refine hK.out _ _ (fun _=>Ac (Ac HP.o (by omega) _) (by omega) _) (fun _=>?_);clear hK K
        try simp only[gX]
        refine Lt.done (by kernel_rfl) ?_ _;go_wp2;refine bR (v:=.tuple #[.agg #[.slice b1 m1.length n1,.slice b2 m2.length n2],.string nl,.string ⟨#[120]⟩]) (by simp[results,Tryz.results6,go_sem,r0,r1]) rfl ?_;exact Qo.mk' (w1:=w) HB.o HR.o.1 hRw (HDF.o.base (by omega)) HBF.o HQ.o hnl (by decide)
      ·go_simp;refine hK.out _ _ (fun _=>Ac (Ac HP.o (by omega) _) (by omega) _) (fun _=>?_);clear hK K
       try simp only[gX]
       refine Lt.sp (i:=7) (fun K hK=>?_);go_simp;refine hK.out _ _ (fun _=>Ac (Ac HP.o (by omega) _) (by omega) _) (fun _=>?_);clear hK K
       try simp only[gX]
       refine Lt.sp (i:=8) (fun K hK=>?_);go_simp;refine hK.out _ _ (fun _=>Ac (Ac HP.o (by omega) _) (by omega) _) (fun _=>?_);clear hK K
       try simp only[gX]
       refine Lt.sp (i:=10) (fun K hK=>?_);go_simp;refine hK.out _ _ (fun _=>Ac (Ac HP.o (by omega) _) (by omega) _) (fun _=>?_);clear hK K
       try simp only[gX]
       refine Lt.sp (i:=11) (fun K hK=>?_);go_simp;refine hK.out _ _ (fun _=>Ac (Ac HP.o (by omega) _) (by omega) _) (fun _=>?_);clear hK K
       try simp only[gX]
       refine Lt.done (by kernel_rfl) ?_ _;go_wp2;refine bR (v:=.tuple #[.agg #[.slice b1 m1.length n1,.slice b2 m2.length n2],.string nl,.string ⟨#[120]⟩]) (by simp[results,Tryz.results6,go_sem,r0,r1]) rfl ?_;exact Qo.mk' (w1:=w) HB.o HR.o.1 hRw (HDF.o.base (by omega)) HBF.o HQ.o hnl (by decide)
     ·go_simp;refine(HR.o.pick (by omega) 2 (by omega) (by omega)).mono ?_;rintro e wM ⟨j,rfl,hj,hrA,hgA⟩;replace HP:=hid (Ao HP.o hgA (by omega));replace HQ:=hid (Ao HQ.o hgA (by omega));replace HD:=hid (HD.o.gb hgA hR2);replace HR:=hid hrA;replace HDF:=hid (HDF.o.gb hgA hR2);have hS3:(fun w'=>w'.heap[P]?=some (.cells #[.slice a1 l1.length p1,.slice a2 l2.length p2] 26 (0,0))) wM:=HP.o;refine hK.out _ _ (fun _=>hS3) (fun _=>?_);clear hK K hgA hrA
      try simp only[gX]
      obtain⟨r0,r1⟩:=Af HQ.o;have fr:=fun j=>fH HQ.o j;refine Lt.two (i:=4) (j:=9) (by kernel_rfl) rfl rfl (fun K hK=>?_) (fun K hK=>?_)
      ·go_simp;clear r0 r1 fr;refine Bb (Q:=fun x=>K _ x) ?_;intro wX hbX HL
       try dsimp only
       obtain⟨dl,edl⟩:∃ y,wM.heap.size=y:=⟨_,rfl⟩;(have hdl:w2.heap.size<=dl:=by have:=HR.o.size;omega);rw[edl] at HL ⊢;clear edl;replace HP:=hid (Aa HP.o hbX);replace HQ:=hid (Aa HQ.o hbX);replace HD:=hid (HD.o.bl hbX);replace HR:=hid (HR.o.bl hBw hbX);replace HDF:=hid (HDF.o.bl hbX);have hS4:(fun w'=>w'.heap[P]?=some (.cells #[.slice a1 l1.length p1,.slice a2 l2.length p2] 26 (0,0))) wX:=HP.o;refine hK.out _ _ (fun _=>hS4) (fun _=>?_);clear hK K hbX
       try simp only[gX]
       (have k0:wX.cell? ⟨dl,0,none⟩=some (.string ⟨#[97]⟩):=by rw[cH HL.o];rfl);(have k1:wX.cell? ⟨dl,1,none⟩=some (.string ⟨#[122,110,101,119]⟩):=by rw[cH HL.o];rfl);(obtain⟨nl,knl,hnl⟩:∃ nl:ByteArray,wX.cell? ⟨dl,j,none⟩=some (.string nl)/\nl.size<=50000:=by rcases (show j=0\/j=1 from by omega) with rfl|rfl<;>first|exact⟨_,k0,by decide⟩|exact⟨_,k1,by decide⟩);(have hjI:(j:Int)<2:=by omega);clear k0 k1;obtain⟨r0,r1⟩:=Af HQ.o;have fr:=fun j=>fH HQ.o j;(have kq:∀ z1 z2,((wX.setCell ⟨w.heap.size,0,none⟩ z1).setCell ⟨w.heap.size,1,none⟩ z2).cell? ⟨dl,j,none⟩=some (.string nl):=fun z1 z2=>by rw[World.cell?_setCell_far _ _ _ _ (by simp;omega),World.cell?_setCell_far _ _ _ _ (by simp;omega)];exact knl);refine Lt.two (i:=7) (j:=9) (by kernel_rfl) rfl rfl (fun K hK=>?_) (fun K hK=>?_)
       ·go_simp;refine hK.out _ _ (fun _=>hS4) (fun _=>?_);clear hK K
        try simp only[gX]
        refine Lt.two (i:=8) (j:=9) (by kernel_rfl) rfl rfl (fun K hK=>?_) (fun K hK=>?_)
        ·go_simp;refine hK.out _ _ (fun _=>hS4) (fun _=>?_);clear hK K
         try simp only[gX]
         refine Lt.sp (i:=9) (fun K hK=>?_);go_simp;refine hK.out _ _ (fun _=>Ac (Ac HP.o (by omega) _) (by omega) _) (fun _=>?_);clear hK K
         try simp only[gX]
         refine Lt.sp (i:=10) (fun K hK=>?_);go_simp;refine hK.out _ _ (fun _=>Ac (Ac HP.o (by omega) _) (by omega) _) (fun _=>?_);clear hK K
         try simp only[gX]
         refine Lt.sp (i:=11) (fun K hK=>?_);go_simp;refine hK.out _ _ (fun _=>Ac (Ac HP.o (by omega) _) (by omega) _) (fun _=>?_);clear hK K
         try simp only[gX]
         refine Lt.done (by kernel_rfl) ?_ _;go_wp2;refine bR (v:=.tuple #[.agg #[.slice b1 m1.length n1,.slice b2 m2.length n2],.string nl,.string ⟨#[120]⟩]) (by simp[results,Tryz.results6,go_sem,r0,r1]) rfl ?_;exact Qo.mk' (w1:=w) HB.o HR.o.1 hRw (HDF.o.base (by omega)) HBF.o HQ.o hnl (by decide)
        ·go_simp;refine hK.out _ _ (fun _=>Ac (Ac HP.o (by omega) _) (by omega) _) (fun _=>?_);clear hK K
         try simp only[gX]
         refine Lt.sp (i:=8) (fun K hK=>?_);go_simp;refine hK.out _ _ (fun _=>Ac (Ac HP.o (by omega) _) (by omega) _) (fun _=>?_);clear hK K
         try simp only[gX]
         refine Lt.sp (i:=10) (fun K hK=>?_);go_simp;refine hK.out _ _ (fun _=>Ac (Ac HP.o (by omega) _) (by omega) _) (fun _=>?_);clear hK K
         try simp only[gX]
         refine Lt.sp (i:=11) (fun K hK=>?_);go_simp;refine hK.out _ _ (fun _=>Ac (Ac HP.o (by omega) _) (by omega) _) (fun _=>?_);clear hK K
         try simp only[gX]
         refine Lt.done (by kernel_rfl) ?_ _;go_wp2;refine bR (v:=.tuple #[.agg #[.slice b1 m1.length n1,.slice b2 m2.length n2],.string nl,.string ⟨#[120]⟩]) (by simp[results,Tryz.results6,go_sem,r0,r1]) rfl ?_;exact Qo.mk' (w1:=w) HB.o HR.o.1 hRw (HDF.o.base (by omega)) HBF.o HQ.o hnl (by decide)
       ·go_simp;refine hK.out _ _ (fun _=>Ac (Ac HP.o (by omega) _) (by omega) _) (fun _=>?_);clear hK K
        try simp only[gX]
        refine Lt.sp (i:=7) (fun K hK=>?_);go_simp;refine hK.out _ _ (fun _=>Ac (Ac HP.o (by omega) _) (by omega) _) (fun _=>?_);clear hK K
        try simp only[gX]
        refine Lt.sp (i:=8) (fun K hK=>?_);go_simp;refine hK.out _ _ (fun _=>Ac (Ac HP.o (by omega) _) (by omega) _) (fun _=>?_);clear hK K
        try simp only[gX]
        refine Lt.sp (i:=10) (fun K hK=>?_);go_simp;refine hK.out _ _ (fun _=>Ac (Ac HP.o (by omega) _) (by omega) _) (fun _=>?_);clear hK K
        try simp only[gX]
        refine Lt.sp (i:=11) (fun K hK=>?_);go_simp;refine hK.out _ _ (fun _=>Ac (Ac HP.o (by omega) _) (by omega) _) (fun _=>?_);clear hK K
        try simp only[gX]
        refine Lt.done (by kernel_rfl) ?_ _;go_wp2;refine bR (v:=.tuple #[.agg #[.slice b1 m1.length n1,.slice b2 m2.length n2],.string nl,.string ⟨#[120]⟩]) (by simp[results,Tryz.results6,go_sem,r0,r1]) rfl ?_;exact Qo.mk' (w1:=w) HB.o HR.o.1 hRw (HDF.o.base (by omega)) HBF.o HQ.o hnl (by decide)
      ·go_simp;have HQ9:=hid (blk_set2q HQ.o (.slice b1 m1.length n1) (.slice b2 m2.length n2));refine hK.out _ _ (fun _=>Ac (Ac HP.o (by omega) _) (by omega) _) (fun _=>?_);clear hK K
       try simp only[gX]
       refine Lt.sp (i:=4) (fun K hK=>?_);go_simp;refine Bb (Q:=fun x=>K _ x) ?_;intro wX hbX HL0
       try dsimp only
       (have HL:Hd (wX.heap[wM.heap.size]?=some (.cells #[.string ⟨#[97]⟩,.string ⟨#[122,110,101,119]⟩] 9 (0,0))):=by have:=HL0.o;show _=_;simpa using this);clear HL0;have hSX:=Aa (Ac (j:=1) (Ac (j:=0) HP.o (c:=w.heap.size) (by omega) (.slice b1 m1.length n1)) (c:=w.heap.size) (by omega) (.slice b2 m2.length n2)) hbX;(have k0:wX.cell? ⟨wM.heap.size,0,none⟩=some (.string ⟨#[97]⟩):=by rw[cH HL.o];rfl);(have k1:wX.cell? ⟨wM.heap.size,1,none⟩=some (.string ⟨#[122,110,101,119]⟩):=by rw[cH HL.o];rfl);(obtain⟨nl,knl,hnl⟩:∃ nl:ByteArray,wX.cell? ⟨wM.heap.size,j,none⟩=some (.string nl)/\nl.size<=50000:=by rcases (show j=0\/j=1 from by omega) with rfl|rfl<;>first|exact⟨_,k0,by decide⟩|exact⟨_,k1,by decide⟩);(have hjI:(j:Int)<2:=by omega);clear k0 k1;obtain⟨q0,q1⟩:=Af (Aa HQ9.o hbX);refine hK.out _ _ (fun _=>hSX) (fun _=>?_);clear hK K
       try simp only[gX]
       refine Lt.sp (i:=7) (fun K hK=>?_);go_simp;refine hK.out _ _ (fun _=>hSX) (fun _=>?_);clear hK K
       try simp only[gX]
       refine Lt.sp (i:=8) (fun K hK=>?_);go_simp;refine hK.out _ _ (fun _=>hSX) (fun _=>?_);clear hK K
       try simp only[gX]
       refine Lt.sp (i:=10) (fun K hK=>?_);go_simp;refine hK.out _ _ (fun _=>hSX) (fun _=>?_);clear hK K
       try simp only[gX]
       refine Lt.sp (i:=11) (fun K hK=>?_);go_simp;refine hK.out _ _ (fun _=>hSX) (fun _=>?_);clear hK K
       try simp only[gX]
       refine Lt.done (by kernel_rfl) ?_ _;go_wp2;refine bR (v:=.tuple #[.agg #[.slice b1 m1.length n1,.slice b2 m2.length n2],.string nl,.string ⟨#[120]⟩]) (by simp[results,Tryz.results6,go_sem,q0,q1]) rfl ?_;exact(Qo.mk' (w1:=w) HB.o HR.o.1 hRw (HDF.o.base (by omega)) HBF.o HQ.o hnl (by decide)).bel hbX
    ·go_simp;refine Bb (Q:=fun x=>K _ x) ?_;intro wX hbX HL
     try dsimp only
     obtain⟨dl,edl⟩:∃ y,wA.heap.size=y:=⟨_,rfl⟩;(have hdl:w2.heap.size<=dl:=by have:=HR.o.size;omega);rw[edl] at HL ⊢;clear edl;replace HP:=hid (Aa HP.o hbX);replace HQ:=hid (Aa HQ.o hbX);replace HD:=hid (HD.o.bl hbX);replace HR:=hid (HR.o.bl hBw hbX);have hS2:(fun w'=>w'.heap[P]?=some (.cells #[.slice a1 l1.length p1,.slice a2 l2.length p2] 26 (0,0))) wX:=HP.o;refine hK.out _ _ (fun _=>hS2) (fun _=>?_);clear hK K hbX
     try simp only[gX]
     refine Lt.sp (i:=3) (fun K hK=>?_);go_simp;refine(Nc q (by omega) HD.o HBD.o).mono ?_;rintro e wF ⟨hbF,u1,u2,m1,m2,rfl,hdF,hbdF⟩;obtain⟨b1,n1,rfl⟩:=hdF.s1;obtain⟨b2,n2,rfl⟩:=hdF.s2;have HDF:=hid (hdF.base (lo':=w2.heap.size) HR.o.size);have HBF:=hid hbdF;clear hdF hbdF;replace HP:=hid (Aa HP.o hbF);replace HQ:=hid (Aa HQ.o hbF);replace HD:=hid (HD.o.bl hbF);replace HR:=hid (HR.o.bl hBw hbF);replace HL:=hid (Aa HL.o hbF);have hS3:(fun w'=>w'.heap[P]?=some (.cells #[.slice a1 l1.length p1,.slice a2 l2.length p2] 26 (0,0))) wF:=HP.o;refine hK.out _ _ (fun _=>hS3) (fun _=>?_);clear hK K hbF
     try simp only[gX]
     refine Lt.sp (i:=6) (fun K hK=>?_);go_simp;refine(HR.o.pick (by omega) 2 (by omega) (by omega)).mono ?_;rintro e wM ⟨j,rfl,hj,hrA,hgA⟩;replace HP:=hid (Ao HP.o hgA (by omega));replace HQ:=hid (Ao HQ.o hgA (by omega));replace HD:=hid (HD.o.gb hgA hR2);replace HR:=hid hrA;replace HL:=hid (Ao HL.o hgA (by omega));replace HDF:=hid (HDF.o.gb hgA hR2);have hS4:(fun w'=>w'.heap[P]?=some (.cells #[.slice a1 l1.length p1,.slice a2 l2.length p2] 26 (0,0))) wM:=HP.o;refine hK.out _ _ (fun _=>hS4) (fun _=>?_);clear hK K hgA hrA
     try simp only[gX]
     (have k0:wM.cell? ⟨dl,0,none⟩=some (.string ⟨#[97]⟩):=by rw[cH HL.o];rfl);(have k1:wM.cell? ⟨dl,1,none⟩=some (.string ⟨#[122,110,101,119]⟩):=by rw[cH HL.o];rfl);(obtain⟨nl,knl,hnl⟩:∃ nl:ByteArray,wM.cell? ⟨dl,j,none⟩=some (.string nl)/\nl.size<=50000:=by rcases (show j=0\/j=1 from by omega) with rfl|rfl<;>first|exact⟨_,k0,by decide⟩|exact⟨_,k1,by decide⟩);(have hjI:(j:Int)<2:=by omega);clear k0 k1;obtain⟨r0,r1⟩:=Af HQ.o;have fr:=fun j=>fH HQ.o j;(have kq:∀ z1 z2,((wM.setCell ⟨w.heap.size,0,none⟩ z1).setCell ⟨w.heap.size,1,none⟩ z2).cell? ⟨dl,j,none⟩=some (.string nl):=fun z1 z2=>by rw[World.cell?_setCell_far _ _ _ _ (by simp;omega),World.cell?_setCell_far _ _ _ _ (by simp;omega)];exact knl);refine Lt.two (i:=7) (j:=9) (by kernel_rfl) rfl rfl (fun K hK=>?_) (fun K hK=>?_)
     ·go_simp;refine hK.out _ _ (fun _=>hS4) (fun _=>?_);clear hK K
      try simp only[gX]
      refine Lt.two (i:=8) (j:=9) (by kernel_rfl) rfl rfl (fun K hK=>?_) (fun K hK=>?_)
      ·go_simp;refine hK.out _ _ (fun _=>hS4) (fun _=>?_);clear hK K
       try simp only[gX]
       refine Lt.sp (i:=9) (fun K hK=>?_);go_simp;refine hK.out _ _ (fun _=>Ac (Ac HP.o (by omega) _) (by omega) _) (fun _=>?_);clear hK K
       try simp only[gX]
       refine Lt.sp (i:=10) (fun K hK=>?_);go_simp;refine hK.out _ _ (fun _=>Ac (Ac HP.o (by omega) _) (by omega) _) (fun _=>?_);clear hK K
       try simp only[gX]
       refine Lt.sp (i:=11) (fun K hK=>?_);go_simp;refine hK.out _ _ (fun _=>Ac (Ac HP.o (by omega) _) (by omega) _) (fun _=>?_);clear hK K
       try simp only[gX]
       refine Lt.done (by kernel_rfl) ?_ _;go_wp2;refine bR (v:=.tuple #[.agg #[.slice b1 m1.length n1,.slice b2 m2.length n2],.string nl,.string ⟨#[120]⟩]) (by simp[results,Tryz.results6,go_sem,r0,r1]) rfl ?_;exact Qo.mk' (w1:=w) HB.o HR.o.1 hRw (HDF.o.base (by omega)) HBF.o HQ.o hnl (by decide)
      ·go_simp;refine hK.out _ _ (fun _=>Ac (Ac HP.o (by omega) _) (by omega) _) (fun _=>?_);clear hK K
       try simp only[gX]
       refine Lt.sp (i:=8) (fun K hK=>?_);go_simp;refine hK.out _ _ (fun _=>Ac (Ac HP.o (by omega) _) (by omega) _) (fun _=>?_);clear hK K
       try simp only[gX]
       refine Lt.sp (i:=10) (fun K hK=>?_);go_simp;refine hK.out _ _ (fun _=>Ac (Ac HP.o (by omega) _) (by omega) _) (fun _=>?_);clear hK K
       try simp only[gX]
       refine Lt.sp (i:=11) (fun K hK=>?_);go_simp;refine hK.out _ _ (fun _=>Ac (Ac HP.o (by omega) _) (by omega) _) (fun _=>?_);clear hK K
       try simp only[gX]
       refine Lt.done (by kernel_rfl) ?_ _;go_wp2;refine bR (v:=.tuple #[.agg #[.slice b1 m1.length n1,.slice b2 m2.length n2],.string nl,.string ⟨#[120]⟩]) (by simp[results,Tryz.results6,go_sem,r0,r1]) rfl ?_;exact Qo.mk' (w1:=w) HB.o HR.o.1 hRw (HDF.o.base (by omega)) HBF.o HQ.o hnl (by decide)
     ·go_simp;refine hK.out _ _ (fun _=>Ac (Ac HP.o (by omega) _) (by omega) _) (fun _=>?_);clear hK K
      try simp only[gX]
      refine Lt.sp (i:=7) (fun K hK=>?_);go_simp;refine hK.out _ _ (fun _=>Ac (Ac HP.o (by omega) _) (by omega) _) (fun _=>?_);clear hK K
      try simp only[gX]
      refine Lt.sp (i:=8) (fun K hK=>?_);go_simp;refine hK.out _ _ (fun _=>Ac (Ac HP.o (by omega) _) (by omega) _) (fun _=>?_);clear hK K
      try simp only[gX]
      refine Lt.sp (i:=10) (fun K hK=>?_);go_simp;refine hK.out _ _ (fun _=>Ac (Ac HP.o (by omega) _) (by omega) _) (fun _=>?_);clear hK K
      try simp only[gX]
      refine Lt.sp (i:=11) (fun K hK=>?_);go_simp;refine hK.out _ _ (fun _=>Ac (Ac HP.o (by omega) _) (by omega) _) (fun _=>?_);clear hK K
      try simp only[gX]
      refine Lt.done (by kernel_rfl) ?_ _;go_wp2;refine bR (v:=.tuple #[.agg #[.slice b1 m1.length n1,.slice b2 m2.length n2],.string nl,.string ⟨#[120]⟩]) (by simp[results,Tryz.results6,go_sem,r0,r1]) rfl ?_;exact Qo.mk' (w1:=w) HB.o HR.o.1 hRw (HDF.o.base (by omega)) HBF.o HQ.o hnl (by decide)
   ·go_simp;refine Bb (Q:=fun x=>K _ x) ?_;intro wX hbX HL
    try dsimp only
    obtain⟨dl,edl⟩:∃ y,wD.heap.size=y:=⟨_,rfl⟩;(have hdl:w2.heap.size<=dl:=by have:=HR.o.size;omega);rw[edl] at HL ⊢;clear edl;replace HP:=hid (Aa HP.o hbX);replace HQ:=hid (Aa HQ.o hbX);replace HD:=hid (HD.o.bl hbX);replace HR:=hid (HR.o.bl hBw hbX);have hS1:(fun w'=>w'.heap[P]?=some (.cells #[.slice a1 l1.length p1,.slice a2 l2.length p2] 26 (0,0))) wX:=HP.o;refine hK.out _ _ (fun _=>hS1) (fun _=>?_);clear hK K hbX
    try simp only[gX]
    refine Lt.sp (i:=2) (fun K hK=>?_);go_simp;refine(HR.o.pick (by omega) 2 (by omega) (by omega)).mono ?_;rintro e wA ⟨q,rfl,hq,hrA,hgA⟩;replace HP:=hid (Ao HP.o hgA (by omega));replace HQ:=hid (Ao HQ.o hgA (by omega));replace HD:=hid (HD.o.gb hgA hR2);replace HR:=hid hrA;replace HL:=hid (Ao HL.o hgA (by omega));have hS2:(fun w'=>w'.heap[P]?=some (.cells #[.slice a1 l1.length p1,.slice a2 l2.length p2] 26 (0,0))) wA:=HP.o;refine hK.out _ _ (fun _=>hS2) (fun _=>?_);clear hK K hgA hrA
    try simp only[gX]
    refine Lt.sp (i:=3) (fun K hK=>?_);go_simp;refine(Nc q (by omega) HD.o HBD.o).mono ?_;rintro e wF ⟨hbF,u1,u2,m1,m2,rfl,hdF,hbdF⟩;obtain⟨b1,n1,rfl⟩:=hdF.s1;obtain⟨b2,n2,rfl⟩:=hdF.s2;have HDF:=hid (hdF.base (lo':=w2.heap.size) HR.o.size);have HBF:=hid hbdF;clear hdF hbdF;replace HP:=hid (Aa HP.o hbF);replace HQ:=hid (Aa HQ.o hbF);replace HD:=hid (HD.o.bl hbF);replace HR:=hid (HR.o.bl hBw hbF);replace HL:=hid (Aa HL.o hbF);have hS3:(fun w'=>w'.heap[P]?=some (.cells #[.slice a1 l1.length p1,.slice a2 l2.length p2] 26 (0,0))) wF:=HP.o;refine hK.out _ _ (fun _=>hS3) (fun _=>?_);clear hK K hbF
    try simp only[gX]
    refine Lt.sp (i:=6) (fun K hK=>?_);go_simp;refine(HR.o.pick (by omega) 2 (by omega) (by omega)).mono ?_;rintro e wM ⟨j,rfl,hj,hrA,hgA⟩;replace HP:=hid (Ao HP.o hgA (by omega));replace HQ:=hid (Ao HQ.o hgA (by omega));replace HD:=hid (HD.o.gb hgA hR2);replace HR:=hid hrA;replace HL:=hid (Ao HL.o hgA (by omega));replace HDF:=hid (HDF.o.gb hgA hR2);have hS4:(fun w'=>w'.heap[P]?=some (.cells #[.slice a1 l1.length p1,.slice a2 l2.length p2] 26 (0,0))) wM:=HP.o;refine hK.out _ _ (fun _=>hS4) (fun _=>?_);clear hK K hgA hrA
    try simp only[gX]
    (have k0:wM.cell? ⟨dl,0,none⟩=some (.string ⟨#[97]⟩):=by rw[cH HL.o];rfl);(have k1:wM.cell? ⟨dl,1,none⟩=some (.string ⟨#[122,110,101,119]⟩):=by rw[cH HL.o];rfl);(obtain⟨nl,knl,hnl⟩:∃ nl:ByteArray,wM.cell? ⟨dl,j,none⟩=some (.string nl)/\nl.size<=50000:=by rcases (show j=0\/j=1 from by omega) with rfl|rfl<;>first|exact⟨_,k0,by decide⟩|exact⟨_,k1,by decide⟩);(have hjI:(j:Int)<2:=by omega);clear k0 k1;obtain⟨r0,r1⟩:=Af HQ.o;have fr:=fun j=>fH HQ.o j;(have kq:∀ z1 z2,((wM.setCell ⟨w.heap.size,0,none⟩ z1).setCell ⟨w.heap.size,1,none⟩ z2).cell? ⟨dl,j,none⟩=some (.string nl):=fun z1 z2=>by rw[World.cell?_setCell_far _ _ _ _ (by simp;omega),World.cell?_setCell_far _ _ _ _ (by simp;omega)];exact knl);refine Lt.two (i:=7) (j:=9) (by kernel_rfl) rfl rfl (fun K hK=>?_) (fun K hK=>?_)
    ·go_simp;refine hK.out _ _ (fun _=>hS4) (fun _=>?_);clear hK K
     try simp only[gX]
     refine Lt.two (i:=8) (j:=9) (by kernel_rfl) rfl rfl (fun K hK=>?_) (fun K hK=>?_)
     ·go_simp;refine hK.out _ _ (fun _=>hS4) (fun _=>?_);clear hK K
      try simp only[gX]
      refine Lt.sp (i:=9) (fun K hK=>?_);go_simp;refine hK.out _ _ (fun _=>Ac (Ac HP.o (by omega) _) (by omega) _) (fun _=>?_);clear hK K
      try simp only[gX]
      refine Lt.sp (i:=10) (fun K hK=>?_);go_simp;refine hK.out _ _ (fun _=>Ac (Ac HP.o (by omega) _) (by omega) _) (fun _=>?_);clear hK K
      try simp only[gX]
      refine Lt.sp (i:=11) (fun K hK=>?_);go_simp;refine hK.out _ _ (fun _=>Ac (Ac HP.o (by omega) _) (by omega) _) (fun _=>?_);clear hK K
      try simp only[gX]
      refine Lt.done (by kernel_rfl) ?_ _;go_wp2;refine bR (v:=.tuple #[.agg #[.slice b1 m1.length n1,.slice b2 m2.length n2],.string nl,.string ⟨#[120]⟩]) (by simp[results,Tryz.results6,go_sem,r0,r1]) rfl ?_;exact Qo.mk' (w1:=w) HB.o HR.o.1 hRw (HDF.o.base (by omega)) HBF.o HQ.o hnl (by decide)
     ·go_simp;refine hK.out _ _ (fun _=>Ac (Ac HP.o (by omega) _) (by omega) _) (fun _=>?_);clear hK K
      try simp only[gX]
      refine Lt.sp (i:=8) (fun K hK=>?_);go_simp;refine hK.out _ _ (fun _=>Ac (Ac HP.o (by omega) _) (by omega) _) (fun _=>?_);clear hK K
      try simp only[gX]
      refine Lt.sp (i:=10) (fun K hK=>?_);go_simp;refine hK.out _ _ (fun _=>Ac (Ac HP.o (by omega) _) (by omega) _) (fun _=>?_);clear hK K
      try simp only[gX]
      refine Lt.sp (i:=11) (fun K hK=>?_);go_simp;refine hK.out _ _ (fun _=>Ac (Ac HP.o (by omega) _) (by omega) _) (fun _=>?_);clear hK K
      try simp only[gX]
      refine Lt.done (by kernel_rfl) ?_ _;go_wp2;refine bR (v:=.tuple #[.agg #[.slice b1 m1.length n1,.slice b2 m2.length n2],.string nl,.string ⟨#[120]⟩]) (by simp[results,Tryz.results6,go_sem,r0,r1]) rfl ?_;exact Qo.mk' (w1:=w) HB.o HR.o.1 hRw (HDF.o.base (by omega)) HBF.o HQ.o hnl (by decide)
    ·go_simp;refine hK.out _ _ (fun _=>Ac (Ac HP.o (by omega) _) (by omega) _) (fun _=>?_);clear hK K
     try simp only[gX]
     refine Lt.sp (i:=7) (fun K hK=>?_);go_simp;refine hK.out _ _ (fun _=>Ac (Ac HP.o (by omega) _) (by omega) _) (fun _=>?_);clear hK K
     try simp only[gX]
     refine Lt.sp (i:=8) (fun K hK=>?_);go_simp;refine hK.out _ _ (fun _=>Ac (Ac HP.o (by omega) _) (by omega) _) (fun _=>?_);clear hK K
     try simp only[gX]
     refine Lt.sp (i:=10) (fun K hK=>?_);go_simp;refine hK.out _ _ (fun _=>Ac (Ac HP.o (by omega) _) (by omega) _) (fun _=>?_);clear hK K
     try simp only[gX]
     refine Lt.sp (i:=11) (fun K hK=>?_);go_simp;refine hK.out _ _ (fun _=>Ac (Ac HP.o (by omega) _) (by omega) _) (fun _=>?_);clear hK K
     try simp only[gX]
     refine Lt.done (by kernel_rfl) ?_ _;go_wp2;refine bR (v:=.tuple #[.agg #[.slice b1 m1.length n1,.slice b2 m2.length n2],.string nl,.string ⟨#[120]⟩]) (by simp[results,Tryz.results6,go_sem,r0,r1]) rfl ?_;exact Qo.mk' (w1:=w) HB.o HR.o.1 hRw (HDF.o.base (by omega)) HBF.o HQ.o hnl (by decide)
  ·have hy0I:¬ ((y:Int)=0):=by omega
   go_wp2_with fail;refine(HR.o.pick (by omega) 20 (by omega) (by omega)).mono ?_;rintro e w8 ⟨z,rfl,hz,hr1,hg1⟩;replace HQ:=hid (Ao HQ.o hg1 (by omega));replace HP:=hid (Ao HP.o hg1 (by omega));replace HD:=hid (HD.o.gb hg1 hR2);clear HR;have HR:=hid hr1;clear hg1 hr1
   rcases Nat.eq_zero_or_pos z with rfl|hz0
   ·go_wp2_with fail;refine Lt.begin 99 (fun w'=>w'.heap[P]?=some (.cells #[.slice a1 l1.length p1,.slice a2 l2.length p2] 26 (0,0))) (by kernel_rfl) ?_;obtain⟨wD,eD⟩:∃ y,w8.drew=y:=⟨_,rfl⟩;rw[eD];(have hbD:Below w8.heap.size w8 wD:=by rw[<- eD];exact(Below.refl _ _).drew);clear eD;replace HP:=hid (Aa HP.o hbD);replace HQ:=hid (Aa HQ.o hbD);replace HD:=hid (HD.o.bl hbD);replace HR:=hid (HR.o.bl hBw hbD);have hS0:(fun w'=>w'.heap[P]?=some (.cells #[.slice a1 l1.length p1,.slice a2 l2.length p2] 26 (0,0))) wD:=HP.o;change K 0 _
    iterate 3
     refine Lt.ti (v:=?_) hS0 ?_ ?_;rotate_left 1
     ·rintro w hSw;obtain⟨c0,c1⟩:=Af hSw;go_simp;first|done|with_reducible rfl
     simp only[gX]
    refine Lt.sp (i:=3) (fun K hK=>?_);go_simp;refine(HR.o.pick (by omega) 2 (by omega) (by omega)).mono ?_;rintro e wA ⟨j,rfl,hj,hrA,hgA⟩;replace HP:=hid (Ao HP.o hgA (by omega));replace HQ:=hid (Ao HQ.o hgA (by omega));replace HD:=hid (HD.o.gb hgA hR2);replace HR:=hid hrA;have hS1:(fun w'=>w'.heap[P]?=some (.cells #[.slice a1 l1.length p1,.slice a2 l2.length p2] 26 (0,0))) wA:=HP.o;refine hK.out _ _ (fun _=>hS1) (fun _=>?_);clear hK K hgA hrA
    try simp only[gX]
    (have hwr:IntKind.i64.wrap (2000+(j:Int))=2000+(j:Int):=by rw[IntKind.wrap_i64];omega);refine Lt.ti (i:=4) (v:=?_) hS1 ?_ ?_;rotate_left 1
    ·rintro w hSw;obtain⟨c0,c1⟩:=Af hSw;go_simp;first|done|with_reducible rfl
    simp only[gX];refine Lt.sp (i:=5) (fun K hK=>?_);go_simp;have hmq:=Ix ⟨#[112]⟩ (2000+j) wA (by decide) (by omega);rw[show ((2000+j:Nat):Int)=2000+(j:Int) from by omega] at hmq;refine hmq.mono ?_;rintro e wB ⟨r,rfl,hrs,rfl⟩;(have hrs2:r.size<=50000:=by rw[hrs];show 1*(2000+j)<=50000;omega);clear hrs hmq;refine hK.out _ _ (fun _=>hS1) (fun _=>?_);clear hK K
    try simp only[gX]
    obtain⟨r0,r1⟩:=Af HQ.o;have fr:=fun j=>fH HQ.o j;refine Lt.sp (i:=6) (fun K hK=>?_);go_simp;refine hK.out _ _ (fun _=>Ac (Ac HP.o (by omega) _) (by omega) _) (fun _=>?_);clear hK K
    try simp only[gX]
    refine Lt.sp (i:=7) (fun K hK=>?_);go_simp;refine hK.out _ _ (fun _=>Ac (Ac HP.o (by omega) _) (by omega) _) (fun _=>?_);clear hK K
    try simp only[gX]
    refine Lt.sp (i:=8) (fun K hK=>?_);go_simp;refine hK.out _ _ (fun _=>Ac (Ac HP.o (by omega) _) (by omega) _) (fun _=>?_);clear hK K
    try simp only[gX]
    refine Lt.done (by kernel_rfl) ?_ _;go_wp2;refine bR (v:=.tuple #[.agg #[.slice a1 l1.length p1,.slice a2 l2.length p2],.string nm,.string r]) (by simp[results,Tryz.results6,go_sem,r0,r1]) rfl ?_;exact Qo.mk' (w1:=w) HB.o HR.o.1 hRw (HD.o.base (by omega)) HBD.o HQ.o hnm hrs2
   ·(have hz0I:¬ ((z:Int)=0):=by omega);go_wp2_with fail;refine Lt.begin 99 (fun w'=>w'.heap[P]?=some (.cells #[.slice a1 l1.length p1,.slice a2 l2.length p2] 26 (0,0))) (by kernel_rfl) ?_;obtain⟨wD,eD⟩:∃ y,w8.drew=y:=⟨_,rfl⟩;rw[eD];(have hbD:Below w8.heap.size w8 wD:=by rw[<- eD];exact(Below.refl _ _).drew);clear eD;replace HP:=hid (Aa HP.o hbD);replace HQ:=hid (Aa HQ.o hbD);replace HD:=hid (HD.o.bl hbD);replace HR:=hid (HR.o.bl hBw hbD);have hS0:(fun w'=>w'.heap[P]?=some (.cells #[.slice a1 l1.length p1,.slice a2 l2.length p2] 26 (0,0))) wD:=HP.o;change K 0 _
    iterate 3
     refine Lt.ti (v:=?_) hS0 ?_ ?_;rotate_left 1
     ·rintro w hSw;obtain⟨c0,c1⟩:=Af hSw;go_simp;first|done|with_reducible rfl
     simp only[gX]
    refine Lt.sp (i:=3) (fun K hK=>?_);go_simp;refine(HR.o.text hBw (by omega)).mono ?_;rintro e wA ⟨r,rfl,hrs,hrA,hgA⟩;replace HP:=hid (Ao HP.o hgA (by omega));replace HQ:=hid (Ao HQ.o hgA (by omega));replace HD:=hid (HD.o.gb hgA hR2);replace HR:=hid hrA;have hS1:(fun w'=>w'.heap[P]?=some (.cells #[.slice a1 l1.length p1,.slice a2 l2.length p2] 26 (0,0))) wA:=HP.o;refine hK.out _ _ (fun _=>hS1) (fun _=>?_);clear hK K hgA hrA
    try simp only[gX]
    (have hrs2:r.size<=50000:=by omega);obtain⟨r0,r1⟩:=Af HQ.o;have fr:=fun j=>fH HQ.o j;refine Lt.sp (i:=4) (fun K hK=>?_);go_simp;refine hK.out _ _ (fun _=>Ac (Ac HP.o (by omega) _) (by omega) _) (fun _=>?_);clear hK K
    try simp only[gX]
    refine Lt.sp (i:=5) (fun K hK=>?_);go_simp;refine hK.out _ _ (fun _=>Ac (Ac HP.o (by omega) _) (by omega) _) (fun _=>?_);clear hK K
    try simp only[gX]
    refine Lt.sp (i:=6) (fun K hK=>?_);go_simp;refine hK.out _ _ (fun _=>Ac (Ac HP.o (by omega) _) (by omega) _) (fun _=>?_);clear hK K
    try simp only[gX]
    refine Lt.done (by kernel_rfl) ?_ _;go_wp2;refine bR (v:=.tuple #[.agg #[.slice a1 l1.length p1,.slice a2 l2.length p2],.string nm,.string r]) (by simp[results,Tryz.results6,go_sem,r0,r1]) rfl ?_;exact Qo.mk' (w1:=w) HB.o HR.o.1 hRw (HD.o.base (by omega)) HBD.o HQ.o hnm hrs2
def DrT (w:World) (e:Ending) (w':World):Prop:=Below w.heap.size w w'/\∃ v1 v2:Value,∃ nm:ByteArray,∃ g n c:Nat,∃ is:List I3,∃ k1 k2:Nat,∃ b1 n1 b2 n2,v1=.slice b1 k1 n1/\v2=.slice b2 k2 n2/\e=.returned (.tuple #[.agg #[v1,v2],.string nm,.agg #[.slice (some ⟨g,0,none⟩) n c]])/\nm.size<=50000/\n=is.length/\w'.ownsRow w.heap.size 88 3 (.slice (some ⟨g,0,none⟩) n c) n (Dc is)/\n<=400/\∀ x∈is,x.text.size<=50000
theorem Qaf (w:World) (a:Option Addr) (len cap:Nat) (h:Jf w a len) (hlc:len<=cap) (hl:len<=1048576) :
  Calls Tryz.prog 5 #[.slice a len cap] w fun e w'=>DrT w e w':=by
 obtain⟨w1,e1⟩:∃ y,(w.alloc (.cells #[.slice none 0 0,.slice none 0 0] 26)).alloc (.cells #[.slice none 0 0] 31)=y:=⟨_,rfl⟩
 have hb1:Below w.heap.size w w1:=by rw[<- e1];exact(aN _ _).alloc (by simp) _
 have hs1:w1.heap.size=w.heap.size+2:=by rw[<- e1];simp
 have HQ:Hd (w1.heap[w.heap.size]?=some (.cells #[.slice none 0 0,.slice none 0 0] 26 (0,0))):=by show _=_;rw[<- e1,Lib.alloc_old _ _ _ (by simp)];exact Ai _ _
 have HQ2:Hd (w1.heap[w.heap.size+1]?=some (.cells #[.slice none 0 0] 31 (0,0))):=by
  have hh:=Ai (w.alloc (.cells #[.slice none 0 0,.slice none 0 0] 26)) (.cells #[.slice none 0 0] 31);rw[show (w.alloc (.cells #[.slice none 0 0,.slice none 0 0] 26)).heap.size=w.heap.size+1 from by simp,e1] at hh;exact hh
 have hby:Jf w1 a len:=fun i hi=>by obtain⟨b,off,v,h1,h2,h3⟩:=h i hi;exact⟨b,off,v,h1,Ab hb1 h2,h3⟩
 have HO:=hid (Nf w1 a len cap hby hlc hl)
 obtain⟨R,eR⟩:∃ y,w1.heap.size=y:=⟨_,rfl⟩
 rw[eR] at HO
 have hRw:w.heap.size+1<R:=by omega
 have HER:=hid eR
 have HB1:=hid hb1
 have HBY:=hid hby
 have HLC:=hid hlc
 clear hby h hlc hs1 eR hb1
 go_enter Tryz.func5,Tryz.ntmps5
 go_wp2_with fail
 clear e1
 refine HO.o.mono ?_
 rintro e w2 ⟨len',rfl,hr,hsz,hb2⟩
 clear HO
 have hR2:R<w2.heap.size:=by omega
 have hBw:R+1<=w2.heap.size:=by omega
 have hb2':Below w1.heap.size w1 w2:=by rw[HER.o];exact hb2
 have HB:Hd (Below w.heap.size w w2):=HB1.o.trans (hb2'.mono (by have:=HB1.o.size;omega))
 replace HQ:=hid (Aa HQ.o hb2')
 replace HQ2:=hid (Aa HQ2.o hb2')
 have HBY2:Hd (Jf w2 a len):=fun i hi=>by obtain⟨b,off,v,h1,h2,h3⟩:=HBY.o i hi;exact⟨b,off,v,h1,Ab hb2' h2,h3⟩
 have HR:=hid hr
 clear hr hsz hb2 hb2' HER HB1 HBY
 go_wp2_with fail
 refine(Sc w2 a len cap HBY2.o HLC.o hl).mono ?_
 unfold Qo
 rintro e w3 ⟨hb3,v1,v2,l1,l2,nm,tx,rfl,hd,hbd,hnm,htx⟩
 obtain⟨a1,p1,rfl⟩:=hd.s1
 obtain⟨a2,p2,rfl⟩:=hd.s2
 obtain⟨w4,e4⟩:∃ y,w3.alloc (.cells #[.slice a1 l1.length p1,.slice a2 l2.length p2] 26)=y:=⟨_,rfl⟩
 have hb4:Below w3.heap.size w3 w4:=by rw[<- e4];exact aN _ _
 obtain⟨P,eP⟩:∃ P,w3.heap.size=P:=⟨_,rfl⟩
 have HP:Hd (w4.heap[P]?=some (.cells #[.slice a1 l1.length p1,.slice a2 l2.length p2] 26 (0,0))):=by show _=_;rw[<- e4,<- eP];exact Ai _ _
 have hPR:R<P:=by have:=hb3.size;omega
 have hb34:=bt hb3 hb4
 replace HB:=hid (bt HB.o hb34)
 replace HQ:=hid (Aa HQ.o hb34)
 replace HQ2:=hid (Aa HQ2.o hb34)
 replace HR:=hid (HR.o.bl hBw hb34)
 have hw4:R+1<=w4.heap.size:=by have:=hb34.size;omega
 clear hd hbd hb3 hb4 hb34 htx HBY2 HLC
 go_wp2_with fail
 clear e4 eP
 refine Lt.begin 99 (fun w'=>w'.heap[P]?=some (.cells #[.slice a1 l1.length p1,.slice a2 l2.length p2] 26 (0,0))) (by kernel_rfl) ?_
 obtain⟨wD,eD⟩:∃ y,w4.drew=y:=⟨_,rfl⟩
 rw[eD]
 have hbD:Below w4.heap.size w4 wD:=by rw[<- eD];exact(Below.refl _ _).drew
 clear eD
 replace HP:=hid (Aa HP.o hbD)
 replace HQ:=hid (Aa HQ.o hbD)
 replace HQ2:=hid (Aa HQ2.o hbD)
 replace HB:=hid (bt HB.o hbD)
 replace HR:=hid (HR.o.bl hw4 hbD)
 have hS0:(fun w'=>w'.heap[P]?=some (.cells #[.slice a1 l1.length p1,.slice a2 l2.length p2] 26 (0,0))) wD:=HP.o
 change K 0 _
 iterate 3
  refine Lt.ti (v:=?_) hS0 ?_ ?_;rotate_left 1
  ·rintro w hSw;obtain⟨c0,c1⟩:=Af hSw;go_simp;first|done|with_reducible rfl
  simp only[gX]
 refine Lt.sp (i:=3) (fun K hK=>?_)
 go_simp
 refine(l2Any_any (R+1) R a len' cap 0 wD HR.o (by have:=HB.o.size;have:=Cb HP.o;omega) (by omega)).mono ?_
 rintro e wA ⟨g,n,c,is,rfl,hn,ho,hL,hx,hk⟩
 have hgA:=hk.1
 have HO:=hid (Bx (B':=w.heap.size) ho HB.o.size)
 have HN:=hid hn
 have HX:=hid hx
 have HBA:Hd (Below w.heap.size w wA):=HB.o.grown hgA HB.o.size (fun k hk=>by cases hk;omega)
 replace HP:=hid (Ao HP.o hgA (by omega))
 replace HQ:=hid (Ao HQ.o hgA (by omega))
 replace HQ2:=hid (Ao HQ2.o hgA (by omega))
 clear hgA hk hn ho hx HR HB
 have hS1:(fun w'=>w'.heap[P]?=some (.cells #[.slice a1 l1.length p1,.slice a2 l2.length p2] 26 (0,0))) wA:=HP.o
 refine hK.out _ _ (fun _=>hS1) (fun _=>?_)
 clear hK K
 try simp only[gX]
 obtain⟨r0,r1⟩:=Af HQ.o
 have fr:=fun j=>fH HQ.o j
 have r2:=Bz HQ2.o
 have fr2:=fun j=>fH HQ2.o j
 refine Lt.sp (i:=4) (fun K hK=>?_)
 go_simp
 refine hK.out _ _ (fun _=>Ac (Ac HP.o (by omega) _) (by omega) _) (fun _=>?_)
 clear hK K
 try simp only[gX]
 refine Lt.sp (i:=5) (fun K hK=>?_)
 go_simp
 refine hK.out _ _ (fun _=>Ac (Ac HP.o (by omega) _) (by omega) _) (fun _=>?_)
 clear hK K
 try simp only[gX]
 refine Lt.sp (i:=6) (fun K hK=>?_)
 go_simp
 refine hK.out _ _ (fun _=>Ac (Ac (Ac HP.o (by omega) _) (by omega) _) (by omega) _) (fun _=>?_)
 clear hK K
 refine Lt.done (by kernel_rfl) ?_ _
 go_wp2
 refine bR (v:=.tuple #[.agg #[.slice a1 l1.length p1,.slice a2 l2.length p2],.string nm,.agg #[.slice (some ⟨g,0,none⟩) n c]]) (by simp[results,Tryz.results5,go_sem,r0,r1,r2]) rfl ?_
 exact⟨(Jb HBA.o (Nat.le_refl _) _ _).setCell (p:=⟨w.heap.size+1,0,none⟩) (by simp) _,_,_,nm,g,n,c,is,_,_,_,_,_,_,rfl,rfl,rfl,hnm,HN.o,Cx (Cx (Cx HO.o ⟨_,HQ.o⟩ (by decide) _) (Df.set ⟨_,HQ.o⟩ _) (by decide) _) (Df.set (Df.set ⟨_,HQ2.o⟩ _) _) (by decide) _,hL,HX.o⟩
end Go.Proofs.YtdbjfdhknkfjaaaGreatDoor
