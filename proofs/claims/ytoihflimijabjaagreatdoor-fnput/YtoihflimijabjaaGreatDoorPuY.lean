import Derived.Test.YtoihflimijabjaaGreatDoorPuL
import Derived.Test.YtoihflimijabjaaGreatDoorPuO
import Derived.Test.YtoihflimijabjaaGreatDoorPuU
namespace Go.Proofs.YtoihflimijabjaaGreatDoor
open _root_.Go.Proofs.Tryz Go.RowKit Go.Deep
open Value renaming slice->J,string->S,bool->F,agg->G
open Option renaming some->M,none->N
open Obj renaming cells->O
open Go renaming Value->Z,World->E
open Ending renaming returned->H
open _root_ renaming List->L,Nat->X
set_option linter.unusedVariables false
set_option linter.unusedSimpArgs false
set_option maxHeartbeats 8000000
set_option maxRecDepth 100000
variable {b off i n g cp m hi nr n1 n2 lim j:X} {AM AE T':L By} {B x A:By} {w2 w0 W w':E} {R R':L T3} {wd:Int} {qv v:Z} {a1 a2:Option Addr} {is:L I3}
def SlF(xa:Option Addr)(n c:X):Prop:=n≤c∧((xa=N∧c=0)∨∃b off,xa=M ⟨b,off,N⟩)
def SrtP(w:E)(AM:L By)(e:Ending)(w':E):Prop:=Bw w w'∧∃a' c' L',e=H (J a' L'.length c')∧Cs w' a' L'∧L'.length=AM.length∧(∀x∈L',x∈AM)∧SlF a' L'.length c'
theorem Oo{w:E}(h:Cs w (M ⟨b,off,N⟩) AM)(k:X):Cs w (M ⟨b,off,N⟩) (AM.take k):=λi hi=>by
 rw[List.length_take]at hi;obtain⟨b',bq,e,c⟩:=h i qg;cases e;refine⟨b,off,rfl,?_⟩;rw[c];congr 2;rw[gG,gG,List.getElem?_take_of_lt qg]
theorem Oq{w:E}(h:Cs w (M ⟨b,off,N⟩) AM)(k:X):Cs w (M ⟨b,off+k,N⟩) (AM.drop k):=λi hi=>by
 rw[List.length_drop]at hi;obtain⟨b',bq,e,c⟩:=h (k+i) qg;cases e;refine⟨b,off+k,rfl,?_⟩;rw[Nat.add_assoc,c];congr 2;rw[gG,gG,List.getElem?_drop]
theorem Kh(h:i<AM.length):nx AM i∈AM:=by
 unfold nx;rw[gG,gQ h];exact List.getElem_mem h
theorem Lf{w:E}{B e sz:X}{xs:L Z}(h:w.ownsRow B e sz (J (p_ g) n cp) n xs):n≤cp∧cp≤maxLen:=by
 rcases h.2 with⟨h,_⟩|⟨g',c',cur,hv,_,_,h1,h2,_⟩
 ·cases h
 ·cases hv
  exact⟨h1,h2⟩
structure SoI (w2 wr:E) (AM:L By) (g cp m:X) (AE:L By):Prop where
 len:AE.length=m
 own:wr.ownsRow w2.heap.size 9 1 (J (p_ g) m cp) m (Ar AE)
 mem:∀x∈AE,x∈AM
 bel:Bw w2 wr
theorem SoI.bl{wr w3:E}(h:SoI w2 wr AM g cp m AE)(hb:Bw wr w3):SoI w2 w3 AM g cp m AE:=⟨h.len,Ce h.own hb,h.mem,bt h.bel hb⟩
theorem SoI.app{V w4:E}{g' cp':X}(h:SoI w2 V AM g cp m AE)(hx:x∈AM)(ho:w4.ownsRow w2.heap.size 9 1 (J (p_ g') (m+1) cp') (m+1) (Ar AE++[S x]))(hg:V.grownBy w4 (M g)):SoI w2 w4 AM g' cp' (m+1) (AE++[x]):=
 ⟨by rw[List.length_append,h.len];rfl,by rw[show Ar (AE++[x])=Ar AE++[S x] from qbi];exact ho,λy hy=>by rcases List.mem_append.mp hy with h1|h1;exact h.mem y h1;rw[List.mem_singleton.mp h1];exact hx,h.bel.grown hg h.bel.size (λj hj=>by cases hj;exact(h.own.lt g rfl).1)⟩
theorem Zx(n:X)(h1:1≤n)(h8:n≤8):∀(m:X)(AM:L By)(xa:Option Addr)(c:X)(w:E),AM.length≤m→AM.length≤20000→c≤maxLen→Cs w xa AM→SlF xa AM.length c→(∀x∈AM,x.size≤1048576)→
 Calls prog 52 #[J xa AM.length c,I n] w (SrtP w AM):=by
 intro m
 induction m with
 | zero=>
   intro AM xa c w hm hL hc hs hf hx;obtain rfl:AM=[]:=List.eq_nil_of_length_eq_zero qg;go_enter func52,ntmps52;go_wp2;go_ret;exact⟨Below.refl _ _,xa,c,[],rfl,hs,rfl,λx hx=>hx,hf⟩
 | succ m ih=>
   intro AM xa c w hm hL hc hs hf hx
   by_cases h2:AM.length<2
   ·have h2I:(AM.length:Int)<2:=qg
    go_enter func52,ntmps52;go_wp2;go_ret;exact⟨Below.refl _ _,xa,c,AM,rfl,hs,rfl,λx hx=>hx,hf⟩
   ·have h2I:¬ (AM.length:Int)<2:=qg
    obtain⟨hlc,hf|⟨b,off,rfl⟩⟩:=hf
    ·omega
    ·obtain⟨k,ek⟩:=Aj (AM.length / 2)
     have fh:1≤k∧k<AM.length:=qg;(have hq:Int.tdiv (AM.length:Int) 2=(k:Int):=by rw[←ek,Int.tdiv_eq_ediv_of_nonneg qg];omega);have HA:=Ad (ih (AM.take k) (M ⟨b,off,N⟩) c w qag qag hc (Oo hs k) ⟨qag,Or.inr ⟨b,off,rfl⟩⟩ (λx h=>hx x (List.mem_of_mem_take h)));rw[List.length_take,Nat.min_eq_left qg]at HA;go_enter func52,ntmps52;go_wp2_with fail;refine HA.o.mono ?_;rintro e w1 ⟨ah,aa,ca,LA,rfl,sA,lA,mA,fA⟩;rw[List.length_take,Nat.min_eq_left qg]at lA;have HB:=Ad (ih (AM.drop k) (M ⟨b,off+k,N⟩) (c-k) w1 (by rw[List.length_drop];omega) (by rw[List.length_drop];omega) (by unfold maxLen at *;omega) ((Oq hs k).bl ah) ⟨by rw[List.length_drop];omega,Or.inr ⟨b,off+k,rfl⟩⟩ (λx h=>hx x (List.mem_of_mem_drop h)));rw[List.length_drop]at HB;have Q6:=Ad sA;have HMA:=Ad mA;have R6:=Ad fA;have gi:(0:Int)≤(k:Int):=qg;have hkL:(k:Int)≤(AM.length:Int):=qg;have hcI:(AM.length:Int)≤(c:Int):=qg;clear HA sA mA fA;go_wp2_with fail;refine HB.o.mono ?_;rintro e w2 ⟨a9,ab,cb,LB,rfl,sB,lB,mB,fB⟩;rw[List.length_drop]at lB;obtain⟨nb,enb⟩:=Aj (AM.length-k);rw[enb]at lB;have HSB:=Ad sB;have HMB:=Ad (show ∀x∈LB,x∈AM from λx h=>List.mem_of_mem_drop (mB x h));replace HMA:=Ad (show ∀x∈LA,x∈AM from λx h=>List.mem_of_mem_take (HMA.o x h));have HFB:=Ad fB;replace Q6:=Ad (Q6.o.bl a9);have N7:=Ad (bt ah a9);have HX:=Ad hx;have G7:k+nb=AM.length:=qg;have HNK:=Ad G7;have hkn:k≤20000:=qg;have hnn:nb≤20000:=qg;have iq:=Ad (show k<AM.length from fh.2);obtain⟨i0,hi,bm,bg,bi⟩:=info_parts Tryz.info9b;obtain⟨V,eV⟩:=Aj (w2.alloc (O #[] 9))
     have Id:Hd (SoI w2 V AM w2.heap.size 0 0 []):=by
      refine⟨rfl,?_,λx hx=>absurd hx qi,eV▸aN _ _⟩;rw[←eV];exact Gk w2 w2.heap.size 9 1 (Nat.le_refl _)
     clear HB sB mB fB ah a9 hs hx G7 enb ek hq hkL hcI h2 h2I hm hc hlc fh;go_wp2_with fail;clear eV
     go_loopw [7,8,9] (λo j i wr=>∃(iN jN g cp:X)(AE:L By),iN≤k∧jN≤nb∧i=I iN∧j=I jN∧o=J (p_ g) (iN+jN) cp∧Hd (SoI w2 wr AM g cp (iN+jN) AE)) (λ_ _ i _=>k-(intOf i).toNat)
     case atStart=>exact⟨0,0,w2.heap.size,0,[],Nat.zero_le _,Nat.zero_le _,rfl,rfl,rfl,Id.o⟩
     case round=>
      obtain⟨iN,jN,g,cp,AE,hiN,hjN,rfl,rfl,rfl,HO⟩:=hrel;clear Id
      by_cases au:iN<k
      ·have um:(iN:Int)<(k:Int):=qg
       have O5:(0:Int)≤(iN:Int):=qg;obtain⟨a1,o1,rfl,cA⟩:=Q6.o iN qg;replace cA:w2.cell? ⟨a1,o1+iN,N⟩=M (S (nx LA iN)):=cA;have HXA:Hd (nx LA iN∈AM):=HMA.o _ (Kh qg);have B6:Hd (∀W:E,Calls prog 18 #[S (nx LA iN),I n] W λe w'=>e=H (S (Ap n (nx LA iN)))∧Bw W w'):=λW=>Cl _ n W (HX.o _ HXA.o) h1 h8;generalize nx LA iN=xA at *;obtain⟨qa,eqa⟩:=Aj (Ap n xA);rw[eqa]at B6;clear eqa;have jr:=Ad cA;clear cA ih;go_wp2_with fail
       go_loopw [7,8] (λo j wr=>∃(jN g cp:X)(AE:L By),jN≤nb∧j=I jN∧o=J (p_ g) (iN+jN) cp∧Hd (SoI w2 wr AM g cp (iN+jN) AE)) (λ_ j _=>nb-(intOf j).toNat)
       case atStart=>exact⟨jN,g,cp,AE,hjN,rfl,rfl,HO.o⟩
       case round=>
        clear HO hjN;obtain⟨jN,g,cp,AE,hjN,rfl,rfl,HO⟩:=hrel;have ce:Bw wr wr.drew:=(Below.refl _ _).drew
        by_cases hj:jN<nb
        ·have hjI:(jN:Int)<(nb:Int):=qg
         have hj0:(0:Int)≤(jN:Int):=qg;obtain⟨b1,p1,rfl,cB⟩:=(HSB.o.bl HO.o.bel) jN qg;replace cB:wr.cell? ⟨b1,p1+jN,N⟩=M (S (nx LB jN)):=cB;have cA:wr.cell? ⟨a1,o1+iN,N⟩=M (S xA):=Aa HO.o.bel jr.o;have HXB:Hd (nx LB jN∈AM):=HMB.o _ (Kh qg);have HSMB:Hd (∀W:E,Calls prog 18 #[S (nx LB jN),I n] W λe w'=>e=H (S (Ap n (nx LB jN)))∧Bw W w'):=λW=>Cl _ n W (HX.o _ HXB.o) h1 h8;generalize nx LB jN=xB at *;obtain⟨qb,eqb⟩:=Aj (Ap n xB);rw[eqb]at HSMB;clear eqb;have e1:decide ((jN:Int)<(nb:Int))=true:=qj;obtain⟨v,hv⟩:=Aj (Aw qb qa);unfold Aw at hv;cases v
         ·go_wp2_with fail
          refine Lt.begin 99 (λw'=>w'.cell? ⟨b1,p1+jN,N⟩=M (S xB)∧w'.cell? ⟨a1,o1+iN,N⟩=M (S xA)) qk ?_;have aw:wr.drew.cell? ⟨b1,p1+jN,N⟩=M (S xB)∧wr.drew.cell? ⟨a1,o1+iN,N⟩=M (S xA):=⟨cB,cA⟩;change K 0 _
          iterate 10
           refine Lt.ti (v:=?_) aw ?_ ?_;rotate_left 1
           ·exact qbz
           simp only[gX]
          change K 11 _
          iterate 5
           refine Lt.ti (v:=?_) aw ?_ ?_;rotate_left 1
           ·exact qbz
           simp only[gX]
          refine Lt.sp (i:=10) (λK hK=>?_);go_simp;refine(HSMB.o _).mono ?_;rintro e w3 ⟨rfl,bh⟩;have fm:=bt ce bh;refine hK.out _ _ (λ_=>⟨Aa bh aw.1,Aa bh aw.2⟩) (λ_=>?_);clear hK K 
          try simp only[gX]
          refine Lt.sp (i:=16) (λK hK=>?_);go_simp;refine(B6.o _).mono ?_;rintro e w4 ⟨rfl,bx⟩;have i7:=bt fm bx;have gj:w4.cell? ⟨b1,p1+jN,N⟩=M (S xB)∧w4.cell? ⟨a1,o1+iN,N⟩=M (S xA):=⟨Aa bx (Aa bh aw.1),Aa bx (Aa bh aw.2)⟩;refine hK.out _ _ (λ_=>gj) (λ_=>?_);clear hK K 
          try simp only[gX]
          change K 17 _
          iterate 2
           refine Lt.ti (v:=?_) gj ?_ ?_;rotate_left 1
           ·exact qbz
           simp only[gX]
          refine Lt.done qk ?_ _;have yd:=Ad (HO.o.bl i7);have d4:=gj.2;clear HO aw gj bh bx fm ce cA cB;obtain⟨V3,sj⟩:=Aj (w4.alloc (O #[S xA] 9));have X8:Hd (V3.heap[w4.heap.size]?=M (O #[S xA] 9 (0,0))):=qdi;have sq:Hd (SoI w2 V3 AM g cp (iN+jN) AE):=yd.o.bl (sj▸aN _ _);have cA3:=d4
          go_wp2_with (first|(at_builtin;refine wpList_append_own _ rfl (.tmp 63) (.tmp 68) 23 rfl w2.heap.size 9 i0 ze 1 16 underlying23 hi bm bg bi rfl qh _ _ _ rfl sq.o.own ⟨w4.heap.size,0,N⟩ 1 1 [S xA] rfl rfl (World.news_of_block (cs:=#[S xA]) (t:=9) (fr:=(0,0)) X8.o) qao qn qg sq.o.bel.size ?_;intro v' w5 af ae bn;clear bn;obtain⟨g',cp',rfl⟩:=Db af qg;have C0:=Ad (SoI.app sq.o HXA.o af ae);clear af ae))
          exact qis
         ·go_wp2_with fail
          refine Lt.begin 99 (λw'=>w'.cell? ⟨b1,p1+jN,N⟩=M (S xB)∧w'.cell? ⟨a1,o1+iN,N⟩=M (S xA)) qk ?_;have aw:wr.drew.cell? ⟨b1,p1+jN,N⟩=M (S xB)∧wr.drew.cell? ⟨a1,o1+iN,N⟩=M (S xA):=⟨cB,cA⟩;change K 0 _
          iterate 10
           refine Lt.ti (v:=?_) aw ?_ ?_;rotate_left 1
           ·exact qbz
           simp only[gX]
          change K 11 _
          iterate 5
           refine Lt.ti (v:=?_) aw ?_ ?_;rotate_left 1
           ·exact qbz
           simp only[gX]
          refine Lt.sp (i:=10) (λK hK=>?_);go_simp;refine(HSMB.o _).mono ?_;rintro e w3 ⟨rfl,bh⟩;have fm:=bt ce bh;refine hK.out _ _ (λ_=>⟨Aa bh aw.1,Aa bh aw.2⟩) (λ_=>?_);clear hK K 
          try simp only[gX]
          refine Lt.sp (i:=16) (λK hK=>?_);go_simp;refine(B6.o _).mono ?_;rintro e w4 ⟨rfl,bx⟩;have i7:=bt fm bx;have gj:w4.cell? ⟨b1,p1+jN,N⟩=M (S xB)∧w4.cell? ⟨a1,o1+iN,N⟩=M (S xA):=⟨Aa bx (Aa bh aw.1),Aa bx (Aa bh aw.2)⟩;refine hK.out _ _ (λ_=>gj) (λ_=>?_);clear hK K 
          try simp only[gX]
          change K 17 _
          iterate 2
           refine Lt.ti (v:=?_) gj ?_ ?_;rotate_left 1
           ·exact qbz
           simp only[gX]
          refine Lt.done qk ?_ _;have yd:=Ad (HO.o.bl i7);have d4:=gj.1;clear HO aw gj bh bx fm ce cA cB;obtain⟨V3,sj⟩:=Aj (w4.alloc (O #[S xB] 9));have X8:Hd (V3.heap[w4.heap.size]?=M (O #[S xB] 9 (0,0))):=qdi;have sq:Hd (SoI w2 V3 AM g cp (iN+jN) AE):=yd.o.bl (sj▸aN _ _)
          go_wp2_with (first|(at_builtin;refine wpList_append_own _ rfl (.tmp 54) (.tmp 59) 23 rfl w2.heap.size 9 i0 ze 1 16 underlying23 hi bm bg bi rfl qh _ _ _ rfl sq.o.own ⟨w4.heap.size,0,N⟩ 1 1 [S xB] rfl rfl (World.news_of_block (cs:=#[S xB]) (t:=9) (fr:=(0,0)) X8.o) qao qn qg sq.o.bel.size ?_;intro v' w5 af ae bn;clear bn;obtain⟨g',cp',rfl⟩:=Db af qg;have C0:=Ad (SoI.app sq.o HXB.o af ae);clear af ae))
          go_roundw
          case rel=>exact⟨jN+1,g',cp',AE++[xB],qg,qp,by rw[Nat.add_assoc],by rw[←Nat.add_assoc];exact C0.o⟩
          case measure=>simp[intOf];omega
        ·have e1:decide (jN<nb)=false:=qj
         go_wp2_with fail
         go_quiet (fail)
         obtain⟨wx,ewx⟩:=Aj (wr.drewN nq);have ks:Bw wr wx:=ewx▸below_drewN (Below.refl _ _) _;rw[ewx];have yd:=Ad (HO.o.bl ks);have d4:=Aa ks (Aa HO.o.bel jr.o);clear HO ce ewx ks;obtain⟨V3,sj⟩:=Aj (wx.alloc (O #[S xA] 9));have X8:Hd (V3.heap[wx.heap.size]?=M (O #[S xA] 9 (0,0))):=qdi;have sq:Hd (SoI w2 V3 AM g cp (iN+jN) AE):=yd.o.bl (sj▸aN _ _);have cA3:=d4
         go_wp2_with (first|(at_builtin;refine wpList_append_own _ rfl (.tmp 63) (.tmp 68) 23 rfl w2.heap.size 9 i0 ze 1 16 underlying23 hi bm bg bi rfl qh _ _ _ rfl sq.o.own ⟨wx.heap.size,0,N⟩ 1 1 [S xA] rfl rfl (World.news_of_block (cs:=#[S xA]) (t:=9) (fr:=(0,0)) X8.o) qao qn qg sq.o.bel.size ?_;intro v' w5 af ae bn;clear bn;obtain⟨g',cp',rfl⟩:=Db af qg;have C0:=Ad (SoI.app sq.o HXA.o af ae);clear af ae))
         exact qis
      ·have ek:iN=k:=qg
       have e32:((iN:Int)<(k:Int))=False:=qj;(have gy:1≤nb:=by have:=HNK.o;have:=iq.o;omega);obtain⟨fB1,fB2⟩:=HFB.o
       rcases fB2 with⟨_,h0⟩|⟨b1,p1,rfl⟩
       ·omega
       ·have hjI:(jN:Int)≤(nb:Int):=qg
        have hj0:(0:Int)≤(jN:Int):=qg;have mh:(nb:Int)≤(cb:Int):=qg;(have wz:Hd ((Ar (LB.drop jN)).length=(nb-jN)*1):=by show _=_;unfold Ar;simp;omega);have HON:Hd (∀u∈Ar (LB.drop jN),u.oneCell'=true):=Gg _;have X7:Hd (∀j u,(Ar (LB.drop jN))[j]?=M u→wr.cell? ((⟨b1,p1+jN,N⟩:Addr).add j)=M u):=Gh ((Oq HSB.o jN).bl HO.o.bel)
        have N1:Hd (∀(v':Z)(w5:E),w5.ownsRow w2.heap.size 9 1 v' (iN+jN+(nb-jN)) (Ar AE++Ar (LB.drop jN))→wr.grownBy w5 (M g)→SrtP w AM (H v') w5):=by
         intro v' w5 ho hg;obtain⟨g',cp',rfl⟩:=Db ho qg;(have hl:(AE++LB.drop jN).length=iN+jN+(nb-jN):=by rw[List.length_append,HO.o.len,List.length_drop,lB]);have du:Ar AE++Ar (LB.drop jN)=Ar (AE++LB.drop jN):=qbi;rw[du,←hl]at ho;refine⟨N7.o.trans ((HO.o.bel.grown hg HO.o.bel.size (λj hj=>by cases hj;exact(HO.o.own.lt g rfl).1)).mono N7.o.size),p_ g',cp',AE++LB.drop jN,by rw[hl],Gx ho,by have:=HNK.o;omega,λx hx=>?_,(Lf ho).1,Or.inr ⟨g',0,rfl⟩⟩
         rcases List.mem_append.mp hx with h|h
         ·exact HO.o.mem x h
         ·exact HMB.o x (List.mem_of_mem_drop h)
        by_cases hcj:cb=jN
        ·have ni:nb=jN:=qg
         have HE0:Hd (∀(v':Z)(w5:E),w5.ownsRow w2.heap.size 9 1 v' (iN+jN+0) (Ar AE++[])→wr.grownBy w5 (M g)→SrtP w AM (H v') w5):=λv' w5 ho hg=>N1.o v' w5 (by rw[List.drop_eq_nil_of_le qg,show nb-jN=0 from qg];exact ho) hg;clear X7 N1
         go_wp2_with (first|(at_builtin;refine wpList_append_own _ rfl (.tmp 70) (.tmp 73) 23 rfl w2.heap.size 9 i0 ze 1 16 underlying23 hi bm bg bi rfl qh _ _ _ rfl HO.o.own ⟨b1,p1,N⟩ 0 0 [] rfl rfl (λj u h=>qak) (λu h=>qak) qn qg HO.o.bel.size ?_;intro v' w5 af ae bn;clear bn;have C0:=Ad (HE0.o v' w5 af ae);clear af ae))
         go_ret;exact C0.o
        ·go_wp2_with (first|(at_builtin;refine wpList_append_own _ rfl (.tmp 70) (.tmp 73) 23 rfl w2.heap.size 9 i0 ze 1 16 underlying23 hi bm bg bi rfl qh _ _ _ rfl HO.o.own ⟨b1,p1+jN,N⟩ (nb-jN) (cb-jN) (Ar (LB.drop jN)) rfl wz.o X7.o HON.o qn qg HO.o.bel.size ?_;intro v' w5 af ae bn;clear bn;have C0:=Ad (N1.o v' w5 af ae);clear af ae))
         go_ret;exact C0.o
theorem Oz(h:x∈AM):∃i,i<AM.length∧nx AM i=x:=by
 obtain⟨i,hi,e⟩:=List.getElem_of_mem h;exact⟨i,hi,by unfold nx;rw[gG,gQ hi];exact e⟩
theorem get_mem{ts:L By}{ok:Bool}(ha:Fg (ts.map (Ap n)))(hx:x∈ts)(h:Dt n ts (Ap n x) A ok):A=x∧ok=true:=by
 obtain⟨i,hi,e⟩:=Oz hx;exact Dt.unique ha (Or.inl ⟨rfl,i,hi,by rw[e],e.symm⟩) h
theorem Vk{n:Int}{T:L By}(h:Og n T R x 0 wd T' R' A B):wd=n∧R'=R∧x∈T'∧∀y∈T,y∈T':=by
 rcases h with⟨_,h0,_⟩|⟨_,r,hp,h⟩
 ·exact absurd h0 qh
 ·rcases h with⟨_,_,h0,_⟩|⟨ht,he,_,rfl,rfl,rfl,_,_⟩|⟨_,_,h0,_⟩|⟨_,_,_,rfl,rfl,rfl,_,_⟩
  ·exact absurd h0 qh
  ·exact⟨rfl,rfl,by rw[←he];exact Kh ht.1,λy hy=>hy⟩
  ·exact absurd h0 qh
  ·refine⟨rfl,rfl,by unfold Fp;simp,λy hy=>?_⟩
   unfold Fp;rw[←List.take_append_drop r T]at hy
   rcases List.mem_append.mp hy with q|q
   ·exact List.mem_append.mpr (Or.inl (List.mem_append.mpr (Or.inl q)))
   ·exact List.mem_append.mpr (Or.inr q)
theorem Xj{n:Int}{T:L By}(h:Og n T R x 2 wd T' R' A B):A≠B∧Ap n.toNat A=Ap n.toNat B∧1≤n∧n≤8:=by
 rcases h with⟨_,h0,_⟩|⟨cm,r,hp,h⟩
 ·exact absurd h0 qh
 ·rcases h with⟨ht,he,_,_,_,_,rfl,rfl⟩|⟨_,_,h0,_⟩|⟨_,_,h0,_⟩|⟨_,_,h0,_⟩
  ·exact⟨he,ht.2,cm.1.1,cm.1.2.1⟩
  ·exact absurd h0 qh
  ·exact absurd h0 qh
  ·exact absurd h0 qh
theorem kp_wd{n:Int}{T:L By}(h:Og n T R x 0 wd T' R' A B):Cz n T' R':=by
 rcases h with⟨_,h0,_⟩|⟨cm,r,hp,h⟩
 ·exact absurd h0 qh
 ·rcases h with⟨_,_,h0,_⟩|⟨ht,he,_,rfl,rfl,rfl,_,_⟩|⟨_,_,h0,_⟩|⟨ht,hl,_,rfl,rfl,rfl,_,_⟩
  ·exact absurd h0 qh
  ·exact cm.1
  ·exact absurd h0 qh
  ·have pa:Fd wd.toNat T [x] (Fp T x r) N:=Fd.one ⟨r,hp,Or.inr (Or.inr (Or.inr ⟨ht,hl,rfl,rfl,rfl,rfl⟩))⟩
   exact⟨cm.1.1,cm.1.2.1,pa.ok cm.1.2.2.1 (λy hy=>by rw[List.mem_singleton.mp hy];exact cm.2),cm.1.2.2.2⟩
theorem pick_zero(w:E)(B R:X)(a:Option Addr)(len cap p:X)(h:Rd B w R a len cap p)(hp:p≤100000):Calls prog 14 #[.pointer (p_ R),I 0] w λe w'=>e=H (I 0)∧Rd B w' R a len cap (p+1)∧w.grownBy w' (M R):=by
 have c0:=h.cell0
 have c1:=h.cell1
 have f1:=h.free 1
 have HR:Hd (Rd B w R a len cap p):=h
 clear h
 go_enter func14,ntmps14
 go_wp2
 go_ret
 exact⟨rfl,HR.o.step,Bp _ _ _ _⟩
theorem Ba.pickN{B R:X}{a:Option Addr}{len cap p K:X}{w:E}(h:Ba B R a len cap p K w0 w)(hp:p+K≤90000)(n:X)(yv:n≤100000):Calls prog 14 #[.pointer (p_ R),I (n:Int)] w λe w'=>∃x:X,e=H (I x)∧Hd (0<n→x<n)∧Ba B R a len cap p (K+1) w0 w'∧w.grownBy w' (M R):=by
 rcases Nat.eq_zero_or_pos n with rfl|hn
 ·obtain⟨h1,p',h2,h3⟩:=h
  refine(pick_zero w B R a len cap p' h3 qg).mono ?_;rintro e w' ⟨rfl,hr,hg⟩;exact⟨0,rfl,λq=>q,⟨Dr h1 hg,p'+1,qg,hr⟩,hg⟩
 ·refine(h.pick hp (n:Int) qg qg).mono ?_
  rintro e w' ⟨x,rfl,hx,hr,hg⟩;exact⟨x,rfl,λ_=>qg,hr,hg⟩
theorem Ra{s x:Operand}{ops:Array Oper}{o:Oper}{a:Act}{K:Act→E→Prop}{Q:Exit→Act→E→Prop}{AG:Prop}(mg:o.guard=N)(ho:o.op=.call { callee:=.builtin .append,args:=#[s,x],argTypes:=#[54,54] })(B:X)(v:Z)(nn:X)(xs:L Z)(hs:a.eval s=v)(ak:W.ownsRow B 79 3 v nn xs)(d:X)(t:By)(q:Bool)(u:By)(hx:a.eval x=J (p_ d) 1 1)(hc:W.heap[d]?=M (O #[S t,F q,S u] 79 (0,0)))(hB:B≤W.heap.size)(hn:nn≤100000)(h:∀g' ai w',w'.ownsRow B 79 3 (J (p_ g') (nn+1) ai) (nn+1) (xs++[S t,F q,S u])→W.grownBy w' v.ownBlock→(v.ownBlock=M g'∨g'=W.heap.size)→K (a.put o.dst (J (p_ g') (nn+1) ai)) w'):if Region.wanted o (yielded ops a.tmps)=true then Oper.wp prog o a W K Q else AG:=by
 obtain⟨i0,hi,bm,bg,bi⟩:=info_parts Tryz.info131b
 refine step_append_lies (w:=W) mg s x 54 ho B 79 i0 (G #[ze,F false,ze]) 3 40 underlying54 hi bm bg bi rfl qh _ nn xs hs ak ⟨d,0,N⟩ 1 1 [S t,F q,S u] hx rfl
  (World.news_of_block (cs:=#[S t,F q,S u]) (t:=79) (fr:=(0,0)) hc) (by intro u hu;simp at hu;rcases hu with rfl|rfl|rfl<;>rfl) qg qn qg hB W.heap.size rfl ?_
 exact qcy
structure It (w0:E) (B R:X) (a:Option Addr) (len cap p:X) (n g5 g7 nr i K:X) (ap:Prop) (k:X) (w:E) (tv:Z) (nt:X) (qv cv lv:Z) (o:By):Prop where
 k3:∃x y,w.heap[w0.heap.size]?=M (O #[I (n:Int),x,y] 26 (0,0))
 k4:w.heap[w0.heap.size+1]?=M (O #[I 0,nS,nS] 26 (0,0))
 k5:w.heap[g5]?=M (O #[I (n:Int),tv,qv] 26 (0,0))
 k7:w.heap[g7]?=M (O #[cv,lv,S o] 56 (0,0))
 tx:Ks w w0.heap.size tv nt
 rx:∃xs cvs lvs os,RX w w0.heap.size qv nr ap k xs cvs lvs os∧(ap→lvs i=lv)
 cx:Qd w w0.heap.size cv
 lx:Gs w w0.heap.size lv
 ob:o.size≤60000
 ne:qv.ownBlock≠M g7
 rd:Ba B R a len cap p K w0 w
section
variable {w0 w w':E} {B R:X} {a:Option Addr} {len cap p n g5 g7 nr i K K' k nt:X} {ap:Prop} {tv qv cv lv:Z} {o:By}
theorem It.bl(h:It w0 B R a len cap p n g5 g7 nr i K ap k w tv nt qv cv lv o)(hB:B≤w0.heap.size)(hb:Bw w w'):It w0 B R a len cap p n g5 g7 nr i K ap k w' tv nt qv cv lv o:=by
 obtain⟨x,y,e⟩:=h.k3;obtain⟨xs,c,l,s,r1,r2⟩:=h.rx;exact⟨⟨x,y,Ac e hb⟩,Ac h.k4 hb,Ac h.k5 hb,Ac h.k7 hb,h.tx.bl hb,⟨xs,c,l,s,r1.bl hb,r2⟩,h.cx.bl hb,h.lx.bl hb,h.ob,h.ne,h.rd.bl hB hb⟩
theorem It.gb(h:It w0 B R a len cap p n g5 g7 nr i K ap k w tv nt qv cv lv o)(hR:R<w0.heap.size)(h5:w0.heap.size<g5)(h7:w0.heap.size<g7)(hr:Ba B R a len cap p K' w0 w')(hg:w.grownBy w' (M R)):It w0 B R a len cap p n g5 g7 nr i K' ap k w' tv nt qv cv lv o:=by
 obtain⟨x,y,e⟩:=h.k3;obtain⟨xs,c,l,s,r1,r2⟩:=h.rx;exact⟨⟨x,y,Az e hg qg⟩,Az h.k4 hg qg,Az h.k5 hg qg,Az h.k7 hg qg,h.tx.gb hg hR,⟨xs,c,l,s,r1.gb hg hR,r2⟩,h.cx.gb hg hR,h.lx.gb hg hR,h.ob,h.ne,hr⟩
theorem It.more(h:It w0 B R a len cap p n g5 g7 nr i K ap k w tv nt qv cv lv o)(hK:K≤K'):It w0 B R a len cap p n g5 g7 nr i K' ap k w tv nt qv cv lv o:=⟨h.k3,h.k4,h.k5,h.k7,h.tx,h.rx,h.cx,h.lx,h.ob,h.ne,h.rd.more hK⟩
theorem It.c3(h:It w0 B R a len cap p n g5 g7 nr i K ap k w tv nt qv cv lv o):w.cell? ⟨w0.heap.size,0,N⟩=M (I (n:Int)):=by obtain⟨x,y,e⟩:=h.k3;exact(Ab e).1
theorem It.loose(h:It w0 B R a len cap p n g5 g7 nr i K ap nr w tv nt qv cv lv o):It w0 B R a len cap p n g5 g7 nr i K False i w tv nt qv cv lv o:=by
 obtain⟨xs,c,l,s,r1,r2⟩:=h.rx;exact⟨h.k3,h.k4,h.k5,h.k7,h.tx,⟨xs,c,l,s,(r1.weak (λq=>q.elim)).hole i,λq=>q.elim⟩,h.cx,h.lx,h.ob,h.ne,h.rd⟩
theorem It.s2(h:It w0 B R a len cap p n g5 g7 nr i K ap k w tv nt qv cv lv o)(hB:B≤w0.heap.size)(h5:w0.heap.size+1<g5)(h7:g5<g7){o':By}(ho:o'.size≤60000):It w0 B R a len cap p n g5 g7 nr i K ap k (w.setCell ⟨g7,2,N⟩ (S o')) tv nt qv cv lv o':=by
 obtain⟨x,y,e⟩:=h.k3;obtain⟨xs,c,l,s,r1,r2⟩:=h.rx;have ht:Ai w g7 56:=⟨_,h.k7⟩;exact⟨⟨x,y,Af e qg _⟩,Af h.k4 qg _,Af h.k5 qg _,by rw[jB h.k7];rfl,h.tx.setT ht qh _,⟨xs,c,l,s,r1.setO ht h.ne _,r2⟩,h.cx.setT ht qh _,h.lx.setT ht qh _,ho,h.ne,h.rd.set hB qg _⟩
theorem It.s1(h:It w0 B R a len cap p n g5 g7 nr i K False k w tv nt qv cv lv o)(hB:B≤w0.heap.size)(h5:w0.heap.size+1<g5)(h7:g5<g7){xj:Z}(hl:Gs w w0.heap.size xj):It w0 B R a len cap p n g5 g7 nr i K False k (w.setCell ⟨g7,1,N⟩ xj) tv nt qv cv xj o:=by
 obtain⟨x,y,e⟩:=h.k3;obtain⟨xs,c,l,s,r1,r2⟩:=h.rx;have ht:Ai w g7 56:=⟨_,h.k7⟩;exact⟨⟨x,y,Af e qg _⟩,Af h.k4 qg _,Af h.k5 qg _,by rw[jB h.k7];rfl,h.tx.setT ht qh _,⟨xs,c,l,s,r1.setO ht h.ne _,λq=>q.elim⟩,h.cx.setT ht qh _,hl.setT ht qh _,h.ob,h.ne,h.rd.set hB qg _⟩
theorem It.sl{b j:X}{u:Z}(h:It w0 B R a len cap p n g5 g7 nr i K ap k w tv nt qv cv lv o)(hB:B≤w0.heap.size)(ht:Ai w b 79)(hb:w0.heap.size≤b)(hu:∀v,Gs w w0.heap.size v→Gs (w.setCell ⟨b,j,N⟩ u) w0.heap.size v):It w0 B R a len cap p n g5 g7 nr i K ap k (w.setCell ⟨b,j,N⟩ u) tv nt qv cv lv o:=by
 obtain⟨x,y,e⟩:=h.k3;obtain⟨xs,c,l,s,r1,r2⟩:=h.rx
 have aq:∀ {b':X} {cs:Array Z} {T:TypeId},T≠79→w.heap[b']?=M (O cs T (0,0))→b'≠b:=fun {b'} {cs} {T} hT hh q=>by
  exact qbo
 exact⟨⟨x,y,Af e (aq qh e) _⟩,Af h.k4 (aq qh h.k4) _,Af h.k5 (aq qh h.k5) _,Af h.k7 (aq qh h.k7) _,h.tx.setT ht qh _,⟨xs,c,l,s,r1.setL ht hu,r2⟩,h.cx.setT ht qh _,hu _ h.lx,h.ob,h.ne,h.rd.set hB hb _⟩
theorem It.p5(h:It w0 B R a len cap p n g5 g7 nr i K ap k w tv nt qv cv lv o)(hB:B≤w0.heap.size)(h5:w0.heap.size+1<g5)(h7:g5<g7){vx qv':Z}{Y9:X}{xs:L Z}{cvs lvs:X→Z}{os:X→ByteArray}(ht':Ks w w0.heap.size vx Y9)(hr:RX w w0.heap.size qv' nr False nr xs cvs lvs os)(hn:qv'.ownBlock≠M g7):It w0 B R a len cap p n g5 g7 nr i K False i (((w.setCell ⟨g5,0,N⟩ (I (n:Int))).setCell ⟨g5,1,N⟩ vx).setCell ⟨g5,2,N⟩ qv') vx Y9 qv' cv lv o:=by
 obtain⟨x,y,e⟩:=h.k3;have ht:Ai w g5 26:=⟨_,h.k5⟩;have h1:=ht.set (c:=g5) (j:=0) (I (n:Int));have h2:=h1.set (c:=g5) (j:=1) vx;exact⟨⟨x,y,Da e qg _ _ _⟩,Da h.k4 qg _ _ _,Cv h.k5 _ _ _,Da h.k7 qg _ _ _,((ht'.setT ht qh _).setT h1 qh _).setT h2 qh _,⟨xs,cvs,lvs,os,(((hr.setT ht qh qh qh _).setT h1 qh qh qh _).setT h2 qh qh qh _).hole i,λq=>q.elim⟩,((h.cx.setT ht qh _).setT h1 qh _).setT h2 qh _,((h.lx.setT ht qh _).setT h1 qh _).setT h2 qh _,h.ob,hn,((h.rd.set hB qg _).set hB qg _).set hB qg _⟩
theorem It.p1(h:It w0 B R a len cap p n g5 g7 nr i K ap k w tv nt qv cv lv o)(hB:B≤w0.heap.size)(h5:w0.heap.size+1<g5)(h7:g5<g7){vx:Z}{Y9:X}(ht':Ks w w0.heap.size vx Y9):It w0 B R a len cap p n g5 g7 nr i K ap k (w.setCell ⟨g5,1,N⟩ vx) vx Y9 qv cv lv o:=by
 obtain⟨x,y,e⟩:=h.k3;obtain⟨xs,c,l,s,r1,r2⟩:=h.rx;have ht:Ai w g5 26:=⟨_,h.k5⟩;exact⟨⟨x,y,Af e qg _⟩,Af h.k4 qg _,qfx,Af h.k7 qg _,ht'.setT ht qh _,⟨xs,c,l,s,r1.setT ht qh qh qh _,r2⟩,h.cx.setT ht qh _,h.lx.setT ht qh _,h.ob,h.ne,h.rd.set hB qg _⟩
theorem It.grow(h:It w0 B R a len cap p n g5 g7 nr i K True nr w tv nt qv cv lv o)(hB:B≤w0.heap.size)(h5:w0.heap.size+1<g5)(h7:g5<g7)(hi:i<nr)(hg:w.grownBy w' lv.ownBlock){xj:Z}(hl:Gs w' w0.heap.size xj):w'.heap[g7]?=M (O #[cv,lv,S o] 56 (0,0))∧It w0 B R a len cap p n g5 g7 nr i K False i (w'.setCell ⟨g7,1,N⟩ xj) tv nt qv cv xj o:=by
 obtain⟨x,y,e⟩:=h.k3;obtain⟨xs,c,l,s,r1,r2⟩:=h.rx;obtain⟨gs,ys,q1,_⟩:=h.lx
 have ho:∀(e sz m:X)(u:Z)(zs:L Z),e≠79→w.ownsRow w0.heap.size e sz u m zs→w'.ownsRow w0.heap.size e sz u m zs:=λe sz m u zs aq oo=>Ex oo hg λb hb q=>by
  obtain⟨_,cs,e1⟩:=Bh oo hb;obtain⟨_,B4,e2⟩:=Bh q1 q;rw[e1]at e2;cases e2;exact aq rfl
 have D4:=Ao h.k7 hg (λq=>Ah q1 qh h.k7 q);have ht:Ai w' g7 56:=⟨_,D4⟩
 have hr:lv.ownBlock=N∨∃b,lv.ownBlock=M b∧(l i).ownBlock=M b∧Ai w b 79:=by
  rcases hh:lv.ownBlock with _|b
  ·exact Or.inl rfl
  ·exact Or.inr ⟨b,rfl,by rw[r2 trivial];exact hh,(Bh q1 hh).2⟩
 have r3:=r1.grow hi (Or.inr (Nat.le_refl _)) hg hr;refine⟨D4,⟨x,y,Af (Ao e hg (λq=>Ah q1 qh e q)) qg _⟩,Af (Ao h.k4 hg (λq=>Ah q1 qh h.k4 q)) qg _,Af (Ao h.k5 hg (λq=>Ah q1 qh h.k5 q)) qg _,by rw[jB D4];rfl,(h.tx.kept λ_ _ oo=>ho _ _ _ _ _ qh oo).setT ht qh _,⟨xs,c,l,s,(r3.setO ht h.ne _).weak (λq=>q.elim),λq=>q.elim⟩,(h.cx.kept λ_ _ oo=>ho _ _ _ _ _ qh oo).setT ht qh _,hl.setT ht qh _,h.ob,h.ne,(h.rd.grow hB hg (λb hb=>(Bh q1 hb).1)).set hB qg _⟩
theorem It.put(h:It w0 B R a len cap p n g5 g7 nr i K ap nr w tv nt qv cv lv o)(x:By)(hx:x.size≤1048576):Calls prog 7 #[G #[I (n:Int),tv,qv],S x] w λe w'=>Bw w w'∧∃(cd wd:Int)(a1:Option Addr)(n1 c1:X)(a2:Option Addr)(n2 c2:X)(A AG:By),e=H (G #[I cd,I wd,J a1 n1 c1,J a2 n2 c2,S A,S AG])∧Hd (cd=0→wd=n∧n2=nr∧Ks w' w0.heap.size (J a1 n1 c1) n1∧(∀b,(Value.slice a2 n2 c2).ownBlock=M b→w.heap.size≤b)∧∃xs cvs lvs os,RX w' w0.heap.size (J a2 n2 c2) nr False nr xs cvs lvs os):=by
 obtain⟨xs,c,l,s,r1,r2⟩:=h.rx;have hr:=h.rd.size;obtain⟨T,Rr,hd,hb⟩:=RX.dst h.tx r1 (Nat.le_refl _);obtain⟨xa,tc,qa,qc,rfl,rfl,jd⟩:=hd.rd hb;have hnr:nr=Rr.length:=by obtain⟨q1,q2,q3⟩:=Ax r1.row;cases q3;rfl
 refine(Na (n:Int) xa tc qa qc T Rr x w jd.xs jd.xn jd.st jd.rw hx).mono ?_;rintro e w' ⟨mi,cd,wd,T',R',A,AG,v1,v2,rfl,tr,xm,yu⟩;obtain⟨a1,c1,e1⟩:=Ax xm.own;subst e1;obtain⟨ys,cv',xj,ho⟩:=yu;obtain⟨a2,c2,e2⟩:=Ax ho.row.own;subst e2;refine⟨mi,cd,wd,a1,_,c1,a2,_,c2,A,AG,rfl,λh0=>?_⟩;subst h0;have hm:=Vk tr;have hw:=(kp_wd tr).rbd;obtain⟨R8,cv2,lv2,tp⟩:=Ct.rx ⟨ys,cv',xj,ho⟩ hw;have hl:R'.length=nr:=by rw[hm.2.1,hnr]
 exact⟨hm.1,hl,(xm.tx hw).base hr,λb hb=>(Bh ho.row.own hb).1,R8,cv2,lv2,_,by rw[hl]at tp ⊢;exact(tp.base hr).weak (λq=>q.elim)⟩
theorem It.fin(h:It w0 B R a len cap p n g5 g7 nr i K False i w tv nt qv cv lv o)(hB:B≤w0.heap.size)(hR:R<w0.heap.size)(h5:w0.heap.size+1<g5)(h7:g5<g7)(hi:i<nr):∃b c x0 x1 x2,qv=J (p_ b) nr c∧b≠w0.heap.size+1∧b≠g5∧w.cell? ⟨b,i*3,N⟩=M x0∧w.cell? ⟨b,i*3+1,N⟩=M x1∧w.cell? ⟨b,i*3+2,N⟩=M x2∧(∀j,w.frozen? ⟨b,j,N⟩=false)∧∀AN AL:E,((w.setCell ⟨b,i*3,N⟩ cv).setCell ⟨b,i*3+1,N⟩ lv).setCell ⟨b,i*3+2,N⟩ (S o)=AN→((AN.setCell ⟨w0.heap.size+1,0,N⟩ (I (n:Int))).setCell ⟨w0.heap.size+1,1,N⟩ tv).setCell ⟨w0.heap.size+1,2,N⟩ qv=AL→
 AN.heap[g5]?=M (O #[I (n:Int),tv,qv] 26 (0,0))∧AN.heap[w0.heap.size+1]?=M (O #[I 0,nS,nS] 26 (0,0))∧AL.heap[w0.heap.size+1]?=M (O #[I (n:Int),tv,qv] 26 (0,0))∧(∃T' R',Di AL (R+1) tv qv T' R'∧Qs T' R')∧Ba B R a len cap p K w0 AL:=by
 obtain⟨xs,cs,ls,os,r1,_⟩:=h.rx;obtain⟨b,c,rfl,c0,c1,c2,ht,ji⟩:=r1.rcd hi
 have aq:∀ {b':X} {ds:Array Z} {T:TypeId},T≠56→w.heap[b']?=M (O ds T (0,0))→b'≠b:=fun {b'} {ds} {T} hT hh q=>by
  exact qbo
 have n5:=aq qh h.k5;have n4:=aq qh h.k4;have cu:∀j,w.frozen? ⟨b,j,N⟩=false:=λj=>by obtain⟨B4,q⟩:=ht;exact fH q j
 refine⟨b,c,_,_,_,rfl,Ne.symm n4,Ne.symm n5,c0,c1,c2,cu,λAN AL eX eY=>?_⟩;have k5:AN.heap[g5]?=M (O #[I (n:Int),tv,J (p_ b) nr c] 26 (0,0)):=by rw[←eX];exact Af (Af (Af h.k5 n5 _) n5 _) n5 _
 have k4:AN.heap[w0.heap.size+1]?=M (O #[I 0,nS,nS] 26 (0,0)):=by rw[←eX];exact Af (Af (Af h.k4 n4 _) n4 _) n4 _
 have S9:=ht.set (c:=b) (j:=i*3) cv;have J0:=S9.set (c:=b) (j:=i*3+1) lv;have rX:=((r1.c0 hi h.cx).c1 (ap':=False) hi (Or.inl rfl) (h.lx.setT ht qh cv) (λq=>q.elim)).c2 hi h.ob;have tX:=((h.tx.setT (j:=i*3) ht qh cv).setT (j:=i*3+1) S9 qh lv).setT (j:=i*3+2) J0 qh (S o);have dX:Ba B R a len cap p K w0 AN:=by rw[←eX];exact((h.rd.set hB ji _).set hB ji _).set hB ji _
 rw[eX]at rX tX;have hz:Ai AN (w0.heap.size+1) 26:=⟨_,k4⟩;have bg:=hz.set (c:=w0.heap.size+1) (j:=0) (I (n:Int));have bi:=bg.set (c:=w0.heap.size+1) (j:=1) tv;refine⟨k5,k4,by rw[←eY];exact Cv k4 _ _ _,?_,by rw[←eY];exact((dX.set hB qg _).set hB qg _).set hB qg _⟩;obtain⟨T',R',q1,q2⟩:=RX.dst (((tX.setT (j:=0) hz qh _).setT (j:=1) bg qh _).setT (j:=2) bi qh (J (p_ b) nr c)) (((rX.setT (j:=0) hz qh qh qh _).setT (j:=1) bg qh qh qh _).setT (j:=2) bi qh qh qh (J (p_ b) nr c)) (Nat.le_refl _);rw[eY]at q1;exact⟨T',R',q1.base qg,q2⟩
end
theorem We(s:By)(n:X)(w:E)(hs:s.size≤1048576)(h1:1≤n)(h8:n≤8):Calls prog 18 #[S s,I (n:Int)] w λe w'=>∃so:By,e=H (S so)∧so.size≤8∧Bw w w':=
 (Cl s n w hs h1 h8).mono λe w' ⟨h,hb⟩=>⟨Ap n s,h,by rw[Qx];exact h8,hb⟩
theorem Ct.rx2{w:E}{lo:X}{n:Int}{T:L By}(h:Ct w lo hi qv R)(hw:Cz n T R):∃xs cv lv,RX w lo qv R.length True R.length xs cv lv (λi=>(qx R i).out)∧∀i a m c,i<R.length→lv i=J a m c→m≤200:=by
 have hb:=hw.rbd;obtain⟨xs,cv,lv,h⟩:=h;refine⟨xs,cv,lv,⟨h.row.own,h.fil,λi _=>hb.ot i,λi hi=>?_,λi hi _=>?_,λ_ i j l7 hi hj b hb=>?_,hb.rn⟩,λi a m c hi e=>?_⟩
 ·exact qeh
 ·exact qeo
 ·exact qej
 ·exact qjy
theorem Gs.cap{w:E}{lo c:X}(h:Gs w lo (J (p_ g) n c)):n≤c:=by
 obtain⟨gs,ys,q,_⟩:=h;obtain⟨a',c',e⟩:=Ax q;cases e;exact(Lf q).1
theorem nx_bd(h:∀x∈AM,x.size≤m)(i:X):(nx AM i).size≤m:=by
 rcases Nat.lt_or_ge i AM.length with q|q
 ·exact h _ (Kh q)
 ·have:nx AM i=ByteArray.empty:=by unfold nx;rw[gG,List.getElem?_eq_none qg];rfl
  rw[this];exact Nat.zero_le _
theorem Wv(h:∀i,(nx AM i).size≤m)(hx:x∈AM):x.size≤m:=by
 obtain⟨i,_,e⟩:=Oz hx;rw[←e];exact h i
theorem Ks.at{w:E}{lo c:X}(h:Ks w lo (J (p_ g) n c) n)(hi:i<n):∃s:By,w.cell? ⟨g,i,N⟩=M (S s)∧s.size≤60000:=by
 obtain⟨T,h1,h2,h3,h4⟩:=h;obtain⟨b,q,c1⟩:=Bi h4 (Ke (i:=i) qg);cases q;exact⟨_,c1,h3 i⟩
def PX(W:E)(lo nr n:X)(wd:Int)(a1:Option Addr)(n1 c1:X)(a2:Option Addr)(n2 c2:X)(lim:X):Prop:=wd=(n:Int)∧n2=nr∧Ks W lo (J a1 n1 c1) n1∧(∀b,(Value.slice a2 n2 c2).ownBlock=M b→lim≤b)∧∃xs cvs lvs os,RX W lo (J a2 n2 c2) nr False nr xs cvs lvs os
theorem PX.bl{W':E}{lo:X}{c1:X}{c2:X}(h:PX W lo nr n wd a1 n1 c1 a2 n2 c2 lim)(hb:Bw W W'):PX W' lo nr n wd a1 n1 c1 a2 n2 c2 lim:=by
 obtain⟨h1,h2,h3,h4,xs,cvs,lvs,os,h5⟩:=h;exact⟨h1,h2,h3.bl hb,h4,xs,cvs,lvs,os,h5.bl hb⟩
theorem PX.set{lo:X}{c1:X}{c2:X}(h:PX W lo nr n wd a1 n1 c1 a2 n2 c2 lim)(ht:Ai W b 31)(u:Z):PX (W.setCell ⟨b,j,N⟩ u) lo nr n wd a1 n1 c1 a2 n2 c2 lim:=by
 obtain⟨h1,h2,h3,h4,xs,cvs,lvs,os,h5⟩:=h;exact⟨h1,h2,h3.setT ht qh u,h4,xs,cvs,lvs,os,h5.setT ht qh qh qh u⟩
theorem PX.s6{lo:X}{c1:X}{c2:X}(h:PX W lo nr n wd a1 n1 c1 a2 n2 c2 lim)(ht:Ai W b 31)(u0 u1 u2 u3 u4 u5:Z):PX ((((((W.setCell ⟨b,0,N⟩ u0).setCell ⟨b,1,N⟩ u1).setCell ⟨b,2,N⟩ u2).setCell ⟨b,3,N⟩ u3).setCell ⟨b,4,N⟩ u4).setCell ⟨b,5,N⟩ u5) lo nr n wd a1 n1 c1 a2 n2 c2 lim:=
 (((((h.set ht u0).set (ht.set u0) u1).set ((ht.set u0).set u1) u2).set (((ht.set u0).set u1).set u2) u3).set ((((ht.set u0).set u1).set u2).set u3) u4).set (((((ht.set u0).set u1).set u2).set u3).set u4) u5
theorem Pe{w:E}{T:X}{x0 x1 x2 x3 x4 x5:Z}(h:w.heap[g]?=M (O #[x0,x1,x2,x3,x4,x5] T (0,0)))(u0 u1 u2 u3 u4 u5:Z):((((((w.setCell ⟨g,0,N⟩ u0).setCell ⟨g,1,N⟩ u1).setCell ⟨g,2,N⟩ u2).setCell ⟨g,3,N⟩ u3).setCell ⟨g,4,N⟩ u4).setCell ⟨g,5,N⟩ u5).heap[g]?=M (O #[u0,u1,u2,u3,u4,u5] T (0,0)):=by
 rw[jB (jB (jB (jB (jB (jB h u0) u1) u2) u3) u4) u5];rfl
section
variable {w0 w w':E} {B R:X} {a:Option Addr} {len cap p n g5 g7 nr i K K' k nt:X} {ap:Prop} {tv qv cv lv:Z} {o:By}
theorem It.sT{b j:X}(h:It w0 B R a len cap p n g5 g7 nr i K ap k w tv nt qv cv lv o)(hB:B≤w0.heap.size)(ht:Ai w b 31)(hb:w0.heap.size≤b)(u:Z):It w0 B R a len cap p n g5 g7 nr i K ap k (w.setCell ⟨b,j,N⟩ u) tv nt qv cv lv o:=by
 obtain⟨x,y,e⟩:=h.k3;obtain⟨xs,c,l,s,r1,r2⟩:=h.rx
 have aq:∀ {b':X} {cs:Array Z} {T:TypeId},T≠31→w.heap[b']?=M (O cs T (0,0))→b'≠b:=fun {b'} {cs} {T} hT hh q=>by
  exact qbo
 exact⟨⟨x,y,Af e (aq qh e) _⟩,Af h.k4 (aq qh h.k4) _,Af h.k5 (aq qh h.k5) _,Af h.k7 (aq qh h.k7) _,h.tx.setT ht qh _,⟨xs,c,l,s,r1.setT ht qh qh qh _,r2⟩,h.cx.setT ht qh _,h.lx.setT ht qh _,h.ob,h.ne,h.rd.set hB hb _⟩
theorem It.s6{b:X}(h:It w0 B R a len cap p n g5 g7 nr i K ap k w tv nt qv cv lv o)(hB:B≤w0.heap.size)(ht:Ai w b 31)(hb:w0.heap.size≤b)(u0 u1 u2 u3 u4 u5:Z):It w0 B R a len cap p n g5 g7 nr i K ap k ((((((w.setCell ⟨b,0,N⟩ u0).setCell ⟨b,1,N⟩ u1).setCell ⟨b,2,N⟩ u2).setCell ⟨b,3,N⟩ u3).setCell ⟨b,4,N⟩ u4).setCell ⟨b,5,N⟩ u5) tv nt qv cv lv o:=
 (((((h.sT hB ht hb u0).sT hB (ht.set u0) hb u1).sT hB ((ht.set u0).set u1) hb u2).sT hB (((ht.set u0).set u1).set u2) hb u3).sT hB ((((ht.set u0).set u1).set u2).set u3) hb u4).sT hB (((((ht.set u0).set u1).set u2).set u3).set u4) hb u5
theorem It.putX(h:It w0 B R a len cap p n g5 g7 nr i K ap nr w tv nt qv cv lv o)(x:By)(hx:x.size≤1048576):Calls prog 7 #[G #[I (n:Int),tv,qv],S x] w λe w'=>Bw w w'∧∃(cd wd:Int)(a1:Option Addr)(n1 c1:X)(a2:Option Addr)(n2 c2:X)(A AG:By),e=H (G #[I cd,I wd,J a1 n1 c1,J a2 n2 c2,S A,S AG])∧Hd (cd=0→PX w' w0.heap.size nr n wd a1 n1 c1 a2 n2 c2 w.heap.size):=h.put x hx
theorem It.pX{wd:Int}{a1:Option Addr}{n1 c1:X}{a2:Option Addr}{n2 c2 lim:X}(h:It w0 B R a len cap p n g5 g7 nr i K ap k w tv nt qv cv lv o)(hB:B≤w0.heap.size)(h5:w0.heap.size+1<g5)(h7:g5<g7)(hl:g7<lim)(hp:PX w w0.heap.size nr n wd a1 n1 c1 a2 n2 c2 lim):It w0 B R a len cap p n g5 g7 nr i K False i (((w.setCell ⟨g5,0,N⟩ (I wd)).setCell ⟨g5,1,N⟩ (J a1 n1 c1)).setCell ⟨g5,2,N⟩ (J a2 n2 c2)) (J a1 n1 c1) n1 (J a2 n2 c2) cv lv o:=by
 obtain⟨rfl,h2,h3,h4,xs,cvs,lvs,os,h6⟩:=hp;exact h.p5 hB h5 h7 h3 h6 (λq=>by have:=h4 g7 q;omega)
end
theorem Qq{w:E}{R:X}(h:w.cell? ⟨b,j,N⟩=M v)(hg:w.grownBy w' (M R))(hn:b≠R):w'.cell? ⟨b,j,N⟩=M v:=by
 rw[←h];exact World.cell?_of_block (hg.block b (World.block_lt_of_cell? w _ h) (λq=>hn (by cases q;rfl)))
theorem hasT_gb{w:E}{R T:X}(h:Ai w b T)(hg:w.grownBy w' (M R))(hn:b≠R):Ai w' b T:=by
 obtain⟨cs,q⟩:=h;exact⟨cs,Az q hg hn⟩
def CdG(w:E)(lo:X)(v:Z):Prop:=∃(is:L I3)(ys:L Z)(g c:X),v=J (p_ g) is.length c∧w.ownsRow lo 103 3 v is.length ys∧Cf is is.length ys∧0<is.length∧is.length≤400∧∀x∈is,x.text.size≤50000
theorem CdG.kept{w:E}{lo lo':X}(h:CdG w lo v)(hk:∀(n:X)(ys:L Z),w.ownsRow lo 103 3 v n ys→w'.ownsRow lo' 103 3 v n ys):CdG w' lo' v:=by
 exact qln
theorem Ct.rx3{w:E}{lo:X}{n:Int}{T:L By}(h:Ct w lo hi qv R)(hw:Cz n T R):∃xs cv lv,RX w lo qv R.length True R.length xs cv lv (λi=>(qx R i).out)∧(∀i a m c,i<R.length→lv i=J a m c→m≤200)∧∀i,i<R.length→CdG w lo (cv i):=by
 have hb:=hw.rbd;obtain⟨xs,cv,lv,h⟩:=h;refine⟨xs,cv,lv,⟨h.row.own,h.fil,λi _=>hb.ot i,λi hi=>?_,λi hi _=>?_,λ_ i j l7 hi hj b hb=>?_,hb.rn⟩,λi a m c hi e=>?_,λi hi=>?_⟩
 ·exact qeh
 ·exact qeo
 ·exact qej
 ·exact qjy
 ·obtain⟨ys,a1,a2⟩:=h.code i hi
  obtain⟨g,c,e⟩:=h.som i hi;have hp:=(hw.2.2.2.2 i hi).1;have hl:=Fz hp;refine⟨_,ys,g,c,e,a1.own,a2,qg,qg,λx hx=>?_⟩;obtain⟨j,hj,ej⟩:=List.getElem_of_mem hx;(have ex:ix (qx R i).code j=x:=by unfold ix;rw[gG,gQ hj,ej];rfl);(have ho:Ev (ix (qx R i).code j)=true:=by unfold Aq at hp;simp only[Bool.and_eq_true,decide_eq_true_eq]at hp;exact hp.2 j hj);rw[ex]at ho;unfold Ev at ho;simp only[Bool.and_eq_true,decide_eq_true_eq]at ho;have h1:=ho.1.1.2;(have h2:Ie (Dv x.op)≤2000:=by unfold Ie;split<;>omega);omega
theorem Xv:Cf is is.length (Dd is):=λi hi=>by
 have e0:=Fa is i 0 hi qg;have e1:=Fa is i 1 hi qg;have e2:=Fa is i 2 hi qg;rw[Nat.add_zero]at e0;exact⟨e0,e1,e2⟩
theorem Ow.cdO{w:E}{c:X}(h:Ow w0 w g n c is)(hn:n≤400):Qd w w0.heap.size (J (p_ g) n c):=by
 have hl:=h.ln;subst hl;refine⟨is,Dd is,g,c,rfl,h.row,Xv,qg,λj=>?_⟩
 rcases Nat.lt_or_ge j is.length with q|q
 ·have hm:ix is j∈is:=by unfold ix;rw[gG,gQ q];exact List.getElem_mem q
  have:=h.tx _ hm;omega
 ·have:ix is j=i0:=by unfold ix;rw[gG,List.getElem?_eq_none q];rfl
  rw[this];exact Nat.zero_le _
structure Hx (w0:E) (B R:X) (a:Option Addr) (len cap p:X) (n g5 nr K:X) (ap:Prop) (w:E) (m:Int) (tv:Z) (nt:X) (qv:Z) (cvs lvs:X→Z):Prop where
 k3:∃x y,w.heap[w0.heap.size]?=M (O #[I (n:Int),x,y] 26 (0,0))
 k4:w.heap[w0.heap.size+1]?=M (O #[I 0,nS,nS] 26 (0,0))
 k5:w.heap[g5]?=M (O #[I m,tv,qv] 26 (0,0))
 tx:Ks w w0.heap.size tv nt
 rx:∃xs os,RX w w0.heap.size qv nr ap nr xs cvs lvs os
 rd:Ba B R a len cap p K w0 w
section
variable {w0 w w':E} {B R:X} {a:Option Addr} {len cap p n g5 nr K K' nt:X} {ap:Prop} {m:Int} {tv qv:Z} {cvs lvs:X→Z}
theorem Hx.bl(h:Hx w0 B R a len cap p n g5 nr K ap w m tv nt qv cvs lvs)(hB:B≤w0.heap.size)(hb:Bw w w'):Hx w0 B R a len cap p n g5 nr K ap w' m tv nt qv cvs lvs:=by
 obtain⟨x,y,e⟩:=h.k3;obtain⟨xs,s,r1⟩:=h.rx;exact⟨⟨x,y,Ac e hb⟩,Ac h.k4 hb,Ac h.k5 hb,h.tx.bl hb,⟨xs,s,r1.bl hb⟩,h.rd.bl hB hb⟩
theorem Hx.gb(h:Hx w0 B R a len cap p n g5 nr K ap w m tv nt qv cvs lvs)(hR:R<w0.heap.size)(h5:w0.heap.size<g5)(hr:Ba B R a len cap p K' w0 w')(hg:w.grownBy w' (M R)):Hx w0 B R a len cap p n g5 nr K' ap w' m tv nt qv cvs lvs:=by
 obtain⟨x,y,e⟩:=h.k3;obtain⟨xs,s,r1⟩:=h.rx;exact⟨⟨x,y,Az e hg qg⟩,Az h.k4 hg qg,Az h.k5 hg qg,h.tx.gb hg hR,⟨xs,s,r1.gb hg hR⟩,hr⟩
theorem Hx.more(h:Hx w0 B R a len cap p n g5 nr K ap w m tv nt qv cvs lvs)(hK:K≤K'):Hx w0 B R a len cap p n g5 nr K' ap w m tv nt qv cvs lvs:=⟨h.k3,h.k4,h.k5,h.tx,h.rx,h.rd.more hK⟩
theorem Hx.weak(h:Hx w0 B R a len cap p n g5 nr K ap w m tv nt qv cvs lvs):Hx w0 B R a len cap p n g5 nr K False w m tv nt qv cvs lvs:=by
 obtain⟨xs,s,r1⟩:=h.rx;exact⟨h.k3,h.k4,h.k5,h.tx,⟨xs,s,r1.weak (λq=>q.elim)⟩,h.rd⟩
theorem Hx.c3(h:Hx w0 B R a len cap p n g5 nr K ap w m tv nt qv cvs lvs):w.cell? ⟨w0.heap.size,0,N⟩=M (I (n:Int)):=by obtain⟨x,y,e⟩:=h.k3;exact(Ab e).1
theorem Hx.s0(h:Hx w0 B R a len cap p n g5 nr K ap w m tv nt qv cvs lvs)(hB:B≤w0.heap.size)(h5:w0.heap.size+1<g5)(m':Int):Hx w0 B R a len cap p n g5 nr K ap (w.setCell ⟨g5,0,N⟩ (I m')) m' tv nt qv cvs lvs:=by
 obtain⟨x,y,e⟩:=h.k3;obtain⟨xs,s,r1⟩:=h.rx;have ht:Ai w g5 26:=⟨_,h.k5⟩;exact⟨⟨x,y,Af e qg _⟩,Af h.k4 qg _,qfx,h.tx.setT ht qh _,⟨xs,s,r1.setT ht qh qh qh _⟩,h.rd.set hB qg _⟩
theorem Hx.s1(h:Hx w0 B R a len cap p n g5 nr K ap w m tv nt qv cvs lvs)(hB:B≤w0.heap.size)(h5:w0.heap.size+1<g5){vx:Z}{Y9:X}(ht':Ks w w0.heap.size vx Y9):Hx w0 B R a len cap p n g5 nr K ap (w.setCell ⟨g5,1,N⟩ vx) m vx Y9 qv cvs lvs:=by
 obtain⟨x,y,e⟩:=h.k3;obtain⟨xs,s,r1⟩:=h.rx;have ht:Ai w g5 26:=⟨_,h.k5⟩;exact⟨⟨x,y,Af e qg _⟩,Af h.k4 qg _,qfx,ht'.setT ht qh _,⟨xs,s,r1.setT ht qh qh qh _⟩,h.rd.set hB qg _⟩
theorem Ks.set{lo g c i:X}{s:By}(h:Ks w lo (J (p_ g) nt c) nt)(hs:s.size≤60000):Ks (w.setCell ⟨g,i,N⟩ (S s)) lo (J (p_ g) nt c) nt:=by
 obtain⟨T,h1,h2,h3,h4⟩:=h;refine⟨T.set i s,by rw[List.length_set,h1],h2,nx_bd (λx hx=>?_),?_⟩
 ·rcases List.mem_or_eq_of_mem_set hx with q|q
  ·exact Wv h3 q
  ·rw[q];exact hs
 ·have e:Ar (T.set i s)=(Ar T).set i (S s):=by unfold Ar;rw[List.map_set]
  rw[e];exact Lc h4 _
theorem Hx.st{g c i:X}{s:By}(h:Hx w0 B R a len cap p n g5 nr K ap w m (J (p_ g) nt c) nt qv cvs lvs)(hB:B≤w0.heap.size)(hs:s.size≤60000):Hx w0 B R a len cap p n g5 nr K ap (w.setCell ⟨g,i,N⟩ (S s)) m (J (p_ g) nt c) nt qv cvs lvs:=by
 obtain⟨x,y,e⟩:=h.k3;obtain⟨xs,s',r1⟩:=h.rx;obtain⟨T,t1,t2,t3,t4⟩:=h.tx;obtain⟨ji,ht⟩:=Bh t4 (b:=g) rfl
 have aq:∀ {b':X} {cs:Array Z} {T:TypeId},T≠9→w.heap[b']?=M (O cs T (0,0))→b'≠g:=fun {b'} {cs} {T} hT hh q=>by
  exact qbo
 exact⟨⟨x,y,Af e (aq qh e) _⟩,Af h.k4 (aq qh h.k4) _,Af h.k5 (aq qh h.k5) _,h.tx.set hs,⟨xs,s',r1.setT ht qh qh qh _⟩,h.rd.set hB ji _⟩
theorem Hx.appT{vx:Z}{T:L By}{s:By}(h:Hx w0 B R a len cap p n g5 nr K ap w m tv nt qv cvs lvs)(hB:B≤w0.heap.size)(h5:w0.heap.size+1<g5)(hT:T.length=nt)(hn:nt<20000)(hb:∀i,(nx T i).size≤60000)(hw:w.ownsRow w0.heap.size 9 1 tv nt (Ar T))(hs:s.size≤60000)(ho:w'.ownsRow w0.heap.size 9 1 vx (nt+1) (Ar T++[S s]))(hg:w.grownBy w' tv.ownBlock):w'.heap[g5]?=M (O #[I m,tv,qv] 26 (0,0))∧Hx w0 B R a len cap p n g5 nr K ap (w'.setCell ⟨g5,1,N⟩ vx) m vx (nt+1) qv cvs lvs:=by
 obtain⟨x,y,e⟩:=h.k3;obtain⟨xs,s',r1⟩:=h.rx;have jt:=Ao h.k5 hg (λq=>Ah hw qh h.k5 q)
 have As:∀(e sz l:X)(u:Z)(zs:L Z),e≠9→w.ownsRow w0.heap.size e sz u l zs→w'.ownsRow w0.heap.size e sz u l zs:=λe sz l u zs aq oo=>Ex oo hg λb hb q=>by
  obtain⟨_,cs,e1⟩:=Bh oo hb;obtain⟨_,B4,e2⟩:=Bh hw q;rw[e1]at e2;cases e2;exact aq rfl
 have htx:Ks w' w0.heap.size vx (nt+1):=⟨T++[s],by rw[List.length_append,hT];rfl,qg,nx_bd (λx hx=>by rcases List.mem_append.mp hx with q|q;exact Wv hb q;rw[List.mem_singleton.mp q];exact hs),by rw[show Ar (T++[s])=Ar T++[S s] from qbi];exact ho⟩;have hr:RX w' w0.heap.size qv nr ap nr xs cvs lvs s':=⟨As _ _ _ _ _ qh r1.row,r1.fil,r1.ob,λi hi=>(r1.cd i hi).kept λ_ _ oo=>As _ _ _ _ _ qh oo,λi hi aq=>(r1.lk i hi aq).kept λ_ _ oo=>As _ _ _ _ _ qh oo,r1.apl,r1.nb⟩;have ht:Ai w' g5 26:=⟨_,jt⟩;exact⟨jt,⟨x,y,Af (Ao e hg (λq=>Ah hw qh e q)) qg _⟩,Af (Ao h.k4 hg (λq=>Ah hw qh h.k4 q)) qg _,by rw[jB jt];rfl,htx.setT ht qh _,⟨xs,s',hr.setT ht qh qh qh _⟩,(h.rd.grow hB hg (λb hb=>(Bh hw hb).1)).set hB qg _⟩
theorem Hx.rc(h:Hx w0 B R a len cap p n g5 nr K ap w m tv nt qv cvs lvs)(h0:0<nr):∃b c o,qv=J (p_ b) nr c∧w.cell? ⟨b,0,N⟩=M (cvs 0)∧w.cell? ⟨b,1,N⟩=M (lvs 0)∧w.cell? ⟨b,2,N⟩=M (S o)∧o.size≤60000∧Ai w b 56∧w0.heap.size≤b∧Qd w w0.heap.size (cvs 0)∧Gs w w0.heap.size (lvs 0):=by
 obtain⟨xs,os,r1⟩:=h.rx;obtain⟨b,c,e,c0,c1,c2,ht,ji⟩:=r1.rcd h0;simp only[Nat.zero_mul,Nat.zero_add]at c0 c1 c2;exact⟨b,c,os 0,e,c0,c1,c2,r1.ob 0 h0,ht,ji,r1.cd 0 h0,r1.lk 0 h0 qg⟩
theorem Hx.put{b c j:X}{u:Z}{ap':Prop}{E8 C7:X→Z}(h:Hx w0 B R a len cap p n g5 nr K ap w m tv nt (J (p_ b) nr c) cvs lvs)(hB:B≤w0.heap.size)(h0:0<nr)(hr:∀xs os,RX w w0.heap.size (J (p_ b) nr c) nr ap nr xs cvs lvs os→∃R8 os',RX (w.setCell ⟨b,j,N⟩ u) w0.heap.size (J (p_ b) nr c) nr ap' nr R8 E8 C7 os'):Hx w0 B R a len cap p n g5 nr K ap' (w.setCell ⟨b,j,N⟩ u) m tv nt (J (p_ b) nr c) E8 C7:=by
 obtain⟨x,y,e⟩:=h.k3;obtain⟨xs,os,r1⟩:=h.rx;obtain⟨ji,ht⟩:=Bh r1.row (b:=b) rfl
 have aq:∀ {b':X} {cs:Array Z} {T:TypeId},T≠56→w.heap[b']?=M (O cs T (0,0))→b'≠b:=fun {b'} {cs} {T} hT hh q=>by
  exact qbo
 exact⟨⟨x,y,Af e (aq qh e) _⟩,Af h.k4 (aq qh h.k4) _,Af h.k5 (aq qh h.k5) _,h.tx.setT ht qh _,hr xs os r1,h.rd.set hB ji _⟩
theorem Hx.o2{b c:X}{s:By}(h:Hx w0 B R a len cap p n g5 nr K ap w m tv nt (J (p_ b) nr c) cvs lvs)(hB:B≤w0.heap.size)(h0:0<nr)(hs:s.size≤60000):Hx w0 B R a len cap p n g5 nr K ap (w.setCell ⟨b,2,N⟩ (S s)) m tv nt (J (p_ b) nr c) cvs lvs:=
 h.put hB h0 λxs os r=>⟨_,_,by have:=r.c2 h0 hs;simpa using this⟩
theorem Hx.a0{b c:X}{x:Z}(h:Hx w0 B R a len cap p n g5 nr K ap w m tv nt (J (p_ b) nr c) cvs lvs)(hB:B≤w0.heap.size)(h0:0<nr)(hx:Qd w w0.heap.size x):Hx w0 B R a len cap p n g5 nr K ap (w.setCell ⟨b,0,N⟩ x) m tv nt (J (p_ b) nr c) (upd cvs 0 x) lvs:=
 h.put hB h0 λxs os r=>⟨_,_,by have:=r.c0 h0 hx;simp only[Nat.zero_mul]at this;exact this⟩
theorem Hx.sl{b j:X}{u:Z}(h:Hx w0 B R a len cap p n g5 nr K ap w m tv nt qv cvs lvs)(hB:B≤w0.heap.size)(ht:Ai w b 79)(hb:w0.heap.size≤b)(hu:∀v,Gs w w0.heap.size v→Gs (w.setCell ⟨b,j,N⟩ u) w0.heap.size v):Hx w0 B R a len cap p n g5 nr K ap (w.setCell ⟨b,j,N⟩ u) m tv nt qv cvs lvs:=by
 obtain⟨x,y,e⟩:=h.k3;obtain⟨xs,os,r1⟩:=h.rx
 have aq:∀ {b':X} {cs:Array Z} {T:TypeId},T≠79→w.heap[b']?=M (O cs T (0,0))→b'≠b:=fun {b'} {cs} {T} hT hh q=>by
  exact qbo
 exact⟨⟨x,y,Af e (aq qh e) _⟩,Af h.k4 (aq qh h.k4) _,Af h.k5 (aq qh h.k5) _,h.tx.setT ht qh _,⟨xs,os,r1.setL ht hu⟩,h.rd.set hB hb _⟩
theorem Hx.grow{b c:X}{xj:Z}(h:Hx w0 B R a len cap p n g5 nr K True w m tv nt (J (p_ b) nr c) cvs lvs)(hB:B≤w0.heap.size)(h0:0<nr)(hg:w.grownBy w' (lvs 0).ownBlock)(hl:Gs w' w0.heap.size xj)(br:(lvs 0).ownBlock=xj.ownBlock∨∀g,xj.ownBlock=M g→w.heap.size≤g):w'.heap[g5]?=M (O #[I m,tv,J (p_ b) nr c] 26 (0,0))∧w'.cell? ⟨b,1,N⟩=M (lvs 0)∧Ai w' b 56∧w'.cell? ⟨w0.heap.size,0,N⟩=M (I (n:Int))∧Hx w0 B R a len cap p n g5 nr K True (w'.setCell ⟨b,1,N⟩ xj) m tv nt (J (p_ b) nr c) cvs (upd lvs 0 xj):=by
 obtain⟨x,y,e⟩:=h.k3;obtain⟨xs,os,r1⟩:=h.rx;obtain⟨gs,ys,q1,_⟩:=r1.lk 0 h0 qg
 have hr:(lvs 0).ownBlock=N∨∃b,(lvs 0).ownBlock=M b∧(lvs 0).ownBlock=M b∧Ai w b 79:=by
  rcases hh:(lvs 0).ownBlock with _|b
  ·exact Or.inl rfl
  ·exact Or.inr ⟨b,rfl,rfl,(Bh q1 hh).2⟩
 have r3:=r1.grow h0 (Or.inr (Nat.le_refl _)) hg hr;obtain⟨b',c',eq,_,c1,_,ht,_⟩:=r3.rcd h0;cases eq;simp only[Nat.zero_mul,Nat.zero_add]at c1
 have hap:∀j,j≠0→j<nr→∀g,xj.ownBlock=M g→(lvs j).ownBlock≠M g:=λj hj hn g hg' hq=>by
  rcases br with q|q
  ·exact r1.apl trivial 0 j (Ne.symm hj) h0 hn g (by rw[q];exact hg') hq
  ·have h1:=q g hg'
   obtain⟨V1,ys',q2,_⟩:=r1.lk j hn qg;have h2:=(q2.lt g hq).2;omega
 have aq:∀ {b':X} {cs:Array Z} {T:TypeId},T≠56→w'.heap[b']?=M (O cs T (0,0))→b'≠b:=fun {b'} {cs} {T} hT hh q=>by
  exact qbo
 have k3:=Ao e hg (λq=>Ah q1 qh e q);have k4:=Ao h.k4 hg (λq=>Ah q1 qh h.k4 q);have k5:=Ao h.k5 hg (λq=>Ah q1 qh h.k5 q)
 have htx:Ks w' w0.heap.size tv nt:=h.tx.kept λ_ _ oo=>Ex oo hg λb hb q=>by
  obtain⟨_,cs,e1⟩:=Bh oo hb;obtain⟨_,B4,e2⟩:=Bh q1 q;rw[e1]at e2;cases e2
 have ji:=(Bh r1.row (b:=b) rfl).1;have r4:=r3.c1 (ap':=True) h0 (Or.inl rfl) hl (λ_=>⟨trivial,hap⟩);simp only[Nat.zero_mul,Nat.zero_add]at r4;exact⟨k5,c1,ht,(Ab k3).1,⟨x,y,Af k3 (aq qh k3) _⟩,Af k4 (aq qh k4) _,Af k5 (aq qh k5) _,htx.setT ht qh _,⟨_,_,r4⟩,(h.rd.grow hB hg (λb hb=>(Bh q1 hb).1)).set hB ji _⟩
theorem Hx.appR{qv':Z}{o:By}{xs:L Z}{os:X→ByteArray}(h:Hx w0 B R a len cap p n g5 nr K False w m tv nt qv cvs lvs)(hB:B≤w0.heap.size)(h5:w0.heap.size+1<g5)(h0:0<nr)(hn:nr<20000)(hx:RX w w0.heap.size qv nr False nr xs cvs lvs os)(ho:w'.ownsRow w0.heap.size 56 3 qv' (nr+1) (xs++[cvs 0,lvs 0,S o]))(O3:o.size≤60000)(hg:w.grownBy w' qv.ownBlock):w'.heap[g5]?=M (O #[I m,tv,qv] 26 (0,0))∧∃E8 C7,Hx w0 B R a len cap p n g5 (nr+1) K False (w'.setCell ⟨g5,2,N⟩ qv') m tv nt qv' E8 C7:=by
 obtain⟨x,y,e⟩:=h.k3;have jt:=Ao h.k5 hg (λq=>Ah hx.row qh h.k5 q);have ht:Ai w' g5 26:=⟨_,jt⟩
 have As:∀(e sz l:X)(u:Z)(zs:L Z),e≠56→w.ownsRow w0.heap.size e sz u l zs→w'.ownsRow w0.heap.size e sz u l zs:=λe sz l u zs aq oo=>Ex oo hg λb hb q=>by
  obtain⟨_,cs,e1⟩:=Bh oo hb;obtain⟨_,B4,e2⟩:=Bh hx.row q;rw[e1]at e2;cases e2;exact aq rfl
 have hl:=hx.row.1;have pw:∀v,Qd w w0.heap.size v→Qd w' w0.heap.size v:=λv q=>q.kept λ_ _ oo=>As _ _ _ _ _ qh oo;have ld:∀v,Gs w w0.heap.size v→Gs w' w0.heap.size v:=λv q=>q.kept λ_ _ oo=>As _ _ _ _ _ qh oo
 have hr:RX w' w0.heap.size qv' (nr+1) False (nr+1) (xs++[cvs 0,lvs 0,S o]) (upd cvs nr (cvs 0)) (upd lvs nr (lvs 0)) (upd os nr o):=by
  refine⟨ho,λi hi=>?_,λi hi=>?_,λi hi=>?_,λi hi _=>?_,λq=>q.elim,qg⟩
  ·by_cases q:i=nr
   ·subst q
    rw[Gw,Gw,Gw,List.getElem?_append_right qg,List.getElem?_append_right qg,List.getElem?_append_right qg,hl,Nat.sub_self,show i*3+1-i*3=1 from qg,show i*3+2-i*3=2 from qg];exact⟨rfl,rfl,rfl⟩
   ·rw[Fw _ _ q,Fw _ _ q,Fw _ _ q,List.getElem?_append_left qg,List.getElem?_append_left qg,List.getElem?_append_left qg]
    exact hx.fil i qg
  ·by_cases q:i=nr
   ·subst q;rw[Gw];exact O3
   ·rw[Fw _ _ q];exact hx.ob i qg
  ·by_cases q:i=nr
   ·subst q;rw[Gw];exact pw _ (hx.cd 0 h0)
   ·rw[Fw _ _ q];exact pw _ (hx.cd i qg)
  ·by_cases q:i=nr
   ·subst q;rw[Gw];exact ld _ (hx.lk 0 h0 qg)
   ·rw[Fw _ _ q];exact ld _ (hx.lk i qg qg)
 exact⟨jt,_,_,⟨x,y,Af (Ao e hg (λq=>Ah hx.row qh e q)) qg _⟩,Af (Ao h.k4 hg (λq=>Ah hx.row qh h.k4 q)) qg _,by rw[jB jt];rfl,(h.tx.kept λ_ _ oo=>As _ _ _ _ _ qh oo).setT ht qh _,⟨_,_,hr.setT ht qh qh qh _⟩,(h.rd.grow hB hg (λb hb=>(Bh hx.row hb).1)).set hB qg _⟩
theorem Hx.fin(h:Hx w0 B R a len cap p n g5 nr K ap w m tv nt qv cvs lvs)(hB:B≤w0.heap.size)(hR:R<w0.heap.size)(h5:w0.heap.size+1<g5):∀AL:E,((w.setCell ⟨w0.heap.size+1,0,N⟩ (I m)).setCell ⟨w0.heap.size+1,1,N⟩ tv).setCell ⟨w0.heap.size+1,2,N⟩ qv=AL→
 AL.heap[w0.heap.size+1]?=M (O #[I m,tv,qv] 26 (0,0))∧(∃T' R',Di AL (R+1) tv qv T' R'∧Qs T' R')∧Ba B R a len cap p K w0 AL:=by
 intro AL eY;obtain⟨xs,os,r1⟩:=h.rx;have hz:Ai w (w0.heap.size+1) 26:=⟨_,h.k4⟩;have bg:=hz.set (c:=w0.heap.size+1) (j:=0) (I m);have bi:=bg.set (c:=w0.heap.size+1) (j:=1) tv;refine⟨by rw[←eY];exact Cv h.k4 _ _ _,?_,by rw[←eY];exact((h.rd.set hB qg _).set hB qg _).set hB qg _⟩;obtain⟨T',R',q1,q2⟩:=RX.dst (((h.tx.setT (j:=0) hz qh _).setT (j:=1) bg qh _).setT (j:=2) bi qh qv) (((r1.setT (j:=0) hz qh qh qh _).setT (j:=1) bg qh qh qh _).setT (j:=2) bi qh qh qh qv) (Nat.le_refl _);rw[eY]at q1;exact⟨T',R',q1.base qg,q2⟩
end
end Go.Proofs.YtoihflimijabjaaGreatDoor
