import Derived.Test.YtjlnkepkkdefdaaGreatDoorEdC
import Derived.Test.YtjlnkepkkdefdaaGreatDoorEdI
namespace Go.Proofs.YtjlnkepkkdefdaaGreatDoor
set_option maxHeartbeats 4000000
set_option maxRecDepth 100000
open Go.RowKit Go.Deep
set_option linter.unusedVariables false
set_option linter.unusedSimpArgs false
theorem Wc (i:Nat):Lp i=⟨#[116,dg (i / 100),dg (i / 10 % 10),dg (i % 10)]⟩:=by
 unfold Lp
 apply ByteArray.ext
 rw[ByteArray.data_append]
 rfl
theorem dg_nat {a:Nat} (h:a<10):(dg a).toNat=48+a:=by unfold dg;rw[UInt8.toNat_ofNat'];omega
theorem lab_inj {i j:Nat} (hi:i<=100) (hj:j<=100) (h:Lp i=Lp j):i=j:=by
 rw[Wc,Wc] at h
 injection h with h
 injection h with h
 simp only[List.cons.injEq,true_and,and_true] at h
 obtain⟨h1,h2,h3⟩:=h
 have e1:=congrArg UInt8.toNat h1
 have e2:=congrArg UInt8.toNat h2
 have e3:=congrArg UInt8.toNat h3
 rw[dg_nat (by omega),dg_nat (by omega)] at e1 e2 e3
 omega
theorem dg_ok {a:Nat} (h:a<10):33<=(dg a).toNat/\(dg a).toNat<=126:=by rw[dg_nat h];omega
theorem name_four {a b c d:UInt8} (ha:33<=a.toNat/\a.toNat<=126) (hb:33<=b.toNat/\b.toNat<=126) (hc:33<=c.toNat/\c.toNat<=126) (hd:33<=d.toNat/\d.toNat<=126):Aq ⟨#[a,b,c,d]⟩:=by
 refine⟨by show 1<=4;omega,by show 4<=60;omega,fun j hj=>?_⟩
 have hj':j<4:=hj
 rcases (show j=0\/j=1\/j=2\/j=3 by omega) with rfl|rfl|rfl|rfl
 ·exact ha
 ·exact hb
 ·exact hc
 ·exact hd
theorem lab_name (i:Nat) (h:i<=100):Aq (Lp i):=by
 rw[Wc]
 exact name_four (by decide) (dg_ok (by omega)) (dg_ok (by omega)) (dg_ok (by omega))
theorem ask_ch (n:Nat) (e:ByteArray) (i:Nat):Js (Tq n e i).code=true:=rfl
theorem shal_chain (n:Nat) (e:ByteArray) (hn:n<=61):Pm ((List.range n).map (Tq n e)):=Or.inr (Or.inl ⟨by simpa using hn,fun t ht=>by
 obtain⟨i,_,rfl⟩:=List.mem_map.mp ht
 exact ask_ch n e i⟩)
def Tp:ByteArray:=⟨#[122,109,97,100,101]⟩
def zmT:T2:=⟨Tp,[⟨1,⟨#[109,97,100,101]⟩,0⟩,⟨15,⟨#[]⟩,0⟩]⟩
theorem zm_name:Aq Tp:=by
 refine⟨by decide,by decide,fun j hj=>?_⟩
 have hj':j<5:=hj
 rcases (show j=0\/j=1\/j=2\/j=3\/j=4 by omega) with rfl|rfl|rfl|rfl|rfl
 ·exact(by decide:33<=(122:UInt8).toNat/\(122:UInt8).toNat<=126)
 ·exact(by decide:33<=(109:UInt8).toNat/\(109:UInt8).toNat<=126)
 ·exact(by decide:33<=(97:UInt8).toNat/\(97:UInt8).toNat<=126)
 ·exact(by decide:33<=(100:UInt8).toNat/\(100:UInt8).toNat<=126)
 ·exact(by decide:33<=(101:UInt8).toNat/\(101:UInt8).toNat<=126)
theorem zm_lab (i:Nat):Lp i≠Tp:=fun h=>by
 have:=congrArg ByteArray.size h
 rw[Wc] at this
 cases this
theorem shal_zmade (n:Nat) (hn:n=60\/n=61):Pm (((List.range n).map (Tq n Tp)).set 0 ⟨Lp 0,[⟨1,Tp,0⟩,⟨12,⟨#[]⟩,0⟩,⟨9,⟨#[]⟩,0⟩]++(Tq n Tp 0).code⟩++[zmT]):=by
 rcases hn with rfl|rfl
 ·refine Or.inl ?_;rw[List.filter_append,List.length_append];have h1:([zmT].filter fun t=>Js t.code).length=0:=rfl;have h2:=List.length_filter_le (fun t:T2=>Js t.code) (((List.range 60).map (Tq 60 Tp)).set 0 ⟨Lp 0,[⟨1,Tp,0⟩,⟨12,⟨#[]⟩,0⟩,⟨9,⟨#[]⟩,0⟩]++(Tq 60 Tp 0).code⟩);rw[List.length_set,List.length_map,List.length_range] at h2;omega
 ·refine Or.inr (Or.inr ⟨fun i=>if i=61 then Tp else Lp i,⟨#[109,97,100,101]⟩,?_⟩)
  have tx0:∀(l:List T2) (t z:T2),0<l.length->tx (l.set 0 t++[z]) 0=t:=fun l t z hl=>by
   unfold tx;rw[gG,List.getElem?_append_left (by rw[List.length_set];exact hl),List.getElem?_set_self hl];rfl
  have txi:∀(l:List T2) (t z:T2) (i:Nat),1<=i->i<l.length->tx (l.set 0 t++[z]) i=tx l i:=fun l t z i h1 hl=>by
   unfold tx;rw[gG,gG,List.getElem?_append_left (by rw[List.length_set];exact hl),List.getElem?_set_ne (by omega)]
  have txz:∀(l:List T2) (t z:T2),tx (l.set 0 t++[z]) l.length=z:=fun l t z=>by
   unfold tx;rw[gG,List.getElem?_append_right (by rw[List.length_set];exact Nat.le_refl _),List.length_set,Nat.sub_self];rfl
  have txm:∀ i,i<61->tx ((List.range 61).map (Tq 61 Tp)) i=Tq 61 Tp i:=fun i hi=>by
   unfold tx;rw[gG,List.getElem?_map,List.getElem?_range hi];rfl
  have hl:((List.range 61).map (Tq 61 Tp)).length=61:=by rw[List.length_map,List.length_range]
  obtain⟨L,eL⟩:∃ L,(List.range 61).map (Tq 61 Tp)=L:=⟨_,rfl⟩;rw[eL] at txm hl ⊢;refine⟨fun i j hi hj h=>?_,fun i hi=>?_,fun q hq=>?_,⟨0,by rw[List.length_append,List.length_set];simp,?_⟩,fun i h1 h2=>⟨i,by rw[List.length_append,List.length_set];simp;omega,?_⟩,⟨61,by rw[List.length_append,List.length_set];simp;omega,?_⟩,by decide⟩
  ·split at h
   ·split at h
    ·omega
    ·exact absurd h.symm (zm_lab j)
   ·split at h
    ·exact absurd h (zm_lab i)
    ·exact lab_inj (by omega) (by omega) h
  ·split
   ·exact zm_name
   ·exact lab_name i (by omega)
  ·rw[List.length_append,List.length_set,hl] at hq;have hq:q<62:=hq;refine⟨q,by omega,?_⟩
   rcases (show q=0\/(1<=q/\q<61)\/q=61 by omega) with rfl|⟨h1,h2⟩|rfl
   ·rw[tx0 _ _ _ (by omega)];rfl
   ·rw[txi _ _ _ q h1 (by omega),txm q h2,if_neg (by omega)];rfl
   ·have:=txz L ⟨Lp 0,[⟨1,Tp,0⟩,⟨12,⟨#[]⟩,0⟩,⟨9,⟨#[]⟩,0⟩]++(Tq 61 Tp 0).code⟩ zmT;rw[hl] at this;rw[this];rfl
  ·rw[tx0 _ _ _ (by omega)];rfl
  ·rw[txi _ _ _ i h1 (by omega),txm i (by omega)];rw[if_neg (by omega)];unfold Tq
   rcases (show i=60\/i<60 by omega) with rfl|h3
   ·rfl
   ·rw[if_neg (by omega)];rfl
  ·have:=txz L ⟨Lp 0,[⟨1,Tp,0⟩,⟨12,⟨#[]⟩,0⟩,⟨9,⟨#[]⟩,0⟩]++(Tq 61 Tp 0).code⟩ zmT;rw[hl] at this;rw[this];rfl
theorem shal_zm {l2 l3:List TC} {n:Nat} {is:List I3} {v c:Value} (hn:n=60\/n=61) (h:l2.map (·.t)=(List.range n).map (Tq n Tp)) (h0:0<l2.length) (hi:[(⟨1,Tp,0⟩:I3),⟨12,⟨#[]⟩,0⟩,⟨9,⟨#[]⟩,0⟩]++(cx l2 0).t.code=is) (h3:l2.set 0 ⟨⟨(cx l2 0).t.name,is⟩,v⟩=l3):Pm ((l3++[(⟨zmT,c⟩:TC)]).map (·.t)):=by
 have e0:(cx l2 0).t=Tq n Tp 0:=by
  rw[<- Vl l2 0 h0,h]
  rcases hn with rfl|rfl<;>rfl
 have:=shal_zmade n hn
 rw[List.map_append,<- h3,List.map_set,h,<- hi,e0]
 exact this
theorem Yw (B R:Nat) (a:Option Addr) (len cap p:Nat) (w:World) {lo:Nat} {v1 v2:Value} {l1:List S2} {l2:List TC} (h:Rd B w R a len cap p) (hBw:B<=w.heap.size) (hp:p<=50000) (hd:Dw w lo v1 v2 l1 l2) (hbd:Tm l1 l2) (hRl:R<lo) :
  Calls Tryz.prog 39 #[.pointer (some ⟨R,0,none⟩),.agg #[v1,v2]] w fun e w'=>∃ s:ByteArray,e=.returned (.string s)/\s.size<=50000/\Bd B R a len cap p 10 w w':=by
 have hRB:=h.lt
 have hRw:R<w.heap.size:=by omega
 obtain⟨s1,q1,rfl⟩:=hd.s1
 obtain⟨s2,q2,rfl⟩:=hd.s2
 obtain⟨w1,e1⟩:∃ y,w.alloc (.cells #[.slice s1 l1.length q1,.slice s2 l2.length q2] 26)=y:=⟨_,rfl⟩
 have hb1:Below w.heap.size w w1:=by rw[<- e1];exact aN _ _
 have HP:Hd (w1.heap[w.heap.size]?=some (.cells #[.slice s1 l1.length q1,.slice s2 l2.length q2] 26 (0,0))):=by show _=_;rw[<- e1];exact Al _ _
 have HR:Hd (Bd B R a len cap p (0) w w1):=⟨Dk (Pf w R) hb1,p,by omega,h.bl hBw hb1⟩
 have HD:=hid (hd.bl hb1)
 have HBD:=hid hbd
 have hn2:=hbd.n2
 obtain⟨c0,c1⟩:=Am HP.o
 clear hb1 h hd hbd
 rcases Nat.eq_zero_or_pos l2.length with hk0|hkp
 ·have hkz:¬ (0:Int)<(l2.length:Int):=by omega
  clear hk0;go_enter Tryz.func39,Tryz.ntmps39;obtain⟨wL,eL⟩:∃ y,w1.alloc (.cells #[.string ⟨#[97]⟩,.string ⟨#[110,111,110,101]⟩,.string ⟨#[]⟩,.string ⟨#[120,32,121]⟩,.string ⟨#[116,48]⟩] 9)=y:=⟨_,rfl⟩;have hbL:Below w1.heap.size w1 wL:=by rw[<- eL];exact aN _ _
  have HL:Hd (wL.heap[w1.heap.size]?=some (.cells #[.string ⟨#[97]⟩,.string ⟨#[110,111,110,101]⟩,.string ⟨#[]⟩,.string ⟨#[120,32,121]⟩,.string ⟨#[116,48]⟩] 9 (0,0))):=by show _=_;rw[<- eL];exact Al _ _
  have hLR:R<w1.heap.size:=by have:=HR.o.size;omega
  replace HR:=hid (HR.o.bl hBw hbL);clear hbL;go_wp2_with fail
  try rw[eL]
  clear eL;refine(HR.o.pick (by omega) 5 (by omega) (by omega)).mono ?_;rintro e wM ⟨j,rfl,hj,hr1,hg1⟩;replace HL:=hid (Br HL.o hg1 (by omega));clear hg1 HR;have HR:=hid hr1;clear hr1;have k0:wM.cell? ⟨w1.heap.size,0,none⟩=some (.string ⟨#[97]⟩):=by rw[cH HL.o];rfl
  have k1:wM.cell? ⟨w1.heap.size,1,none⟩=some (.string ⟨#[110,111,110,101]⟩):=by rw[cH HL.o];rfl
  have k2:wM.cell? ⟨w1.heap.size,2,none⟩=some (.string ⟨#[]⟩):=by rw[cH HL.o];rfl
  have k3:wM.cell? ⟨w1.heap.size,3,none⟩=some (.string ⟨#[120,32,121]⟩):=by rw[cH HL.o];rfl
  have k4:wM.cell? ⟨w1.heap.size,4,none⟩=some (.string ⟨#[116,48]⟩):=by rw[cH HL.o];rfl
  rcases (show j=0\/j=1\/j=2\/j=3\/j=4 from by omega) with rfl|rfl|rfl|rfl|rfl
  all_goals
   go_wp2;go_ret;exact⟨_,rfl,by decide,HR.o.more (by omega)⟩
 ·have hkz:(0:Int)<(l2.length:Int):=by omega
  obtain⟨g2,cp2,ev,hg2,_⟩:=HD.o.tc 0 hkp;cases ev;go_enter Tryz.func39,Tryz.ntmps39;go_wp2_with fail;clear e1 c0 c1;refine(HR.o.pick (by omega) 8 (by omega) (by omega)).mono ?_;rintro e w2 ⟨x,rfl,hx,hr1,hg1⟩;replace HP:=hid (Br HP.o hg1 (by omega));replace HD:=hid (HD.o.gb hg1 hRl);clear HR;have HR:=hid hr1;clear hr1 hg1
  rcases Nat.eq_zero_or_pos x with rfl|hx0
  ·clear HP HD;obtain⟨wL,eL⟩:∃ y,w2.alloc (.cells #[.string ⟨#[97]⟩,.string ⟨#[110,111,110,101]⟩,.string ⟨#[]⟩,.string ⟨#[120,32,121]⟩,.string ⟨#[116,48]⟩] 9)=y:=⟨_,rfl⟩;have hbL:Below w2.heap.size w2 wL:=by rw[<- eL];exact aN _ _
   have HL:Hd (wL.heap[w2.heap.size]?=some (.cells #[.string ⟨#[97]⟩,.string ⟨#[110,111,110,101]⟩,.string ⟨#[]⟩,.string ⟨#[120,32,121]⟩,.string ⟨#[116,48]⟩] 9 (0,0))):=by show _=_;rw[<- eL];exact Al _ _
   have hLR:R<w2.heap.size:=by have:=HR.o.size;omega
   replace HR:=hid (HR.o.bl hBw hbL);clear hbL;go_wp2_with fail
   try rw[eL]
   clear eL;refine(HR.o.pick (by omega) 5 (by omega) (by omega)).mono ?_;rintro e wM ⟨j,rfl,hj,hr1,hg1⟩;replace HL:=hid (Br HL.o hg1 (by omega));clear hg1 HR;have HR:=hid hr1;clear hr1;have k0:wM.cell? ⟨w2.heap.size,0,none⟩=some (.string ⟨#[97]⟩):=by rw[cH HL.o];rfl
   have k1:wM.cell? ⟨w2.heap.size,1,none⟩=some (.string ⟨#[110,111,110,101]⟩):=by rw[cH HL.o];rfl
   have k2:wM.cell? ⟨w2.heap.size,2,none⟩=some (.string ⟨#[]⟩):=by rw[cH HL.o];rfl
   have k3:wM.cell? ⟨w2.heap.size,3,none⟩=some (.string ⟨#[120,32,121]⟩):=by rw[cH HL.o];rfl
   have k4:wM.cell? ⟨w2.heap.size,4,none⟩=some (.string ⟨#[116,48]⟩):=by rw[cH HL.o];rfl
   rcases (show j=0\/j=1\/j=2\/j=3\/j=4 from by omega) with rfl|rfl|rfl|rfl|rfl
   all_goals
    go_wp2;go_ret;exact⟨_,rfl,by decide,HR.o.more (by omega)⟩
  ·have hx0I:(0:Int)<(x:Int):=by omega
   go_wp2_with fail;refine Lt.begin 10 (fun w'=>w'.heap[w.heap.size]?=some (.cells #[.slice s1 l1.length q1,.slice (some ⟨g2,0,none⟩) l2.length q2] 26 (0,0))/\w'.ownsRow lo 62 2 (.slice (some ⟨g2,0,none⟩) l2.length q2) l2.length (Ha l2)) (by kernel_rfl) ?_;obtain⟨wD,eD⟩:∃ y,w2.drew=y:=⟨_,rfl⟩;rw[eD];have hbD:Below w2.heap.size w2 wD:=by rw[<- eD];exact(Below.refl _ _).drew
   clear eD;replace HD:=hid (HD.o.bl hbD);replace HR:=hid (HR.o.bl hBw hbD);replace HP:=hid (Aa HP.o hbD);have hS0:(fun w'=>w'.heap[w.heap.size]?=some (.cells #[.slice s1 l1.length q1,.slice (some ⟨g2,0,none⟩) l2.length q2] 26 (0,0))/\w'.ownsRow lo 62 2 (.slice (some ⟨g2,0,none⟩) l2.length q2) l2.length (Ha l2)) wD:=⟨HP.o,HD.o.t⟩;change K 0 _
   iterate 6
    refine Lt.ti (v:=?_) hS0 ?_ ?_;rotate_left 1
    ·rintro w ⟨hs1,hs2⟩;obtain⟨c0,c1⟩:=Am hs1;go_simp;first|done|with_reducible rfl
    simp only[gX]
   refine Lt.sp (i:=6) (fun K hK=>?_);go_simp;refine(HR.o.pick (by omega) (l2.length:Int) (by omega) (by omega)).mono ?_;rintro e wA ⟨j,rfl,hj,hrA,hgA⟩;replace hj:j<l2.length:=by omega
   replace HD:=hid (HD.o.gb hgA hRl);replace HR:=hid hrA;replace HP:=hid (Br HP.o hgA (by omega));have hS1:(fun w'=>w'.heap[w.heap.size]?=some (.cells #[.slice s1 l1.length q1,.slice (some ⟨g2,0,none⟩) l2.length q2] 26 (0,0))/\w'.ownsRow lo 62 2 (.slice (some ⟨g2,0,none⟩) l2.length q2) l2.length (Ha l2)) wA:=⟨HP.o,HD.o.t⟩;refine hK.out _ _ (fun _=>hS1) (fun _=>?_);clear hK K hgA hrA
   try simp only[gX]
   have hjI:(j:Int)<(l2.length:Int):=by omega
   change K 7 _
   iterate 3
    refine Lt.ti (v:=?_) hS1 ?_ ?_;rotate_left 1
    ·rintro w ⟨hs1,hs2⟩;obtain⟨c0,c1⟩:=Am hs1;obtain⟨c2,c3⟩:=Ot hs2 j hj rfl;go_simp;first|done|with_reducible rfl
    simp only[gX]
   refine Lt.sp (i:=10) (fun K hK=>?_);go_simp;refine hK.out _ _ (fun h=>absurd rfl h) (fun _=>?_);clear hK K;refine Lt.done (by kernel_rfl) ?_ _;go_wp2;go_ret;exact⟨_,rfl,(HBD.o.t _ (Dq hj)).1,HR.o.more (by omega)⟩
end Go.Proofs.YtjlnkepkkdefdaaGreatDoor
