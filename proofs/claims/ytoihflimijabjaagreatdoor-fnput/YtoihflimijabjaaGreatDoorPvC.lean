import Derived.Test.YtoihflimijabjaaGreatDoorPuG
import Derived.Test.YtoihflimijabjaaGreatDoorPuX
import Derived.Test.YtoihflimijabjaaGreatDoorPuZ
import Derived.Test.YtoihflimijabjaaGreatDoorPvB
namespace Go.Proofs.YtoihflimijabjaaGreatDoor
open _root_.Go.Proofs.Tryz Go.RowKit Go.Deep
open Value renaming slice->J,string->S,agg->G
open Option renaming some->M,none->N
open Obj renaming cells->O
open Go renaming Value->Z,World->E
open Ending renaming returned->H
open _root_ renaming List->L,Nat->X
set_option linter.unusedVariables false
set_option linter.unusedSimpArgs false
set_option maxHeartbeats 8000000
set_option maxRecDepth 100000
variable {b g i j:X}
structure DpI (w1:E) (R g2 g5:X) (a:Option Addr) (len cap K:X) (w:E) (m:Int) (tv qv:Z) (T:L By) (Rr:L T3):Prop where
 k2:w.heap[g2]?=M (O #[I 0,nS,nS] 26 (0,0))
 k5:w.heap[g5]?=M (O #[I m,tv,qv] 26 (0,0))
 ds:Di w (R+1) tv qv T Rr
 rd:Ba (R+1) R a len cap 0 K w1 w
section
variable {w1 w w':E} {R g2 g5:X} {a:Option Addr} {len cap K K':X} {m:Int} {tv qv:Z} {T:L By} {Rr:L T3}
theorem DpI.bl(h:DpI w1 R g2 g5 a len cap K w m tv qv T Rr)(hB:R+1≤w1.heap.size)(hb:Bw w w'):DpI w1 R g2 g5 a len cap K w' m tv qv T Rr:=⟨Ac h.k2 hb,Ac h.k5 hb,h.ds.bl hb,h.rd.bl hB hb⟩
theorem DpI.gb(h:DpI w1 R g2 g5 a len cap K w m tv qv T Rr)(h2:g2≠R)(h5:g5≠R)(hr:Ba (R+1) R a len cap 0 K' w1 w')(hg:w.grownBy w' (M R)):DpI w1 R g2 g5 a len cap K' w' m tv qv T Rr:=⟨Az h.k2 hg h2,Az h.k5 hg h5,h.ds.gb hg qg,hr⟩
theorem DpI.fin{w0:E}(h:DpI w1 R w0.heap.size g5 a len cap K w m tv qv T Rr)(h5:w0.heap.size≠g5)(hb:Bw w0 w1)(hR:w0.heap.size≤R):∀AL:E,((w.setCell ⟨w0.heap.size,0,N⟩ (I m)).setCell ⟨w0.heap.size,1,N⟩ tv).setCell ⟨w0.heap.size,2,N⟩ qv=AL→AL.heap[w0.heap.size]?=M (O #[I m,tv,qv] 26 (0,0))∧AL.heap[g5]?=M (O #[I m,tv,qv] 26 (0,0))∧Di AL w0.heap.size tv qv T Rr∧Di AL (R+1) tv qv T Rr∧Bw w0 AL:=by
 intro AL eY;have ht:Ai w w0.heap.size 26:=⟨_,h.k2⟩;have mi:Bw w0 w:=hb.grown h.rd.1 hb.size (λj hj=>by cases hj;exact hR);have hd:Di AL (R+1) tv qv T Rr:=eY▸((h.ds.setG ht qh qh qh qh _).setG (ht.set _) qh qh qh qh _).setG ((ht.set _).set _) qh qh qh qh _;exact⟨eY▸Cv h.k2 _ _ _,eY▸Da h.k5 (Ne.symm h5) _ _ _,hd.base qg,hd,eY▸Eg mi (Nat.le_refl _) _ _ _⟩
end
theorem bytesB{w w':E}{a:Option Addr}{len:X}(h:Qe w a len)(hb:Bw w w'):Qe w' a len:=λi hi=>by
 obtain⟨b,off,v,e,c,r⟩:=h i hi;exact⟨b,off,v,e,Aa hb c,r⟩
theorem Sg{w:E}{v:Z}(h:b≠g):(w.setCell ⟨g,i,N⟩ v).cell? ⟨b,j,N⟩=w.cell? ⟨b,j,N⟩:=World.cell?_of_block (hC w ⟨g,i,N⟩ v b h)
theorem cell_ne3{w:E}{v0 v1 v2:Z}(h:b≠g):(((w.setCell ⟨g,0,N⟩ v0).setCell ⟨g,1,N⟩ v1).setCell ⟨g,2,N⟩ v2).cell? ⟨b,j,N⟩=w.cell? ⟨b,j,N⟩:=by
 rw[Sg h,Sg h,Sg h]
theorem Pz(w:World)(a:Option Addr)(len cap:Nat)(h:Qe w a len)(hlc:len≤cap)(hl:len≤1048576):Calls Tryz.prog 4 #[.slice a len cap] w λe w'=>∃(m:Int)(xa:Option Addr)(t1 t2:Nat)(qa:Option Addr)(q1 q2:Nat)(T:List ByteArray)(Rr:List T3)(s:ByteArray),e=.returned (.tuple #[.agg #[.int .i64 m,.slice xa t1 t2,.slice qa q1 q2],.string s])∧Di w' w.heap.size (.slice xa t1 t2) (.slice qa q1 q2) T Rr∧Qs T Rr∧s.size≤60000∧Below w.heap.size w w':=by
 obtain⟨W,eW⟩:∃W,w.alloc (.cells #[.int .i64 0,.slice none 0 0,.slice none 0 0] 26)=W:=⟨_,rfl⟩
 have f7:Below w.heap.size w W:=eW▸aN _ _
 have lu:Hd (W.heap[w.heap.size]?=some (.cells #[.int .i64 0,.slice none 0 0,.slice none 0 0] 26 (0,0))):=by show _=_;rw[←eW];exact Am _ _
 have HBY:=Ad (bytesB h f7)
 have ir:=Ad f7
 clear h f7
 go_enter Tryz.func4,Tryz.ntmps4
 go_wp2_with fail
 clear eW
 refine(Qam W a len cap HBY.o hlc hl).mono ?_
 rintro e w1 ⟨I5,rfl,dr,gm,ah⟩
 obtain⟨R,eR⟩:∃r,W.heap.size=r:=⟨_,rfl⟩
 have og:w.heap.size<R:=by have:=An lu.o;omega
 rw[eR]at dr gm ⊢
 replace lu:=Ad (Ac lu.o ah)
 replace ir:=Ad (bt ir.o ah)
 have fg:=Ad dr
 have E4:R+1≤w1.heap.size:=by omega
 clear HBY ah eR dr gm
 go_wp2_with fail
 refine(l4Any_any Qat spoil_any lie_any (R+1) R a I5 cap 0 w1 fg.o E4 (by omega)).mono ?_
 rintro e w2 ⟨m,xa,t1,t2,qa,q1,q2,v1,v2,T,Rr,rfl,dm,i5,yq,uk⟩
 obtain⟨sa,n1,c1,ta,n2,c2,rfl,rfl⟩:=yq.sl
 have ft:=Ad i5
 have S9:T.length=t1:=by obtain⟨x1,x2,e⟩:=Ax dm.txt;cases e;rfl
 have HT1:=Ad S9
 have Do:t1≤20000:=by have:=i5.tn;omega
 replace lu:=Ad (Az lu.o uk.1 (by omega))
 obtain⟨g5,Q3⟩:∃g,w2.heap.size=g:=⟨_,rfl⟩
 have O6:R<g5:=by have:=uk.size;omega
 obtain⟨V,eV⟩:∃V,(w2.alloc (.cells #[.int .i64 0,.slice none 0 0,.slice none 0 0] 26)).alloc (.cells #[.slice none 0 0,.slice none 0 0] 44)=V:=⟨_,rfl⟩
 have cr:Below w2.heap.size w2 V:=eV▸(aN _ _).alloc (by simp) _
 have d8:Hd (V.heap[g5]?=some (.cells #[.int .i64 0,.slice none 0 0,.slice none 0 0] 26 (0,0))):=by show _=_;rw[←eV,←Q3];exact Kj _ _ _
 have F7:Hd (V.heap[g5+1]?=some (.cells #[.slice none 0 0,.slice none 0 0] 44 (0,0))):=by show _=_;rw[←eV,←Q3];exact Kk _ _ _
 obtain⟨r0,r1,r2⟩:=Ab d8.o
 have rf:=(λj=>fH d8.o j)
 obtain⟨VA,eVA⟩:∃y,((V.setCell ⟨g5,0,none⟩ (.int .i64 m)).setCell ⟨g5,1,none⟩ (.slice xa t1 t2)).setCell ⟨g5,2,none⟩ (.slice qa q1 q2)=y:=⟨_,rfl⟩
 have xe:Hd (VA.heap[g5+1]?=some (.cells #[.slice none 0 0,.slice none 0 0] 44 (0,0))):=eVA▸Da F7.o (by omega) _ _ _
 obtain⟨y0,y1,yf⟩:=Ag xe.o
 obtain⟨VB,eVB⟩:∃y,(VA.setCell ⟨g5+1,0,none⟩ (.slice sa n1 c1)).setCell ⟨g5+1,1,none⟩ (.slice ta n2 c2)=y:=⟨_,rfl⟩
 have HP:Hd (DpI w1 R w.heap.size g5 a I5 cap 37000 VB m (.slice xa t1 t2) (.slice qa q1 q2) T Rr):=by
  have h5:Ai V g5 26:=⟨_,d8.o⟩;have h6:Ai VA (g5+1) 44:=⟨_,xe.o⟩;have dA:Di VA (R+1) (.slice xa t1 t2) (.slice qa q1 q2) T Rr:=eVA▸(((dm.bl cr).setG h5 (by decide) (by decide) (by decide) (by decide) _).setG (h5.set _) (by decide) (by decide) (by decide) (by decide) _).setG ((h5.set _).set _) (by decide) (by decide) (by decide) (by decide) _;have rA:Ba (R+1) R a I5 cap 0 37000 w1 VA:=eVA▸(((uk.bl E4 cr).set E4 (by have:=uk.size;omega) _).set E4 (by have:=uk.size;omega) _).set E4 (by have:=uk.size;omega) _;have k2A:VA.heap[w.heap.size]?=some (.cells #[.int .i64 0,.slice none 0 0,.slice none 0 0] 26 (0,0)):=eVA▸Da (Ac lu.o cr) (by omega) _ _ _;have k5A:VA.heap[g5]?=some (.cells #[.int .i64 m,.slice xa t1 t2,.slice qa q1 q2] 26 (0,0)):=eVA▸Cv d8.o _ _ _;exact⟨eVB▸Af (Af k2A (by omega) _) (by omega) _,eVB▸Af (Af k5A (by omega) _) (by omega) _,eVB▸(dA.setG h6 (by decide) (by decide) (by decide) (by decide) _).setG (h6.set _) (by decide) (by decide) (by decide) (by decide) _,eVB▸(rA.set E4 (by have:=uk.size;omega) _).set E4 (by have:=uk.size;omega) _⟩
 clear lu d8 F7 xe cr dm i5 yq uk S9 fg
 go_upto_region 3 with fail
 clear eV eVA eVB Q3 r0 r1 r2 rf y0 y1 yf
 obtain⟨s0,s1,s2⟩:=Ab HP.o.k5
 by_cases tm:(0:Int)<(t1:Int)
 ·have h0N:0<t1:=by omega
  go_wp2_with fail;clear s0 s1 s2;refine(HP.o.rd.pick (by omega) 4 (by omega) (by omega)).mono ?_;rintro e w3 ⟨y,rfl,hy,az,am⟩;replace HP:=Ad (HP.o.gb (by omega) (by omega) az am);clear az am
  by_cases nd:y=0
  ·subst nd
   go_wp2_with fail;refine Lt.begin 99 (λw'=>w'.cell? ⟨g5,0,none⟩=some (.int .i64 m)∧w'.cell? ⟨g5,1,none⟩=some (.slice xa t1 t2)∧w'.cell? ⟨g5,2,none⟩=some (.slice qa q1 q2)) (by kernel_rfl) ?_;obtain⟨wD,eD⟩:∃y,w3.drew=y:=⟨_,rfl⟩;rw[eD];(have ao:Below w3.heap.size w3 wD:=by rw[←eD];exact(Below.refl _ _).drew);clear eD;replace HP:=Ad (HP.o.bl E4 ao);clear ao;have aw:wD.cell? ⟨g5,0,none⟩=some (.int .i64 m)∧wD.cell? ⟨g5,1,none⟩=some (.slice xa t1 t2)∧wD.cell? ⟨g5,2,none⟩=some (.slice qa q1 q2):=Ab HP.o.k5;change K 0 _
   iterate 7
    refine Lt.ti (v:=?_) aw ?_ ?_;rotate_left 1
    ·rintro w ⟨sA,sB,sC⟩
     go_simp
     first|done|with_reducible rfl
    simp only[gX]
   refine Lt.sp (i:=7) (λK hK=>?_);go_simp;refine(HP.o.rd.pick (by omega) (t1:Int) (by omega) (by omega)).mono ?_;rintro e w4 ⟨z,rfl,hz,az,am⟩;replace HP:=Ad (HP.o.gb (by omega) (by omega) az am);have bj:w4.cell? ⟨g5,0,none⟩=some (.int .i64 m)∧w4.cell? ⟨g5,1,none⟩=some (.slice xa t1 t2)∧w4.cell? ⟨g5,2,none⟩=some (.slice qa q1 q2):=Ab HP.o.k5;refine hK.out _ _ (λ_=>bj) (λ_=>?_);clear hK K az am
   try simp only[gX]
   (have bm:(0:Int)≤(z:Int):=by omega);(have hzN:z<t1:=by omega);obtain⟨AL,eY⟩:∃y,((w4.setCell ⟨w.heap.size,0,none⟩ (.int .i64 m)).setCell ⟨w.heap.size,1,none⟩ (.slice xa t1 t2)).setCell ⟨w.heap.size,2,none⟩ (.slice qa q1 q2)=y:=⟨_,rfl⟩;have HF:=Ad (HP.o.fin (by omega) ir.o (by omega) AL eY);obtain⟨u0,u1,u2⟩:=Ab HP.o.k2;have uf:=(λj=>fH HP.o.k2 j);have P6:AL.cell? ⟨g5,0,none⟩=some (.int .i64 m)∧AL.cell? ⟨g5,1,none⟩=some (.slice xa t1 t2)∧AL.cell? ⟨g5,2,none⟩=some (.slice qa q1 q2):=Ab HF.o.2.1
   obtain⟨b1,ah⟩:∃b,xa=some ⟨b,0,none⟩:=by
    obtain⟨g',cp,e⟩:=Db HP.o.ds.txt (by rw[HT1.o];omega);rw[HT1.o]at e;cases e;exact⟨g',rfl⟩
   subst ah
   obtain⟨tz,ctz,htz⟩:∃s,w4.cell? ⟨b1,z,none⟩=some (.string s)∧s.size≤60000:=by
    obtain⟨b2,q,c1⟩:=Bi (HT1.o▸HP.o.ds.txt) (Ke (i:=z) (by rw[HT1.o];exact hzN));cases q;exact⟨_,c1,ft.o.tx z⟩
   have ctY:AL.cell? ⟨b1,z,none⟩=some (.string tz):=by
    rw[←eY];(have gy:b1≠w.heap.size:=by have:=(Bh (HT1.o▸HP.o.ds.txt) (b:=b1) rfl).1;omega);rw[cell_ne3 gy];exact ctz
   refine Lt.ti (i:=8) (v:=?_) bj ?_ ?_;rotate_left 1
   ·rintro w ⟨sA,sB,sC⟩
    go_simp
    first|done|with_reducible rfl
   simp only[gX];refine Lt.two (i:=9) (j:=10) (oi:={ dst:=some 32,op:=Op.load 9 (Operand.tmp 31),type:=9,pos := "l4_draw.go:228",after:=#[{ on:=8,ground:=Ground.data },{ on:=10,ground:=Ground.gcOnly Departure.lateStores }],guard:=none }) (oj:={ dst:=none,op:=Op.store 26 (Operand.tmp 2) (Operand.tmp 23),type:=0,pos := "l4_draw.go:228",after:=#[{ on:=0,ground:=Ground.data },{ on:=7,ground:=Ground.chain },{ on:=0,ground:=Ground.phase },{ on:=1,ground:=Ground.textOnly Departure.lateStores },{ on:=2,ground:=Ground.textOnly Departure.lateStores },{ on:=3,ground:=Ground.textOnly Departure.lateStores },{ on:=4,ground:=Ground.textOnly Departure.lateStores },{ on:=5,ground:=Ground.textOnly Departure.lateStores },{ on:=6,ground:=Ground.textOnly Departure.lateStoresUnsure },{ on:=7,ground:=Ground.textOnly Departure.lateStoresUnsure },{ on:=8,ground:=Ground.textOnly Departure.lateStores },{ on:=9,ground:=Ground.textOnly Departure.lateStores }],guard:=none }) (by kernel_rfl) rfl rfl (λK hK=>?_) (λK hK=>?_)
   ·skip
    go_simp;refine hK.out _ _ (λ_=>bj) (λ_=>?_);clear hK K 
    try simp only[gX]
    refine Lt.sp (i:=10) (λK hK=>?_);go_simp
    try rw[eY]
    refine hK.out _ _ (λ_=>P6) (λ_=>?_);clear hK K
    try simp only[gX]
    refine Lt.ti (i:=11) (v:=?_) P6 ?_ ?_;rotate_left 1
    ·rintro w ⟨sA,sB,sC⟩
     go_simp
     first|done|with_reducible rfl
    simp only[gX];refine Lt.done (by kernel_rfl) ?_ _;obtain⟨a0,a1,a2⟩:=Ab HF.o.1;go_wp2;exact bR (v:=.tuple #[.agg #[.int .i64 m,.slice (some ⟨b1,0,none⟩) t1 t2,.slice qa q1 q2],.string tz]) (by simp[results,Tryz.results4,go_sem,a0,a1,a2]) rfl (by first|exact⟨_,_,_,_,_,_,_,T,Rr,_,rfl,HF.o.2.2.1,ft.o,htz,HF.o.2.2.2.2⟩|exact⟨_,_,_,_,_,_,_,T,Rr,rfl,HF.o.2.2.1,ft.o,htz,HF.o.2.2.2.2⟩|exact⟨_,_,_,_,_,_,_,rfl,T,Rr,HF.o.2.2.1,ft.o,htz,HF.o.2.2.2.2⟩)
   ·skip
    go_simp
    try rw[eY]
    refine hK.out _ _ (λ_=>P6) (λ_=>?_);clear hK K
    try simp only[gX]
    refine Lt.sp (i:=9) (λK hK=>?_);go_simp;refine hK.out _ _ (λ_=>P6) (λ_=>?_);clear hK K 
    try simp only[gX]
    refine Lt.ti (i:=11) (v:=?_) P6 ?_ ?_;rotate_left 1
    ·rintro w ⟨sA,sB,sC⟩
     go_simp
     first|done|with_reducible rfl
    simp only[gX];refine Lt.done (by kernel_rfl) ?_ _;obtain⟨a0,a1,a2⟩:=Ab HF.o.1;go_wp2;exact bR (v:=.tuple #[.agg #[.int .i64 m,.slice (some ⟨b1,0,none⟩) t1 t2,.slice qa q1 q2],.string tz]) (by simp[results,Tryz.results4,go_sem,a0,a1,a2]) rfl (by first|exact⟨_,_,_,_,_,_,_,T,Rr,_,rfl,HF.o.2.2.1,ft.o,htz,HF.o.2.2.2.2⟩|exact⟨_,_,_,_,_,_,_,T,Rr,rfl,HF.o.2.2.1,ft.o,htz,HF.o.2.2.2.2⟩|exact⟨_,_,_,_,_,_,_,rfl,T,Rr,HF.o.2.2.1,ft.o,htz,HF.o.2.2.2.2⟩)
  ·have hyI:((y:Int) == 0)=false:=by simp;omega
   go_wp2_with fail;refine(HP.o.rd.pick (by omega) 12 (by omega) (by omega)).mono ?_;rintro e w4 ⟨y2,rfl,I7,az,am⟩;replace HP:=Ad (HP.o.gb (by omega) (by omega) az am);clear az am
   by_cases hy3:y2=0
   ·subst hy3
    go_wp2_with fail;refine Lt.begin 99 (λw'=>w'.cell? ⟨g5,0,none⟩=some (.int .i64 m)∧w'.cell? ⟨g5,1,none⟩=some (.slice xa t1 t2)∧w'.cell? ⟨g5,2,none⟩=some (.slice qa q1 q2)) (by kernel_rfl) ?_;obtain⟨wD,eD⟩:∃y,w4.drew=y:=⟨_,rfl⟩;rw[eD];(have ao:Below w4.heap.size w4 wD:=by rw[←eD];exact(Below.refl _ _).drew);clear eD;replace HP:=Ad (HP.o.bl E4 ao);clear ao;have aw:wD.cell? ⟨g5,0,none⟩=some (.int .i64 m)∧wD.cell? ⟨g5,1,none⟩=some (.slice xa t1 t2)∧wD.cell? ⟨g5,2,none⟩=some (.slice qa q1 q2):=Ab HP.o.k5;change K 0 _
    iterate 2
     refine Lt.ti (v:=?_) aw ?_ ?_;rotate_left 1
     ·rintro w ⟨sA,sB,sC⟩
      go_simp
      first|done|with_reducible rfl
     simp only[gX]
    refine Lt.sp (i:=2) (λK hK=>?_);go_simp;refine(HP.o.rd.pick (by omega) 2 (by omega) (by omega)).mono ?_;rintro e w5 ⟨z,rfl,hz,az,am⟩;replace HP:=Ad (HP.o.gb (by omega) (by omega) az am);have bj:w5.cell? ⟨g5,0,none⟩=some (.int .i64 m)∧w5.cell? ⟨g5,1,none⟩=some (.slice xa t1 t2)∧w5.cell? ⟨g5,2,none⟩=some (.slice qa q1 q2):=Ab HP.o.k5;refine hK.out _ _ (λ_=>bj) (λ_=>?_);clear hK K az am
    try simp only[gX]
    obtain⟨k5,ek5⟩:∃k:Nat,k=2002+z:=⟨_,rfl⟩;(have jt:k5≤2003:=by omega);(have D7:(2002:Int)+(z:Int)=(k5:Int):=by omega);have we:IntKind.wrap .i64 (k5:Int)=(k5:Int):=Pj (by omega);clear ek5;refine Lt.ti (i:=3) (v:=?_) bj ?_ ?_;rotate_left 1
    ·rintro w ⟨sA,sB,sC⟩
     go_simp
     first|done|with_reducible rfl
    simp only[gX];refine Lt.sp (i:=4) (λK hK=>?_);go_simp;refine(Ha ⟨#[120]⟩ k5 _ (by decide) (by omega)).mono ?_;rintro e wM ⟨r,rfl,hr,rfl⟩;refine hK.out _ _ (λ_=>bj) (λ_=>?_);clear hK K 
    try simp only[gX]
    (have T5:r.size≤60000:=by have e1:(⟨#[120]⟩:ByteArray).size=1:=rfl;rw[e1]at hr;omega);obtain⟨AL,eY⟩:∃y,((wM.setCell ⟨w.heap.size,0,none⟩ (.int .i64 m)).setCell ⟨w.heap.size,1,none⟩ (.slice xa t1 t2)).setCell ⟨w.heap.size,2,none⟩ (.slice qa q1 q2)=y:=⟨_,rfl⟩;have HF:=Ad (HP.o.fin (by omega) ir.o (by omega) AL eY);obtain⟨u0,u1,u2⟩:=Ab HP.o.k2;have uf:=(λj=>fH HP.o.k2 j);have P6:AL.cell? ⟨g5,0,none⟩=some (.int .i64 m)∧AL.cell? ⟨g5,1,none⟩=some (.slice xa t1 t2)∧AL.cell? ⟨g5,2,none⟩=some (.slice qa q1 q2):=Ab HF.o.2.1;refine Lt.sp (i:=5) (λK hK=>?_);go_simp
    try rw[eY]
    refine hK.out _ _ (λ_=>P6) (λ_=>?_);clear hK K
    try simp only[gX]
    refine Lt.ti (i:=6) (v:=?_) P6 ?_ ?_;rotate_left 1
    ·rintro w ⟨sA,sB,sC⟩
     go_simp
     first|done|with_reducible rfl
    simp only[gX];refine Lt.done (by kernel_rfl) ?_ _;obtain⟨a0,a1,a2⟩:=Ab HF.o.1;go_wp2;exact bR (v:=.tuple #[.agg #[.int .i64 m,.slice xa t1 t2,.slice qa q1 q2],.string r]) (by simp[results,Tryz.results4,go_sem,a0,a1,a2]) rfl (by first|exact⟨_,_,_,_,_,_,_,T,Rr,_,rfl,HF.o.2.2.1,ft.o,T5,HF.o.2.2.2.2⟩|exact⟨_,_,_,_,_,_,_,T,Rr,rfl,HF.o.2.2.1,ft.o,T5,HF.o.2.2.2.2⟩|exact⟨_,_,_,_,_,_,_,rfl,T,Rr,HF.o.2.2.1,ft.o,T5,HF.o.2.2.2.2⟩)
   ·have hy3I:((y2:Int) == 0)=false:=by simp;omega
    go_wp2_with fail;refine Lt.begin 99 (λw'=>w'.cell? ⟨g5,0,none⟩=some (.int .i64 m)∧w'.cell? ⟨g5,1,none⟩=some (.slice xa t1 t2)∧w'.cell? ⟨g5,2,none⟩=some (.slice qa q1 q2)) (by kernel_rfl) ?_;obtain⟨wD,eD⟩:∃y,w4.drew=y:=⟨_,rfl⟩;rw[eD];(have ao:Below w4.heap.size w4 wD:=by rw[←eD];exact(Below.refl _ _).drew);clear eD;replace HP:=Ad (HP.o.bl E4 ao);clear ao;have aw:wD.cell? ⟨g5,0,none⟩=some (.int .i64 m)∧wD.cell? ⟨g5,1,none⟩=some (.slice xa t1 t2)∧wD.cell? ⟨g5,2,none⟩=some (.slice qa q1 q2):=Ab HP.o.k5;change K 0 _
    iterate 2
     refine Lt.ti (v:=?_) aw ?_ ?_;rotate_left 1
     ·rintro w ⟨sA,sB,sC⟩
      go_simp
      first|done|with_reducible rfl
     simp only[gX]
    refine Lt.ti (i:=3) (v:=?_) aw ?_ ?_;rotate_left 1
    ·rintro w ⟨sA,sB,sC⟩
     go_simp
     first|done|with_reducible rfl
    simp only[gX];refine Lt.sp (i:=2) (λK hK=>?_);go_simp;refine(HP.o.rd.text E4 (by omega)).mono ?_;rintro e w5 ⟨x1,rfl,hx1,az,am⟩;replace HP:=Ad (HP.o.gb (by omega) (by omega) az am);have bj:w5.cell? ⟨g5,0,none⟩=some (.int .i64 m)∧w5.cell? ⟨g5,1,none⟩=some (.slice xa t1 t2)∧w5.cell? ⟨g5,2,none⟩=some (.slice qa q1 q2):=Ab HP.o.k5;refine hK.out _ _ (λ_=>bj) (λ_=>?_);clear hK K az am
    try simp only[gX]
    refine Lt.sp (i:=4) (λK hK=>?_);go_simp;refine(HP.o.rd.text E4 (by omega)).mono ?_;rintro e w6 ⟨x2,rfl,hx2,az,am⟩;replace HP:=Ad (HP.o.gb (by omega) (by omega) az am);have cz:w6.cell? ⟨g5,0,none⟩=some (.int .i64 m)∧w6.cell? ⟨g5,1,none⟩=some (.slice xa t1 t2)∧w6.cell? ⟨g5,2,none⟩=some (.slice qa q1 q2):=Ab HP.o.k5;refine hK.out _ _ (λ_=>cz) (λ_=>?_);clear hK K az am
    try simp only[gX]
    (have hx9:¬ 9223372036854775807<x1.size+x2.size:=by omega);(have hxx:(x1++x2).size≤60000:=by rw[ByteArray.size_append];omega);refine Lt.ti (i:=5) (v:=?_) cz ?_ ?_;rotate_left 1
    ·rintro w ⟨sA,sB,sC⟩
     go_simp
     first|done|with_reducible rfl
    simp only[gX];generalize x1++x2=xx at hxx ⊢;obtain⟨AL,eY⟩:∃y,((w6.setCell ⟨w.heap.size,0,none⟩ (.int .i64 m)).setCell ⟨w.heap.size,1,none⟩ (.slice xa t1 t2)).setCell ⟨w.heap.size,2,none⟩ (.slice qa q1 q2)=y:=⟨_,rfl⟩;have HF:=Ad (HP.o.fin (by omega) ir.o (by omega) AL eY);obtain⟨u0,u1,u2⟩:=Ab HP.o.k2;have uf:=(λj=>fH HP.o.k2 j);have P6:AL.cell? ⟨g5,0,none⟩=some (.int .i64 m)∧AL.cell? ⟨g5,1,none⟩=some (.slice xa t1 t2)∧AL.cell? ⟨g5,2,none⟩=some (.slice qa q1 q2):=Ab HF.o.2.1;refine Lt.sp (i:=6) (λK hK=>?_);go_simp
    try rw[eY]
    refine hK.out _ _ (λ_=>P6) (λ_=>?_);clear hK K
    try simp only[gX]
    refine Lt.ti (i:=7) (v:=?_) P6 ?_ ?_;rotate_left 1
    ·rintro w ⟨sA,sB,sC⟩
     go_simp
     first|done|with_reducible rfl
    simp only[gX];refine Lt.done (by kernel_rfl) ?_ _;obtain⟨a0,a1,a2⟩:=Ab HF.o.1;go_wp2;exact bR (v:=.tuple #[.agg #[.int .i64 m,.slice xa t1 t2,.slice qa q1 q2],.string xx]) (by simp[results,Tryz.results4,go_sem,a0,a1,a2]) rfl (by first|exact⟨_,_,_,_,_,_,_,T,Rr,_,rfl,HF.o.2.2.1,ft.o,hxx,HF.o.2.2.2.2⟩|exact⟨_,_,_,_,_,_,_,T,Rr,rfl,HF.o.2.2.1,ft.o,hxx,HF.o.2.2.2.2⟩|exact⟨_,_,_,_,_,_,_,rfl,T,Rr,HF.o.2.2.1,ft.o,hxx,HF.o.2.2.2.2⟩)
 ·go_wp2_with fail
  clear s0 s1 s2;refine(HP.o.rd.pick (by omega) 12 (by omega) (by omega)).mono ?_;rintro e w4 ⟨y2,rfl,I7,az,am⟩;replace HP:=Ad (HP.o.gb (by omega) (by omega) az am);clear az am
  by_cases hy3:y2=0
  ·subst hy3
   go_wp2_with fail;refine Lt.begin 99 (λw'=>w'.cell? ⟨g5,0,none⟩=some (.int .i64 m)∧w'.cell? ⟨g5,1,none⟩=some (.slice xa t1 t2)∧w'.cell? ⟨g5,2,none⟩=some (.slice qa q1 q2)) (by kernel_rfl) ?_;obtain⟨wD,eD⟩:∃y,w4.drew=y:=⟨_,rfl⟩;rw[eD];(have ao:Below w4.heap.size w4 wD:=by rw[←eD];exact(Below.refl _ _).drew);clear eD;replace HP:=Ad (HP.o.bl E4 ao);clear ao;have aw:wD.cell? ⟨g5,0,none⟩=some (.int .i64 m)∧wD.cell? ⟨g5,1,none⟩=some (.slice xa t1 t2)∧wD.cell? ⟨g5,2,none⟩=some (.slice qa q1 q2):=Ab HP.o.k5;change K 0 _
   iterate 2
    refine Lt.ti (v:=?_) aw ?_ ?_;rotate_left 1
    ·rintro w ⟨sA,sB,sC⟩
     go_simp
     first|done|with_reducible rfl
    simp only[gX]
   refine Lt.sp (i:=2) (λK hK=>?_);go_simp;refine(HP.o.rd.pick (by omega) 2 (by omega) (by omega)).mono ?_;rintro e w5 ⟨z,rfl,hz,az,am⟩;replace HP:=Ad (HP.o.gb (by omega) (by omega) az am);have bj:w5.cell? ⟨g5,0,none⟩=some (.int .i64 m)∧w5.cell? ⟨g5,1,none⟩=some (.slice xa t1 t2)∧w5.cell? ⟨g5,2,none⟩=some (.slice qa q1 q2):=Ab HP.o.k5;refine hK.out _ _ (λ_=>bj) (λ_=>?_);clear hK K az am
   try simp only[gX]
   obtain⟨k5,ek5⟩:∃k:Nat,k=2002+z:=⟨_,rfl⟩;(have jt:k5≤2003:=by omega);(have D7:(2002:Int)+(z:Int)=(k5:Int):=by omega);have we:IntKind.wrap .i64 (k5:Int)=(k5:Int):=Pj (by omega);clear ek5;refine Lt.ti (i:=3) (v:=?_) bj ?_ ?_;rotate_left 1
   ·rintro w ⟨sA,sB,sC⟩
    go_simp
    first|done|with_reducible rfl
   simp only[gX];refine Lt.sp (i:=4) (λK hK=>?_);go_simp;refine(Ha ⟨#[120]⟩ k5 _ (by decide) (by omega)).mono ?_;rintro e wM ⟨r,rfl,hr,rfl⟩;refine hK.out _ _ (λ_=>bj) (λ_=>?_);clear hK K 
   try simp only[gX]
   (have T5:r.size≤60000:=by have e1:(⟨#[120]⟩:ByteArray).size=1:=rfl;rw[e1]at hr;omega);obtain⟨AL,eY⟩:∃y,((wM.setCell ⟨w.heap.size,0,none⟩ (.int .i64 m)).setCell ⟨w.heap.size,1,none⟩ (.slice xa t1 t2)).setCell ⟨w.heap.size,2,none⟩ (.slice qa q1 q2)=y:=⟨_,rfl⟩;have HF:=Ad (HP.o.fin (by omega) ir.o (by omega) AL eY);obtain⟨u0,u1,u2⟩:=Ab HP.o.k2;have uf:=(λj=>fH HP.o.k2 j);have P6:AL.cell? ⟨g5,0,none⟩=some (.int .i64 m)∧AL.cell? ⟨g5,1,none⟩=some (.slice xa t1 t2)∧AL.cell? ⟨g5,2,none⟩=some (.slice qa q1 q2):=Ab HF.o.2.1;refine Lt.sp (i:=5) (λK hK=>?_);go_simp
   try rw[eY]
   refine hK.out _ _ (λ_=>P6) (λ_=>?_);clear hK K
   try simp only[gX]
   refine Lt.ti (i:=6) (v:=?_) P6 ?_ ?_;rotate_left 1
   ·rintro w ⟨sA,sB,sC⟩
    go_simp
    first|done|with_reducible rfl
   simp only[gX];refine Lt.done (by kernel_rfl) ?_ _;obtain⟨a0,a1,a2⟩:=Ab HF.o.1;go_wp2;exact bR (v:=.tuple #[.agg #[.int .i64 m,.slice xa t1 t2,.slice qa q1 q2],.string r]) (by simp[results,Tryz.results4,go_sem,a0,a1,a2]) rfl (by first|exact⟨_,_,_,_,_,_,_,T,Rr,_,rfl,HF.o.2.2.1,ft.o,T5,HF.o.2.2.2.2⟩|exact⟨_,_,_,_,_,_,_,T,Rr,rfl,HF.o.2.2.1,ft.o,T5,HF.o.2.2.2.2⟩|exact⟨_,_,_,_,_,_,_,rfl,T,Rr,HF.o.2.2.1,ft.o,T5,HF.o.2.2.2.2⟩)
  ·have hy3I:((y2:Int) == 0)=false:=by simp;omega
   go_wp2_with fail;refine Lt.begin 99 (λw'=>w'.cell? ⟨g5,0,none⟩=some (.int .i64 m)∧w'.cell? ⟨g5,1,none⟩=some (.slice xa t1 t2)∧w'.cell? ⟨g5,2,none⟩=some (.slice qa q1 q2)) (by kernel_rfl) ?_;obtain⟨wD,eD⟩:∃y,w4.drew=y:=⟨_,rfl⟩;rw[eD];(have ao:Below w4.heap.size w4 wD:=by rw[←eD];exact(Below.refl _ _).drew);clear eD;replace HP:=Ad (HP.o.bl E4 ao);clear ao;have aw:wD.cell? ⟨g5,0,none⟩=some (.int .i64 m)∧wD.cell? ⟨g5,1,none⟩=some (.slice xa t1 t2)∧wD.cell? ⟨g5,2,none⟩=some (.slice qa q1 q2):=Ab HP.o.k5;change K 0 _
   iterate 2
    refine Lt.ti (v:=?_) aw ?_ ?_;rotate_left 1
    ·rintro w ⟨sA,sB,sC⟩
     go_simp
     first|done|with_reducible rfl
    simp only[gX]
   refine Lt.ti (i:=3) (v:=?_) aw ?_ ?_;rotate_left 1
   ·rintro w ⟨sA,sB,sC⟩
    go_simp
    first|done|with_reducible rfl
   simp only[gX];refine Lt.sp (i:=2) (λK hK=>?_);go_simp;refine(HP.o.rd.text E4 (by omega)).mono ?_;rintro e w5 ⟨x1,rfl,hx1,az,am⟩;replace HP:=Ad (HP.o.gb (by omega) (by omega) az am);have bj:w5.cell? ⟨g5,0,none⟩=some (.int .i64 m)∧w5.cell? ⟨g5,1,none⟩=some (.slice xa t1 t2)∧w5.cell? ⟨g5,2,none⟩=some (.slice qa q1 q2):=Ab HP.o.k5;refine hK.out _ _ (λ_=>bj) (λ_=>?_);clear hK K az am
   try simp only[gX]
   refine Lt.sp (i:=4) (λK hK=>?_);go_simp;refine(HP.o.rd.text E4 (by omega)).mono ?_;rintro e w6 ⟨x2,rfl,hx2,az,am⟩;replace HP:=Ad (HP.o.gb (by omega) (by omega) az am);have cz:w6.cell? ⟨g5,0,none⟩=some (.int .i64 m)∧w6.cell? ⟨g5,1,none⟩=some (.slice xa t1 t2)∧w6.cell? ⟨g5,2,none⟩=some (.slice qa q1 q2):=Ab HP.o.k5;refine hK.out _ _ (λ_=>cz) (λ_=>?_);clear hK K az am
   try simp only[gX]
   (have hx9:¬ 9223372036854775807<x1.size+x2.size:=by omega);(have hxx:(x1++x2).size≤60000:=by rw[ByteArray.size_append];omega);refine Lt.ti (i:=5) (v:=?_) cz ?_ ?_;rotate_left 1
   ·rintro w ⟨sA,sB,sC⟩
    go_simp
    first|done|with_reducible rfl
   simp only[gX];generalize x1++x2=xx at hxx ⊢;obtain⟨AL,eY⟩:∃y,((w6.setCell ⟨w.heap.size,0,none⟩ (.int .i64 m)).setCell ⟨w.heap.size,1,none⟩ (.slice xa t1 t2)).setCell ⟨w.heap.size,2,none⟩ (.slice qa q1 q2)=y:=⟨_,rfl⟩;have HF:=Ad (HP.o.fin (by omega) ir.o (by omega) AL eY);obtain⟨u0,u1,u2⟩:=Ab HP.o.k2;have uf:=(λj=>fH HP.o.k2 j);have P6:AL.cell? ⟨g5,0,none⟩=some (.int .i64 m)∧AL.cell? ⟨g5,1,none⟩=some (.slice xa t1 t2)∧AL.cell? ⟨g5,2,none⟩=some (.slice qa q1 q2):=Ab HF.o.2.1;refine Lt.sp (i:=6) (λK hK=>?_);go_simp
   try rw[eY]
   refine hK.out _ _ (λ_=>P6) (λ_=>?_);clear hK K
   try simp only[gX]
   refine Lt.ti (i:=7) (v:=?_) P6 ?_ ?_;rotate_left 1
   ·rintro w ⟨sA,sB,sC⟩
    go_simp
    first|done|with_reducible rfl
   simp only[gX];refine Lt.done (by kernel_rfl) ?_ _;obtain⟨a0,a1,a2⟩:=Ab HF.o.1;go_wp2;exact bR (v:=.tuple #[.agg #[.int .i64 m,.slice xa t1 t2,.slice qa q1 q2],.string xx]) (by simp[results,Tryz.results4,go_sem,a0,a1,a2]) rfl (by first|exact⟨_,_,_,_,_,_,_,T,Rr,_,rfl,HF.o.2.2.1,ft.o,hxx,HF.o.2.2.2.2⟩|exact⟨_,_,_,_,_,_,_,T,Rr,rfl,HF.o.2.2.1,ft.o,hxx,HF.o.2.2.2.2⟩|exact⟨_,_,_,_,_,_,_,rfl,T,Rr,HF.o.2.2.1,ft.o,hxx,HF.o.2.2.2.2⟩)
theorem Pi.tx{w0 w:E}{n g5 gt gp cp:X}{TX T0 P T:L By}{wv tv qv:Z}{R:L T3}(h:Pi w0 n g5 gt TX T0 wv w gp cp P tv qv T R)(hi:i<8):w.cell? ⟨gt,i,N⟩=M (S (nx TX i)):=by
 have hl:TX.length=8:=by have:=h.txs.1;unfold Ar at this;simpa using this
 obtain⟨b,q,c⟩:=Bi h.txs (Ke (i:=i) qg);cases q;exact c
structure FqI (w0:E) (n g5:X) (w:E) (gp cp:X) (P:L By) (tv qv:Z) (T:L By) (R:L T3):Prop where
 k5:w.heap[g5]?=M (O #[I (n:Int),tv,qv] 26 (0,0))
 ds:Di w w0.heap.size tv qv T R
 ok:Cz (n:Int) T R
 put:w.ownsRow w0.heap.size 9 1 (J (p_ gp) P.length cp) P.length (Ar P)
 mp:∀x∈P,x∈T
 bel:Bw w0 w
section
variable {w0 w w':E} {n g5 gt gp cp:X} {TX T0 P T:L By} {wv tv qv:Z} {R:L T3}
theorem FqI.bl(h:FqI w0 n g5 w gp cp P tv qv T R)(hb:Bw w w'):FqI w0 n g5 w' gp cp P tv qv T R:=⟨Ac h.k5 hb,h.ds.bl hb,h.ok,Ce h.put hb,h.mp,bt h.bel hb⟩
theorem FqI.at{i:X}(h:FqI w0 n g5 w gp cp P tv qv T R)(hi:i<P.length):w.cell? ⟨gp,i,N⟩=M (S (nx P i)):=by
 obtain⟨b,q,c⟩:=Bi h.put (Ke hi);cases q;exact c
theorem Pi.fq{V5 cp':X}(h:Pi w0 n g5 gt TX T0 wv w gp cp P tv qv T R)(ho:w'.ownsRow w0.heap.size 9 1 (J (p_ V5) (P.length+T0.length) cp') (P.length+T0.length) (Ar P++Ar T0))(hg:w.grownBy w' (M gp)):FqI w0 n g5 w' V5 cp' (P++T0) tv qv T R:=by
 have ht:Ai w gp 9:=(Bh h.put (b:=gp) rfl).2;exact⟨Ao h.k5 hg (λq=>Ah h.put qh h.k5 q),h.ds.grow9 hg ht h.n1,h.ok,by rw[List.length_append,show Ar (P++T0)=Ar P++Ar T0 from qbi];exact ho,λy hy=>by rcases List.mem_append.mp hy with q|q;exact h.mp y q;exact h.m0 y q,h.bel.grown hg h.bel.size (λj hj=>by cases hj;exact(h.put.lt gp rfl).1)⟩
theorem FqI.get{xa:Option Addr}{tc:X}{qa:Option Addr}{qc i:X}(h:FqI w0 n g5 w gp cp P (J xa T.length tc) (J qa R.length qc) T R)(hT:Tf w0)(hi:i<P.length):Calls prog 10 #[G #[I (n:Int),J xa T.length tc,J qa R.length qc],S (Ap n (nx P i))] w λe w'=>Bw w w'∧e=H (.tuple #[S (nx P i),.bool true]):=by
 obtain⟨xa',tc',qa',qc',e1,e2,jd⟩:=h.ds.rd h.ok.rbd
 cases e1;cases e2
 refine(Qh (n:Int) xa qa tc qc T R _ w (hT.bl h.bel) jd.st).mono ?_;rintro e w' ⟨hb,A,ok,rfl,hg⟩
 rcases hg with⟨_,hg⟩|⟨q,_⟩
 ·obtain⟨rfl,rfl⟩:=get_mem (h.ok.2.2.1.2.2) (h.mp _ (Kh hi)) hg
  exact⟨hb,rfl⟩
 ·exact absurd h.ok q
end
theorem fnPutLaw(a0:Option Addr)(l0 c0:X)(a1:Option Addr)(l1 c1:X)(w0:E)(hT:Tf w0)(ba:Qe w0 a0 l0)(si:l0≤c0)(ah:Qe w0 a1 l1)(yx:l1≤c1):Calls prog 3 #[J a0 l0 c0,J a1 l1 c1] w0 λe w'=>e=H (.bool true)∧Bw w0 w':=by
 have HT:=Ad hT
 have N7:=Ad ba
 have pg:=Ad ah
 clear hT ba ah
 by_cases hA:(1048576:Int)<(l0:Int)
 ·go_enter func3,ntmps3
  go_wp2;go_ret;exact⟨rfl,Below.refl _ _⟩
 by_cases hB:(1048576:Int)<(l1:Int)
 ·go_enter func3,ntmps3
  go_wp2;go_ret;exact⟨rfl,Below.refl _ _⟩
 have hl0:l0≤1048576:=qg
 have o6:l1≤1048576:=qg
 go_enter func3,ntmps3
 go_wp2_with fail
 refine(Pz w0 a0 l0 c0 N7.o si hl0).mono ?_
 rintro e w1 ⟨m,xa,t1,t2,qa,q1,q2,T,Rr,s,rfl,dm,i5,hs,ah⟩
 obtain⟨_,_,_,_,e1,e2,jd⟩:=dm.rd i5
 cases e1
 cases e2
 have fx:=Ad dm
 have ft:=Ad i5
 have HXS:=Ad jd.xs
 have HXN:=Ad jd.xn
 have ir:=Ad ah
 clear dm i5 jd ah N7
 obtain⟨g5,Q3⟩:=Aj w1.heap.size
 have O6:w0.heap.size≤g5:=zo ir.o.size
 obtain⟨V,eV⟩:=Aj (w1.alloc (O #[I 0,nS,nS] 26))
 have cr:Bw w1 V:=eV▸aN _ _
 have d8:Hd (V.heap[g5]?=M (O #[I 0,nS,nS] 26 (0,0))):=qfj
 obtain⟨r0,r1,r2⟩:=Ab d8.o
 have rf:=(λj=>fH d8.o j)
 obtain⟨V2,dg⟩:=Aj (((V.setCell ⟨g5,0,N⟩ (I m)).setCell ⟨g5,1,N⟩ (J xa T.length t2)).setCell ⟨g5,2,N⟩ (J qa Rr.length q2))
 have s9:Hd (Ai V g5 26):=⟨_,d8.o⟩
 replace d8:Hd (V2.heap[g5]?=M (O #[I m,J xa T.length t2,J qa Rr.length q2] 26 (0,0))):=dg▸Cv d8.o _ _ _
 replace fx:Hd (Di V2 w0.heap.size (J xa T.length t2) (J qa Rr.length q2) T Rr):=dg▸(((fx.o.bl cr).setG s9.o qh qh qh qh _).setG (s9.o.set _) qh qh qh qh _).setG ((s9.o.set _).set _) qh qh qh qh _
 replace ir:Hd (Bw w0 V2):=dg▸Eg (bt ir.o cr) O6 _ _ _
 obtain⟨p0,p1,p2⟩:=Ab d8.o
 clear s9 cr
 go_wp2_with fail
 clear eV dg r0 r1 r2 rf Q3
 have L0:Hd (Calls prog 5 #[G #[I m,J xa T.length t2,J qa Rr.length q2]] V2 λe w'=>Bw V2 w'∧∃b,e=H (.bool b)∧(b=true↔Cz m T Rr)):=by
  obtain⟨_,_,_,_,e1,e2,jd⟩:=fx.o.rd ft.o;cases e1;cases e2;exact Ei m xa qa t2 q2 T Rr V2 jd.st
 refine L0.o.mono ?_
 rintro e w2 ⟨a9,b,rfl,hbb⟩
 have yj:=Ad hbb
 replace d8:=Ad (Ac d8.o a9)
 replace fx:=Ad (fx.o.bl a9)
 replace ir:=Ad (bt ir.o a9)
 clear a9 hbb L0 p0 p1 p2
 obtain⟨p0,p1,p2⟩:=Ab d8.o
 cases b
 ·have HN:Hd (¬ Cz m T Rr):=λq=>Bool.noConfusion (yj.o.2 q)
  have M0:Hd (Calls prog 6 #[G #[I m,J xa T.length t2,J qa Rr.length q2],ze] w2 λe w'=>Bw w2 w'∧Hr w2.heap.size w' e m T Rr ⟨#[]⟩):=by
   obtain⟨_,_,_,_,e1,e2,jd⟩:=fx.o.rd ft.o;cases e1;cases e2;exact Ns m xa t2 qa q2 T Rr ⟨#[]⟩ w2 jd.xs jd.xn (HT.o.bl ir.o) jd.st jd.rw qh
  go_wp2_with fail;refine M0.o.mono ?_;rintro e w3 ⟨bh,cd,wd,T',R',A,AG,v1,v2,rfl,tr,xm,yu⟩;obtain⟨u1,u2,rfl⟩:=Ax xm.own;obtain⟨xs,cvs,lvs,yu⟩:=yu;obtain⟨u3,u4,rfl⟩:=Ax yu.row.own;clear xm yu
  have pw:cd=1:=by
   rcases tr with⟨_,q,_⟩|⟨q,_⟩
   ·exact q
   ·exact absurd q.1 HN.o
  subst pw;have Ge:=Ad (bt ir.o bh);clear tr bh;have hfd:∀(v0 v1 v2 v3 v4 v5:Z)(w:E),(Instr.field 31 (G #[v0,v1,v2,v3,v4,v5]) 0).run prog w=.ok v0 w:=λ_ _ _ _ _ _ _=>qk;go_wp2;go_ret;exact⟨rfl,Ge.o⟩
 ·have M1:=Ad (yj.o.1 rfl)
  obtain⟨n,rfl⟩:∃n:X,m=(n:Int):=⟨m.toNat,by have:=M1.o.1;omega⟩;have pp:1≤n:=zo M1.o.1;have ul:n≤8:=zo M1.o.2.1;clear yj ft;go_wp2_with fail;clear p0 p1 p2;refine(Pz w2 a1 l1 c1 (bytesB pg.o ir.o) yx o6).mono ?_;rintro e w3 ⟨m2,ya,y1,y2,za,z1,z2,Ty,Ry,s2,rfl,_,_,fl,bh⟩;replace d8:=Ad (Ac d8.o bh);replace fx:=Ad (fx.o.bl bh);replace ir:=Ad (bt ir.o bh);have h5l:=An d8.o;clear bh pg;obtain⟨g8,B3⟩:=Aj w3.heap.size;obtain⟨V,eV⟩:=Aj (w3.alloc (O #[I 0,nS,nS] 26));have cr:Bw w3 V:=eV▸aN _ _;have HK8:Hd (V.heap[g8]?=M (O #[I 0,nS,nS] 26 (0,0))):=by show _=_;rw[←eV,←B3];exact Am _ _
  obtain⟨r0,r1,r2⟩:=Ab HK8.o;have rf:=(λj=>fH HK8.o j);obtain⟨V2,dg⟩:=Aj (((V.setCell ⟨g8,0,N⟩ (I m2)).setCell ⟨g8,1,N⟩ (J ya y1 y2)).setCell ⟨g8,2,N⟩ (J za z1 z2));have fi:Bw w3 V2:=dg▸Eg cr qg _ _ _;obtain⟨x3,e3⟩:=Aj (s2++(⟨#[97]⟩:By));obtain⟨x4,e4⟩:=Aj (s2++(⟨#[98]⟩:By));obtain⟨x5,e5⟩:=Aj (s2++(⟨#[97,98]⟩:By));obtain⟨x6,e6⟩:=Aj ((⟨#[48,58]⟩:By)++s2);have HX3:Hd (x3.size≤70000):=by show _≤_;rw[←e3,ByteArray.size_append];show s2.size+1≤70000;omega
  have HX4:Hd (x4.size≤70000):=by show _≤_;rw[←e4,ByteArray.size_append];show s2.size+1≤70000;omega
  have HX5:Hd (x5.size≤70000):=by show _≤_;rw[←e5,ByteArray.size_append];show s2.size+2≤70000;omega
  have HX6:Hd (x6.size≤70000):=by show _≤_;rw[←e6,ByteArray.size_append];show 2+s2.size≤70000;omega
  have bg:¬ 9223372036854775807<s2.size+1:=qg;have bi:¬ 9223372036854775807<s2.size+2:=qg;have hz3:¬ 9223372036854775807<2+s2.size:=qg;obtain⟨gt,egt⟩:=Aj V2.heap.size;obtain⟨V3,sj⟩:=Aj (V2.alloc (O #[S s2,S ⟨#[48,58]⟩,S ⟨#[49,58]⟩,S x3,S x4,S x5,S x6,S ⟨#[120]⟩] 9));obtain⟨gp,egp⟩:=Aj V3.heap.size;obtain⟨V4,eV4⟩:=Aj (V3.alloc (O #[] 9))
  have HTXS:Hd (∀x∈[s2,⟨#[48,58]⟩,⟨#[49,58]⟩,x3,x4,x5,x6,⟨#[120]⟩],x.size≤1048576):=by
   intro x hx;simp only[List.mem_cons,List.mem_nil_iff,or_false]at hx
   rcases hx with rfl|rfl|rfl|rfl|rfl|rfl|rfl|rfl
   ·omega
   ·decide
   ·decide
   ·have:=HX3.o;omega
   ·have:=HX4.o;omega
   ·have:=HX5.o;omega
   ·have:=HX6.o;omega
   ·decide
  have HF:Hd (Pi w0 n g5 gt [s2,⟨#[48,58]⟩,⟨#[49,58]⟩,x3,x4,x5,x6,⟨#[120]⟩] T (J xa T.length t2) V4 gp 0 [] (J xa T.length t2) (J qa Rr.length q2) T Rr):=by
   have hb43:Bw V3 V4:=eV4▸aN _ _;have hb32:Bw V2 V3:=sj▸aN _ _;have bx:Bw w3 V4:=bt (bt fi hb32) hb43;(have hgt0:V3.heap[gt]?=M (O #[S s2,S ⟨#[48,58]⟩,S ⟨#[49,58]⟩,S x3,S x4,S x5,S x6,S ⟨#[120]⟩] 9 (0,0)):=by rw[←sj,←egt];exact Am _ _);have hgt:gt<gp:=zo (An hgt0);have h3t:w3.heap.size≤gt:=zo fi.size;have dm:=fx.o.bl bx;(have hnp:∀b,(Value.slice xa T.length t2).ownBlock=M b→b≠gp:=λb hb q=>by have:=(fx.o.txt.lt b hb).2;omega);refine⟨Ac d8.o bx,dm,M1.o,⟨rfl,Or.inr ⟨gp,0,#[],rfl,by have:=ir.o.size;omega,by rw[←eV4,←egp];exact Am _ _,Nat.le_refl _,Nat.zero_le _,rfl,rfl⟩⟩,Ce (W:=V3) ⟨rfl,Or.inr ⟨gt,8,_,rfl,by have:=ir.o.size;omega,by rw[←sj,←egt];exact Am _ _,Nat.le_refl _,qn,rfl,rfl⟩⟩ hb43,dm.txt,λq=>hnp gp q rfl,qg,λq=>hnp gp q rfl,λx hx=>absurd hx qi,λx hx=>hx,bt ir.o bx⟩
  clear d8 fx ir M1 HK8 cr fi HX3 HX4 HX5 HX6;go_wp2_with fail;clear eV dg sj eV4 B3 egt egp e3 e4 e5 e6 bg bi hz3 r0 r1 r2 rf;generalize [s2,⟨#[48,58]⟩,⟨#[49,58]⟩,x3,x4,x5,x6,⟨#[120]⟩]=TX at HF HTXS;have HT5K:Hd (T.length≤5000):=HF.o.ok.2.2.1.1;obtain⟨T0,eT0⟩:=Aj T;rw[eT0]at HF HT5K HXN ⊢;clear eT0
  go_loopw [11,12] (λpv i wr=>∃(iN gp cp:X)(P:L By)(tv qv:Z)(T:L By)(R:L T3),iN≤8∧Hd (P.length≤iN)∧pv=J (p_ gp) P.length cp∧i=I iN∧Hd (Pi w0 n g5 gt TX T0 (J xa T0.length t2) wr gp cp P tv qv T R)) (λ_ i _=>8-(intOf i).toNat)
  case atStart=>exact⟨0,gp,0,[],_,_,_,_,qg,Nat.le_refl _,rfl,rfl,HF⟩
  case round=>
   clear HF;obtain⟨iN,gp,cp,P,tv,qv,T1,R1,hiN,pe,rfl,rfl,HF⟩:=hrel
   by_cases au:iN<8
   ·have um:(iN:Int)<8:=qg
    have O5:(0:Int)≤(iN:Int):=qg;obtain⟨ua,uc,va,vc,rfl,rfl⟩:=HF.o.sl;have hx:(nx TX iN).size≤1048576:=HTXS.o _ (Kh (by have:=HF.o.txs.1;unfold Ar at this;simp at this;omega));go_wp2_with fail;refine Lt.begin 7 (λw'=>w'.cell? ⟨g5,0,N⟩=M (I (n:Int))∧w'.cell? ⟨g5,1,N⟩=M (J ua T1.length uc)∧w'.cell? ⟨g5,2,N⟩=M (J va R1.length vc)∧w'.cell? ⟨gt,iN,N⟩=M (S (nx TX iN))) qk ?_;obtain⟨wD,eD⟩:=Aj wr.drew;rw[eD];have ao:Bw wr wD:=qq;clear eD;replace HF:=Ad (HF.o.bl ao);clear ao;have bj:wD.cell? ⟨g5,0,N⟩=M (I (n:Int))∧wD.cell? ⟨g5,1,N⟩=M (J ua T1.length uc)∧wD.cell? ⟨g5,2,N⟩=M (J va R1.length vc)∧wD.cell? ⟨gt,iN,N⟩=M (S (nx TX iN)):=⟨(Ab HF.o.k5).1,(Ab HF.o.k5).2.1,(Ab HF.o.k5).2.2,HF.o.tx au⟩;change K 0 _
    iterate 5
     refine Lt.ti (v:=?_) bj ?_ ?_;rotate_left 1
     ·exact qcm
     simp only[gX]
    refine Lt.two (i:=5) (j:=6) (oi:={ dst:=M 67,op:=Op.call { callee:=Callee.value (Operand.func 6),args:=#[Operand.tmp 62,Operand.tmp 66],argTypes:=#[26,9] },type:=31,pos := "laws.go:712",after:=#[{ on:=0,ground:=Ground.data },{ on:=4,ground:=Ground.data }],guard:=N }) (oj:={ dst:=M 13,op:=Op.alloc 31,type:=0,pos := "laws.go:712",after:=#[],guard:=N }) qk rfl rfl (λK hK=>?_) (λK hK=>?_)
    ·skip
     go_simp;refine(HF.o.impl HT.o hx).mono ?_;rintro e w5 ⟨cw,cd1,wd1,T1k,R1k,A1,E1,a11,Z1,c11,a21,Z0,wt,rfl,hk,hd,aq⟩;replace HF:=Ad (HF.o.bl cw);have ru:=Ad hk;have jf:=Ad hd;have HNE1:=Ad aq;have cz:w5.cell? ⟨g5,0,N⟩=M (I (n:Int))∧w5.cell? ⟨g5,1,N⟩=M (J ua T1.length uc)∧w5.cell? ⟨g5,2,N⟩=M (J va R1.length vc)∧w5.cell? ⟨gt,iN,N⟩=M (S (nx TX iN)):=⟨(Ab HF.o.k5).1,(Ab HF.o.k5).2.1,(Ab HF.o.k5).2.2,HF.o.tx au⟩;refine hK.out _ _ (λ_=>cz) (λ_=>?_);clear hK K cw hk hd aq
     try simp only[gX]
     refine Lt.sp (i:=6) (λK hK=>?_);go_simp;obtain⟨ol,nu⟩:=Aj w5.heap.size;obtain⟨kw,eV⟩:=Aj (w5.alloc (O #[I 0,I 0,nS,nS,ze,ze] 31));have cr:Bw w5 kw:=eV▸aN _ _;have f8:Hd (kw.heap[ol]?=M (O #[I 0,I 0,nS,nS,ze,ze] 31 (0,0))):=qau;have hg13:w0.heap.size≤ol:=zo HF.o.bel.size;replace HF:=Ad (HF.o.bl cr);replace jf:=Ad (jf.o.bl cr)
     try rw[eV]
     have o9:kw.cell? ⟨g5,0,N⟩=M (I (n:Int))∧kw.cell? ⟨g5,1,N⟩=M (J ua T1.length uc)∧kw.cell? ⟨g5,2,N⟩=M (J va R1.length vc)∧kw.cell? ⟨gt,iN,N⟩=M (S (nx TX iN)):=⟨(Ab HF.o.k5).1,(Ab HF.o.k5).2.1,(Ab HF.o.k5).2.2,HF.o.tx au⟩;refine hK.out _ _ (λ_=>o9) (λ_=>?_)
     try rw[nu]
     clear hK K eV nu cr
     try simp only[gX]
     have n6:Hd (Ai kw ol 31):=⟨_,f8.o⟩;obtain⟨wK1,dg⟩:=Aj (((((((kw.setCell ⟨ol,0,N⟩ (I cd1)).setCell ⟨ol,1,N⟩ (I wd1)).setCell ⟨ol,2,N⟩ (J a11 Z1 c11)).setCell ⟨ol,3,N⟩ (J a21 Z0 wt)).setCell ⟨ol,4,N⟩ (S A1)).setCell ⟨ol,5,N⟩ (S E1)));exact qgg
    ·skip
     go_simp;obtain⟨ol,nu⟩:=Aj wD.heap.size;obtain⟨kw,eV⟩:=Aj (wD.alloc (O #[I 0,I 0,nS,nS,ze,ze] 31));have cr:Bw wD kw:=eV▸aN _ _;have f8:Hd (kw.heap[ol]?=M (O #[I 0,I 0,nS,nS,ze,ze] 31 (0,0))):=qau;have hg13:w0.heap.size≤ol:=zo HF.o.bel.size;replace HF:=Ad (HF.o.bl cr)
     try rw[eV]
     have gj:kw.cell? ⟨g5,0,N⟩=M (I (n:Int))∧kw.cell? ⟨g5,1,N⟩=M (J ua T1.length uc)∧kw.cell? ⟨g5,2,N⟩=M (J va R1.length vc)∧kw.cell? ⟨gt,iN,N⟩=M (S (nx TX iN)):=⟨(Ab HF.o.k5).1,(Ab HF.o.k5).2.1,(Ab HF.o.k5).2.2,HF.o.tx au⟩;refine hK.out _ _ (λ_=>gj) (λ_=>?_)
     try rw[nu]
     clear hK K eV nu cr
     try simp only[gX]
     refine Lt.sp (i:=5) (λK hK=>?_);go_simp;refine(HF.o.impl HT.o hx).mono ?_;rintro e w5 ⟨cw,cd1,wd1,T1k,R1k,A1,E1,a11,Z1,c11,a21,Z0,wt,rfl,hk,hd,aq⟩;replace HF:=Ad (HF.o.bl cw);replace f8:=Ad (Ac f8.o cw);have ru:=Ad hk;have jf:=Ad hd;have HNE1:=Ad aq;have hS5:w5.cell? ⟨g5,0,N⟩=M (I (n:Int))∧w5.cell? ⟨g5,1,N⟩=M (J ua T1.length uc)∧w5.cell? ⟨g5,2,N⟩=M (J va R1.length vc)∧w5.cell? ⟨gt,iN,N⟩=M (S (nx TX iN)):=⟨(Ab HF.o.k5).1,(Ab HF.o.k5).2.1,(Ab HF.o.k5).2.2,HF.o.tx au⟩;refine hK.out _ _ (λ_=>hS5) (λ_=>?_);clear hK K cw hk hd aq
     try simp only[gX]
     have n6:Hd (Ai w5 ol 31):=⟨_,f8.o⟩;obtain⟨wK1,dg⟩:=Aj (((((((w5.setCell ⟨ol,0,N⟩ (I cd1)).setCell ⟨ol,1,N⟩ (I wd1)).setCell ⟨ol,2,N⟩ (J a11 Z1 c11)).setCell ⟨ol,3,N⟩ (J a21 Z0 wt)).setCell ⟨ol,4,N⟩ (S A1)).setCell ⟨ol,5,N⟩ (S E1)));exact qgg
   ·have um:¬ (iN:Int)<8:=qg
    have HPL8:Hd (P.length≤8):=Nat.le_trans pe.o hiN;(have dy:P.length+T0.length≤1000000:=by have:=HPL8.o;have:=HT5K.o;omega);have HWS:Hd (Cs wr xa T0):=Gx HF.o.was
    go_wp2_with (first|(at_builtin;refine Pk rfl (.tmp 126) (.tmp 127) rfl w0.heap.size gp P.length cp (Ar P) rfl HF.o.put xa t2 T0 rfl HXS.o HXN.o HWS.o dy HF.o.bel.size ?_;intro gq cq w5 ak ae;have HQ:=Ad (HF.o.fq ak ae);clear ak ae))
    obtain⟨m2,em2⟩:=Aj (P.length+T0.length);(have HM2:Hd ((P++T0).length=m2):=by show _=_;rw[List.length_append];exact em2);rw[em2];have hm2:m2≤1000000:=qg;clear em2 HF HWS
    obtain⟨ua,uc,va,vc,etv,eqv⟩:∃xa tc qa qc,tv=J xa T1.length tc∧qv=J qa R1.length qc:=by
     obtain⟨xa,tc,qa,qc,e1,e2,_⟩:=HQ.o.ds.rd HQ.o.ok.rbd;exact⟨xa,tc,qa,qc,e1,e2⟩
    subst etv;subst eqv;generalize P++T0=P2 at HQ HM2
    go_loopw [15] (λi wr=>∃(iN:X),iN≤m2∧i=I iN∧Hd (FqI w0 n g5 wr gq cq P2 (J ua T1.length uc) (J va R1.length vc) T1 R1)) (λi _=>m2-(intOf i).toNat)
    case atStart=>exact⟨0,Nat.zero_le _,rfl,HQ⟩
    case round=>
     clear HQ;obtain⟨jN,hjN,rfl,HQ⟩:=hrel
     by_cases D1:jN<m2
     ·have hlt2I:(jN:Int)<(m2:Int):=qg
      have hj0:(0:Int)≤(jN:Int):=qg;have hjP:jN<P2.length:=by rw[HM2.o];exact D1
      have G2:(nx P2 jN).size≤1048576:=by
       have h1:=HQ.o.mp _ (Kh hjP);have h2:=HQ.o.ok.rbd.tx;have:=Wv h2 h1;omega
      go_wp2_with fail;refine Lt.begin 99 (λw'=>w'.cell? ⟨g5,0,N⟩=M (I (n:Int))∧w'.cell? ⟨g5,1,N⟩=M (J ua T1.length uc)∧w'.cell? ⟨g5,2,N⟩=M (J va R1.length vc)∧w'.cell? ⟨gq,jN,N⟩=M (S (nx P2 jN))) qk ?_;obtain⟨wD,eD⟩:=Aj wr.drew;rw[eD];have ao:Bw wr wD:=qq;clear eD;replace HQ:=Ad (HQ.o.bl ao);clear ao;have aw:wD.cell? ⟨g5,0,N⟩=M (I (n:Int))∧wD.cell? ⟨g5,1,N⟩=M (J ua T1.length uc)∧wD.cell? ⟨g5,2,N⟩=M (J va R1.length vc)∧wD.cell? ⟨gq,jN,N⟩=M (S (nx P2 jN)):=⟨(Ab HQ.o.k5).1,(Ab HQ.o.k5).2.1,(Ab HQ.o.k5).2.2,HQ.o.at hjP⟩;change K 0 _
      iterate 7
       refine Lt.ti (v:=?_) aw ?_ ?_;rotate_left 1
       ·exact qcm
       simp only[gX]
      refine Lt.sp (i:=7) (λK hK=>?_);go_simp;refine(Lm (nx P2 jN) n _ G2 pp ul).mono ?_;rintro e w6 ⟨rfl,cj⟩;replace HQ:=Ad (HQ.o.bl cj);have bj:w6.cell? ⟨g5,0,N⟩=M (I (n:Int))∧w6.cell? ⟨g5,1,N⟩=M (J ua T1.length uc)∧w6.cell? ⟨g5,2,N⟩=M (J va R1.length vc)∧w6.cell? ⟨gq,jN,N⟩=M (S (nx P2 jN)):=⟨(Ab HQ.o.k5).1,(Ab HQ.o.k5).2.1,(Ab HQ.o.k5).2.2,HQ.o.at hjP⟩;refine hK.out _ _ (λ_=>bj) (λ_=>?_);clear hK K cj aw
      try simp only[gX]
      refine Lt.sp (i:=8) (λK hK=>?_);go_simp;refine(HQ.o.get HT.o hjP).mono ?_;rintro e w7 ⟨bv,rfl⟩;replace HQ:=Ad (HQ.o.bl bv);have cz:w7.cell? ⟨g5,0,N⟩=M (I (n:Int))∧w7.cell? ⟨g5,1,N⟩=M (J ua T1.length uc)∧w7.cell? ⟨g5,2,N⟩=M (J va R1.length vc)∧w7.cell? ⟨gq,jN,N⟩=M (S (nx P2 jN)):=⟨(Ab HQ.o.k5).1,(Ab HQ.o.k5).2.1,(Ab HQ.o.k5).2.2,HQ.o.at hjP⟩;refine hK.out _ _ (λ_=>cz) (λ_=>?_);clear hK K bv bj
      try simp only[gX]
      change K 9 _
      iterate 5
       refine Lt.ti (v:=?_) cz ?_ ?_;rotate_left 1
       ·exact qcm
       simp only[gX]
      refine Lt.done qk ?_ _;have hqq:=Ti (rfl:nx P2 jN=nx P2 jN);have cQ:=HQ.o.at hjP;clear cz;go_wp2;go_roundw
      case rel=>exact⟨jN+1,qg,qp,HQ⟩
      case measure=>simp[intOf];omega
     ·have hlt2I:¬ (jN:Int)<(m2:Int):=qg
      go_wp2;go_ret;exact⟨rfl,HQ.o.bel⟩
end Go.Proofs.YtoihflimijabjaaGreatDoor
