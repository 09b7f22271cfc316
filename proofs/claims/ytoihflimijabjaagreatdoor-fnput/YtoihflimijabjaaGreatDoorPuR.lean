import Derived.Test.YtoihflimijabjaaGreatDoorPuD
namespace Go.Proofs.YtoihflimijabjaaGreatDoor
open _root_.Go.Proofs.Tryz Go.RowKit Go.Deep
open Value renaming slice->J,string->S,bool->F,agg->G
open Option renaming some->M,none->N
open Obj renaming cells->O
open Go renaming World->E
open Ending renaming returned->H
open _root_ renaming Nat->X
set_option linter.unusedVariables false
set_option linter.unusedSimpArgs false
set_option maxHeartbeats 8000000
set_option maxRecDepth 100000
theorem Qg(w:E)(B R:X)(a:Option Addr)(len cap p:X)(h:Rd B w R a len cap p)(hB:B<=w.heap.size)(hp:p<=90000):Calls prog 31 #[.pointer (p_ R)] w λe w'=>∃n:X,e=H (I n)/\1≤n∧n<=8/\Ba B R a len cap p 1 w w':=by
 go_enter func31,ntmps31
 go_wp2_with fail
 refine(Ju w B R a len cap p _ h qg qg qg).mono ?_
 rintro e w1 ⟨x,rfl,hx,vp,am⟩
 have HK:Hd (Ba B R a len cap p 1 w w1):=⟨am,p+1,Nat.le_refl _,vp⟩
 clear am vp h
 by_cases h2:x<2
 ·have h6I:(x:Int)<2:=qg
  go_wp2;go_ret;exact⟨1,rfl,qg,qg,HK.o⟩
 ·have h6I:¬ (x:Int)<2:=qg
  by_cases h3:x=2
  ·subst h3
   go_wp2;go_ret;exact⟨2,rfl,qg,qg,HK.o⟩
  ·have h3I:((x:Int) == 2)=false:=qj
   go_wp2;go_ret;exact⟨8,rfl,qg,qg,HK.o⟩
theorem l4Own_any(n:Int)(xa qa:Option Addr)(tc m qc:X)(T:List By)(t:By)(w:E)(hs:Cs w xa T)(hl:T.length≤1048576):Calls prog 54 #[G #[I n,J xa T.length tc,J qa m qc],S t] w λe w'=>Bw w w'∧∃b,e=H (F b):=by
 obtain⟨W,eW⟩:=Aj (w.alloc (O #[I n,J xa T.length tc,J qa m qc] 26))
 have f7:Bw w W:=eW▸aN _ _
 have c1:W.cell? ⟨w.heap.size,1,N⟩=M (J xa T.length tc):=qbf
 go_enter func54,ntmps54
 go_wp2
 go_loopw [5] (λi wr=>∃k:X,k≤T.length∧i=I k∧wr.cell? ⟨w.heap.size,1,N⟩=M (J xa T.length tc)∧Bw w wr) (λi _=>T.length-(intOf i).toNat)
 case atStart=>exact⟨0,Nat.zero_le _,rfl,c1,f7⟩
 case round=>
  clear c1 f7 eW;obtain⟨k,hk,rfl,c1,hB⟩:=hrel
  by_cases au:k<T.length
  ·obtain⟨b,off,rfl,e1⟩:=(hs.bl hB) k au
   have gi:(k:Int)<(T.length:Int):=qg;have fe:(0:Int)≤(k:Int):=qg;generalize nx T k=tx at *;go_wp2_with fail
   all_goals first
    | exact⟨⟨k+1,qg,qp,c1,hB⟩,Yj⟩
    | (go_ret;exact⟨hB,_,rfl⟩)
  ·have ek:k=T.length:=qg
   subst ek;go_wp2;go_ret;exact⟨hB,_,rfl⟩
theorem Ui(ca Le la G1:Option Addr)(cc Q4 lc G0:X)(r:T3)(w:E)(hc:Dl w ca r.code)(U6:Dl w Le r.code)(hg:Kb w la r.looks)(hg':Kb w G1 r.looks)(hl:r.code.length≤1048576)(xq:r.looks.length≤1048576):Calls prog 25 #[G #[J ca r.code.length cc,J la r.looks.length lc,S r.out],G #[J Le r.code.length Q4,J G1 r.looks.length G0,S r.out]] w λe w'=>e=H (F true)∧Bw w w':=by
 obtain⟨W,eW⟩:=Aj ((w.alloc (O #[J ca r.code.length cc,J la r.looks.length lc,S r.out] 56)).alloc (O #[J Le r.code.length Q4,J G1 r.looks.length G0,S r.out] 56))
 have f7:Bw w W:=eW▸(aN _ _).alloc qi _
 have HA:Hd (W.heap[w.heap.size]?=M (O #[J ca r.code.length cc,J la r.looks.length lc,S r.out] 56 (0,0))):=qbr
 have HB:Hd (W.heap[w.heap.size+1]?=M (O #[J Le r.code.length Q4,J G1 r.looks.length G0,S r.out] 56 (0,0))):=qbs
 obtain⟨a0,a1,a2⟩:=Ab HA.o
 obtain⟨b0,b1,b2⟩:=Ab HB.o
 go_enter func25,ntmps25
 go_wp2_with fail
 refine(Ss ca Le cc Q4 r.code.length r.code _ rfl (hc.bl f7) (U6.bl f7) hl).mono ?_
 rintro e w1 ⟨rfl,ah⟩
 replace HA:=Ad (Ac HA.o ah)
 replace HB:=Ad (Ac HB.o ah)
 have xu:=bt f7 ah
 clear a0 a1 a2 b0 b1 b2 eW ah f7
 obtain⟨a0,a1,a2⟩:=Ab HA.o
 obtain⟨b0,b1,b2⟩:=Ab HB.o
 go_wp2_with fail
 go_loopw [5] (λi wr=>∃k:X,k≤r.looks.length∧i=I k∧wr.cell? ⟨w.heap.size,1,N⟩=M (J la r.looks.length lc)∧wr.cell? ⟨w.heap.size+1,1,N⟩=M (J G1 r.looks.length G0)∧Bw w wr) (λi _=>r.looks.length-(intOf i).toNat)
 case atStart=>exact⟨0,Nat.zero_le _,rfl,a1,b1,xu⟩
 case round=>
  clear a0 a1 a2 b0 b1 b2 xu HA HB;obtain⟨k,hk,rfl,c1,c2,hB⟩:=hrel
  by_cases au:k<r.looks.length
  ·obtain⟨b,off,rfl,e1,e2,e3⟩:=(hg.bl hB) k au
   obtain⟨b',bq,rfl,f1,f2,f3⟩:=(hg'.bl hB) k au;have gi:(k:Int)<(r.looks.length:Int):=qg;have fe:(0:Int)≤(k:Int):=qg;generalize (gx r.looks k).name=op at *;generalize (gx r.looks k).ask=tx at *;generalize (gx r.looks k).sum=nn at *;go_wp2_with fail
   go_region_held3 (λw'=>w'.cell? ⟨w.heap.size,1,N⟩=M (J (M ⟨b,off,N⟩) r.looks.length lc)∧w'.cell? ⟨w.heap.size+1,1,N⟩=M (J (M ⟨b',bq,N⟩) r.looks.length G0)∧w'.cell? ⟨b,off+k*3,N⟩=M (S op)∧w'.cell? ⟨b,off+k*3+1,N⟩=M (F tx)∧w'.cell? ⟨b,off+k*3+2,N⟩=M (S nn)∧w'.cell? ⟨b',bq+k*3,N⟩=M (S op)∧w'.cell? ⟨b',bq+k*3+1,N⟩=M (F tx)∧w'.cell? ⟨b',bq+k*3+2,N⟩=M (S nn))
    (first|assumption|(simp[*];done)) (fail)
   all_goals
    go_wp2;exact qlk
  ·have ek:k=r.looks.length:=qg
   exact qda
theorem Wa(n:Int)(xa xb qa qb:Option Addr)(tc td qc qd:X)(T:List By)(R:List T3)(w:E)(h1:Cs w xa T)(h2:Cs w xb T)(h3:Yf w qa R)(h4:Yf w qb R)(hT:T.length≤1048576)(hR:Od R):Calls prog 8 #[G #[I n,J xa T.length tc,J qa R.length qc],G #[I n,J xb T.length td,J qb R.length qd]] w λe w'=>e=H (F true)∧Bw w w':=by
 obtain⟨W,eW⟩:=Aj ((w.alloc (O #[I n,J xa T.length tc,J qa R.length qc] 26)).alloc (O #[I n,J xb T.length td,J qb R.length qd] 26))
 have f7:Bw w W:=eW▸(aN _ _).alloc qi _
 have HA:Hd (W.heap[w.heap.size]?=M (O #[I n,J xa T.length tc,J qa R.length qc] 26 (0,0))):=qbr
 have HB:Hd (W.heap[w.heap.size+1]?=M (O #[I n,J xb T.length td,J qb R.length qd] 26 (0,0))):=qbs
 obtain⟨a0,a1,a2⟩:=Ab HA.o
 obtain⟨b0,b1,b2⟩:=Ab HB.o
 have H3:=Ad h3
 have H4:=Ad h4
 have HQ:=Ad hR
 have P7:=hR.1
 clear h3 h4 hR
 go_enter func8,ntmps8
 go_wp2_with fail
 refine(Yl xa xb tc td T.length T _ rfl (h1.bl f7) (h2.bl f7) hT).mono ?_
 rintro e w1 ⟨rfl,ah⟩
 replace HA:=Ad (Ac HA.o ah)
 replace HB:=Ad (Ac HB.o ah)
 have xu:=bt f7 ah
 clear a0 a1 a2 b0 b1 b2 eW ah f7
 obtain⟨a0,a1,a2⟩:=Ab HA.o
 obtain⟨b0,b1,b2⟩:=Ab HB.o
 go_wp2_with fail
 go_loopw [5] (λi wr=>∃k:X,k≤R.length∧i=I k∧wr.cell? ⟨w.heap.size,2,N⟩=M (J qa R.length qc)∧wr.cell? ⟨w.heap.size+1,2,N⟩=M (J qb R.length qd)∧Bw w wr) (λi _=>R.length-(intOf i).toNat)
 case atStart=>exact⟨0,Nat.zero_le _,rfl,a2,b2,xu⟩
 case round=>
  clear a0 a1 a2 b0 b1 b2 xu HA HB;obtain⟨k,hk,rfl,c1,c2,hB⟩:=hrel
  by_cases au:k<R.length
  ·obtain⟨b,off,rfl,ca,cc,la,lc,e1,e2,e3,r1,r2⟩:=(H3.o.bl hB) k au
   obtain⟨b',bq,rfl,Le,Q4,G1,G0,f1,f2,f3,s1,s2⟩:=(H4.o.bl hB) k au;have gi:(k:Int)<(R.length:Int):=qg;have fe:(0:Int)≤(k:Int):=qg;have hq:=HQ.o.2 k au;have HWR:Hd (∀V:E,Bw wr V→Calls prog 25 #[G #[J ca (qx R k).code.length cc,J la (qx R k).looks.length lc,S (qx R k).out],G #[J Le (qx R k).code.length Q4,J G1 (qx R k).looks.length G0,S (qx R k).out]] V λe w'=>e=H (F true)∧Bw V w'):=λV hV=>Ui ca Le la G1 cc Q4 lc G0 (qx R k) V (r1.bl hV) (s1.bl hV) (r2.bl hV) (s2.bl hV) hq.1 hq.2;clear r1 r2 s1 s2 hq;generalize (qx R k).code.length=m1 at *;generalize (qx R k).looks.length=m2 at *;generalize (qx R k).out=ot at *;go_wp2_with fail;refine Lt.begin 99 (λw'=>w'.cell? ⟨w.heap.size,2,N⟩=M (J (M ⟨b,off,N⟩) R.length qc)∧w'.cell? ⟨w.heap.size+1,2,N⟩=M (J (M ⟨b',bq,N⟩) R.length qd)∧w'.cell? ⟨b,off+k*3,N⟩=M (J ca m1 cc)∧w'.cell? ⟨b,off+k*3+1,N⟩=M (J la m2 lc)∧w'.cell? ⟨b,off+k*3+2,N⟩=M (S ot)∧w'.cell? ⟨b',bq+k*3,N⟩=M (J Le m1 Q4)∧w'.cell? ⟨b',bq+k*3+1,N⟩=M (J G1 m2 G0)∧w'.cell? ⟨b',bq+k*3+2,N⟩=M (S ot)) qk ?_;have ao:Bw wr wr.drew:=(Below.refl _ _).drew;have aw:wr.drew.cell? ⟨w.heap.size,2,N⟩=M (J (M ⟨b,off,N⟩) R.length qc)∧wr.drew.cell? ⟨w.heap.size+1,2,N⟩=M (J (M ⟨b',bq,N⟩) R.length qd)∧wr.drew.cell? ⟨b,off+k*3,N⟩=M (J ca m1 cc)∧wr.drew.cell? ⟨b,off+k*3+1,N⟩=M (J la m2 lc)∧wr.drew.cell? ⟨b,off+k*3+2,N⟩=M (S ot)∧wr.drew.cell? ⟨b',bq+k*3,N⟩=M (J Le m1 Q4)∧wr.drew.cell? ⟨b',bq+k*3+1,N⟩=M (J G1 m2 G0)∧wr.drew.cell? ⟨b',bq+k*3+2,N⟩=M (S ot):=⟨c1,c2,e1,e2,e3,f1,f2,f3⟩;change K 0 _
   iterate 10
    refine Lt.ti (v:=?_) aw ?_ ?_;rotate_left 1
    ·exact qlh
    simp only[gX]
   refine Lt.sp (i:=10) (λK hK=>?_);go_simp;refine(HWR.o _ ao).mono ?_;rintro e w4 ⟨rfl,bx⟩;have gj:w4.cell? ⟨w.heap.size,2,N⟩=M (J (M ⟨b,off,N⟩) R.length qc)∧w4.cell? ⟨w.heap.size+1,2,N⟩=M (J (M ⟨b',bq,N⟩) R.length qd)∧w4.cell? ⟨b,off+k*3,N⟩=M (J ca m1 cc)∧w4.cell? ⟨b,off+k*3+1,N⟩=M (J la m2 lc)∧w4.cell? ⟨b,off+k*3+2,N⟩=M (S ot)∧w4.cell? ⟨b',bq+k*3,N⟩=M (J Le m1 Q4)∧w4.cell? ⟨b',bq+k*3+1,N⟩=M (J G1 m2 G0)∧w4.cell? ⟨b',bq+k*3+2,N⟩=M (S ot):=⟨Aa bx aw.1,Aa bx aw.2.1,Aa bx aw.2.2.1,Aa bx aw.2.2.2.1,Aa bx aw.2.2.2.2.1,Aa bx aw.2.2.2.2.2.1,Aa bx aw.2.2.2.2.2.2.1,Aa bx aw.2.2.2.2.2.2.2⟩;refine hK.out _ _ (λ_=>gj) (λ_=>?_);clear hK K 
   try simp only[gX]
   refine Lt.ti (i:=11) (v:=?_) gj ?_ ?_;rotate_left 1
   ·exact qlh
   simp only[gX];refine Lt.done qk ?_ _;go_wp2;exact⟨⟨k+1,qg,qp,gj.1,gj.2.1,bt hB (bt ao bx)⟩,Yj⟩
  ·have ek:k=R.length:=qg
   exact qda
end Go.Proofs.YtoihflimijabjaaGreatDoor
