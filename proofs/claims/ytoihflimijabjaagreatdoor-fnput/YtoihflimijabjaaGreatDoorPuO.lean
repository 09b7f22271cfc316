import Derived.Test.YtoihflimijabjaaGreatDoorPuN
namespace Go.Proofs.YtoihflimijabjaaGreatDoor
open _root_.Go.Proofs.Tryz Go.RowKit Go.Deep
open Value renaming slice->J,agg->G
open Option renaming some->M,none->N
open Obj renaming cells->O
open Go renaming Value->Z,World->E
open _root_ renaming Nat->X
set_option linter.unusedVariables false
set_option linter.unusedSimpArgs false
set_option maxHeartbeats 8000000
set_option maxRecDepth 100000
variable {b T:X} {v1 v2:Z}
theorem Ia.setT{w:E}{j lo:X}(h:Ia w lo v1 v2)(ht:Ai w b 44)(u:Z):Ia (w.setCell ⟨b,j,N⟩ u) lo v1 v2:=by
 obtain⟨l1,l2,h1,h2⟩:=h;exact⟨l1,l2,h1.setT ht qh qh qh u,h2⟩
theorem Ia.sl{w:E}{lo:X}(h:Ia w lo v1 v2):∃sa n1 c1 ta n2 c2,v1=J sa n1 c1∧v2=J ta n2 c2:=by
 obtain⟨l1,l2,h1,h2⟩:=h;obtain⟨sa,c1,e1⟩:=Ax h1.s;obtain⟨ta,c2,e2⟩:=Ax h1.t;exact⟨_,_,_,_,_,_,e1,e2⟩
structure Qt (w0:E) (B R:X) (a:Option Addr) (len cap p K:X) (w:E) (v1 v2:Z):Prop where
 k3:w.heap[w0.heap.size]?=M (O #[v1,v2] 44 (0,0))
 k4:w.heap[w0.heap.size+1]?=M (O #[nS,nS] 44 (0,0))
 sp:Ia w (R+1) v1 v2
 rd:Ba B R a len cap p K w0 w
section
variable {w0 w w':E} {B R:X} {a:Option Addr} {len cap p K K':X} {v1 v2:Z}
theorem Qt.bl(h:Qt w0 B R a len cap p K w v1 v2)(hB:B≤w0.heap.size)(hb:Bw w w'):Qt w0 B R a len cap p K w' v1 v2:=⟨Ac h.k3 hb,Ac h.k4 hb,h.sp.bl hb,h.rd.bl hB hb⟩
theorem Qt.gb(h:Qt w0 B R a len cap p K w v1 v2)(hR:R<w0.heap.size)(hr:Ba B R a len cap p K' w0 w')(hg:w.grownBy w' (M R)):Qt w0 B R a len cap p K' w' v1 v2:=⟨Az h.k3 hg qg,Az h.k4 hg qg,h.sp.gb hg qg,hr⟩
theorem Qt.set7{g j:X}(h:Qt w0 B R a len cap p K w v1 v2)(hB:B≤w0.heap.size)(hg:w0.heap.size+1<g)(ht:Ai w g 44)(u:Z):Qt w0 B R a len cap p K (w.setCell ⟨g,j,N⟩ u) v1 v2:=⟨Af h.k3 qg u,Af h.k4 qg u,h.sp.setT ht u,h.rd.set hB qg u⟩
theorem Qt.more(h:Qt w0 B R a len cap p K w v1 v2)(hK:K≤K'):Qt w0 B R a len cap p K' w v1 v2:=⟨h.k3,h.k4,h.sp,h.rd.more hK⟩
theorem Qt.put(h:Qt w0 B R a len cap p K w v1 v2)(hB:B≤w0.heap.size){u1 u2:Z}(hu:Ia w (R+1) u1 u2):Qt w0 B R a len cap p K ((w.setCell ⟨w0.heap.size,0,N⟩ u1).setCell ⟨w0.heap.size,1,N⟩ u2) u1 u2:=
 ⟨by rw[jB (jB h.k3 u1) u2];rfl,Af (Af h.k4 qg u1) qg u2,(hu.setT ⟨_,h.k3⟩ u1).setT (Ai.set ⟨_,h.k3⟩ u1) u2,(h.rd.set hB (Nat.le_refl _) u1).set hB (Nat.le_refl _) u2⟩
end
theorem Ag{w:E}(h:w.heap[b]?=M (O #[v1,v2] T (0,0))):w.cell? ⟨b,0,N⟩=M v1∧w.cell? ⟨b,1,N⟩=M v2∧∀j,w.frozen? ⟨b,j,N⟩=false:=by
 refine⟨?_,?_,λj=>fH h j⟩<;>rw[cH h]<;>rfl
theorem Kn{w:E}{x y:Z}(h:w.heap[b]?=M (O #[x,y] T (0,0)))(u1 u2:Z):((w.setCell ⟨b,0,N⟩ u1).setCell ⟨b,1,N⟩ u2).heap[b]?=M (O #[u1,u2] T (0,0)):=by
 rw[jB (jB h u1) u2];rfl
theorem Vi(B R:X)(a:Option Addr)(len cap p:X)(w:E){lo:X}(h:Rd B w R a len cap p)(aj:B≤w.heap.size)(hp:p≤50000)(hd:Ia w lo v1 v2)(P7:R<lo):Calls prog 50 #[.pointer (p_ R),G #[v1,v2]] w λe w'=>∃u1 u2,e=.returned (G #[u1,u2])∧Ia w' (R+1) u1 u2∧Ba B R a len cap p 5000 w w':=by
 have P8:=h.lt
 have df:R<w.heap.size:=qg
 obtain⟨sa,n1,c1,ta,n2,c2,rfl,rfl⟩:=hd.sl
 obtain⟨W,eW⟩:=Aj ((w.alloc (O #[J sa n1 c1,J ta n2 c2] 44)).alloc (O #[nS,nS] 44))
 have f7:Bw w W:=eW▸(aN _ _).alloc qi _
 have o5:Hd (Qt w B R a len cap p 0 W (J sa n1 c1) (J ta n2 c2)):=⟨qap,qaq,(hd.base qg).bl f7,Ba.bl ⟨Im _ _,p,Nat.le_refl _,h⟩ aj f7⟩
 clear h hd
 go_enter func50,ntmps50
 go_wp2_with fail
 clear eW
 refine(o5.o.rd.pick qg 3 qg qg).mono ?_
 rintro e w1 ⟨x,rfl,hx,az,am⟩
 replace o5:=Ad (o5.o.gb df az am)
 clear am az f7
 go_wp2_with fail
 go_loopw [5] (λi wr=>∃(k:X)(v1 v2:Z),k≤3∧i=I k∧Hd (Qt w B R a len cap p (1+(3-k)*1400) wr v1 v2)) (λi _=>(intOf i).toNat)
 case atStart=>exact⟨x+1,_,_,qg,qp,Ad (o5.o.more qg)⟩
 case round=>
  clear o5;obtain⟨k,v1,v2,hk,rfl,HC⟩:=hrel
  by_cases au:0<k
  ·have gi:(0:Int)<(k:Int):=qg
   go_wp2_with fail;refine(HC.o.rd.name aj qg).mono ?_;rintro e w1 ⟨nm,rfl,iw,az,am⟩;replace HC:=Ad (HC.o.gb df az am);clear am az;obtain⟨sa,n1,c1,ta,n2,c2,rfl,rfl⟩:=HC.o.sp.sl;obtain⟨g7,E6⟩:=Aj w1.heap.size;have K0:w.heap.size+1<g7:=zo (An HC.o.k4);obtain⟨V,eV⟩:=Aj (w1.alloc (O #[nS,nS] 44));have jo:Hd (V.heap[g7]?=M (O #[nS,nS] 44 (0,0))):=qfi;have Is:=Ad (HC.o.bl aj (eV▸aN _ _));obtain⟨p0,p1,pf⟩:=Ag HC.o.k3;obtain⟨q0,q1,qf⟩:=Ag jo.o;have ie:Hd (Ai V g7 44):=⟨_,jo.o⟩;obtain⟨V2,dg⟩:=Aj ((V.setCell ⟨g7,0,N⟩ (J sa n1 c1)).setCell ⟨g7,1,N⟩ (J ta n2 c2));have zu:Hd (Qt w B R a len cap p (1+(3-k)*1400+1) V2 (J sa n1 c1) (J ta n2 c2)):=dg▸(Is.o.set7 aj K0 ie.o _).set7 aj K0 (ie.o.set _) _;have lu:Hd (V2.heap[g7]?=M (O #[J sa n1 c1,J ta n2 c2] 44 (0,0))):=dg▸Kn jo.o _ _;clear HC Is ie jo;go_wp2_with fail;clear eV dg E6 p0 p1 pf q0 q1 qf;refine(zu.o.rd.pick qg 6 qg qg).mono ?_;rintro e w3 ⟨y,rfl,hy,az,am⟩;have HC:=Ad (zu.o.gb df az am);have HK:=Ad (Az lu.o am qg);clear am az zu lu;obtain⟨p0,p1,pf⟩:=Ag HC.o.k3
   rcases Nat.eq_zero_or_pos y with rfl|nd
   ·go_wp2_with fail
    refine(drD nm HC.o.sp qg).mono ?_;rintro e w4 ⟨bx,u1,u2,c,rfl,hd4⟩;have yi:=Ad (HC.o.bl aj bx);have d9:=Ad (Ac HK.o bx);have N2:=Ad (hd4.base (lo':=R+1) (zo HC.o.rd.size));clear hd4 bx p0 p1 pf HC HK;obtain⟨sb,m1,d1,tb,m2,d2,rfl,rfl⟩:=N2.o.sl;obtain⟨q0,q1,qf⟩:=Ag d9.o;have ie:Hd (Ai w4 g7 44):=⟨_,d9.o⟩;obtain⟨w5,e5⟩:=Aj ((w4.setCell ⟨g7,0,N⟩ (J sb m1 d1)).setCell ⟨g7,1,N⟩ (J tb m2 d2));have I1:Hd (Qt w B R a len cap p (1+(3-(k-1))*1400) w5 (J sa n1 c1) (J ta n2 c2)):=(e5▸(yi.o.set7 aj K0 ie.o _).set7 aj K0 (ie.o.set _) _:Qt w B R a len cap p _ w5 (J sa n1 c1) (J ta n2 c2)).more qg;have d8:Hd (w5.heap[g7]?=M (O #[J sb m1 d1,J tb m2 d2] 44 (0,0))):=e5▸Kn d9.o _ _;have HD5:Hd (Ia w5 (R+1) (J sb m1 d1) (J tb m2 d2)):=e5▸(N2.o.setT ie.o _).setT (ie.o.set _) _;clear yi d9 N2 ie
    by_cases hc:c=0
    ·subst hc
     obtain⟨r0,r1,rf⟩:=Ag d8.o;obtain⟨t0,t1,tf⟩:=Ag I1.o.k3;go_wp2;go_roundw
     case rel=>exact⟨k-1,_,_,qg,qp,I1.o.put aj HD5.o⟩
     case measure=>simp[intOf];omega
    ·have mh:(c == 0)=false:=qbj
     go_wp2;go_roundw
     case rel=>exact⟨k-1,_,_,qg,qp,I1.o⟩
     case measure=>simp[intOf];omega
   ·by_cases hy1:y=1
    ·subst hy1
     go_wp2_with fail;refine Lt.begin 99 (λw'=>w'.cell? ⟨w.heap.size,0,N⟩=M (J sa n1 c1)∧w'.cell? ⟨w.heap.size,1,N⟩=M (J ta n2 c2)) qk ?_;obtain⟨wD,eD⟩:=Aj w3.drew;rw[eD];have ao:Bw w3 wD:=qq;clear eD p0 p1 pf;replace HC:=Ad (HC.o.bl aj ao);replace HK:=Ad (Ac HK.o ao);have aw:wD.cell? ⟨w.heap.size,0,N⟩=M (J sa n1 c1)∧wD.cell? ⟨w.heap.size,1,N⟩=M (J ta n2 c2):=⟨(Ag HC.o.k3).1,(Ag HC.o.k3).2.1⟩;change K 0 _
     iterate 2
      refine Lt.ti (v:=?_) aw ?_ ?_;rotate_left 1
      ·exact qy
      simp only[gX]
     refine Lt.ti (i:=5) (v:=?_) aw ?_ ?_;rotate_left 1
     ·exact qy
     simp only[gX];refine Lt.sp (i:=2) (λK hK=>?_);go_simp;refine(HC.o.rd.pick qg 8 qg qg).mono ?_;rintro e w5 ⟨z,rfl,hz,az,am⟩;replace HC:=Ad (HC.o.gb df az am);replace HK:=Ad (Az HK.o am qg);have bj:w5.cell? ⟨w.heap.size,0,N⟩=M (J sa n1 c1)∧w5.cell? ⟨w.heap.size,1,N⟩=M (J ta n2 c2):=⟨(Ag HC.o.k3).1,(Ag HC.o.k3).2.1⟩;refine hK.out _ _ (λ_=>bj) (λ_=>?_);clear hK K am az aw
     try simp only[gX]
     refine Lt.sp (i:=3) (λK hK=>?_);go_simp;refine(Gz z w5 qg).mono ?_;rintro e w6 ⟨rfl,cj⟩;have oe:(Lib.decDigits z).length<=1:=En 0 z qg;obtain⟨q,eq⟩:=Aj ((⟨(Lib.decDigits z).toArray⟩:By));(have hq:q.size<=1:=by rw[←eq];show(Lib.decDigits z).toArray.size<=1;simpa using oe);rw[eq];clear eq oe;replace HC:=Ad (HC.o.bl aj cj);replace HK:=Ad (Ac HK.o cj);have cz:w6.cell? ⟨w.heap.size,0,N⟩=M (J sa n1 c1)∧w6.cell? ⟨w.heap.size,1,N⟩=M (J ta n2 c2):=⟨(Ag HC.o.k3).1,(Ag HC.o.k3).2.1⟩;refine hK.out _ _ (λ_=>cz) (λ_=>?_);clear hK K cj bj
     try simp only[gX]
     have hq9:¬ 9223372036854775807<1+q.size:=qg;refine Lt.ti (i:=4) (v:=?_) cz ?_ ?_;rotate_left 1
     ·exact qy
     simp only[gX];(have iz:((⟨#[116]⟩:By)++q).size≤50000:=by rw[ByteArray.size_append];show 1+q.size≤50000;omega);generalize (⟨#[116]⟩:By)++q=nq at iz ⊢;refine Lt.sp (i:=6) (λK hK=>?_);go_simp;refine(HC.o.rd.prgm aj qg).mono ?_;rintro e w7 ⟨g,n,c0,is,rfl,ho,ni,hn4,az,am⟩;obtain rfl:=ho.ln;have lp:=Ad ho;clear ho;replace HC:=Ad (HC.o.gb df az am);replace HK:=Ad (Az HK.o am qg);have o9:w7.cell? ⟨w.heap.size,0,N⟩=M (J sa n1 c1)∧w7.cell? ⟨w.heap.size,1,N⟩=M (J ta n2 c2):=⟨(Ag HC.o.k3).1,(Ag HC.o.k3).2.1⟩;refine hK.out _ _ (λ_=>o9) (λ_=>?_);clear hK K am az cz
     try simp only[gX]
     have M0:Hd (Calls prog 75 #[G #[J sa n1 c1,J ta n2 c2],.string nq,G #[J (p_ g) is.length c0]] w7 (EdO w7)):=ptD nq (p_ g) c0 is HC.o.sp iz lp.o.row3 hn4 lp.o.tx;refine Lt.sp (i:=7) (λK hK=>?_);go_simp;refine(M0.o).mono ?_;rintro e w4 ⟨bx,u1,u2,c,rfl,hd4⟩;have yi:=Ad (HC.o.bl aj bx);have d9:=Ad (Ac HK.o bx);have N2:=Ad (hd4.base (lo':=R+1) (zo HC.o.rd.size));have gj:w4.cell? ⟨w.heap.size,0,N⟩=M (J sa n1 c1)∧w4.cell? ⟨w.heap.size,1,N⟩=M (J ta n2 c2):=⟨(Ag yi.o.k3).1,(Ag yi.o.k3).2.1⟩;obtain⟨sb,m1,d1,tb,m2,d2,rfl,rfl⟩:=N2.o.sl;refine hK.out _ _ (λ_=>gj) (λ_=>?_);clear hK K hd4 bx o9 HC HK
     try simp only[gX]
     change K 8 _
     iterate 3
      refine Lt.ti (v:=?_) gj ?_ ?_;rotate_left 1
      ·exact qy
      simp only[gX]
     obtain⟨q0,q1,qf⟩:=Ag d9.o;have ie:Hd (Ai w4 g7 44):=⟨_,d9.o⟩;obtain⟨w5,e5⟩:=Aj ((w4.setCell ⟨g7,0,N⟩ (J sb m1 d1)).setCell ⟨g7,1,N⟩ (J tb m2 d2));have I1:Hd (Qt w B R a len cap p (1+(3-(k-1))*1400) w5 (J sa n1 c1) (J ta n2 c2)):=(e5▸(yi.o.set7 aj K0 ie.o _).set7 aj K0 (ie.o.set _) _:Qt w B R a len cap p _ w5 (J sa n1 c1) (J ta n2 c2)).more qg;have d8:Hd (w5.heap[g7]?=M (O #[J sb m1 d1,J tb m2 d2] 44 (0,0))):=e5▸Kn d9.o _ _;have HD5:Hd (Ia w5 (R+1) (J sb m1 d1) (J tb m2 d2)):=e5▸(N2.o.setT ie.o _).setT (ie.o.set _) _;clear yi d9 N2 ie;refine Lt.sp (i:=11) (λK hK=>?_);go_simp
     try rw[e5]
     have iy:w5.cell? ⟨w.heap.size,0,N⟩=M (J sa n1 c1)∧w5.cell? ⟨w.heap.size,1,N⟩=M (J ta n2 c2):=⟨(Ag I1.o.k3).1,(Ag I1.o.k3).2.1⟩;refine hK.out _ _ (λ_=>iy) (λ_=>?_);clear hK K gj q0 q1 qf e5
     try simp only[gX]
     refine Lt.ti (i:=12) (v:=?_) iy ?_ ?_;rotate_left 1
     ·exact qy
     exact qhz
    ·have S5:((y:Int) == 0)=false:=qj
     have hy1I:((y:Int) == 1)=false:=qj;go_wp2_with fail;refine Lt.begin 99 (λw'=>w'.cell? ⟨w.heap.size,0,N⟩=M (J sa n1 c1)∧w'.cell? ⟨w.heap.size,1,N⟩=M (J ta n2 c2)) qk ?_;obtain⟨wD,eD⟩:=Aj w3.drew;rw[eD];have ao:Bw w3 wD:=qq;clear eD p0 p1 pf;replace HC:=Ad (HC.o.bl aj ao);replace HK:=Ad (Ac HK.o ao);have aw:wD.cell? ⟨w.heap.size,0,N⟩=M (J sa n1 c1)∧wD.cell? ⟨w.heap.size,1,N⟩=M (J ta n2 c2):=⟨(Ag HC.o.k3).1,(Ag HC.o.k3).2.1⟩;change K 0 _
     iterate 2
      refine Lt.ti (v:=?_) aw ?_ ?_;rotate_left 1
      ·exact qy
      simp only[gX]
     refine Lt.ti (i:=5) (v:=?_) aw ?_ ?_;rotate_left 1
     ·exact qy
     simp only[gX];refine Lt.ti (i:=8) (v:=?_) aw ?_ ?_;rotate_left 1
     ·exact qy
     simp only[gX];refine Lt.sp (i:=2) (λK hK=>?_);go_simp;refine(HC.o.rd.pick qg 6 qg qg).mono ?_;rintro e w5 ⟨z,rfl,hz,az,am⟩;replace HC:=Ad (HC.o.gb df az am);replace HK:=Ad (Az HK.o am qg);have bj:w5.cell? ⟨w.heap.size,0,N⟩=M (J sa n1 c1)∧w5.cell? ⟨w.heap.size,1,N⟩=M (J ta n2 c2):=⟨(Ag HC.o.k3).1,(Ag HC.o.k3).2.1⟩;refine hK.out _ _ (λ_=>bj) (λ_=>?_);clear hK K am az aw
     try simp only[gX]
     rcases(show z=0∨z=1∨z=2∨z=3∨z=4∨z=5 from qg)with rfl|rfl|rfl|rfl|rfl|rfl
     all_goals
      change K 3 _
      iterate 2
       refine Lt.ti (v:=?_) bj ?_ ?_;rotate_left 1
       ·exact qy
       simp only[gX]
      refine Lt.sp (i:=6) (λK hK=>?_);go_simp;refine(HC.o.rd.text aj qg).mono ?_;rintro e w6 ⟨s,rfl,hs,az,am⟩;replace HC:=Ad (HC.o.gb df az am);replace HK:=Ad (Az HK.o am qg);have cz:w6.cell? ⟨w.heap.size,0,N⟩=M (J sa n1 c1)∧w6.cell? ⟨w.heap.size,1,N⟩=M (J ta n2 c2):=⟨(Ag HC.o.k3).1,(Ag HC.o.k3).2.1⟩;refine hK.out _ _ (λ_=>cz) (λ_=>?_);clear hK K am az bj
      try simp only[gX]
      have yr:¬ 9223372036854775807<s.size+1:=qg;refine Lt.ti (i:=7) (v:=?_) cz ?_ ?_;rotate_left 1
      ·exact qy
      simp only[gX];(have iz:(s++(⟨#[32]⟩:By)).size≤20:=by rw[ByteArray.size_append];show s.size+1≤20;omega);generalize s++(⟨#[32]⟩:By)=s2 at iz ⊢;refine Lt.sp (i:=9) (λK hK=>?_);go_simp;refine(HC.o.rd.name aj qg).mono ?_;rintro e w7 ⟨s3,rfl,O2,az,am⟩;replace HC:=Ad (HC.o.gb df az am);replace HK:=Ad (Az HK.o am qg);have o9:w7.cell? ⟨w.heap.size,0,N⟩=M (J sa n1 c1)∧w7.cell? ⟨w.heap.size,1,N⟩=M (J ta n2 c2):=⟨(Ag HC.o.k3).1,(Ag HC.o.k3).2.1⟩;refine hK.out _ _ (λ_=>o9) (λ_=>?_);clear hK K am az cz
      try simp only[gX]
      have hs8:¬ 9223372036854775807<s2.size+s3.size:=qg;refine Lt.ti (i:=10) (v:=?_) o9 ?_ ?_;rotate_left 1
      ·exact qy
      simp only[gX];have hsy:(s2++s3).size≤50000:=qdk;generalize s2++s3=s4 at hsy ⊢;refine Lt.sp (i:=11) (λK hK=>?_);go_simp;refine(psD _ s4 HC.o.sp qh hsy).mono ?_;rintro e w4 ⟨bx,u1,u2,c,rfl,hd4⟩;have yi:=Ad (HC.o.bl aj bx);have d9:=Ad (Ac HK.o bx);have N2:=Ad (hd4.base (lo':=R+1) (zo HC.o.rd.size));have gj:w4.cell? ⟨w.heap.size,0,N⟩=M (J sa n1 c1)∧w4.cell? ⟨w.heap.size,1,N⟩=M (J ta n2 c2):=⟨(Ag yi.o.k3).1,(Ag yi.o.k3).2.1⟩;obtain⟨sb,m1,d1,tb,m2,d2,rfl,rfl⟩:=N2.o.sl;refine hK.out _ _ (λ_=>gj) (λ_=>?_);clear hK K hd4 bx o9 HC HK
      try simp only[gX]
      change K 12 _
      iterate 3
       refine Lt.ti (v:=?_) gj ?_ ?_;rotate_left 1
       ·exact qy
       simp only[gX]
      obtain⟨q0,q1,qf⟩:=Ag d9.o;have ie:Hd (Ai w4 g7 44):=⟨_,d9.o⟩;obtain⟨w5,e5⟩:=Aj ((w4.setCell ⟨g7,0,N⟩ (J sb m1 d1)).setCell ⟨g7,1,N⟩ (J tb m2 d2));have I1:Hd (Qt w B R a len cap p (1+(3-(k-1))*1400) w5 (J sa n1 c1) (J ta n2 c2)):=(e5▸(yi.o.set7 aj K0 ie.o _).set7 aj K0 (ie.o.set _) _:Qt w B R a len cap p _ w5 (J sa n1 c1) (J ta n2 c2)).more qg;have d8:Hd (w5.heap[g7]?=M (O #[J sb m1 d1,J tb m2 d2] 44 (0,0))):=e5▸Kn d9.o _ _;have HD5:Hd (Ia w5 (R+1) (J sb m1 d1) (J tb m2 d2)):=e5▸(N2.o.setT ie.o _).setT (ie.o.set _) _;clear yi d9 N2 ie;refine Lt.sp (i:=15) (λK hK=>?_);go_simp
      try rw[e5]
      have iy:w5.cell? ⟨w.heap.size,0,N⟩=M (J sa n1 c1)∧w5.cell? ⟨w.heap.size,1,N⟩=M (J ta n2 c2):=⟨(Ag I1.o.k3).1,(Ag I1.o.k3).2.1⟩;refine hK.out _ _ (λ_=>iy) (λ_=>?_);clear hK K gj q0 q1 qf e5
      try simp only[gX]
      refine Lt.ti (i:=16) (v:=?_) iy ?_ ?_;rotate_left 1
      ·exact qy
      exact qhz
  ·have e0:k=0:=qg
   subst e0;obtain⟨sa,n1,c1,ta,n2,c2,rfl,rfl⟩:=HC.o.sp.sl;obtain⟨p0,p1,pf⟩:=Ag HC.o.k3;obtain⟨q0,q1,qf⟩:=Ag HC.o.k4;go_wp2;have kj:Ai wr (w.heap.size+1) 44:=⟨_,HC.o.k4⟩;refine bR (v:=G #[J sa n1 c1,J ta n2 c2]) (by simp[results,results50,go_sem,q0,q1]) rfl ⟨_,_,rfl,(HC.o.sp.setT kj _).setT (kj.set _) _,((HC.o.rd.set aj qg _).set aj qg _).more qg⟩
end Go.Proofs.YtoihflimijabjaaGreatDoor
