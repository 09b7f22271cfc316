import Derived.Test.YtjlnkepkkdefdaaGreatDoorTChkA
import Derived.Deep.RegionWith
namespace Go.Proofs.YtjlnkepkkdefdaaGreatDoor
open Go.RowKit
set_option linter.unusedVariables false
set_option maxHeartbeats 8000000
set_option maxRecDepth 100000
set_option linter.unusedSimpArgs false
theorem Mi (s t:ByteArray) (w:World):Calls Tryz.prog 81 #[.string s,.string t] w fun e w'=>e=.returned (.bool (Aw s t))/\w=w':=by
 unfold Aw
 have e1:=Eh (rfl:s=s)
 go_enter Tryz.func81,Tryz.ntmps81
 go_wp2
 go_ret
 exact⟨rfl,rfl⟩
theorem Oz {l:List ByteArray} {t:ByteArray} {m:Nat} (h:Ey l) (hm:m<l.length) (hv:Aw (nx l m) t=true):∀ j,j<m+1->Aw (nx l j) t=true:=by
 intro j hj
 rcases Nat.lt_or_ge j m with h1|h1
 ·exact Jx (h.pair h1 hm) hv
 ·obtain rfl:j=m:=by omega
  exact hv
theorem Pe {l:List ByteArray} {t:ByteArray} {m:Nat} (h:Ey l) (hv:Aw (nx l m) t=false):∀ j,m<=j->j<l.length->Aw (nx l j) t=false:=by
 intro j hj hl
 rcases Nat.lt_or_ge m j with h1|h1
 ·rw[Bool.eq_false_iff];intro h2;have:=Jx (h.pair h1 hl) h2;rw[hv] at this;cases this
 ·obtain rfl:j=m:=by omega
  exact hv
theorem Me {l:List ByteArray} {t:ByteArray} {i:Nat} (h:Ey l) (h1:∀ j,j<i->Aw (nx l j) t=true) (h2:∀ j,i<=j->j<l.length->Aw (nx l j) t=false) (k:Fi l t):i<l.length/\nx l i=t:=by
 obtain⟨j,hj,e⟩:=k
 rcases Nat.lt_trichotomy j i with hji|hji|hji
 ·have:=h1 j hji;rw[e,Fa] at this;cases this
 ·subst hji;exact⟨hj,e⟩
 ·have:=h.pair hji hj;rw[e,h2 i (Nat.le_refl _) (by omega)] at this;cases this
theorem Qk (a:Option Addr) (cap:Nat) (l:List ByteArray) (t:ByteArray) (w:World) (hc:Cp w a l) (hl:l.length<=1048576) (hasc:Ey l) :
  Calls Tryz.prog 47 #[.slice a l.length cap,.string t] w fun e w'=>w=w'/\∃(r:Int) (b:Bool),e=.returned (.tuple #[.int .i64 r,.bool b])/\(b=true↔Fi l t):=by
 have HASC:Hd (Ey l):=hasc
 clear hasc
 go_enter Tryz.func47,Tryz.ntmps47
 go_wp2
 go_loopw [7,8] (fun i j wr=>∃ lo hi:Nat,i=.int .i64 lo/\j=.int .i64 hi/\lo<=hi/\hi<=l.length/\Hd (∀ j,j<lo->Aw (nx l j) t=true)/\Hd (∀ j,hi<=j->j<l.length->Aw (nx l j) t=false)/\w=wr) (fun i j _=>(intOf j).toNat-(intOf i).toNat)
 case atStart=>exact⟨0,l.length,rfl,rfl,Nat.zero_le _,Nat.le_refl _,(fun j hj=>by omega:∀ j,j<0->Aw (nx l j) t=true),(fun j h1 h2=>by omega:∀ j,l.length<=j->j<l.length->Aw (nx l j) t=false),rfl⟩
 case round=>
  obtain⟨lo,hi,rfl,rfl,h1,h2,HL,HH,rfl⟩:=hrel
  by_cases hlt:lo<hi
  ·obtain⟨m,e1,hm1,hm2⟩:∃ m:Nat,((lo:Int)+(hi:Int)) / 2=(m:Int)/\lo<=m/\m<hi:=⟨(lo+hi) / 2,by omega,by omega,by omega⟩;obtain⟨b,off,rfl,c1⟩:=hc.nx m (by omega);obtain⟨v,hv⟩:∃ v,Aw (nx l m) t=v:=⟨_,rfl⟩;have HV:Hd (Aw (nx l m) t=v):=hv;have HN:Hd (∀ W:World,Calls Tryz.prog 81 #[.string (nx l m),.string t] W fun e w'=>e=.returned (.bool v)/\W=w'):=fun W=>by rw[<- hv];exact Mi _ _ W
   clear hc hv;generalize nx l m=s at c1 HN;have hmI:(m:Int)<(l.length:Int):=by omega
   cases v
   ·go_wp2_with (go_at_call 81;refine(HN.o _).mono ?_;rintro e w' ⟨rfl,rfl⟩)
    go_roundw
    case rel=>exact⟨lo,m,rfl,rfl,hm1,by omega,HL.o,Pe HASC.o HV.o,trivial⟩
    case measure=>simp[intOf];omega
   ·go_wp2_with (go_at_call 81;refine(HN.o _).mono ?_;rintro e w' ⟨rfl,rfl⟩)
    go_roundw
    case rel=>exact⟨m+1,hi,by go_num,rfl,by omega,by omega,Oz HASC.o (by omega) HV.o,HH.o,trivial⟩
    case measure=>simp[intOf];omega
  ·obtain rfl:lo=hi:=by omega
   by_cases hll:lo<l.length
   ·obtain⟨b,off,rfl,c1⟩:=hc.nx lo hll;have hlI:(lo:Int)<(l.length:Int):=by omega
    by_cases he:nx l lo=t
    ·have heq:=Eh he;have HE:Hd (nx l lo=t):=he;clear hc he;generalize nx l lo=s at c1 heq;go_wp2
     go_ret2
     exact⟨rfl,_,true,rfl,Hf ⟨lo,hll,HE.o⟩⟩
    ·have heq:=Es he;have HE:Hd (nx l lo≠t):=he;clear hc he;have hss:=Eh (rfl:nx l lo=nx l lo);generalize nx l lo=s at c1 heq hss;go_wp2
     go_ret2
     exact⟨rfl,_,false,rfl,Fb (fun h=>HE.o (Me HASC.o HL.o HH.o h).2)⟩
   ·(have hlI:¬ (lo:Int)<(l.length:Int):=by omega);have HLL:Hd (¬ lo<l.length):=hll;go_wp2
    go_ret2
    exact⟨rfl,_,Or.inl ⟨rfl,fun h=>HLL.o (Me HASC.o HL.o HH.o h).1⟩⟩
theorem Tx (a a':Option Addr) (cap cap':Nat) (l m:List ByteArray) (w:World) (hc:Cp w a l) (hc':Cp w a' m) (hl:l.length<=1048576) (hl':m.length<=1048576) (hasc:Ey m) :
  Calls Tryz.prog 69 #[.slice a l.length cap,.slice a' m.length cap'] w fun e w'=>w=w'/\∃ b:Bool,e=.returned (.bool b)/\(b=true↔Mk l m):=by
 have HB:Hd (∀ t:ByteArray,Calls Tryz.prog 47 #[.slice a' m.length cap',.string t] w fun e w'=>w=w'/\∃(r:Int) (b:Bool),e=.returned (.tuple #[.int .i64 r,.bool b])/\(b=true↔Fi m t)):=fun t=>Qk a' cap' m t w hc' hl' hasc
 clear hc' hasc
 go_enter Tryz.func69,Tryz.ntmps69
 go_wp2
 go_loopw [11] (fun i wr=>∃ k:Nat,k<=l.length/\i=.int .i64 k/\Hd (∀ j,j<k->¬ Fi m (nx l j))/\w=wr) (fun i _=>l.length-(intOf i).toNat)
 case atStart=>exact⟨0,Nat.zero_le _,rfl,(fun j hj=>by omega:∀ j,j<0->¬ Fi m (nx l j)),rfl⟩
 case round=>
  obtain⟨k,hk,rfl,HA,rfl⟩:=hrel
  by_cases hlt:k<l.length
  ·obtain⟨b,off,rfl,c1⟩:=hc.nx k hlt;clear hc;obtain⟨s,es⟩:∃ s,nx l k=s:=⟨_,rfl⟩;have ES:Hd (nx l k=s):=es;rw[es] at c1;clear es;go_wp2_with fail;refine(HB.o s).mono ?_;rintro e w' ⟨rfl,r,b,rfl,hb⟩;cases b
   ·(have HNo:Hd (¬ Fi m s):=fun h=>by have:=hb.mpr h;cases this);clear hb;go_wp2;go_roundw
    case rel=>exact⟨k+1,by omega,by go_num,Dc HA.o (by rw[ES.o];exact HNo.o),trivial⟩
    case measure=>simp[intOf];omega
   ·have HYes:Hd (Fi m s):=hb.mp rfl;clear hb;go_wp2;go_ret;exact⟨rfl,true,rfl,Hf ⟨k,hlt,by rw[ES.o];exact HYes.o⟩⟩
  ·go_wp2;go_ret;exact⟨rfl,false,rfl,Fb (fun ⟨j,hj,h⟩=>HA.o j (by omega) h)⟩
theorem Rj (a:Option Addr) (cap:Nat) (is:List S2) (w:World) (hc:Iz w a is) (hl:is.length<=1048576) (hs:∀ i,(sx is i).text.size<=maxLen) :
  Calls Tryz.prog 70 #[.slice a is.length cap] w fun e w'=>Below w.heap.size w w'/\∃ b:Bool,e=.returned (.bool b)/\(b=true↔Ix is):=by
 go_enter Tryz.func70,Tryz.ntmps70
 go_wp2
 go_loopw [7] (fun i wr=>∃ k:Nat,k<=is.length/\i=.int .i64 k/\Hd (∀ j,j<k->(sx is j).text.size<=2000)/\Below w.heap.size w wr) (fun i _=>is.length-(intOf i).toNat)
 case atStart=>exact⟨0,Nat.zero_le _,rfl,(fun j hj=>by omega:∀ j,j<0->(sx is j).text.size<=2000),Below.refl _ _⟩
 case round=>
  obtain⟨k,hk,rfl,HA,hbel⟩:=hrel
  by_cases hlt:k<is.length
  ·obtain⟨b,off,rfl,c1,c2⟩:=(hc.bl hbel) k hlt;have hsk:=hs k;unfold maxLen at hsk;obtain⟨i,ei⟩:∃ i,sx is k=i:=⟨_,rfl⟩;have EI:Hd (sx is k=i):=ei;rw[ei] at c1 c2 hsk;clear hc hs ei;have hkI:(k:Int)<(is.length:Int):=by omega
   by_cases ht:i.text.size<=2000
   ·go_wp2;go_roundw
    case rel=>exact⟨k+1,by omega,by go_num,Dc HA.o (by rw[EI.o];exact ht),hbel.alloc hbel.size _⟩
    case measure=>simp[intOf];omega
   ·go_wp2;go_ret;exact⟨hbel.alloc hbel.size _,false,rfl,Fb (fun h=>by have:=h k hlt;rw[EI.o] at this;omega)⟩
  ·go_wp2;go_ret;exact⟨hbel,true,rfl,Hf (fun j hj=>HA.o j (by omega))⟩
theorem Pr (a:Option Addr) (cap:Nat) (is:List T2) (w:World) (hT:Jr w) (hc:Iy w a is) (hl:is.length<=1048576) (hk:∀ i,i<is.length->(tx is i).code.length<=1048576) (hs:∀ i j,(ix (tx is i).code j).text.size<=maxLen) :
  Calls Tryz.prog 71 #[.slice a is.length cap] w fun e w'=>Below w.heap.size w w'/\∃ b:Bool,e=.returned (.bool b)/\(b=true↔Tn is):=by
 have HK:Hd (∀ i,i<is.length->(tx is i).code.length<=1048576):=hk
 have HX:Hd (∀ i j,(ix (tx is i).code j).text.size<=maxLen):=hs
 clear hk hs
 go_enter Tryz.func71,Tryz.ntmps71
 go_wp2
 go_loopw [7] (fun i wr=>∃ k:Nat,k<=is.length/\i=.int .i64 k/\Hd (∀ j,j<k->Ah (tx is j).code=true)/\Below w.heap.size w wr) (fun i _=>is.length-(intOf i).toNat)
 case atStart=>exact⟨0,Nat.zero_le _,rfl,(fun j hj=>by omega:∀ j,j<0->Ah (tx is j).code=true),Below.refl _ _⟩
 case round=>
  obtain⟨k,hk,rfl,HA,hbel⟩:=hrel
  by_cases hlt:k<is.length
  ·obtain⟨b,off,rfl,c1,x,p,c2,c3⟩:=(hc.bl hbel) k hlt;have hck:=HK.o k hlt;have hxk:=HX.o k;obtain⟨i,ei⟩:∃ i,tx is k=i:=⟨_,rfl⟩;have EI:Hd (tx is k=i):=ei;rw[ei] at c1 c2 c3 hck hxk;clear hc ei;have hkI:(k:Int)<(is.length:Int):=by omega
   have hba:Below wr.heap.size wr (wr.alloc (.cells #[.string i.name,.slice x i.code.length p] 62)):=aN _ _;have HN:Hd (Calls Tryz.prog 26 #[.agg #[.slice x i.code.length p]] (wr.alloc (.cells #[.string i.name,.slice x i.code.length p] 62)) fun e w'=>Below (wr.alloc (.cells #[.string i.name,.slice x i.code.length p] 62)).heap.size (wr.alloc (.cells #[.string i.name,.slice x i.code.length p] 62)) w'/\e=.returned (.bool (Ah i.code))):=Hx x p i.code _ ((hT.bl hbel).bl hba) (c3.bl hba) hck hxk;have HB:Hd (Below wr.heap.size wr (wr.alloc (.cells #[.string i.name,.slice x i.code.length p] 62))):=hba;clear hba hxk c3 hT;obtain⟨v,hv⟩:∃ v,Ah i.code=v:=⟨_,rfl⟩;rw[hv] at HN;have HV:Hd (Ah i.code=v):=hv;clear hv;cases v
   ·go_wp2_with (go_at_call 26;refine HN.o.mono ?_;rintro e w1 ⟨hb1,rfl⟩)
    go_ret;exact⟨bt (bt hbel HB.o) hb1,false,rfl,Fb (fun h=>by have:=h k hlt;rw[EI.o,HV.o] at this;cases this)⟩
   ·go_wp2_with (go_at_call 26;refine HN.o.mono ?_;rintro e w1 ⟨hb1,rfl⟩)
    go_roundw
    case rel=>exact⟨k+1,by omega,by go_num,Dc HA.o (by rw[EI.o];exact HV.o),bt (bt hbel HB.o) hb1⟩
    case measure=>simp[intOf];omega
  ·go_wp2;go_ret;exact⟨hbel,true,rfl,Hf (fun j hj=>HA.o j (by omega))⟩
theorem Nz (n:Nat) (a:Option Addr) (cap:Nat) (l:List ByteArray) (w:World) (hn:n=l.length) (hc:Cp w a l) (hl:n<=1048576) (hs:∀ i,(nx l i).size<=maxLen) :
  Calls Tryz.prog 68 #[.slice a n cap] w fun e w'=>w=w'/\∃ b:Bool,e=.returned (.bool b)/\(b=true↔Gz l):=by
 subst hn;exact Rk a cap l w hc hl hs
theorem Ra (n:Nat) (a:Option Addr) (cap:Nat) (l:List ByteArray) (w:World) (hn:n=l.length) (hc:Cp w a l) (hl:n<=1048576) :
  Calls Tryz.prog 56 #[.slice a n cap] w fun e w'=>Below w.heap.size w w'/\∃ b:Bool,e=.returned (.bool b)/\(b=true↔Ey l):=by
 subst hn;exact Ng a cap l w hc hl
theorem Xu (n n':Nat) (a a':Option Addr) (cap cap':Nat) (l m:List ByteArray) (w:World) (hn:n=l.length) (hn':n'=m.length) (hc:Cp w a l) (hc':Cp w a' m) (hl:n<=1048576) (hl':n'<=1048576) (hasc:Ey m) :
  Calls Tryz.prog 69 #[.slice a n cap,.slice a' n' cap'] w fun e w'=>w=w'/\∃ b:Bool,e=.returned (.bool b)/\(b=true↔Mk l m):=by
 subst hn;subst hn';exact Tx a a' cap cap' l m w hc hc' hl hl' hasc
theorem Hq {P:Prop} {b:Bool} (h:b=true↔P) (hb:b=false):¬ P:=fun k=>by rw[h.mpr k] at hb;cases hb
theorem Uf (sa ta:Option Addr) (c1 c2:Nat) (ss:List S2) (ts:List T2) (w:World) (hT:Jr w) (h:Mx w sa ss ta ts) (hsm:Mu ss ts) :
  Calls Tryz.prog 40 #[.agg #[.slice sa ss.length c1,.slice ta ts.length c2]] w fun e w'=>Below w.heap.size w w'/\e=.returned (.int .i64 (Iw ss ts)):=by
 have hb0:Below w.heap.size w (w.alloc (.cells #[.slice sa ss.length c1,.slice ta ts.length c2] 26)):=aN _ _
 obtain⟨rs,rt,ls,lt,ns,xs,nt,lc,xt⟩:=h
 obtain⟨l1,l2,l3⟩:=hsm
 by_cases hbig:200<ss.length+ts.length
 ·have HC:Hd (Iw ss ts=1):=chk1 hbig;clear rs rt ns xs nt lc xt l3;go_enter Tryz.func40,Tryz.ntmps40;go_wp2;go_ret;exact⟨hb0,by rw[HC.o];rfl⟩
 ·have HBIG:Hd (¬ 200<ss.length+ts.length):=hbig;have RS:Hd (Iz w sa ss):=rs;have RT:Hd (Iy w ta ts):=rt;have NS:Hd (∀ i,(nx (Ai ss) i).size<=maxLen):=fun i=>by rw[Eb];exact ns i
  have NT:Hd (∀ i,(nx (Ae ts) i).size<=maxLen):=fun i=>by rw[Df];exact nt i
  have XS:Hd (∀ i,(sx ss i).text.size<=maxLen):=xs;have XT:Hd (∀ i j,(ix (tx ts i).code j).text.size<=maxLen):=xt;have L3:Hd (∀ i,i<ts.length->(tx ts i).code.length<=1048576):=l3;have HT:Hd (Jr w):=hT;clear rs rt ns xs nt lc xt l3 hT;have hb0d:Below w.heap.size w (w.alloc (.cells #[.slice sa ss.length c1,.slice ta ts.length c2] 26)).drew:=hb0.drew;have HB0:Hd (Below w.heap.size w (w.alloc (.cells #[.slice sa ss.length c1,.slice ta ts.length c2] 26)).drew):=hb0d;clear hb0 hb0d;have HE1:=Ca ss;have HE2:=Bj ts;have E1:Hd (ss.length=(Ai ss).length):=HE1.symm;have E2:Hd (ts.length=(Ae ts).length):=HE2.symm;clear HE1 HE2;go_enter Tryz.func40,Tryz.ntmps40;go_wp2_with fail
  go_region_held3 (fun w'=>w'.cell? ⟨w.heap.size,0,none⟩=some (.slice sa ss.length c1)/\w'.cell? ⟨w.heap.size,1,none⟩=some (.slice ta ts.length c2))
   (first|assumption|(simp[go_sem];done)|exact⟨Ab hbB hkA.1,Ab hbB hkA.2⟩|exact⟨Ab hbA (by simp[go_sem]),Ab hbA (by simp[go_sem])⟩)
   (first
    | (go_at_call 67;refine(Lh ta sa c2 ss.length c1 ts _ (RT.o.bl (bt HB0.o hbA)) l2).mono ?_;rintro e wB ⟨hbB,a2,p2,rfl,hn2⟩;have hn1:=hnA.out.bl hbB)
    | (go_at_call 66;refine(Li sa ta c1 ts.length c2 ss _ (RS.o.bl (bt HB0.o hbA)) l1).mono ?_;rintro e wB ⟨hbB,a1,p1,rfl,hn1⟩;have hn2:=hnA.out.bl hbB)
    | (go_at_call 66;refine(Li sa ta c1 ts.length c2 ss _ (RS.o.bl HB0.o) l1).mono ?_;rintro e wA ⟨hbA,a1,p1,rfl,hnA0⟩;have hnA:Hd (Cp wA a1 (Ai ss)):=hnA0;clear hnA0;have hkA:wA.cell? ⟨w.heap.size,0,none⟩=some (.slice sa ss.length c1)/\wA.cell? ⟨w.heap.size,1,none⟩=some (.slice ta ts.length c2):=⟨Ab hbA (by simp[go_sem]),Ab hbA (by simp[go_sem])⟩)
    | (go_at_call 67;refine(Lh ta sa c2 ss.length c1 ts _ (RT.o.bl HB0.o) l2).mono ?_;rintro e wA ⟨hbA,a2,p2,rfl,hnA0⟩;have hnA:Hd (Cp wA a2 (Ae ts)):=hnA0;clear hnA0;have hkA:wA.cell? ⟨w.heap.size,0,none⟩=some (.slice sa ss.length c1)/\wA.cell? ⟨w.heap.size,1,none⟩=some (.slice ta ts.length c2):=⟨Ab hbA (by simp[go_sem]),Ab hbA (by simp[go_sem])⟩))
  have hkB:wB.cell? ⟨w.heap.size,0,none⟩=some (.slice sa ss.length c1)/\wB.cell? ⟨w.heap.size,1,none⟩=some (.slice ta ts.length c2):=by assumption
  obtain⟨k0,k1⟩:=hkB;have hBB:Below w.heap.size w wB:=bt (bt HB0.o hbA) hbB;have N1:Hd (Cp wB a1 (Ai ss)):=hn1;have N2:Hd (Cp wB a2 (Ae ts)):=hn2;clear hbA hbB hkA hnA hn1 hn2;go_wp2_with fail;refine(Nz ss.length a1 p1 (Ai ss) _ E1.o N1.o l1 NS.o).mono ?_;rintro e w' ⟨rfl,b1,rfl,hb1⟩;have HB1:Hd (b1=true↔Gz (Ai ss)):=hb1;clear hb1;cases b1
  ·have HC:Hd (Iw ss ts=2):=chk2 HBIG.o (fun h=>Hq HB1.o rfl h.1);go_wp2_with fail;go_ret;exact⟨hBB,by rw[HC.o];rfl⟩
  ·have H1:Hd (Gz (Ai ss)):=HB1.o.mp rfl;clear HB1;go_wp2_with fail;refine(Nz ts.length a2 p2 (Ae ts) _ E2.o N2.o l2 NT.o).mono ?_;rintro e w' ⟨rfl,b2,rfl,hb2⟩;have HB2:Hd (b2=true↔Gz (Ae ts)):=hb2;clear hb2;cases b2
   ·have HC:Hd (Iw ss ts=2):=chk2 HBIG.o (fun h=>Hq HB2.o rfl h.2);go_wp2_with fail;go_ret;exact⟨hBB,by rw[HC.o];rfl⟩
   ·have H2:Hd (Gz (Ai ss)/\Gz (Ae ts)):=⟨H1.o,HB2.o.mp rfl⟩;clear H1 HB2;go_wp2_with fail;refine(Ra ss.length a1 p1 (Ai ss) _ E1.o N1.o l1).mono ?_;rintro e w3 ⟨hb3,b3,rfl,hb3'⟩;have HB3:Hd (b3=true↔Ey (Ai ss)):=hb3';have hB3:=bt hBB hb3;have N13:Hd (Cp w3 a1 (Ai ss)):=N1.o.bl hb3;have N23:Hd (Cp w3 a2 (Ae ts)):=N2.o.bl hb3;have k03:=Ab hb3 k0;have k13:=Ab hb3 k1;clear hb3' hb3 hBB N1 N2 k0 k1;cases b3
    ·have HC:Hd (Iw ss ts=3):=chk3 HBIG.o H2.o (Hq HB3.o rfl);go_wp2_with fail;go_ret;exact⟨hB3,by rw[HC.o];rfl⟩
    ·have H3:Hd (Ey (Ai ss)):=HB3.o.mp rfl;clear HB3;go_wp2_with fail;refine(Ra ts.length a2 p2 (Ae ts) _ E2.o N23.o l2).mono ?_;rintro e w4 ⟨hb4,b4,rfl,hb4'⟩;have HB4:Hd (b4=true↔Ey (Ae ts)):=hb4';have hB4:=bt hB3 hb4;have N14:Hd (Cp w4 a1 (Ai ss)):=N13.o.bl hb4;have N24:Hd (Cp w4 a2 (Ae ts)):=N23.o.bl hb4;have k04:=Ab hb4 k03;have k14:=Ab hb4 k13;clear hb4' hb4 hB3 N13 N23 k03 k13;cases b4
     ·have HC:Hd (Iw ss ts=4):=chk4 HBIG.o H2.o H3.o (Hq HB4.o rfl);go_wp2_with fail;go_ret;exact⟨hB4,by rw[HC.o];rfl⟩
     ·have H4:Hd (Ey (Ae ts)):=HB4.o.mp rfl;clear HB4;go_wp2_with fail;refine(Xu ss.length ts.length a1 a2 p1 p2 (Ai ss) (Ae ts) _ E1.o E2.o N14.o N24.o l1 l2 H4.o).mono ?_;rintro e w' ⟨rfl,b5,rfl,hb5⟩;have HB5:Hd (b5=true↔Mk (Ai ss) (Ae ts)):=hb5;clear hb5;cases b5
      ·have H5:Hd (¬ Mk (Ai ss) (Ae ts)):=Hq HB5.o rfl;clear HB5;go_wp2_with fail;refine(Rj sa c1 ss _ (RS.o.bl hB4) l1 XS.o).mono ?_;rintro e w6 ⟨hb6,b6,rfl,hb6'⟩;have HB6:Hd (b6=true↔Ix ss):=hb6';have hB6:=bt hB4 hb6;have k16:=Ab hb6 k14;clear hb6' hb6 hB4 k04 k14 N14 N24;cases b6
       ·have HC:Hd (Iw ss ts=6):=chk6 HBIG.o H2.o H3.o H4.o H5.o (Hq HB6.o rfl);go_wp2_with fail;go_ret;exact⟨hB6,by rw[HC.o];rfl⟩
       ·have H6:Hd (Ix ss):=HB6.o.mp rfl;clear HB6;go_wp2_with fail;refine(Pr ta c2 ts _ (HT.o.bl hB6) (RT.o.bl hB6) l2 L3.o XT.o).mono ?_;rintro e w7 ⟨hb7,b7,rfl,hb7'⟩;have HB7:Hd (b7=true↔Tn ts):=hb7';have hB7:=bt hB6 hb7;clear hb7' hb7 hB6 k16;cases b7
        ·have HC:Hd (Iw ss ts=7):=chk7 HBIG.o H2.o H3.o H4.o H5.o H6.o (Hq HB7.o rfl);go_wp2_with fail;go_ret;exact⟨hB7,by rw[HC.o];rfl⟩
        ·have HC:Hd (Iw ss ts=0):=chk0 HBIG.o H2.o H3.o H4.o H5.o H6.o (HB7.o.mp rfl);go_wp2_with fail;go_ret;exact⟨hB7,by rw[HC.o];rfl⟩
      ·have HC:Hd (Iw ss ts=5):=chk5 HBIG.o H2.o H3.o H4.o (HB5.o.mp rfl);go_wp2_with fail;go_ret;exact⟨hB4,by rw[HC.o];rfl⟩
theorem Wf (sa ta:Option Addr) (n1 c1 c2:Nat) (ts:List T2) (s:ByteArray) (w:World) (hc:Iy w ta ts) (hl:ts.length<=1048576) :
  Calls Tryz.prog 43 #[.agg #[.slice sa n1 c1,.slice ta ts.length c2],.string s] w fun e w'=>Below w.heap.size w w'/\∃ r:Int,e=.returned (.int .i64 r)/\((0<=r/\Fi (Ae ts) s)\/(r<0/\¬ Fi (Ae ts) s)):=by
 have hb0:Below w.heap.size w (w.alloc (.cells #[.slice sa n1 c1,.slice ta ts.length c2] 26)):=aN _ _
 have k1:(w.alloc (.cells #[.slice sa n1 c1,.slice ta ts.length c2] 26)).cell? ⟨w.heap.size,1,none⟩=some (.slice ta ts.length c2):=by simp[go_sem]
 have HC:Hd (Iy (w.alloc (.cells #[.slice sa n1 c1,.slice ta ts.length c2] 26)) ta ts):=hc.bl hb0
 clear hc
 go_enter Tryz.func43,Tryz.ntmps43
 go_wp2
 go_loopw [5] (fun i wr=>∃ k:Nat,k<=ts.length/\i=.int .i64 k/\Hd (∀ j,j<k->(tx ts j).name≠s)/\(w.alloc (.cells #[.slice sa n1 c1,.slice ta ts.length c2] 26))=wr) (fun i _=>ts.length-(intOf i).toNat)
 case atStart=>exact⟨0,Nat.zero_le _,rfl,(fun j hj=>by omega:∀ j,j<0->(tx ts j).name≠s),rfl⟩
 case round=>
  obtain⟨k,hk,rfl,HA,rfl⟩:=hrel
  by_cases hlt:k<ts.length
  ·obtain⟨b,off,rfl,c1',x,p,c2',c3'⟩:=HC.o k hlt;have hkI:(k:Int)<(ts.length:Int):=by omega
   obtain⟨nm,en⟩:∃ nm,(tx ts k).name=nm:=⟨_,rfl⟩;have EN:Hd ((tx ts k).name=nm):=en;rw[en] at c1';clear en c2' c3'
   by_cases he:nm=s
   ·have heq:=Eh he;have HE:Hd (nm=s):=he;clear he;go_wp2;go_ret;exact⟨hb0,_,rfl,Or.inl ⟨by omega,k,by rw[Bj];exact hlt,by rw[Df,EN.o];exact HE.o⟩⟩
   ·have heq:=Es he;have HE:Hd (nm≠s):=he;clear he;go_wp2;go_roundw
    case rel=>exact⟨k+1,by omega,by go_num,Dc HA.o (by rw[EN.o];exact HE.o),trivial⟩
    case measure=>simp[intOf];omega
  ·go_wp2;go_ret;exact⟨hb0,_,rfl,Or.inr ⟨by omega,fun ⟨j,hj,e⟩=>by rw[Bj] at hj;rw[Df] at e;exact HA.o j (by omega) e⟩⟩
end Go.Proofs.YtjlnkepkkdefdaaGreatDoor
