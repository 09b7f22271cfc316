import Derived.Test.YtbkkjodaaijimaaGreatDoorTChkA
namespace Go.Proofs.YtbkkjodaaijimaaGreatDoor
open _root_.Go.Proofs.Tryz Go.RowKit
open Value renaming slice->J,string->S,bool->F,agg->G,tuple->Y
open Option renaming some->M,none->N
open Obj renaming cells->O
open Go renaming World->E
open Ending renaming returned->H
open _root_ renaming List->L,Nat->X
set_option linter.unusedVariables false
set_option maxHeartbeats 8000000
set_option maxRecDepth 100000
set_option linter.unusedSimpArgs false
variable {l:L By} {t:By} {m:X}
theorem Rl(s t:By)(w:E):Calls prog 73 #[S s,S t] w λe w'=>e=H (F (Ap s t))/\w=w':=by
 unfold Ap
 have e1:=Dg (rfl:s=s)
 go_enter func73,ntmps73
 exact qaf
theorem Yv(h:Fs l)(hm:m<l.length)(hv:Ap (nx l m) t=true):∀j,j<m+1->Ap (nx l j) t=true:=by
 intro j hj
 rcases Nat.lt_or_ge j m with h1|h1
 ·exact Kj (h.pair h1 hm) hv
 ·obtain rfl:j=m:=qb;exact hv
theorem Sy(h:Fs l)(hv:Ap (nx l m) t=false):∀j,m<=j->j<l.length->Ap (nx l j) t=false:=by
 intro j hj hl
 rcases Nat.lt_or_ge m j with h1|h1
 ·rw[Bool.eq_false_iff];intro h2;have:=Kj (h.pair h1 hl) h2;rw[hv]at this;cases this
 ·obtain rfl:j=m:=qb;exact hv
theorem Nc{i:X}(h:Fs l)(h1:∀j,j<i->Ap (nx l j) t=true)(h2:∀j,i<=j->j<l.length->Ap (nx l j) t=false)(k:Ed l t):i<l.length/\nx l i=t:=by
 obtain⟨j,hj,e⟩:=k
 rcases Nat.lt_trichotomy j i with Q2|Q2|Q2
 ·have:=h1 j Q2;rw[e,Eh]at this;cases this
 ·subst Q2;exact⟨hj,e⟩
 ·have:=h.pair Q2 hj;rw[e,h2 i (Nat.le_refl _) qb]at this;cases this
theorem Qs(a:Option Addr)(cap:X)(l:L By)(t:By)(w:E)(hc:Cc w a l)(hl:l.length<=1048576)(eg:Fs l):Calls prog 141 #[J a l.length cap,S t] w λe w'=>w=w'/\∃(r:Int)(b:Bool),e=H (Y #[I r,F b])/\(b=true↔Ed l t):=by
 have je:Hd (Fs l):=eg
 clear eg
 go_enter func141,ntmps141
 go_wp2
 go_loopw [7,8] (λi j wr=>∃lo hi:X,i=I lo/\j=I hi/\lo<=hi/\hi<=l.length/\Hd (∀j,j<lo->Ap (nx l j) t=true)/\Hd (∀j,hi<=j->j<l.length->Ap (nx l j) t=false)/\w=wr) (λi j _=>(intOf j).toNat-(intOf i).toNat)
 case atStart=>exact⟨0,l.length,rfl,rfl,Nat.zero_le _,Nat.le_refl _,(λj hj=>by omega:∀j,j<0->Ap (nx l j) t=true),(λj h1 h2=>by omega:∀j,l.length<=j->j<l.length->Ap (nx l j) t=false),rfl⟩
 case round=>
  obtain⟨lo,hi,rfl,rfl,h1,h2,HL,HH,rfl⟩:=hrel
  by_cases aj:lo<hi
  ·obtain⟨m,e1,up,rd⟩:∃m:X,((lo:Int)+(hi:Int)) / 2=(m:Int)/\lo<=m/\m<hi:=⟨(lo+hi) / 2,qb,qb,qb⟩;obtain⟨b,off,rfl,c1⟩:=hc.nx m qb;obtain⟨v,hv⟩:=Aj (Ap (nx l m) t);have HV:Hd (Ap (nx l m) t=v):=hv;have HN:Hd (∀W:E,Calls prog 73 #[S (nx l m),S t] W λe w'=>e=H (F v)/\W=w'):=λW=>by rw[<- hv];exact Rl _ _ W
   clear hc hv;generalize nx l m=s at c1 HN;have V4:(m:Int)<(l.length:Int):=qb;cases v
   ·go_wp2_with (go_at_call 73;refine(HN.o _).mono ?_;rintro e w' ⟨rfl,rfl⟩)
    go_roundw
    case rel=>exact⟨lo,m,rfl,rfl,up,qb,HL.o,Sy je.o HV.o,trivial⟩
    case measure=>simp[intOf];omega
   ·go_wp2_with (go_at_call 73;refine(HN.o _).mono ?_;rintro e w' ⟨rfl,rfl⟩)
    go_roundw
    case rel=>exact⟨m+1,hi,qj,rfl,qb,qb,Yv je.o qb HV.o,HH.o,trivial⟩
    case measure=>simp[intOf];omega
  ·obtain rfl:lo=hi:=qb
   by_cases vt:lo<l.length
   ·obtain⟨b,off,rfl,c1⟩:=hc.nx lo vt;have hlI:(lo:Int)<(l.length:Int):=qb
    by_cases he:nx l lo=t
    ·have n6:=Dg he;have HE:Hd (nx l lo=t):=he;clear hc he;generalize nx l lo=s at c1 n6;go_wp2
     go_ret2
     exact⟨rfl,_,true,rfl,Gi ⟨lo,vt,HE.o⟩⟩
    ·have n6:=Gy he;have HE:Hd (nx l lo≠t):=he;clear hc he;have hss:=Dg (rfl:nx l lo=nx l lo);generalize nx l lo=s at c1 n6 hss;go_wp2
     go_ret2
     exact⟨rfl,_,false,rfl,Ea (λh=>HE.o (Nc je.o HL.o HH.o h).2)⟩
   ·have hlI:¬ (lo:Int)<(l.length:Int):=qb;have yu:Hd (¬ lo<l.length):=vt;go_wp2
    go_ret2
    exact⟨rfl,_,Or.inl ⟨rfl,λh=>yu.o (Nc je.o HL.o HH.o h).1⟩⟩
theorem Vm(a a':Option Addr)(cap ai:X)(l m:L By)(w:E)(hc:Cc w a l)(mr:Cc w a' m)(hl:l.length<=1048576)(F4:m.length<=1048576)(eg:Fs m):Calls prog 121 #[J a l.length cap,J a' m.length ai] w λe w'=>w=w'/\∃b:Bool,e=H (F b)/\(b=true↔Nn l m):=by
 have HB:Hd (∀t:By,Calls prog 141 #[J a' m.length ai,S t] w λe w'=>w=w'/\∃(r:Int)(b:Bool),e=H (Y #[I r,F b])/\(b=true↔Ed m t)):=λt=>Qs a' ai m t w mr F4 eg
 clear mr eg
 go_enter func121,ntmps121
 go_wp2
 go_loopw [11] (λi wr=>∃k:X,k<=l.length/\i=I k/\Hd (∀j,j<k->¬ Ed m (nx l j))/\w=wr) (λi _=>l.length-(intOf i).toNat)
 case atStart=>exact⟨0,Nat.zero_le _,rfl,(λj hj=>by omega:∀j,j<0->¬ Ed m (nx l j)),rfl⟩
 case round=>
  obtain⟨k,hk,rfl,HA,rfl⟩:=hrel
  by_cases aj:k<l.length
  ·obtain⟨b,off,rfl,c1⟩:=hc.nx k aj;clear hc;obtain⟨s,es⟩:=Aj (nx l k);have ES:Hd (nx l k=s):=es;rw[es]at c1;clear es;go_wp2_with fail;refine(HB.o s).mono ?_;rintro e w' ⟨rfl,r,b,rfl,hb⟩;cases b
   ·(have HNo:Hd (¬ Ed m s):=λh=>by have:=hb.mpr h;cases this);clear hb;go_wp2;go_roundw
    case rel=>exact⟨k+1,qb,qj,Co HA.o (by rw[ES.o];exact HNo.o),trivial⟩
    case measure=>simp[intOf];omega
   ·have HYes:Hd (Ed m s):=hb.mp rfl;clear hb;go_wp2;go_ret;exact⟨rfl,true,rfl,Gi ⟨k,aj,by rw[ES.o];exact HYes.o⟩⟩
  ·go_wp2;go_ret;exact⟨rfl,false,rfl,Ea (λ⟨j,hj,h⟩=>HA.o j qb h)⟩
theorem Ta(a:Option Addr)(cap:X)(is:L S2)(w:E)(hc:Ho w a is)(hl:is.length<=1048576)(hs:∀i,(sx is i).text.size<=maxLen):Calls prog 122 #[J a is.length cap] w λe w'=>Bw w w'/\∃b:Bool,e=H (F b)/\(b=true↔Jf is):=by
 go_enter func122,ntmps122
 go_wp2
 go_loopw [7] (λi wr=>∃k:X,k<=is.length/\i=I k/\Hd (∀j,j<k->(sx is j).text.size<=2000)/\Bw w wr) (λi _=>is.length-(intOf i).toNat)
 case atStart=>exact⟨0,Nat.zero_le _,rfl,(λj hj=>by omega:∀j,j<0->(sx is j).text.size<=2000),Below.refl _ _⟩
 case round=>
  obtain⟨k,hk,rfl,HA,am⟩:=hrel
  by_cases aj:k<is.length
  ·obtain⟨b,off,rfl,c1,c2⟩:=(hc.bl am) k aj;have fx:=hs k;unfold maxLen at fx;obtain⟨i,ei⟩:=Aj (sx is k);have EI:Hd (sx is k=i):=ei;rw[ei]at c1 c2 fx;clear hc hs ei;have io:(k:Int)<(is.length:Int):=qb
   by_cases ht:i.text.size<=2000
   ·go_wp2;go_roundw
    case rel=>exact⟨k+1,qb,qj,Co HA.o (by rw[EI.o];exact ht),am.alloc am.size _⟩
    case measure=>simp[intOf];omega
   ·go_wp2;go_ret;exact⟨am.alloc am.size _,false,rfl,Ea (λh=>by have:=h k aj;rw[EI.o]at this;omega)⟩
  ·go_wp2;go_ret;exact⟨am,true,rfl,Gi (λj hj=>HA.o j qb)⟩
theorem Qa(a:Option Addr)(cap:X)(is:L T2)(w:E)(hT:Kd w)(hc:Gu w a is)(hl:is.length<=1048576)(hk:∀i,i<is.length->(tx is i).code.length<=1048576)(hs:∀i j,(ix (tx is i).code j).text.size<=maxLen):Calls prog 123 #[J a is.length cap] w λe w'=>Bw w w'/\∃b:Bool,e=H (F b)/\(b=true↔Ur is):=by
 have HK:Hd (∀i,i<is.length->(tx is i).code.length<=1048576):=hk
 have HX:Hd (∀i j,(ix (tx is i).code j).text.size<=maxLen):=hs
 clear hk hs
 go_enter func123,ntmps123
 go_wp2
 go_loopw [7] (λi wr=>∃k:X,k<=is.length/\i=I k/\Hd (∀j,j<k->Au (tx is j).code=true)/\Bw w wr) (λi _=>is.length-(intOf i).toNat)
 case atStart=>exact⟨0,Nat.zero_le _,rfl,(λj hj=>by omega:∀j,j<0->Au (tx is j).code=true),Below.refl _ _⟩
 case round=>
  obtain⟨k,hk,rfl,HA,am⟩:=hrel
  by_cases aj:k<is.length
  ·obtain⟨b,off,rfl,c1,x,p,c2,c3⟩:=(hc.bl am) k aj;have yg:=HK.o k aj;have T4:=HX.o k;obtain⟨i,ei⟩:=Aj (tx is k);have EI:Hd (tx is k=i):=ei;rw[ei]at c1 c2 c3 yg T4;clear hc ei;have io:(k:Int)<(is.length:Int):=qb;have fc:Bw wr (wr.alloc (O #[S i.name,J x i.code.length p] 99)):=aN _ _;have HN:Hd (Calls prog 142 #[G #[J x i.code.length p]] (wr.alloc (O #[S i.name,J x i.code.length p] 99)) λe w'=>Below (wr.alloc (O #[S i.name,J x i.code.length p] 99)).heap.size (wr.alloc (O #[S i.name,J x i.code.length p] 99)) w'/\e=H (F (Au i.code))):=Kt x p i.code _ ((hT.bl am).bl fc) (c3.bl fc) yg T4;have HB:Hd (Bw wr (wr.alloc (O #[S i.name,J x i.code.length p] 99))):=fc;clear fc T4 c3 hT;obtain⟨v,hv⟩:=Aj (Au i.code);rw[hv]at HN;have HV:Hd (Au i.code=v):=hv;clear hv;cases v
   ·go_wp2_with (go_at_call 142;refine HN.o.mono ?_;rintro e w1 ⟨af,rfl⟩)
    go_ret;exact⟨bt (bt am HB.o) af,false,rfl,Ea (λh=>by have:=h k aj;rw[EI.o,HV.o]at this;cases this)⟩
   ·go_wp2_with (go_at_call 142;refine HN.o.mono ?_;rintro e w1 ⟨af,rfl⟩)
    go_roundw
    case rel=>exact⟨k+1,qb,qj,Co HA.o (by rw[EI.o];exact HV.o),bt (bt am HB.o) af⟩
    case measure=>simp[intOf];omega
  ·go_wp2;go_ret;exact⟨am,true,rfl,Gi (λj hj=>HA.o j qb)⟩
theorem Oy(n:X)(a:Option Addr)(cap:X)(l:L By)(w:E)(hn:n=l.length)(hc:Cc w a l)(hl:n<=1048576)(hs:∀i,(nx l i).size<=maxLen):Calls prog 119 #[J a n cap] w λe w'=>w=w'/\∃b:Bool,e=H (F b)/\(b=true↔Gw l):=by
 subst hn;exact Tb a cap l w hc hl hs
theorem Rn(n:X)(a:Option Addr)(cap:X)(l:L By)(w:E)(hn:n=l.length)(hc:Cc w a l)(hl:n<=1048576):Calls prog 120 #[J a n cap] w λe w'=>Bw w w'/\∃b:Bool,e=H (F b)/\(b=true↔Fs l):=by
 subst hn;exact Oi a cap l w hc hl
theorem Qam(n n':X)(a a':Option Addr)(cap ai:X)(l m:L By)(w:E)(hn:n=l.length)(hn':n'=m.length)(hc:Cc w a l)(mr:Cc w a' m)(hl:n<=1048576)(F4:n'<=1048576)(eg:Fs m):Calls prog 121 #[J a n cap,J a' n' ai] w λe w'=>w=w'/\∃b:Bool,e=H (F b)/\(b=true↔Nn l m):=by
 subst hn;subst hn';exact Vm a a' cap ai l m w hc mr hl F4 eg
theorem Hy{P:Prop}{b:Bool}(h:b=true↔P)(hb:b=false):¬ P:=λk=>by rw[h.mpr k]at hb;cases hb
theorem Oh(sa ta:Option Addr)(c1 c2:X)(ss:L S2)(ts:L T2)(w:E)(hT:Kd w)(h:Lv w sa ss ta ts)(lx:Fj ss ts):Calls prog 93 #[G #[J sa ss.length c1,J ta ts.length c2]] w λe w'=>Bw w w'/\e=H (I (Ic ss ts)):=by
 have ak:Bw w (w.alloc (O #[J sa ss.length c1,J ta ts.length c2] 40)):=aN _ _
 obtain⟨rs,rt,ls,lt,ns,xs,nt,lc,xt⟩:=h
 obtain⟨l1,l2,l3⟩:=lx
 by_cases vf:200<ss.length+ts.length
 ·have HC:Hd (Ic ss ts=1):=chk1 vf;clear rs rt ns xs nt lc xt l3;go_enter func93,ntmps93;go_wp2;go_ret;exact⟨ak,qac⟩
 ·have lq:Hd (¬ 200<ss.length+ts.length):=vf;have RS:Hd (Ho w sa ss):=rs;have RT:Hd (Gu w ta ts):=rt;have NS:Hd (∀i,(nx (Am ss) i).size<=maxLen):=λi=>by rw[Dv];exact ns i
  have NT:Hd (∀i,(nx (Ak ts) i).size<=maxLen):=λi=>by rw[Dk];exact nt i
  have XS:Hd (∀i,(sx ss i).text.size<=maxLen):=xs;have XT:Hd (∀i j,(ix (tx ts i).code j).text.size<=maxLen):=xt;have L3:Hd (∀i,i<ts.length->(tx ts i).code.length<=1048576):=l3;have HT:Hd (Kd w):=hT;clear rs rt ns xs nt lc xt l3 hT;have hb0d:Bw w (w.alloc (O #[J sa ss.length c1,J ta ts.length c2] 40)).drew:=ak.drew;have E4:Hd (Bw w (w.alloc (O #[J sa ss.length c1,J ta ts.length c2] 40)).drew):=hb0d;clear ak hb0d;have HE1:=Bs ss;have HE2:=Bp ts;have E1:Hd (ss.length=(Am ss).length):=HE1.symm;have E2:Hd (ts.length=(Ak ts).length):=HE2.symm;clear HE1 HE2;go_enter func93,ntmps93;go_wp2_with fail
  go_region_held3 (λw'=>w'.cell? ⟨w.heap.size,0,N⟩=M (J sa ss.length c1)/\w'.cell? ⟨w.heap.size,1,N⟩=M (J ta ts.length c2))
   (first|assumption|(simp[go_sem];done)|exact⟨Aa gh yd.1,Aa gh yd.2⟩|exact⟨Aa bu qk,Aa bu qk⟩)
   (first
    | (go_at_call 118;refine(Lx ta sa c2 ss.length c1 ts _ (RT.o.bl (bt E4.o bu)) l2).mono ?_;rintro e wB ⟨gh,a2,p2,rfl,hn2⟩;have M5:=hnA.out.bl gh)
    | (go_at_call 117;refine(Ly sa ta c1 ts.length c2 ss _ (RS.o.bl (bt E4.o bu)) l1).mono ?_;rintro e wB ⟨gh,a1,p1,rfl,M5⟩;have hn2:=hnA.out.bl gh)
    | (go_at_call 117;refine(Ly sa ta c1 ts.length c2 ss _ (RS.o.bl E4.o) l1).mono ?_;rintro e wA ⟨bu,a1,p1,rfl,U9⟩;have hnA:Hd (Cc wA a1 (Am ss)):=U9;clear U9;have yd:wA.cell? ⟨w.heap.size,0,N⟩=M (J sa ss.length c1)/\wA.cell? ⟨w.heap.size,1,N⟩=M (J ta ts.length c2):=⟨Aa bu qk,Aa bu qk⟩)
    | (go_at_call 118;refine(Lx ta sa c2 ss.length c1 ts _ (RT.o.bl E4.o) l2).mono ?_;rintro e wA ⟨bu,a2,p2,rfl,U9⟩;have hnA:Hd (Cc wA a2 (Ak ts)):=U9;clear U9;have yd:wA.cell? ⟨w.heap.size,0,N⟩=M (J sa ss.length c1)/\wA.cell? ⟨w.heap.size,1,N⟩=M (J ta ts.length c2):=⟨Aa bu qk,Aa bu qk⟩))
  have hkB:wB.cell? ⟨w.heap.size,0,N⟩=M (J sa ss.length c1)/\wB.cell? ⟨w.heap.size,1,N⟩=M (J ta ts.length c2):=by assumption
  obtain⟨k0,k1⟩:=hkB;have hBB:Bw w wB:=bt (bt E4.o bu) gh;have N1:Hd (Cc wB a1 (Am ss)):=M5;have N2:Hd (Cc wB a2 (Ak ts)):=hn2;clear bu gh yd hnA M5 hn2;go_wp2_with fail;refine(Oy ss.length a1 p1 (Am ss) _ E1.o N1.o l1 NS.o).mono ?_;rintro e w' ⟨rfl,b1,rfl,af⟩;have ff:Hd (b1=true↔Gw (Am ss)):=af;clear af;cases b1
  ·have HC:Hd (Ic ss ts=2):=chk2 lq.o (λh=>Hy ff.o rfl h.1);go_wp2_with fail;go_ret;exact⟨hBB,qac⟩
  ·have H1:Hd (Gw (Am ss)):=ff.o.mp rfl;clear ff;go_wp2_with fail;refine(Oy ts.length a2 p2 (Ak ts) _ E2.o N2.o l2 NT.o).mono ?_;rintro e w' ⟨rfl,b2,rfl,ag⟩;have fw:Hd (b2=true↔Gw (Ak ts)):=ag;clear ag;cases b2
   ·have HC:Hd (Ic ss ts=2):=chk2 lq.o (λh=>Hy fw.o rfl h.2);go_wp2_with fail;go_ret;exact⟨hBB,qac⟩
   ·have H2:Hd (Gw (Am ss)/\Gw (Ak ts)):=⟨H1.o,fw.o.mp rfl⟩;clear H1 fw;go_wp2_with fail;refine(Rn ss.length a1 p1 (Am ss) _ E1.o N1.o l1).mono ?_;rintro e w3 ⟨ba,b3,rfl,hb3'⟩;have d7:Hd (b3=true↔Fs (Am ss)):=hb3';have ij:=bt hBB ba;have N13:Hd (Cc w3 a1 (Am ss)):=N1.o.bl ba;have N23:Hd (Cc w3 a2 (Ak ts)):=N2.o.bl ba;have k03:=Aa ba k0;have k13:=Aa ba k1;clear hb3' ba hBB N1 N2 k0 k1;cases b3
    ·have HC:Hd (Ic ss ts=3):=chk3 lq.o H2.o (Hy d7.o rfl);go_wp2_with fail;go_ret;exact⟨ij,qac⟩
    ·have H3:Hd (Fs (Am ss)):=d7.o.mp rfl;clear d7;go_wp2_with fail;refine(Rn ts.length a2 p2 (Ak ts) _ E2.o N23.o l2).mono ?_;rintro e w4 ⟨co,b4,rfl,hb4'⟩;have wh:Hd (b4=true↔Fs (Ak ts)):=hb4';have ii:=bt ij co;have N14:Hd (Cc w4 a1 (Am ss)):=N13.o.bl co;have N24:Hd (Cc w4 a2 (Ak ts)):=N23.o.bl co;have k04:=Aa co k03;have k14:=Aa co k13;clear hb4' co ij N13 N23 k03 k13;cases b4
     ·have HC:Hd (Ic ss ts=4):=chk4 lq.o H2.o H3.o (Hy wh.o rfl);go_wp2_with fail;go_ret;exact⟨ii,qac⟩
     ·have H4:Hd (Fs (Ak ts)):=wh.o.mp rfl;clear wh;go_wp2_with fail;refine(Qam ss.length ts.length a1 a2 p1 p2 (Am ss) (Ak ts) _ E1.o E2.o N14.o N24.o l1 l2 H4.o).mono ?_;rintro e w' ⟨rfl,b5,rfl,cj⟩;have jm:Hd (b5=true↔Nn (Am ss) (Ak ts)):=cj;clear cj;cases b5
      ·have H5:Hd (¬ Nn (Am ss) (Ak ts)):=Hy jm.o rfl;clear jm;go_wp2_with fail;refine(Ta sa c1 ss _ (RS.o.bl ii) l1 XS.o).mono ?_;rintro e w6 ⟨bz,b6,rfl,hb6'⟩;have yz:Hd (b6=true↔Jf ss):=hb6';have J8:=bt ii bz;have k16:=Aa bz k14;clear hb6' bz ii k04 k14 N14 N24;cases b6
       ·have HC:Hd (Ic ss ts=6):=chk6 lq.o H2.o H3.o H4.o H5.o (Hy yz.o rfl);go_wp2_with fail;go_ret;exact⟨J8,qac⟩
       ·have H6:Hd (Jf ss):=yz.o.mp rfl;clear yz;go_wp2_with fail;refine(Qa ta c2 ts _ (HT.o.bl J8) (RT.o.bl J8) l2 L3.o XT.o).mono ?_;rintro e w7 ⟨ce,b7,rfl,hb7'⟩;have R9:Hd (b7=true↔Ur ts):=hb7';have D0:=bt J8 ce;clear hb7' ce J8 k16;cases b7
        ·have HC:Hd (Ic ss ts=7):=chk7 lq.o H2.o H3.o H4.o H5.o H6.o (Hy R9.o rfl);go_wp2_with fail;go_ret;exact⟨D0,qac⟩
        ·have HC:Hd (Ic ss ts=0):=chk0 lq.o H2.o H3.o H4.o H5.o H6.o (R9.o.mp rfl);go_wp2_with fail;go_ret;exact⟨D0,qac⟩
      ·have HC:Hd (Ic ss ts=5):=chk5 lq.o H2.o H3.o H4.o (jm.o.mp rfl);go_wp2_with fail;go_ret;exact⟨ii,qac⟩
theorem Zc(sa ta:Option Addr)(n1 c1 c2:X)(ts:L T2)(s:By)(w:E)(hc:Gu w ta ts)(hl:ts.length<=1048576):Calls prog 60 #[G #[J sa n1 c1,J ta ts.length c2],S s] w λe w'=>Bw w w'/\∃r:Int,e=H (I r)/\((0<=r/\Ed (Ak ts) s)\/(r<0/\¬ Ed (Ak ts) s)):=by
 have ak:Bw w (w.alloc (O #[J sa n1 c1,J ta ts.length c2] 40)):=aN _ _
 have k1:(w.alloc (O #[J sa n1 c1,J ta ts.length c2] 40)).cell? ⟨w.heap.size,1,N⟩=M (J ta ts.length c2):=qk
 have HC:Hd (Gu (w.alloc (O #[J sa n1 c1,J ta ts.length c2] 40)) ta ts):=hc.bl ak
 clear hc
 go_enter func60,ntmps60
 go_wp2
 go_loopw [5] (λi wr=>∃k:X,k<=ts.length/\i=I k/\Hd (∀j,j<k->(tx ts j).name≠s)/\(w.alloc (O #[J sa n1 c1,J ta ts.length c2] 40))=wr) (λi _=>ts.length-(intOf i).toNat)
 case atStart=>exact⟨0,Nat.zero_le _,rfl,(λj hj=>by omega:∀j,j<0->(tx ts j).name≠s),rfl⟩
 case round=>
  obtain⟨k,hk,rfl,HA,rfl⟩:=hrel
  by_cases aj:k<ts.length
  ·obtain⟨b,off,rfl,D1,x,p,yl,c3'⟩:=HC.o k aj;have io:(k:Int)<(ts.length:Int):=qb;obtain⟨nm,en⟩:=Aj ((tx ts k).name);have EN:Hd ((tx ts k).name=nm):=en;rw[en]at D1;clear en yl c3'
   by_cases he:nm=s
   ·have n6:=Dg he;have HE:Hd (nm=s):=he;clear he;go_wp2;go_ret;exact⟨ak,_,rfl,Or.inl ⟨qb,k,by rw[Bp];exact aj,by rw[Dk,EN.o];exact HE.o⟩⟩
   ·have n6:=Gy he;have HE:Hd (nm≠s):=he;clear he;go_wp2;go_roundw
    case rel=>exact⟨k+1,qb,qj,Co HA.o (by rw[EN.o];exact HE.o),trivial⟩
    case measure=>simp[intOf];omega
  ·go_wp2;go_ret;exact⟨ak,_,rfl,Or.inr ⟨qb,λ⟨j,hj,e⟩=>by rw[Bp]at hj;rw[Dk]at e;exact HA.o j qb e⟩⟩
theorem cmp_lt:∀(a b:L UInt8),Lib.compareBytes a b<0↔Op.bytesLess a b=true
 | [],[]=>qgh
 | [],_::_=>qgh
 | _::_,[]=>qgh
 | a::ar,b::bs=>by
  have ih:=cmp_lt ar bs
  by_cases h1:a<b
  ·simp[Lib.compareBytes,Op.bytesLess,h1]
  ·by_cases h2:b<a
   ·(have hne:¬ a=b:=by intro e;subst e;exact absurd h2 qg);simp[Lib.compareBytes,Op.bytesLess,h1,h2,hne]
   ·have he:a=b:=UInt8.le_antisymm (UInt8.not_lt.mp h2) (UInt8.not_lt.mp h1);subst he;simp[Lib.compareBytes,Op.bytesLess,ih]
theorem cmp_zero:∀(a b:L UInt8),Lib.compareBytes a b=0↔a=b
 | [],[]=>by simp[Lib.compareBytes]
 | [],_::_=>by simp[Lib.compareBytes]
 | _::_,[]=>by simp[Lib.compareBytes]
 | a::ar,b::bs=>by
  have ih:=cmp_zero ar bs
  by_cases h1:a<b
  ·have hne:¬ a=b:=by intro e;subst e;exact absurd h1 qg
   simp[Lib.compareBytes,h1,hne]
  ·by_cases h2:b<a
   ·(have hne:¬ a=b:=by intro e;subst e;exact absurd h2 qg);simp[Lib.compareBytes,h1,h2,hne]
   ·have he:a=b:=UInt8.le_antisymm (UInt8.not_lt.mp h2) (UInt8.not_lt.mp h1);subst he;simp[Lib.compareBytes,ih]
def Mh(a b:By):Int:=Lib.compareBytes a.data.toList b.data.toList
theorem cmpB_lt{a b:By}{v:Bool}(h:Ap a b=v):decide (Mh a b<0)=v:=by
 unfold Ap at h
 rw[ByteArray.toList_eq,ByteArray.toList_eq]at h
 unfold Mh
 cases v
 ·rw[decide_eq_false_iff_not,cmp_lt,h];simp
 ·rw[decide_eq_true_eq,cmp_lt];exact h
theorem Nu(a b:By):Mh a b=0↔a=b:=by
 unfold Mh
 rw[cmp_zero]
 exact⟨λh=>WideShapes.bytes_inj h,λh=>by rw[h]⟩
structure At (l:L By) (t:By) (r:X) (b:Bool):Prop where
 le:r<=l.length
 lo:∀j,j<r->Ap (nx l j) t=true
 hi:∀j,r<=j->j<l.length->Ap (nx l j) t=false
 has:b=true↔Ed l t
theorem Wa(s u t:By)(w:E):Calls prog 194 #[G #[S s,S u],S t] w λe w'=>Bw w w'/\e=H (I (Mh s t)):=by
 go_enter func194,ntmps194
 exact qjq
theorem Qe(a:Option Addr)(cap:X)(ss:L S2)(t:By)(w:E)(hc:Ho w a ss)(hl:ss.length<=1048576)(eg:Fs (Am ss)):Calls prog 193 #[J a ss.length cap,S t,.func (.func 194) #[] #[]] w λe w'=>Bw w w'/\∃(r:X)(b:Bool),e=H (Y #[I r,F b])/\At (Am ss) t r b:=by
 have yu:Hd ((Am ss).length=ss.length):=Bs ss
 have od:Hd (∀i,nx (Am ss) i=(sx ss i).name):=Dv ss
 obtain⟨l,el⟩:=Aj (Am ss)
 rw[el]at eg yu od ⊢
 have je:Hd (Fs l):=eg
 have HC:Hd (Ho w a ss):=hc
 clear eg el hc
 go_enter func193,ntmps193
 go_wp2
 go_loopw [9,10] (λi j wr=>∃lo hi:X,i=I lo/\j=I hi/\lo<=hi/\hi<=ss.length/\Hd (∀j,j<lo->Ap (nx l j) t=true)/\Hd (∀j,hi<=j->j<l.length->Ap (nx l j) t=false)/\Bw w wr) (λi j _=>(intOf j).toNat-(intOf i).toNat)
 case atStart=>exact⟨0,ss.length,rfl,rfl,Nat.zero_le _,Nat.le_refl _,(λj hj=>by omega:∀j,j<0->Ap (nx l j) t=true),(λj h1 h2=>by have:=yu.o;omega:∀j,ss.length<=j->j<l.length->Ap (nx l j) t=false),Below.refl _ _⟩
 case round=>
  obtain⟨lo,hi,rfl,rfl,g1,g2,HL,HH,bc⟩:=hrel
  by_cases aj:lo<hi
  ·obtain⟨m,e1,up,rd⟩:∃m:X,((lo:Int)+(hi:Int)) / 2=(m:Int)/\lo<=m/\m<hi:=⟨(lo+hi) / 2,qb,qb,qb⟩;obtain⟨b,off,rfl,c1,c2⟩:=(HC.o.bl bc) m qb;obtain⟨v,hv⟩:=Aj (Ap (nx l m) t);have HV:Hd (Ap (nx l m) t=v):=hv;have dv:decide (Mh (sx ss m).name t<0)=v:=by rw[<- od.o m];exact cmpB_lt hv
   clear hv;generalize sx ss m=s at c1 c2 dv;obtain⟨q,eq⟩:=Aj (Mh s.name t);rw[eq]at dv;have HN:Hd (∀W:E,Calls prog 194 #[G #[S s.name,S s.text],S t] W λe w'=>Bw W w'/\e=H (I q)):=λW=>qgb;clear eq;exact qhn
  ·obtain rfl:lo=hi:=qb;have hle:lo<=l.length:=zo yu.o
   by_cases vt:lo<ss.length
   ·obtain⟨b,off,rfl,c1,c2⟩:=(HC.o.bl bc) lo vt;have hlI:(lo:Int)<(ss.length:Int):=qb;have HE0:Hd (nx l lo=(sx ss lo).name):=od.o lo
    by_cases he:(sx ss lo).name=t
    ·have HE:Hd (Ed l t):=⟨lo,by have:=yu.o;omega,by rw[HE0.o];exact he⟩;(have dz:(Mh (sx ss lo).name t == 0)=true:=by rw[beq_iff_eq,Nu];exact he);clear he HE0;generalize sx ss lo=s at c1 c2 dz;obtain⟨q,eq⟩:=Aj (Mh s.name t);rw[eq]at dz;have HN:Hd (∀W:E,Calls prog 194 #[G #[S s.name,S s.text],S t] W λe w'=>Bw W w'/\e=H (I q)):=λW=>qgb;clear eq;exact qjm
    ·have HE:Hd (¬ Ed l t):=λh=>he (by rw[<- HE0.o];exact(Nc je.o HL.o HH.o h).2);(have dz:(Mh (sx ss lo).name t == 0)=false:=by rw[beq_eq_false_iff_ne];exact λh=>he ((Nu _ _).mp h));clear he HE0;generalize sx ss lo=s at c1 c2 dz;obtain⟨q,eq⟩:=Aj (Mh s.name t);rw[eq]at dz;have HN:Hd (∀W:E,Calls prog 194 #[G #[S s.name,S s.text],S t] W λe w'=>Bw W w'/\e=H (I q)):=λW=>qgb;clear eq;exact qjn
   ·exact qii
theorem Ng(sa ta:Option Addr)(n1 n2 c1 c2:X)(ss:L S2)(t:By)(w:E)(hc:Ho w sa ss)(hl:ss.length<=1048576)(eg:Fs (Am ss))(hn:n1=ss.length):Calls prog 182 #[G #[J sa n1 c1,J ta n2 c2],S t] w λe w'=>Bw w w'/\∃(r:X)(b:Bool),e=H (Y #[I r,F b])/\At (Am ss) t r b:=by
 subst hn
 have ak:Bw w (w.alloc (O #[J sa ss.length c1,J ta n2 c2] 40)):=aN _ _
 go_enter func182,ntmps182
 go_wp2_with fail
 refine(Qe sa c1 ss t _ (hc.bl ak) hl eg).mono ?_
 rintro e w2 ⟨ag,r,b,rfl,hr⟩
 have HR:Hd (At (Am ss) t r b):=hr
 exact qmk
theorem Vz(s t:By)(u:Option Addr)(un uc:X)(w:E):Calls prog 197 #[G #[S s,J u un uc],S t] w λe w'=>Bw w w'/\e=H (I (Mh s t)):=by
 go_enter func197,ntmps197
 exact qjq
theorem Qd(a:Option Addr)(cap:X)(ss:L T2)(t:By)(w:E)(hc:Gu w a ss)(hl:ss.length<=1048576)(eg:Fs (Ak ss)):Calls prog 196 #[J a ss.length cap,S t,.func (.func 197) #[] #[]] w λe w'=>Bw w w'/\∃(r:X)(b:Bool),e=H (Y #[I r,F b])/\At (Ak ss) t r b:=by
 have yu:Hd ((Ak ss).length=ss.length):=Bp ss
 have od:Hd (∀i,nx (Ak ss) i=(tx ss i).name):=Dk ss
 obtain⟨l,el⟩:=Aj (Ak ss)
 rw[el]at eg yu od ⊢
 have je:Hd (Fs l):=eg
 have HC:Hd (Gu w a ss):=hc
 clear eg el hc
 go_enter func196,ntmps196
 go_wp2
 go_loopw [9,10] (λi j wr=>∃lo hi:X,i=I lo/\j=I hi/\lo<=hi/\hi<=ss.length/\Hd (∀j,j<lo->Ap (nx l j) t=true)/\Hd (∀j,hi<=j->j<l.length->Ap (nx l j) t=false)/\Bw w wr) (λi j _=>(intOf j).toNat-(intOf i).toNat)
 case atStart=>exact⟨0,ss.length,rfl,rfl,Nat.zero_le _,Nat.le_refl _,(λj hj=>by omega:∀j,j<0->Ap (nx l j) t=true),(λj h1 h2=>by have:=yu.o;omega:∀j,ss.length<=j->j<l.length->Ap (nx l j) t=false),Below.refl _ _⟩
 case round=>
  obtain⟨lo,hi,rfl,rfl,g1,g2,HL,HH,bc⟩:=hrel
  by_cases aj:lo<hi
  ·obtain⟨m,e1,up,rd⟩:∃m:X,((lo:Int)+(hi:Int)) / 2=(m:Int)/\lo<=m/\m<hi:=⟨(lo+hi) / 2,qb,qb,qb⟩;obtain⟨b,off,rfl,c1,y,p,c2,c3⟩:=(HC.o.bl bc) m qb;obtain⟨v,hv⟩:=Aj (Ap (nx l m) t);have HV:Hd (Ap (nx l m) t=v):=hv;have dv:decide (Mh (tx ss m).name t<0)=v:=by rw[<- od.o m];exact cmpB_lt hv
   clear hv;generalize tx ss m=s at c1 c2 c3 dv;obtain⟨q,eq⟩:=Aj (Mh s.name t);rw[eq]at dv;have HN:Hd (∀W:E,Calls prog 197 #[G #[S s.name,J y s.code.length p],S t] W λe w'=>Bw W w'/\e=H (I q)):=λW=>qft;clear eq c3;exact qhn
  ·obtain rfl:lo=hi:=qb;have hle:lo<=l.length:=zo yu.o
   by_cases vt:lo<ss.length
   ·obtain⟨b,off,rfl,c1,y,p,c2,c3⟩:=(HC.o.bl bc) lo vt;have hlI:(lo:Int)<(ss.length:Int):=qb;have HE0:Hd (nx l lo=(tx ss lo).name):=od.o lo
    by_cases he:(tx ss lo).name=t
    ·have HE:Hd (Ed l t):=⟨lo,by have:=yu.o;omega,by rw[HE0.o];exact he⟩;(have dz:(Mh (tx ss lo).name t == 0)=true:=by rw[beq_iff_eq,Nu];exact he);clear he HE0;generalize tx ss lo=s at c1 c2 c3 dz;obtain⟨q,eq⟩:=Aj (Mh s.name t);rw[eq]at dz;have HN:Hd (∀W:E,Calls prog 197 #[G #[S s.name,J y s.code.length p],S t] W λe w'=>Bw W w'/\e=H (I q)):=λW=>qft;clear eq c3;exact qjm
    ·have HE:Hd (¬ Ed l t):=λh=>he (by rw[<- HE0.o];exact(Nc je.o HL.o HH.o h).2);(have dz:(Mh (tx ss lo).name t == 0)=false:=by rw[beq_eq_false_iff_ne];exact λh=>he ((Nu _ _).mp h));clear he HE0;generalize tx ss lo=s at c1 c2 c3 dz;obtain⟨q,eq⟩:=Aj (Mh s.name t);rw[eq]at dz;have HN:Hd (∀W:E,Calls prog 197 #[G #[S s.name,J y s.code.length p],S t] W λe w'=>Bw W w'/\e=H (I q)):=λW=>qft;clear eq c3;exact qjn
   ·exact qii
theorem Nf(sa ta:Option Addr)(n1 n2 c1 c2:X)(ss:L T2)(t:By)(w:E)(hc:Gu w ta ss)(hl:ss.length<=1048576)(eg:Fs (Ak ss))(hn:n2=ss.length):Calls prog 183 #[G #[J sa n1 c1,J ta n2 c2],S t] w λe w'=>Bw w w'/\∃(r:X)(b:Bool),e=H (Y #[I r,F b])/\At (Ak ss) t r b:=by
 subst hn
 have ak:Bw w (w.alloc (O #[J sa n1 c1,J ta ss.length c2] 40)):=aN _ _
 go_enter func183,ntmps183
 go_wp2_with fail
 refine(Qd ta c2 ss t _ (hc.bl ak) hl eg).mono ?_
 rintro e w2 ⟨ag,r,b,rfl,hr⟩
 have HR:Hd (At (Ak ss) t r b):=hr
 exact qmk
theorem isThing_any(sa ta:Option Addr)(c1 c2:X)(ss:L S2)(ts:L T2)(t:By)(w:E)(rs:Ho w sa ss)(rt:Gu w ta ts)(h1:ss.length<=1048576)(h2:ts.length<=1048576)(a1:Fs (Am ss))(a2:Fs (Ak ts)):Calls prog 178 #[G #[J sa ss.length c1,J ta ts.length c2],S t] w λe w'=>Bw w w'/\∃b:Bool,e=H (F b)/\(b=true↔(Ed (Am ss) t\/Ed (Ak ts) t)):=by
 have ak:Bw w (w.alloc (O #[J sa ss.length c1,J ta ts.length c2] 40)):=aN _ _
 have k0:(w.alloc (O #[J sa ss.length c1,J ta ts.length c2] 40)).cell? ⟨w.heap.size,0,N⟩=M (J sa ss.length c1):=qk
 have k1:(w.alloc (O #[J sa ss.length c1,J ta ts.length c2] 40)).cell? ⟨w.heap.size,1,N⟩=M (J ta ts.length c2):=qk
 have HT:Hd (∀W:E,Bw w W->Calls prog 183 #[G #[J sa ss.length c1,J ta ts.length c2],S t] W λe w'=>Bw W w'/\∃(r:X)(b:Bool),e=H (Y #[I r,F b])/\At (Ak ts) t r b):=λW hW=>Nf sa ta ss.length ts.length c1 c2 ts t W (rt.bl hW) h2 a2 rfl
 clear rt a2
 go_enter func178,ntmps178
 go_wp2_with fail
 refine(Ng sa ta ss.length ts.length c1 c2 ss t _ (rs.bl ak) h1 a1 rfl).mono ?_
 rintro e w1 ⟨af,r1,b1,rfl,q1⟩
 have bh:=bt ak af
 have x0:=Aa af k0
 have x1:=Aa af k1
 have kt:Hd (b1=true↔Ed (Am ss) t):=q1.has
 clear ak af k0 k1 q1 rs a1
 go_wp2_with fail
 refine(HT.o w1 bh).mono ?_
 rintro e w2 ⟨ag,r2,b2,rfl,q2⟩
 have be:=bt bh ag
 have D8:Hd (b2=true↔Ed (Ak ts) t):=q2.has
 clear ag q2 HT x0 x1 bh
 have HZ:Hd ((b1||b2)=true↔(Ed (Am ss) t\/Ed (Ak ts) t)):=by
  show(b1||b2)=true↔_;rw[Bool.or_eq_true,kt.o,D8.o]
 clear kt D8
 cases b1
 ·go_wp2;go_ret;exact⟨be,b2,rfl,by simpa using HZ.o⟩
 ·go_wp2;go_ret;exact⟨be,true,rfl,by simpa using HZ.o⟩
section
open Go.Deep
theorem at_true{l:L By}{t:By}{r:X}(ha:Fs l)(h:At l t r true):r<l.length/\nx l r=t:=by
 obtain⟨j,hj,e⟩:=h.has.mp rfl
 rcases Nat.lt_trichotomy j r with q|q|q
 ·have:=h.lo j q;rw[e,Eh]at this;cases this
 ·subst q;exact⟨hj,e⟩
 ·have h1:=h.hi r (Nat.le_refl _) qb;have h2:=ha.pair q hj;rw[e,h1]at h2;cases h2
theorem at_false{l:L By}{t:By}{r:X}(h:At l t r false):¬ Ed l t:=λq=>by have:=h.has.mpr q;cases this
end
end Go.Proofs.YtbkkjodaaijimaaGreatDoor
