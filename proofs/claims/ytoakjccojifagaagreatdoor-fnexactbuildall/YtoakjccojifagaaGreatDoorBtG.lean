import Derived.Test.YtoakjccojifagaaGreatDoorVsA
namespace Go.Proofs.YtoakjccojifagaaGreatDoor
open Value renaming slice->J,string->S,bool->F,agg->G,tuple->Y
open Option renaming some->M,none->N
open Obj renaming cells->O
open Go renaming Value->Z,World->E
open Ending renaming returned->H
open _root_ renaming List->L,Nat->X
set_option maxHeartbeats 8000000
set_option maxRecDepth 100000
open _root_.Go.Proofs.Tryz Go.RowKit Go.Deep
set_option linter.unusedVariables false
set_option linter.unusedSimpArgs false
variable {l:L By} {t:By} {m n b' r:X} {P:Prop} {b:Bool} {w w':E} {a ta ra sa:Option Addr} {rs:L T3} {ss:L S2} {ts:L T2}
theorem Se(s t:By)(w:E):Calls prog 129 #[S s,S t] w λe w'=>e=H (F (Au s t))/\w=w':=by
 unfold Au
 go_enter func129,ntmps129
 exact qag
theorem Zo(h:Fu l)(hm:m<l.length)(hv:Au (nx l m) t=true):∀j,j<m+1->Au (nx l j) t=true:=by
 intro j hj
 rcases Nat.lt_or_ge j m with h1|h1
 ·exact Kq (h.pair h1 hm) hv
 ·obtain rfl:j=m:=qb;exact hv
theorem Tv(h:Fu l)(hv:Au (nx l m) t=false):∀j,m<=j->j<l.length->Au (nx l j) t=false:=by
 intro j hj hl
 rcases Nat.lt_or_ge m j with h1|h1
 ·rw[Bool.eq_false_iff];intro h2;have:=Kq (h.pair h1 hl) h2;rw[hv]at this;cases this
 ·obtain rfl:j=m:=qb;exact hv
theorem Nf{i:X}(h:Fu l)(h1:∀j,j<i->Au (nx l j) t=true)(h2:∀j,i<=j->j<l.length->Au (nx l j) t=false)(k:Eg l t):i<l.length/\nx l i=t:=by
 obtain⟨j,hj,e⟩:=k
 rcases Nat.lt_trichotomy j i with Y3|Y3|Y3
 ·have:=h1 j Y3;rw[e,Et]at this;cases this
 ·subst Y3;exact⟨hj,e⟩
 ·have:=h.pair Y3 hj;rw[e,h2 i (Nat.le_refl _) qb]at this;cases this
theorem Rj(a:Option Addr)(cap:X)(l:L By)(t:By)(w:E)(hc:Ca w a l)(hl:l.length<=1048576)(fb:Fu l):Calls prog 105 #[J a l.length cap,S t] w λe w'=>w=w'/\∃(r:Int)(b:Bool),e=H (Y #[I r,F b])/\(b=true↔Eg l t):=by
 have jw:Hd (Fu l):=fb
 clear fb
 go_enter func105,ntmps105
 go_wp2
 go_loopw [7,8] (λi j wr=>∃lo hi:X,i=I lo/\j=I hi/\lo<=hi/\hi<=l.length/\Hd (∀j,j<lo->Au (nx l j) t=true)/\Hd (∀j,hi<=j->j<l.length->Au (nx l j) t=false)/\w=wr) (λi j _=>(intOf j).toNat-(intOf i).toNat)
 case atStart=>exact⟨0,l.length,rfl,rfl,Nat.zero_le _,Nat.le_refl _,(λj hj=>by omega:∀j,j<0->Au (nx l j) t=true),(λj h1 h2=>by omega:∀j,l.length<=j->j<l.length->Au (nx l j) t=false),rfl⟩
 case round=>
  obtain⟨lo,hi,rfl,rfl,h1,h2,HL,HH,rfl⟩:=hrel
  by_cases aj:lo<hi
  ·obtain⟨m,e1,we,rm⟩:∃m:X,((lo:Int)+(hi:Int)) / 2=(m:Int)/\lo<=m/\m<hi:=⟨(lo+hi) / 2,qb,qb,qb⟩;obtain⟨b,off,rfl,c1⟩:=hc.nx m qb;obtain⟨v,hv⟩:=Aj (Au (nx l m) t);have HV:Hd (Au (nx l m) t=v):=hv;have HN:Hd (∀W:E,Calls prog 129 #[S (nx l m),S t] W λe w'=>e=H (F v)/\W=w'):=λW=>by rw[<- hv];exact Se _ _ W
   clear hc hv;generalize nx l m=s at c1 HN;have D9:(m:Int)<(l.length:Int):=qb;cases v
   ·go_wp2_with (go_at_call 129;refine(HN.o _).mono ?_;rintro e w' ⟨rfl,rfl⟩)
    go_roundw
    case rel=>exact⟨lo,m,rfl,rfl,we,qb,HL.o,Tv jw.o HV.o,trivial⟩
    case measure=>simp[intOf];omega
   ·go_wp2_with (go_at_call 129;refine(HN.o _).mono ?_;rintro e w' ⟨rfl,rfl⟩)
    go_roundw
    case rel=>exact⟨m+1,hi,qj,rfl,qb,qb,Zo jw.o qb HV.o,HH.o,trivial⟩
    case measure=>simp[intOf];omega
  ·obtain rfl:lo=hi:=qb
   by_cases ym:lo<l.length
   ·obtain⟨b,off,rfl,c1⟩:=hc.nx lo ym;have hlI:(lo:Int)<(l.length:Int):=qb
    by_cases he:nx l lo=t
    ·have pj:=Fd he;have HE:Hd (nx l lo=t):=he;clear hc he;generalize nx l lo=s at c1 pj;go_wp2
     go_ret2
     exact⟨rfl,_,true,rfl,Gp ⟨lo,ym,HE.o⟩⟩
    ·have pj:=Hh he;have HE:Hd (nx l lo≠t):=he;clear hc he;have hss:=Fd (rfl:nx l lo=nx l lo);generalize nx l lo=s at c1 pj hss;go_wp2
     go_ret2
     exact⟨rfl,_,false,rfl,Ed (λh=>HE.o (Nf jw.o HL.o HH.o h).2)⟩
   ·have hlI:¬ (lo:Int)<(l.length:Int):=qb;have G0:Hd (¬ lo<l.length):=ym;go_wp2
    go_ret2
    exact⟨rfl,_,Or.inl ⟨rfl,λh=>G0.o (Nf jw.o HL.o HH.o h).1⟩⟩
theorem Wg(a a':Option Addr)(cap ai:X)(l m:L By)(w:E)(hc:Ca w a l)(o6:Ca w a' m)(hl:l.length<=1048576)(K9:m.length<=1048576)(fb:Fu m):Calls prog 78 #[J a l.length cap,J a' m.length ai] w λe w'=>w=w'/\∃b:Bool,e=H (F b)/\(b=true↔Nn l m):=by
 have HB:Hd (∀t:By,Calls prog 105 #[J a' m.length ai,S t] w λe w'=>w=w'/\∃(r:Int)(b:Bool),e=H (Y #[I r,F b])/\(b=true↔Eg m t)):=λt=>Rj a' ai m t w o6 K9 fb
 clear o6 fb
 go_enter func78,ntmps78
 go_wp2
 go_loopw [11] (λi wr=>∃k:X,k<=l.length/\i=I k/\Hd (∀j,j<k->¬ Eg m (nx l j))/\w=wr) (λi _=>l.length-(intOf i).toNat)
 case atStart=>exact⟨0,Nat.zero_le _,rfl,(λj hj=>by omega:∀j,j<0->¬ Eg m (nx l j)),rfl⟩
 case round=>
  obtain⟨k,hk,rfl,HA,rfl⟩:=hrel
  by_cases aj:k<l.length
  ·obtain⟨b,off,rfl,c1⟩:=hc.nx k aj;clear hc;obtain⟨s,es⟩:=Aj (nx l k);have ES:Hd (nx l k=s):=es;rw[es]at c1;clear es;go_wp2_with fail;refine(HB.o s).mono ?_;rintro e w' ⟨rfl,r,b,rfl,hb⟩;cases b
   ·(have HNo:Hd (¬ Eg m s):=λh=>by have:=hb.mpr h;cases this);clear hb;go_wp2;go_roundw
    case rel=>exact⟨k+1,qb,qj,Cw HA.o (by rw[ES.o];exact HNo.o),trivial⟩
    case measure=>simp[intOf];omega
   ·have HYes:Hd (Eg m s):=hb.mp rfl;clear hb;go_wp2;go_ret;exact⟨rfl,true,rfl,Gp ⟨k,aj,by rw[ES.o];exact HYes.o⟩⟩
  ·go_wp2;go_ret;exact⟨rfl,false,rfl,Ed (λ⟨j,hj,h⟩=>HA.o j qb h)⟩
theorem Tx(a:Option Addr)(cap:X)(is:L S2)(w:E)(hc:Hr w a is)(hl:is.length<=1048576)(hs:∀i,(sx is i).text.size<=maxLen):Calls prog 79 #[J a is.length cap] w λe w'=>Bw w w'/\∃b:Bool,e=H (F b)/\(b=true↔Js is):=by
 go_enter func79,ntmps79
 go_wp2
 go_loopw [7] (λi wr=>∃k:X,k<=is.length/\i=I k/\Hd (∀j,j<k->(sx is j).text.size<=2000)/\Bw w wr) (λi _=>is.length-(intOf i).toNat)
 case atStart=>exact⟨0,Nat.zero_le _,rfl,(λj hj=>by omega:∀j,j<0->(sx is j).text.size<=2000),Below.refl _ _⟩
 case round=>
  obtain⟨k,hk,rfl,HA,am⟩:=hrel
  by_cases aj:k<is.length
  ·obtain⟨b,off,rfl,c1,c2⟩:=(hc.bl am) k aj;have gh:=hs k;unfold maxLen at gh;obtain⟨i,ei⟩:=Aj (sx is k);have EI:Hd (sx is k=i):=ei;rw[ei]at c1 c2 gh;clear hc hs ei;have iy:(k:Int)<(is.length:Int):=qb
   by_cases ht:i.text.size<=2000
   ·go_wp2;go_roundw
    case rel=>exact⟨k+1,qb,qj,Cw HA.o (by rw[EI.o];exact ht),am.alloc am.size _⟩
    case measure=>simp[intOf];omega
   ·go_wp2;go_ret;exact⟨am.alloc am.size _,false,rfl,Ed (λh=>by have:=h k aj;rw[EI.o]at this;omega)⟩
  ·go_wp2;go_ret;exact⟨am,true,rfl,Gp (λj hj=>HA.o j qb)⟩
theorem Qr(a:Option Addr)(cap:X)(is:L T2)(w:E)(hT:Kk w)(hc:Hb w a is)(hl:is.length<=1048576)(hk:∀i,i<is.length->(tx is i).code.length<=1048576)(hs:∀i j,(ix (tx is i).code j).text.size<=maxLen):Calls prog 80 #[J a is.length cap] w λe w'=>Bw w w'/\∃b:Bool,e=H (F b)/\(b=true↔Vn is):=by
 have HK:Hd (∀i,i<is.length->(tx is i).code.length<=1048576):=hk
 have HX:Hd (∀i j,(ix (tx is i).code j).text.size<=maxLen):=hs
 clear hk hs
 go_enter func80,ntmps80
 go_wp2
 go_loopw [7] (λi wr=>∃k:X,k<=is.length/\i=I k/\Hd (∀j,j<k->Ao (tx is j).code=true)/\Bw w wr) (λi _=>is.length-(intOf i).toNat)
 case atStart=>exact⟨0,Nat.zero_le _,rfl,(λj hj=>by omega:∀j,j<0->Ao (tx is j).code=true),Below.refl _ _⟩
 case round=>
  obtain⟨k,hk,rfl,HA,am⟩:=hrel
  by_cases aj:k<is.length
  ·obtain⟨b,off,rfl,c1,x,p,c2,c3⟩:=(hc.bl am) k aj;have B5:=HK.o k aj;have hxk:=HX.o k;obtain⟨i,ei⟩:=Aj (tx is k);have EI:Hd (tx is k=i):=ei;rw[ei]at c1 c2 c3 B5 hxk;clear hc ei;have iy:(k:Int)<(is.length:Int):=qb;have fk:Bw wr (wr.alloc (O #[S i.name,J x i.code.length p] 99)):=aN _ _;have HN:Hd (Calls prog 106 #[G #[J x i.code.length p]] (wr.alloc (O #[S i.name,J x i.code.length p] 99)) λe w'=>Below (wr.alloc (O #[S i.name,J x i.code.length p] 99)).heap.size (wr.alloc (O #[S i.name,J x i.code.length p] 99)) w'/\e=H (F (Ao i.code))):=Kz x p i.code _ ((hT.bl am).bl fk) (c3.bl fk) B5 hxk;have HB:Hd (Bw wr (wr.alloc (O #[S i.name,J x i.code.length p] 99))):=fk;clear fk hxk c3 hT;obtain⟨v,hv⟩:=Aj (Ao i.code);rw[hv]at HN;have HV:Hd (Ao i.code=v):=hv;clear hv;cases v
   ·go_wp2_with (go_at_call 106;refine HN.o.mono ?_;rintro e w1 ⟨af,rfl⟩)
    go_ret;exact⟨bt (bt am HB.o) af,false,rfl,Ed (λh=>by have:=h k aj;rw[EI.o,HV.o]at this;cases this)⟩
   ·go_wp2_with (go_at_call 106;refine HN.o.mono ?_;rintro e w1 ⟨af,rfl⟩)
    go_roundw
    case rel=>exact⟨k+1,qb,qj,Cw HA.o (by rw[EI.o];exact HV.o),bt (bt am HB.o) af⟩
    case measure=>simp[intOf];omega
  ·go_wp2;go_ret;exact⟨am,true,rfl,Gp (λj hj=>HA.o j qb)⟩
theorem Pk(n:X)(a:Option Addr)(cap:X)(l:L By)(w:E)(hn:n=l.length)(hc:Ca w a l)(hl:n<=1048576)(hs:∀i,(nx l i).size<=maxLen):Calls prog 76 #[J a n cap] w λe w'=>w=w'/\∃b:Bool,e=H (F b)/\(b=true↔Hf l):=by
 subst hn;exact Ty a cap l w hc hl hs
theorem Sg(n:X)(a:Option Addr)(cap:X)(l:L By)(w:E)(hn:n=l.length)(hc:Ca w a l)(hl:n<=1048576):Calls prog 77 #[J a n cap] w λe w'=>Bw w w'/\∃b:Bool,e=H (F b)/\(b=true↔Fu l):=by
 subst hn;exact Ox a cap l w hc hl
theorem Qbc(n n':X)(a a':Option Addr)(cap ai:X)(l m:L By)(w:E)(hn:n=l.length)(hn':n'=m.length)(hc:Ca w a l)(o6:Ca w a' m)(hl:n<=1048576)(K9:n'<=1048576)(fb:Fu m):Calls prog 78 #[J a n cap,J a' n' ai] w λe w'=>w=w'/\∃b:Bool,e=H (F b)/\(b=true↔Nn l m):=by
 subst hn;subst hn';exact Wg a a' cap ai l m w hc o6 hl K9 fb
theorem Ig(h:b=true↔P)(hb:b=false):¬ P:=λk=>by rw[h.mpr k]at hb;cases hb
theorem Ov(sa ta:Option Addr)(c1 c2:X)(ss:L S2)(ts:L T2)(w:E)(hT:Kk w)(h:Lm w sa ss ta ts)(ly:Ew ss ts):Calls prog 56 #[G #[J sa ss.length c1,J ta ts.length c2]] w λe w'=>Bw w w'/\e=H (I (Gu ss ts)):=by
 have ak:Bw w (w.alloc (O #[J sa ss.length c1,J ta ts.length c2] 43)):=aN _ _
 obtain⟨rs,rt,ls,lt,ns,xs,nt,lc,xt⟩:=h
 obtain⟨l1,l2,l3⟩:=ly
 by_cases zu:200<ss.length+ts.length
 ·have HC:Hd (Gu ss ts=1):=chk1 zu;clear rs rt ns xs nt lc xt l3;go_enter func56,ntmps56;go_wp2;go_ret;exact⟨ak,qad⟩
 ·have nj:Hd (¬ 200<ss.length+ts.length):=zu;have RS:Hd (Hr w sa ss):=rs;have RT:Hd (Hb w ta ts):=rt;have NS:Hd (∀i,(nx (Am ss) i).size<=maxLen):=λi=>by rw[Dy];exact ns i
  have NT:Hd (∀i,(nx (Ak ts) i).size<=maxLen):=λi=>by rw[Dr];exact nt i
  have XS:Hd (∀i,(sx ss i).text.size<=maxLen):=xs;have XT:Hd (∀i j,(ix (tx ts i).code j).text.size<=maxLen):=xt;have L3:Hd (∀i,i<ts.length->(tx ts i).code.length<=1048576):=l3;have HT:Hd (Kk w):=hT;clear rs rt ns xs nt lc xt l3 hT;have hb0d:Bw w (w.alloc (O #[J sa ss.length c1,J ta ts.length c2] 43)).drew:=ak.drew;have I7:Hd (Bw w (w.alloc (O #[J sa ss.length c1,J ta ts.length c2] 43)).drew):=hb0d;clear ak hb0d;have HE1:=Cb ss;have HE2:=Bs ts;have E1:Hd (ss.length=(Am ss).length):=HE1.symm;have E2:Hd (ts.length=(Ak ts).length):=HE2.symm;clear HE1 HE2;go_enter func56,ntmps56;go_wp2_with fail
  go_region_held3 (λw'=>w'.cell? ⟨w.heap.size,0,N⟩=M (J sa ss.length c1)/\w'.cell? ⟨w.heap.size,1,N⟩=M (J ta ts.length c2))
   (first|assumption|(simp[go_sem];done)|exact⟨Aa fs B4.1,Aa fs B4.2⟩|exact⟨Aa co qk,Aa co qk⟩)
   (first
    | (go_at_call 75;refine(Mf ta sa c2 ss.length c1 ts _ (RT.o.bl (bt I7.o co)) l2).mono ?_;rintro e wB ⟨fs,a2,p2,rfl,Y0⟩;have J9:=hnA.out.bl fs)
    | (go_at_call 74;refine(Mg sa ta c1 ts.length c2 ss _ (RS.o.bl (bt I7.o co)) l1).mono ?_;rintro e wB ⟨fs,a1,p1,rfl,J9⟩;have Y0:=hnA.out.bl fs)
    | (go_at_call 74;refine(Mg sa ta c1 ts.length c2 ss _ (RS.o.bl I7.o) l1).mono ?_;rintro e wA ⟨co,a1,p1,rfl,hnA0⟩;have hnA:Hd (Ca wA a1 (Am ss)):=hnA0;clear hnA0;have B4:wA.cell? ⟨w.heap.size,0,N⟩=M (J sa ss.length c1)/\wA.cell? ⟨w.heap.size,1,N⟩=M (J ta ts.length c2):=⟨Aa co qk,Aa co qk⟩)
    | (go_at_call 75;refine(Mf ta sa c2 ss.length c1 ts _ (RT.o.bl I7.o) l2).mono ?_;rintro e wA ⟨co,a2,p2,rfl,hnA0⟩;have hnA:Hd (Ca wA a2 (Ak ts)):=hnA0;clear hnA0;have B4:wA.cell? ⟨w.heap.size,0,N⟩=M (J sa ss.length c1)/\wA.cell? ⟨w.heap.size,1,N⟩=M (J ta ts.length c2):=⟨Aa co qk,Aa co qk⟩))
  have hkB:wB.cell? ⟨w.heap.size,0,N⟩=M (J sa ss.length c1)/\wB.cell? ⟨w.heap.size,1,N⟩=M (J ta ts.length c2):=by assumption
  obtain⟨k0,k1⟩:=hkB;have Id:Bw w wB:=bt (bt I7.o co) fs;have N1:Hd (Ca wB a1 (Am ss)):=J9;have N2:Hd (Ca wB a2 (Ak ts)):=Y0;clear co fs B4 hnA J9 Y0;go_wp2_with fail;refine(Pk ss.length a1 p1 (Am ss) _ E1.o N1.o l1 NS.o).mono ?_;rintro e w' ⟨rfl,b1,rfl,af⟩;have d7:Hd (b1=true↔Hf (Am ss)):=af;clear af;cases b1
  ·have HC:Hd (Gu ss ts=2):=chk2 nj.o (λh=>Ig d7.o rfl h.1);go_wp2_with fail;go_ret;exact⟨Id,qad⟩
  ·have H1:Hd (Hf (Am ss)):=d7.o.mp rfl;clear d7;go_wp2_with fail;refine(Pk ts.length a2 p2 (Ak ts) _ E2.o N2.o l2 NT.o).mono ?_;rintro e w' ⟨rfl,b2,rfl,ag⟩;have fj:Hd (b2=true↔Hf (Ak ts)):=ag;clear ag;cases b2
   ·have HC:Hd (Gu ss ts=2):=chk2 nj.o (λh=>Ig fj.o rfl h.2);go_wp2_with fail;go_ret;exact⟨Id,qad⟩
   ·have H2:Hd (Hf (Am ss)/\Hf (Ak ts)):=⟨H1.o,fj.o.mp rfl⟩;clear H1 fj;go_wp2_with fail;refine(Sg ss.length a1 p1 (Am ss) _ E1.o N1.o l1).mono ?_;rintro e w3 ⟨au,b3,rfl,hb3'⟩;have d6:Hd (b3=true↔Fu (Am ss)):=hb3';have ip:=bt Id au;have N13:Hd (Ca w3 a1 (Am ss)):=N1.o.bl au;have N23:Hd (Ca w3 a2 (Ak ts)):=N2.o.bl au;have k03:=Aa au k0;have k13:=Aa au k1;clear hb3' au Id N1 N2 k0 k1;cases b3
    ·have HC:Hd (Gu ss ts=3):=chk3 nj.o H2.o (Ig d6.o rfl);go_wp2_with fail;go_ret;exact⟨ip,qad⟩
    ·have H3:Hd (Fu (Am ss)):=d6.o.mp rfl;clear d6;go_wp2_with fail;refine(Sg ts.length a2 p2 (Ak ts) _ E2.o N23.o l2).mono ?_;rintro e w4 ⟨ce,b4,rfl,hb4'⟩;have vx:Hd (b4=true↔Fu (Ak ts)):=hb4';have jn:=bt ip ce;have N14:Hd (Ca w4 a1 (Am ss)):=N13.o.bl ce;have N24:Hd (Ca w4 a2 (Ak ts)):=N23.o.bl ce;have k04:=Aa ce k03;have k14:=Aa ce k13;clear hb4' ce ip N13 N23 k03 k13;cases b4
     ·have HC:Hd (Gu ss ts=4):=chk4 nj.o H2.o H3.o (Ig vx.o rfl);go_wp2_with fail;go_ret;exact⟨jn,qad⟩
     ·have H4:Hd (Fu (Ak ts)):=vx.o.mp rfl;clear vx;go_wp2_with fail;refine(Qbc ss.length ts.length a1 a2 p1 p2 (Am ss) (Ak ts) _ E1.o E2.o N14.o N24.o l1 l2 H4.o).mono ?_;rintro e w' ⟨rfl,b5,rfl,dh⟩;have lq:Hd (b5=true↔Nn (Am ss) (Ak ts)):=dh;clear dh;cases b5
      ·have H5:Hd (¬ Nn (Am ss) (Ak ts)):=Ig lq.o rfl;clear lq;go_wp2_with fail;refine(Tx sa c1 ss _ (RS.o.bl jn) l1 XS.o).mono ?_;rintro e w6 ⟨bz,b6,rfl,hb6'⟩;have uk:Hd (b6=true↔Js ss):=hb6';have Q5:=bt jn bz;have k16:=Aa bz k14;clear hb6' bz jn k04 k14 N14 N24;cases b6
       ·have HC:Hd (Gu ss ts=6):=chk6 nj.o H2.o H3.o H4.o H5.o (Ig uk.o rfl);go_wp2_with fail;go_ret;exact⟨Q5,qad⟩
       ·have H6:Hd (Js ss):=uk.o.mp rfl;clear uk;go_wp2_with fail;refine(Qr ta c2 ts _ (HT.o.bl Q5) (RT.o.bl Q5) l2 L3.o XT.o).mono ?_;rintro e w7 ⟨cj,b7,rfl,hb7'⟩;have N6:Hd (b7=true↔Vn ts):=hb7';have If:=bt Q5 cj;clear hb7' cj Q5 k16;cases b7
        ·have HC:Hd (Gu ss ts=7):=chk7 nj.o H2.o H3.o H4.o H5.o H6.o (Ig N6.o rfl);go_wp2_with fail;go_ret;exact⟨If,qad⟩
        ·have HC:Hd (Gu ss ts=0):=chk0 nj.o H2.o H3.o H4.o H5.o H6.o (N6.o.mp rfl);go_wp2_with fail;go_ret;exact⟨If,qad⟩
      ·have HC:Hd (Gu ss ts=5):=chk5 nj.o H2.o H3.o H4.o (lq.o.mp rfl);go_wp2_with fail;go_ret;exact⟨jn,qad⟩
theorem Zu(sa ta:Option Addr)(n1 c1 c2:X)(ts:L T2)(s:By)(w:E)(hc:Hb w ta ts)(hl:ts.length<=1048576):Calls prog 48 #[G #[J sa n1 c1,J ta ts.length c2],S s] w λe w'=>Bw w w'/\∃r:Int,e=H (I r)/\((0<=r/\Eg (Ak ts) s)\/(r<0/\¬ Eg (Ak ts) s)):=by
 have ak:Bw w (w.alloc (O #[J sa n1 c1,J ta ts.length c2] 43)):=aN _ _
 have k1:(w.alloc (O #[J sa n1 c1,J ta ts.length c2] 43)).cell? ⟨w.heap.size,1,N⟩=M (J ta ts.length c2):=qk
 have HC:Hd (Hb (w.alloc (O #[J sa n1 c1,J ta ts.length c2] 43)) ta ts):=hc.bl ak
 clear hc
 go_enter func48,ntmps48
 go_wp2
 go_loopw [5] (λi wr=>∃k:X,k<=ts.length/\i=I k/\Hd (∀j,j<k->(tx ts j).name≠s)/\(w.alloc (O #[J sa n1 c1,J ta ts.length c2] 43))=wr) (λi _=>ts.length-(intOf i).toNat)
 case atStart=>exact⟨0,Nat.zero_le _,rfl,(λj hj=>by omega:∀j,j<0->(tx ts j).name≠s),rfl⟩
 case round=>
  obtain⟨k,hk,rfl,HA,rfl⟩:=hrel
  by_cases aj:k<ts.length
  ·obtain⟨b,off,rfl,In,x,p,B9,c3'⟩:=HC.o k aj;have iy:(k:Int)<(ts.length:Int):=qb;obtain⟨nm,en⟩:=Aj ((tx ts k).name);have EN:Hd ((tx ts k).name=nm):=en;rw[en]at In;clear en B9 c3'
   by_cases he:nm=s
   ·have pj:=Fd he;have HE:Hd (nm=s):=he;clear he;go_wp2;go_ret;exact⟨ak,_,rfl,Or.inl ⟨qb,k,by rw[Bs];exact aj,by rw[Dr,EN.o];exact HE.o⟩⟩
   ·have pj:=Hh he;have HE:Hd (nm≠s):=he;clear he;go_wp2;go_roundw
    case rel=>exact⟨k+1,qb,qj,Cw HA.o (by rw[EN.o];exact HE.o),trivial⟩
    case measure=>simp[intOf];omega
  ·go_wp2;go_ret;exact⟨ak,_,rfl,Or.inr ⟨qb,λ⟨j,hj,e⟩=>by rw[Bs]at hj;rw[Dr]at e;exact HA.o j qb e⟩⟩
def hstep(v c:Int):Int:=IntKind.u64.wrap (bits BinOp.xor IntKind.u64 v (IntKind.u64.wrap c)*1099511628211)
def Co(l:L UInt8):Int:=l.foldl (λv c=>hstep v c.toNat) 14695981039346656037
theorem hash_snoc(l:L UInt8)(c:UInt8):Co (l++[c])=hstep (Co l) c.toNat:=by simp[Co,List.foldl_append]
theorem Qaf(x:Int):0≤IntKind.u64.wrap x∧IntKind.u64.wrap x<18446744073709551616:=by
 have e:IntKind.u64.wrap x=x % 2 ^ 64:=rfl;rw[e];omega
theorem It(l:L UInt8):0≤Co l∧Co l<18446744073709551616:=by
 unfold Co
 rcases List.eq_nil_or_concat l with rfl|⟨l',c,rfl⟩
 ·simp
 ·rw[List.concat_eq_append,List.foldl_append];exact Qaf _
def dig(V:Int)(k:X):UInt8:=UInt8.ofNat ((V / 256 ^ k).toNat % 256)
def Ij(V:Int):X→L UInt8
 | 0=>[]
 | k+1=>dig V k::Ij V k
theorem Gz(V:Int):∀k,(Ij V k).length=k
 | 0=>rfl
 | k+1=>by simp[Ij,Gz V k]
theorem div_bd(V:Int)(k:X)(h:0≤V)(h2:V<18446744073709551616):0≤V / 256 ^ k∧V / 256 ^ k<18446744073709551616:=by
 have hp:(0:Int)<256 ^ k:=Int.pow_pos qb;exact⟨Int.ediv_nonneg h (Int.le_of_lt hp),Int.lt_of_le_of_lt (Int.ediv_le_self _ h) h2⟩
theorem Xu(V:Int)(h:0≤V)(k:X):((dig V k).toNat:Int)=V / 256 ^ k % 256:=by
 have:0≤V / 256 ^ k:=Int.ediv_nonneg h (Int.le_of_lt (Int.pow_pos qb));unfold dig;rw[UInt8.toNat_ofNat'];omega
theorem div_succ(V:Int)(k:X):V / 256 ^ (k+1)=V / 256 ^ k / 256:=by
 rw[Int.pow_succ,Int.ediv_ediv_of_nonneg (Int.le_of_lt (Int.pow_pos qb))]
def Ke(V:Int)(k:X):L Z:=(Ij V k).map λb=>Value.int .u8 b.toNat
theorem Ws(V:Int)(k:X):(Ke V k).length=k:=by simp[Ke,Gz]
theorem dcells_succ(V:Int)(h:0≤V)(k:X):Ke V (k+1)=[Value.int .u8 (V / 256 ^ k % 256)]++Ke V k:=by
 simp[Ke,Ij,Xu V h]
theorem dcells_one(V:Int)(k:X):∀u∈Ke V k,u.oneCell'=true:=by
 intro u hu;obtain⟨_,_,rfl⟩:=List.mem_map.1 hu;rfl
theorem take_snocV(s:By)(k:X)(h:k<s.size):s.data.toList.take (k+1)=s.data.toList.take k++[s[k]]:=by
 rw[List.take_succ_eq_append_getElem qbd];rfl
def Cy(V:Int)(n j:X):Int:=if j<n then V / 256 ^ (n-1-j) % 256 else 0
def Bf(V:Int)(n:X):Array Z:=
 #[.int .u8 (Cy V n 0),.int .u8 (Cy V n 1),.int .u8 (Cy V n 2),.int .u8 (Cy V n 3),.int .u8 (Cy V n 4),.int .u8 (Cy V n 5),.int .u8 (Cy V n 6),.int .u8 (Cy V n 7)]
theorem digs_get(V:Int):∀(n j:X)(h:j<(Ij V n).length),(Ij V n)[j]=dig V (n-1-j)
 | 0,j,h=>by simp[Ij]at h
 | n+1,0,h=>by simp[Ij]
 | n+1,j+1,h=>by
   (have h':j<(Ij V n).length:=by simpa [Ij] using h);have:=digs_get V n j h';simp only[Ij,List.getElem_cons_succ,this];congr 1;omega
theorem cell8_digs(V:Int)(hV:0≤V)(n j:X)(h:j<(Ij V n).length):Value.int .u8 (Cy V n j)=.int .u8 ((Ij V n)[j].toNat:Int):=by
 have hn:j<n:=by simpa [Gz] using h
 rw[digs_get,Xu V hV,Cy,if_pos hn]
theorem Tryz.info5:(prog.info? 5).map (λi=>(i.zero,i.size,i.bytes))=M (M (.int .u8 0),1,1):=qi
theorem Kr(n:Int)(w:E)(h1:1≤n)(h2:n≤8):Calls prog 44 #[I n] w λe w'=>e=H (F true)∧w=w':=by
 exact qfx
theorem l1Width_no(n:Int)(w:E)(h:n<1∨8<n):Calls prog 44 #[I n] w λe w'=>e=H (F false)∧w=w':=by
 rcases h with h|h
 ·have h':decide (1≤n)=false:=qh
  exact qfx
 ·have h':1≤n:=qb
  have h'':decide (n≤8)=false:=qh;exact qfx
theorem Jw(n:Int)(w:E)(h1:1≤n)(h2:n≤8):Calls prog 101 #[I n] w λe w'=>e=H (F true)∧w=w':=by
 exact qfw
theorem Vu(n:Int)(w:E)(h:n<1∨8<n):Calls prog 101 #[I n] w λe w'=>e=H (F false)∧w=w':=by
 rcases h with h|h
 ·have h':decide (1≤n)=false:=qh
  exact qfw
 ·have h':1≤n:=qb
  have h'':decide (n≤8)=false:=qh;exact qfw
theorem Yt{wr w1:E}{V:Int}{j:X}{v':Z}(hV:0≤V)(cz:w.heap.size≤wr.heap.size)(am:Bw w wr)(ba:w1.ownsRow w.heap.size 5 1 v' (1+j) ([Value.int .u8 (V / 256 ^ j % 256)]++Ke V j))(ae:(wr.alloc (O #[Value.int .u8 (V / 256 ^ j % 256)] 5)).grownBy w1 (Value.slice (p_ wr.heap.size) 1 1).ownBlock)(dp:v'=nS↔Value.slice (p_ wr.heap.size) 1 1=nS∧j=0):∃g cap:X,v'=J (p_ g) (j+1) cap∧w1.ownsRow w.heap.size 5 1 (J (p_ g) (j+1) cap) (j+1) (Ke V (j+1))∧Bw w w1:=by
 rw[←dcells_succ V hV,Nat.add_comm 1 j]at ba;have hb:Bw w w1:=(am.alloc cz _).grown ae qh (by intro k hk;simp[Value.ownBlock]at hk;omega);have h2:=ba.2
 rcases h2 with⟨h,_⟩|⟨g,cap,cur,hv,_⟩
 ·have:=dp.1 h;simp at this
 ·subst hv;exact⟨g,cap,rfl,ba,hb⟩
theorem Fp(s:By)(n:X)(w:E)(hs:s.size≤1048576)(h1:1≤n)(h2:n≤8):Calls prog 45 #[S s,I n] w λe w'=>e=H (S ⟨(Ij (Co s.data.toList) n).toArray⟩)∧Bw w w':=by
 obtain⟨i0,hi,bo,bm,cm⟩:=info_parts Tryz.info5;obtain⟨U6,hV2⟩:=It s.data.toList;generalize hV:Co s.data.toList=V at *;have HV:Hd (Co s.data.toList=V):=hV;clear hV;go_enter func45,ntmps45
 go_wp2_with (first|(go_at_call 44;refine(Kr _ _ qb qb).mono ?_;rintro e w' ⟨rfl,rfl⟩))
 go_loop [5,6] (λv i=>∃k:X,k≤s.size∧i=I k∧v=.int .u64 (Co (s.data.toList.take k))) (λ_ i=>s.size-(intOf i).toNat)
 case atStart=>exact⟨0,Nat.zero_le _,rfl,rfl⟩
 case round=>
  obtain⟨k,hk,rfl,rfl⟩:=hrel
  by_cases aj:k<s.size
  ·exact qap
  ·rw[show s.data.toList.take k=s.data.toList from List.take_of_length_le qh]
   rw[HV.o];go_wp2
   go_loopw [5,7,8] (λv o i wr=>∃k:X,∃g cap:X,k≤n∧i=I k∧v=.int .u64 (V / 256 ^ k)∧o=J (p_ g) k cap∧
    wr.ownsRow w.heap.size 5 1 (J (p_ g) k cap) k (Ke V k)∧Bw w wr)
    (λ_ _ i _=>n-(intOf i).toNat)
   case atStart=>
    refine⟨0,w.heap.size,0,Nat.zero_le _,rfl,qg,rfl,?_,aN _ _⟩;exact World.ownsRow_lit w #[] 0 (Nat.le_refl _) qm qg
   case round=>
    obtain⟨j,g,cap,hj,rfl,rfl,rfl,ah,am⟩:=hrel;obtain⟨hd1,hd2⟩:=div_bd V j U6 hV2;have cz:=am.size
    by_cases hjn:j<n
    ·have hnew:=World.ownsRow_lit (base:=w.heap.size) (e:=5) (size:=1) wr #[Value.int .u8 (V / 256 ^ j % 256)] 1 cz qm qg
     have jh:=(ah.alloc (O #[Value.int .u8 (V / 256 ^ j % 256)] 5)).cells (g:=g) rfl
     go_wp2_with (first|(at_builtin;refine wpList_append_own _ rfl (.tmp 34) (.tmp 35) 130 rfl w.heap.size 5 i0 (.int .u8 0) 1 1 underlying130 hi bo bm cm rfl qd _ _ _ rfl hnew ⟨g,0,N⟩ j cap (Ke V j) rfl (by simp[Ws]) jh (dcells_one V j) qm qb qh ?_;intro v' w1 ba ae dp;obtain⟨g',ai,hv',R⟩:=Yt U6 cz am ba ae dp;clear ba ae dp hnew jh ah am;rw[hv'];clear hv'))
     go_roundw
     case rel=>exact⟨j+1,g',ai,qb,qj,by rw[div_succ],rfl,R.1,R.2⟩
     case measure=>simp[intOf];omega
    ·have ej:j=n:=qb
     have hcv:(convert 130 9 (J (p_ g) j cap)).run prog wr=.ok (S ⟨(Ij V j).toArray⟩) wr:=by
      have:=run_convert_bytes_back (P:=prog) wr 130 9 5 ⟨g,0,N⟩ cap (Ij V j) underlying130 underlying5 underlying9 (λt ht=>ah.cells rfl t _ (by rw[Ke,List.getElem?_map,Jr ht];rfl))
      rwa [Gz]at this
     have Hej:Hd (j=n):=ej;clear ej;go_wp2;go_ret;exact⟨by rw[Hej.o];rfl,am⟩
theorem cells8_1(V:Int):Bf V 1=#[.int .u8 (V % 256),.int .u8 (0),.int .u8 (0),.int .u8 (0),.int .u8 (0),.int .u8 (0),.int .u8 (0),.int .u8 (0)]:=by
 simp[Bf,Cy]
theorem sumBytes_1(s:By)(w:E)(hs:s.size≤1048576):Calls prog 150 #[S s,I 1] w λe w'=>e=H (G (Bf (Co s.data.toList) 1))∧
 (w.alloc (O (Bf (Co s.data.toList) 1) 225)).alloc (O (Bf (Co s.data.toList) 1) 225)=w':=by
 obtain⟨U6,hV2⟩:=It s.data.toList;generalize hV:Co s.data.toList=V at *;have HV:Hd (Co s.data.toList=V):=hV;clear hV;rw[cells8_1];go_enter func150,ntmps150;go_wp2
 go_loop [5,6,11] (λv _ i=>∃k:X,k≤s.size∧i=I k∧v=.int .u64 (Co (s.data.toList.take k))) (λ_ _ i=>s.size-(intOf i).toNat)
 case atStart=>exact⟨0,Nat.zero_le _,rfl,rfl⟩
 case round=>
  obtain⟨k,hk,rfl,rfl⟩:=hrel
  by_cases aj:k<s.size
  ·exact qap
  ·rw[show s.data.toList.take k=s.data.toList from List.take_of_length_le qh]
   rw[HV.o];go_wp2;refine wp_loop_rounds 2 ?_
   iterate 2 (rw[rounds_succ];go_wp2)
   exact bR (v:=G #[.int .u8 (V % 256),.int .u8 (0),.int .u8 (0),.int .u8 (0),.int .u8 (0),.int .u8 (0),.int .u8 (0),.int .u8 (0)]) qay rfl ⟨rfl,rfl⟩
theorem cells8_2(V:Int):Bf V 2=#[.int .u8 (V / 256 % 256),.int .u8 (V % 256),.int .u8 (0),.int .u8 (0),.int .u8 (0),.int .u8 (0),.int .u8 (0),.int .u8 (0)]:=by
 simp[Bf,Cy]
theorem sumBytes_2(s:By)(w:E)(hs:s.size≤1048576):Calls prog 150 #[S s,I 2] w λe w'=>e=H (G (Bf (Co s.data.toList) 2))∧
 (w.alloc (O (Bf (Co s.data.toList) 2) 225)).alloc (O (Bf (Co s.data.toList) 2) 225)=w':=by
 obtain⟨U6,hV2⟩:=It s.data.toList;generalize hV:Co s.data.toList=V at *;have HV:Hd (Co s.data.toList=V):=hV;clear hV;rw[cells8_2];go_enter func150,ntmps150;go_wp2
 go_loop [5,6,11] (λv _ i=>∃k:X,k≤s.size∧i=I k∧v=.int .u64 (Co (s.data.toList.take k))) (λ_ _ i=>s.size-(intOf i).toNat)
 case atStart=>exact⟨0,Nat.zero_le _,rfl,rfl⟩
 case round=>
  obtain⟨k,hk,rfl,rfl⟩:=hrel
  by_cases aj:k<s.size
  ·exact qap
  ·rw[show s.data.toList.take k=s.data.toList from List.take_of_length_le qh]
   rw[HV.o];go_wp2;refine wp_loop_rounds 3 ?_
   iterate 3 (rw[rounds_succ];go_wp2)
   exact bR (v:=G #[.int .u8 (V / 256 % 256),.int .u8 (V % 256),.int .u8 (0),.int .u8 (0),.int .u8 (0),.int .u8 (0),.int .u8 (0),.int .u8 (0)]) qay rfl ⟨rfl,rfl⟩
theorem cells8_3(V:Int):Bf V 3=#[.int .u8 (V / 256 / 256 % 256),.int .u8 (V / 256 % 256),.int .u8 (V % 256),.int .u8 (0),.int .u8 (0),.int .u8 (0),.int .u8 (0),.int .u8 (0)]:=by
 simp[Bf,Cy];omega
theorem sumBytes_3(s:By)(w:E)(hs:s.size≤1048576):Calls prog 150 #[S s,I 3] w λe w'=>e=H (G (Bf (Co s.data.toList) 3))∧
 (w.alloc (O (Bf (Co s.data.toList) 3) 225)).alloc (O (Bf (Co s.data.toList) 3) 225)=w':=by
 obtain⟨U6,hV2⟩:=It s.data.toList;generalize hV:Co s.data.toList=V at *;have HV:Hd (Co s.data.toList=V):=hV;clear hV;rw[cells8_3];go_enter func150,ntmps150;go_wp2
 go_loop [5,6,11] (λv _ i=>∃k:X,k≤s.size∧i=I k∧v=.int .u64 (Co (s.data.toList.take k))) (λ_ _ i=>s.size-(intOf i).toNat)
 case atStart=>exact⟨0,Nat.zero_le _,rfl,rfl⟩
 case round=>
  obtain⟨k,hk,rfl,rfl⟩:=hrel
  by_cases aj:k<s.size
  ·exact qap
  ·rw[show s.data.toList.take k=s.data.toList from List.take_of_length_le qh]
   rw[HV.o];go_wp2;refine wp_loop_rounds 4 ?_
   iterate 4 (rw[rounds_succ];go_wp2)
   exact bR (v:=G #[.int .u8 (V / 256 / 256 % 256),.int .u8 (V / 256 % 256),.int .u8 (V % 256),.int .u8 (0),.int .u8 (0),.int .u8 (0),.int .u8 (0),.int .u8 (0)]) qay rfl ⟨rfl,rfl⟩
theorem cells8_4(V:Int):Bf V 4=#[.int .u8 (V / 256 / 256 / 256 % 256),.int .u8 (V / 256 / 256 % 256),.int .u8 (V / 256 % 256),.int .u8 (V % 256),.int .u8 (0),.int .u8 (0),.int .u8 (0),.int .u8 (0)]:=by
 simp[Bf,Cy];omega
theorem sumBytes_4(s:By)(w:E)(hs:s.size≤1048576):Calls prog 150 #[S s,I 4] w λe w'=>e=H (G (Bf (Co s.data.toList) 4))∧
 (w.alloc (O (Bf (Co s.data.toList) 4) 225)).alloc (O (Bf (Co s.data.toList) 4) 225)=w':=by
 obtain⟨U6,hV2⟩:=It s.data.toList;generalize hV:Co s.data.toList=V at *;have HV:Hd (Co s.data.toList=V):=hV;clear hV;rw[cells8_4];go_enter func150,ntmps150;go_wp2
 go_loop [5,6,11] (λv _ i=>∃k:X,k≤s.size∧i=I k∧v=.int .u64 (Co (s.data.toList.take k))) (λ_ _ i=>s.size-(intOf i).toNat)
 case atStart=>exact⟨0,Nat.zero_le _,rfl,rfl⟩
 case round=>
  obtain⟨k,hk,rfl,rfl⟩:=hrel
  by_cases aj:k<s.size
  ·exact qap
  ·rw[show s.data.toList.take k=s.data.toList from List.take_of_length_le qh]
   rw[HV.o];go_wp2;refine wp_loop_rounds 5 ?_
   iterate 5 (rw[rounds_succ];go_wp2)
   exact bR (v:=G #[.int .u8 (V / 256 / 256 / 256 % 256),.int .u8 (V / 256 / 256 % 256),.int .u8 (V / 256 % 256),.int .u8 (V % 256),.int .u8 (0),.int .u8 (0),.int .u8 (0),.int .u8 (0)]) qay rfl ⟨rfl,rfl⟩
theorem cells8_5(V:Int):Bf V 5=#[.int .u8 (V / 256 / 256 / 256 / 256 % 256),.int .u8 (V / 256 / 256 / 256 % 256),.int .u8 (V / 256 / 256 % 256),.int .u8 (V / 256 % 256),.int .u8 (V % 256),.int .u8 (0),.int .u8 (0),.int .u8 (0)]:=by
 simp[Bf,Cy];omega
theorem sumBytes_5(s:By)(w:E)(hs:s.size≤1048576):Calls prog 150 #[S s,I 5] w λe w'=>e=H (G (Bf (Co s.data.toList) 5))∧
 (w.alloc (O (Bf (Co s.data.toList) 5) 225)).alloc (O (Bf (Co s.data.toList) 5) 225)=w':=by
 obtain⟨U6,hV2⟩:=It s.data.toList;generalize hV:Co s.data.toList=V at *;have HV:Hd (Co s.data.toList=V):=hV;clear hV;rw[cells8_5];go_enter func150,ntmps150;go_wp2
 go_loop [5,6,11] (λv _ i=>∃k:X,k≤s.size∧i=I k∧v=.int .u64 (Co (s.data.toList.take k))) (λ_ _ i=>s.size-(intOf i).toNat)
 case atStart=>exact⟨0,Nat.zero_le _,rfl,rfl⟩
 case round=>
  obtain⟨k,hk,rfl,rfl⟩:=hrel
  by_cases aj:k<s.size
  ·exact qap
  ·rw[show s.data.toList.take k=s.data.toList from List.take_of_length_le qh]
   rw[HV.o];go_wp2;refine wp_loop_rounds 6 ?_
   iterate 6 (rw[rounds_succ];go_wp2)
   exact bR (v:=G #[.int .u8 (V / 256 / 256 / 256 / 256 % 256),.int .u8 (V / 256 / 256 / 256 % 256),.int .u8 (V / 256 / 256 % 256),.int .u8 (V / 256 % 256),.int .u8 (V % 256),.int .u8 (0),.int .u8 (0),.int .u8 (0)]) qay rfl ⟨rfl,rfl⟩
theorem cells8_6(V:Int):Bf V 6=#[.int .u8 (V / 256 / 256 / 256 / 256 / 256 % 256),.int .u8 (V / 256 / 256 / 256 / 256 % 256),.int .u8 (V / 256 / 256 / 256 % 256),.int .u8 (V / 256 / 256 % 256),.int .u8 (V / 256 % 256),.int .u8 (V % 256),.int .u8 (0),.int .u8 (0)]:=by
 simp[Bf,Cy];omega
theorem sumBytes_6(s:By)(w:E)(hs:s.size≤1048576):Calls prog 150 #[S s,I 6] w λe w'=>e=H (G (Bf (Co s.data.toList) 6))∧
 (w.alloc (O (Bf (Co s.data.toList) 6) 225)).alloc (O (Bf (Co s.data.toList) 6) 225)=w':=by
 obtain⟨U6,hV2⟩:=It s.data.toList;generalize hV:Co s.data.toList=V at *;have HV:Hd (Co s.data.toList=V):=hV;clear hV;rw[cells8_6];go_enter func150,ntmps150;go_wp2
 go_loop [5,6,11] (λv _ i=>∃k:X,k≤s.size∧i=I k∧v=.int .u64 (Co (s.data.toList.take k))) (λ_ _ i=>s.size-(intOf i).toNat)
 case atStart=>exact⟨0,Nat.zero_le _,rfl,rfl⟩
 case round=>
  obtain⟨k,hk,rfl,rfl⟩:=hrel
  by_cases aj:k<s.size
  ·exact qap
  ·rw[show s.data.toList.take k=s.data.toList from List.take_of_length_le qh]
   rw[HV.o];go_wp2;refine wp_loop_rounds 7 ?_
   iterate 7 (rw[rounds_succ];go_wp2)
   exact bR (v:=G #[.int .u8 (V / 256 / 256 / 256 / 256 / 256 % 256),.int .u8 (V / 256 / 256 / 256 / 256 % 256),.int .u8 (V / 256 / 256 / 256 % 256),.int .u8 (V / 256 / 256 % 256),.int .u8 (V / 256 % 256),.int .u8 (V % 256),.int .u8 (0),.int .u8 (0)]) qay rfl ⟨rfl,rfl⟩
theorem cells8_7(V:Int):Bf V 7=#[.int .u8 (V / 256 / 256 / 256 / 256 / 256 / 256 % 256),.int .u8 (V / 256 / 256 / 256 / 256 / 256 % 256),.int .u8 (V / 256 / 256 / 256 / 256 % 256),.int .u8 (V / 256 / 256 / 256 % 256),.int .u8 (V / 256 / 256 % 256),.int .u8 (V / 256 % 256),.int .u8 (V % 256),.int .u8 (0)]:=by
 simp[Bf,Cy];omega
theorem sumBytes_7(s:By)(w:E)(hs:s.size≤1048576):Calls prog 150 #[S s,I 7] w λe w'=>e=H (G (Bf (Co s.data.toList) 7))∧
 (w.alloc (O (Bf (Co s.data.toList) 7) 225)).alloc (O (Bf (Co s.data.toList) 7) 225)=w':=by
 obtain⟨U6,hV2⟩:=It s.data.toList;generalize hV:Co s.data.toList=V at *;have HV:Hd (Co s.data.toList=V):=hV;clear hV;rw[cells8_7];go_enter func150,ntmps150;go_wp2
 go_loop [5,6,11] (λv _ i=>∃k:X,k≤s.size∧i=I k∧v=.int .u64 (Co (s.data.toList.take k))) (λ_ _ i=>s.size-(intOf i).toNat)
 case atStart=>exact⟨0,Nat.zero_le _,rfl,rfl⟩
 case round=>
  obtain⟨k,hk,rfl,rfl⟩:=hrel
  by_cases aj:k<s.size
  ·exact qap
  ·rw[show s.data.toList.take k=s.data.toList from List.take_of_length_le qh]
   rw[HV.o];go_wp2;refine wp_loop_rounds 8 ?_
   iterate 8 (rw[rounds_succ];go_wp2)
   exact bR (v:=G #[.int .u8 (V / 256 / 256 / 256 / 256 / 256 / 256 % 256),.int .u8 (V / 256 / 256 / 256 / 256 / 256 % 256),.int .u8 (V / 256 / 256 / 256 / 256 % 256),.int .u8 (V / 256 / 256 / 256 % 256),.int .u8 (V / 256 / 256 % 256),.int .u8 (V / 256 % 256),.int .u8 (V % 256),.int .u8 (0)]) qay rfl ⟨rfl,rfl⟩
theorem cells8_8(V:Int)(h1:0≤V)(h2:V<18446744073709551616):Bf V 8=#[.int .u8 (V / 256 / 256 / 256 / 256 / 256 / 256 / 256),.int .u8 (V / 256 / 256 / 256 / 256 / 256 / 256 % 256),.int .u8 (V / 256 / 256 / 256 / 256 / 256 % 256),.int .u8 (V / 256 / 256 / 256 / 256 % 256),.int .u8 (V / 256 / 256 / 256 % 256),.int .u8 (V / 256 / 256 % 256),.int .u8 (V / 256 % 256),.int .u8 (V % 256)]:=by
 simp[Bf,Cy];omega
theorem sumBytes_8(s:By)(w:E)(hs:s.size≤1048576):Calls prog 150 #[S s,I 8] w λe w'=>e=H (G (Bf (Co s.data.toList) 8))∧
 (w.alloc (O (Bf (Co s.data.toList) 8) 225)).alloc (O (Bf (Co s.data.toList) 8) 225)=w':=by
 obtain⟨U6,hV2⟩:=It s.data.toList;generalize hV:Co s.data.toList=V at *;have HV:Hd (Co s.data.toList=V):=hV;clear hV;rw[cells8_8 V U6 hV2];go_enter func150,ntmps150;go_wp2
 go_loop [5,6,11] (λv _ i=>∃k:X,k≤s.size∧i=I k∧v=.int .u64 (Co (s.data.toList.take k))) (λ_ _ i=>s.size-(intOf i).toNat)
 case atStart=>exact⟨0,Nat.zero_le _,rfl,rfl⟩
 case round=>
  obtain⟨k,hk,rfl,rfl⟩:=hrel
  by_cases aj:k<s.size
  ·exact qap
  ·rw[show s.data.toList.take k=s.data.toList from List.take_of_length_le qh]
   rw[HV.o];go_wp2;refine wp_loop_rounds 9 ?_
   iterate 9 (rw[rounds_succ];go_wp2)
   exact bR (v:=G #[.int .u8 (V / 256 / 256 / 256 / 256 / 256 / 256 / 256),.int .u8 (V / 256 / 256 / 256 / 256 / 256 / 256 % 256),.int .u8 (V / 256 / 256 / 256 / 256 / 256 % 256),.int .u8 (V / 256 / 256 / 256 / 256 % 256),.int .u8 (V / 256 / 256 / 256 % 256),.int .u8 (V / 256 / 256 % 256),.int .u8 (V / 256 % 256),.int .u8 (V % 256)]) qay rfl ⟨rfl,rfl⟩
theorem Yq(s:By)(n:X)(w:E)(hs:s.size≤1048576)(h1:1≤n)(h2:n≤8):Calls prog 150 #[S s,I n] w λe w'=>e=H (G (Bf (Co s.data.toList) n))∧
 (w.alloc (O (Bf (Co s.data.toList) n) 225)).alloc (O (Bf (Co s.data.toList) n) 225)=w':=by
 rcases(show n=1∨n=2∨n=3∨n=4∨n=5∨n=6∨n=7∨n=8 from qb)with rfl|rfl|rfl|rfl|rfl|rfl|rfl|rfl
 ·exact sumBytes_1 s w hs
 ·exact sumBytes_2 s w hs
 ·exact sumBytes_3 s w hs
 ·exact sumBytes_4 s w hs
 ·exact sumBytes_5 s w hs
 ·exact sumBytes_6 s w hs
 ·exact sumBytes_7 s w hs
 ·exact sumBytes_8 s w hs
theorem slice8(n:X)(h2:n≤8)(a:Addr)(w:E):(Instr.sliceAt 225 (.pointer (M a)) N (M (I n)) N).run prog w=.ok (J (M a) n 8) w:=by
 have hl:prog.arrayLen 225=8:=qi;rw[run_sliceAt_array_h w 225 a qi .i64 n qb (by rw[hl];omega),hl];simp[go_sem]
theorem Yp(s:By)(n:X)(V:Int)(w:E)(HV:Hd (Co s.data.toList=V))(hs:s.size≤1048576)(h1:1≤n)(h2:n≤8):Calls prog 150 #[S s,I n] w λe w'=>e=H (G #[.int .u8 (Cy V n 0),.int .u8 (Cy V n 1),.int .u8 (Cy V n 2),.int .u8 (Cy V n 3),.int .u8 (Cy V n 4),.int .u8 (Cy V n 5),.int .u8 (Cy V n 6),.int .u8 (Cy V n 7)])∧
 (w.alloc (O #[.int .u8 (Cy V n 0),.int .u8 (Cy V n 1),.int .u8 (Cy V n 2),.int .u8 (Cy V n 3),.int .u8 (Cy V n 4),.int .u8 (Cy V n 5),.int .u8 (Cy V n 6),.int .u8 (Cy V n 7)] 225)).alloc (O #[.int .u8 (Cy V n 0),.int .u8 (Cy V n 1),.int .u8 (Cy V n 2),.int .u8 (Cy V n 3),.int .u8 (Cy V n 4),.int .u8 (Cy V n 5),.int .u8 (Cy V n 6),.int .u8 (Cy V n 7)] 225)=w':=by
 have h:=Yq s n w hs h1 h2;rw[HV.o]at h;exact h
theorem Iz(s:By)(n:X)(w:E)(hs:s.size≤1048576)(h1:1≤n)(h2:n≤8):Calls prog 128 #[S s,I n] w λe w'=>e=H (S ⟨(Ij (Co s.data.toList) n).toArray⟩)∧Bw w w':=by
 obtain⟨U6,hV2⟩:=It s.data.toList;generalize hV:Co s.data.toList=V at *;have HV:Hd (Co s.data.toList=V):=hV;clear hV
 have hcv:(convert 130 9 (J (p_ (w.heap.size+1+1)) n 8)).run prog (((w.alloc (O (Bf V n) 225)).alloc (O (Bf V n) 225)).alloc (O (Bf V n) 225))=.ok (S ⟨(Ij V n).toArray⟩) (((w.alloc (O (Bf V n) 225)).alloc (O (Bf V n) 225)).alloc (O (Bf V n) 225)):=by
  have:=run_convert_bytes_back (P:=prog) (((w.alloc (O (Bf V n) 225)).alloc (O (Bf V n) 225)).alloc (O (Bf V n) 225)) 130 9 5 ⟨w.heap.size+1+1,0,N⟩ 8 (Ij V n) underlying130 underlying5 underlying9 (λt ht=>by
   rw[←cell8_digs V U6 n t ht];have hn:t<n:=by simpa [Gz] using ht
   rcases(show t=0∨t=1∨t=2∨t=3∨t=4∨t=5∨t=6∨t=7 from qb)with rfl|rfl|rfl|rfl|rfl|rfl|rfl|rfl<;>simp[Bf,Addr.add,go_sem])
  rwa [Gz]at this
 simp only[Bf]at hcv;have hsl:=slice8 n h2;go_enter func128,ntmps128
 go_wp2_with (first|(go_at_call 101;refine(Jw _ _ qb qb).mono ?_;rintro e w' ⟨rfl,rfl⟩)|(go_at_call 150;refine(Yp s n V _ HV hs h1 h2).mono ?_;rintro e w' ⟨rfl,rfl⟩))
 go_ret;exact⟨rfl,((aN _ _).alloc qg _).alloc qh _⟩



def Aq(n:X)(s:By):By:=⟨(Ij (Co s.data.toList) n).toArray⟩
def Mq(n:X)(g:G3):Prop:=Ar g.name∧g.sum.size=n
def Hq(n:X)(r:T3):Prop:=Ao r.code=true∧r.out.size=n∧r.looks.length≤200∧∀i,i<r.looks.length→Mq n (gx r.looks i)
def Vg(n:X)(ts:L By):Prop:=ts.length≤5000∧(∀i,i<ts.length→(nx ts i).size≤2002)∧Fu (ts.map (Aq n))
def Hx(n:X)(ts:L By)(rs:L T3):Prop:=Vg n ts∧rs.length≤2000∧∀i,i<rs.length→Hq n (qx rs i)
theorem Hi(n:X)(ts:L By)(i:X)(h:i<ts.length):nx (ts.map (Aq n)) i=Aq n (nx ts i):=by
 unfold nx;exact qll
theorem Vf(h:b=true↔P):(P∧b=true)∨(¬ P∧b=false):=by
 cases b
 ·exact Or.inr ⟨λp=>absurd (h.2 p) qg,rfl⟩
 ·exact Or.inl ⟨h.1 rfl,rfl⟩
structure RcIn (w:E) (a:Option Addr) (is:L I3) (la:Option Addr) (gs:L G3):Prop where
 rc:Ch w a is
 rg:Gk w la gs
 lc:is.length≤1048576
 lg:gs.length≤1048576
 xc:∀i,(ix is i).text.size≤maxLen
 ng:∀i,(gx gs i).name.size≤maxLen
 sg:∀i,(gx gs i).sum.size≤maxLen
theorem Si(a la:Option Addr)(cap lc:X)(is:L I3)(gs:L G3)(out:By)(n:X)(w:E)(hT:Kk w)(h8:n≤8)(h:RcIn w a is la gs)(ho:out.size≤maxLen):Calls prog 127 #[G #[J a is.length cap,J la gs.length lc,S out],I n] w λe w'=>Bw w w'∧∃b,e=H (F b)∧(b=true↔Hq n ⟨is,gs,out⟩):=by
 have ak:Bw w (w.alloc (O #[J a is.length cap,J la gs.length lc,S out] 95)):=aN _ _;have k1:(w.alloc (O #[J a is.length cap,J la gs.length lc,S out] 95)).cell? ⟨w.heap.size,1,N⟩=M (J la gs.length lc):=qk;have k2:(w.alloc (O #[J a is.length cap,J la gs.length lc,S out] 95)).cell? ⟨w.heap.size,2,N⟩=M (S out):=qk;unfold maxLen at ho;have hlg:=h.lg;have HRG:Hd (Gk w la gs):=h.rg;have HNG:Hd (∀i,(gx gs i).name.size≤maxLen):=h.ng;have wo:Hd (∀i,(gx gs i).sum.size≤maxLen):=h.sg;obtain⟨v,ev⟩:=Aj (Ao is);have EV:Hd (Ao is=v):=ev;go_enter func127,ntmps127;go_wp2_with fail;refine(Kz a cap is _ (hT.bl ak) (h.rc.bl ak) h.lc h.xc).mono ?_;rintro e w1 ⟨af,rfl⟩;rw[ev];have bj:=bt ak af;have S6:=Aa af k1;have S5:=Aa af k2;clear ak af k1 k2 h ev;cases v
 ·exact qlq
 ·by_cases h2:out.size=n
  ·have d2:((out.size:Int) != (n:Int))=false:=qh
   have H2:Hd (out.size=n):=h2;clear h2
   by_cases h3:200<gs.length
   ·exact qjv
   ·have d3:decide ((200:Int)<(gs.length:Int))=false:=qh
    go_wp2
    go_loopw [27] (λi wr=>∃k:X,k≤gs.length∧i=I k∧Hd (∀i,i<k→Mq n (gx gs i))∧Bw w wr) (λi _=>gs.length-(intOf i).toNat)
    case atStart=>exact⟨0,Nat.zero_le _,rfl,(λi hi=>by omega:∀i,i<0→Mq n (gx gs i)),bj⟩
    case round=>
     obtain⟨k,hk,rfl,HK,bc⟩:=hrel
     by_cases aj:k<gs.length
     ·obtain⟨b,off,rfl,c1,c2,c3⟩:=(HRG.o.bl bc) k aj
      have T5:=HNG.o k;have gh:=wo.o k;have HG1:Hd (Mq n (gx gs k)→∀i,i<k+1→Mq n (gx gs i)):=λhg=>Cw HK.o hg;have X3:Hd (¬ Mq n (gx gs k)→¬ Hq n ⟨is,gs,out⟩):=λhg h=>hg (h.2.2.2 k aj);generalize gx gs k=g at *;unfold maxLen at T5 gh;clear S6 S5
      by_cases g1:Ar g.name
      ·have e1:=Db g1
       by_cases g2:g.sum.size=n
       ·have d4:((g.sum.size:Int) != (n:Int))=false:=qh
        have HO:Hd (∀i,i<k+1→Mq n (gx gs i)):=HG1.o ⟨g1,g2⟩;clear g2
        go_wp2_with (first|(go_at_call 83;refine(Dm g.name _ T5).mono ?_;rintro e w9 ⟨rfl,rfl⟩;rw[e1]))
        go_roundw
        case rel=>exact⟨k+1,qb,qj,HO.o,bc.alloc bc.size _⟩
        case measure=>simp[intOf];omega
       ·have d4:((g.sum.size:Int) != (n:Int))=true:=qh
        have HO:Hd (¬ Hq n ⟨is,gs,out⟩):=X3.o (λh=>g2 h.2);clear g2;exact qjt
      ·have e1:=Cs g1
       have HO:Hd (¬ Hq n ⟨is,gs,out⟩):=X3.o (λh=>g1 h.1);exact qjt
     ·have HO:Hd (Hq n ⟨is,gs,out⟩):=⟨EV.o,H2.o,by show gs.length≤200;omega,λi hi=>HK.o i (by simp only at hi;omega)⟩
      go_wp2;exact qgf
  ·exact qkr
structure QsIn (w:E) (a:Option Addr) (rs:L T3):Prop where
 rq:Lc w a rs
 ok:QsOk rs
 sm:En rs
theorem QsIn.bl(h:QsIn w a rs)(hb:Bw w w'):QsIn w' a rs:=⟨h.rq.bl hb,h.ok,h.sm⟩
theorem Qq(a:Option Addr)(cap:X)(rs:L T3)(n:X)(w:E)(hT:Kk w)(h8:n≤8)(h:QsIn w a rs):Calls prog 103 #[J a rs.length cap,I n] w λe w'=>Bw w w'∧∃b,e=H (F b)∧(b=true↔rs.length≤2000∧∀i,i<rs.length→Hq n (qx rs i)):=by
 have hl:=h.sm.1;have HQ:Hd (QsIn w a rs):=h;have HT:Hd (Kk w):=hT;clear h hT
 by_cases h1:2000<rs.length
 ·have d1:decide ((2000:Int)<(rs.length:Int))=true:=qh
  go_enter func103,ntmps103;go_wp2;go_ret;exact⟨Below.refl _ _,false,rfl,Ed (λh=>qb)⟩
 ·have d1:decide ((2000:Int)<(rs.length:Int))=false:=qh
  go_enter func103,ntmps103;go_wp2
  go_loopw [12] (λi wr=>∃k:X,k≤rs.length∧i=I k∧Hd (∀i,i<k→Hq n (qx rs i))∧Bw w wr) (λi _=>rs.length-(intOf i).toNat)
  case atStart=>exact⟨0,Nat.zero_le _,rfl,(λi hi=>by omega:∀i,i<0→Hq n (qx rs i)),Below.refl _ _⟩
  case round=>
   obtain⟨k,hk,rfl,HK,bc⟩:=hrel
   by_cases aj:k<rs.length
   ·have hq:=HQ.o.bl bc
    obtain⟨b,off,rfl,ca,cc,la,lc,c1,c2,c3,c4,c5⟩:=hq.rq k aj;have n8:RcIn wr ca (qx rs k).code la (qx rs k).looks:=⟨c4,c5,(hq.sm.2 k aj).1,(hq.sm.2 k aj).2,hq.ok.xc k,hq.ok.ng k,hq.ok.sg k⟩;have hou:=hq.ok.so k;have HG1:Hd (Hq n (qx rs k)→∀i,i<k+1→Hq n (qx rs i)):=λhg=>Cw HK.o hg;have X3:Hd (¬ Hq n (qx rs k)→¬ (rs.length≤2000∧∀i,i<rs.length→Hq n (qx rs i))):=λhg h=>hg (h.2 k aj);clear hq c4 c5;generalize qx rs k=x at *;obtain⟨xc,xl,xo⟩:=x;simp only at *;have sq:Hd (RcIn wr ca xc la xl):=n8;clear n8;have ak:Bw wr (wr.alloc (O #[J ca xc.length cc,J la xl.length lc,S xo] 95)):=aN _ _;have hin2:RcIn (wr.alloc (O #[J ca xc.length cc,J la xl.length lc,S xo] 95)) ca xc la xl:=⟨sq.o.rc.bl ak,sq.o.rg.bl ak,sq.o.lc,sq.o.lg,sq.o.xc,sq.o.ng,sq.o.sg⟩;have I2:Hd (RcIn (wr.alloc (O #[J ca xc.length cc,J la xl.length lc,S xo] 95)) ca xc la xl):=hin2;clear hin2;go_wp2_with fail;refine(Si ca la cc lc xc xl xo n _ ((HT.o.bl bc).bl ak) h8 I2.o hou).mono ?_;rintro e w2 ⟨ag,b,rfl,hb⟩;have bg:=bt bc (bt ak ag)
    rcases Vf hb with⟨hg,rfl⟩|⟨hg,rfl⟩
    ·have HO:Hd (∀i,i<k+1→Hq n (qx rs i)):=HG1.o hg
     clear hb hg ak ag;go_wp2;go_roundw
     case rel=>exact⟨k+1,qb,qj,HO.o,bg⟩
     case measure=>simp[intOf];omega
    ·have HO:Hd (¬ (rs.length≤2000∧∀i,i<rs.length→Hq n (qx rs i))):=X3.o hg
     clear hb hg ak ag;go_wp2;go_ret;exact⟨bg,false,rfl,Ed HO.o⟩
   ·go_wp2
    go_ret;exact⟨bc,true,rfl,Gp ⟨qb,λi hi=>HK.o i qb⟩⟩
theorem Mw{B cap:X}{ss:L By}(hn:n=ss.length)(h:w.ownsRow B 9 1 (J a n cap) n (ss.map .string)):Ca w a ss:=by
 subst hn;intro i hi
 rcases h.2 with⟨hv,h0⟩|⟨g,ai,cur,hv,_⟩
 ·omega
 ·simp only[Value.slice.injEq]at hv
  obtain⟨rfl,_,_⟩:=hv;refine⟨g,0,rfl,?_⟩;rw[Nat.zero_add,h.cellAt i qb,List.getElem?_map,Jr hi,gG,Jr hi];rfl
theorem sumsOf_any(a:Option Addr)(cap:X)(ts:L By)(n:X)(w:E)(h1:1≤n)(h8:n≤8)(hc:Ca w a ts)(hl:ts.length≤1048576)(hs:∀i,i<ts.length→(nx ts i).size≤2002):Calls prog 104 #[J a ts.length cap,I n] w λe w'=>Bw w w'∧∃g:X,e=H (J (p_ g) ts.length ts.length)∧w.heap.size≤g∧w'.ownsRow w.heap.size 9 1 (J (p_ g) ts.length ts.length) ts.length ((ts.map (Aq n)).map .string):=by
 have HC:Hd (Ca w a ts):=hc;have HS:Hd (∀i,i<ts.length→(nx ts i).size≤2002):=hs;clear hc hs;obtain⟨i0,hi,bo,bm,cm⟩:=info_parts Tryz.info9;obtain⟨ss,ess⟩:=Aj (ts.map (Aq n));have ri:Hd (ss.length=ts.length):=by show ss.length=ts.length;rw[←ess,List.length_map]
 have px:Hd (∀i,i<ts.length→nx ss i=Aq n (nx ts i)):=λi h=>by rw[←ess];exact Hi n ts i h
 rw[ess];clear ess;go_enter func104,ntmps104
 go_wp2_with (first|(at_make;refine wpList_make_full _ rfl (.tmp 9) (.tmp 9) 22 rfl w.heap.size 9 i0 (S ByteArray.empty) 1 underlying22 hi bo bm .i64 .i64 _ _ ts.length rfl rfl rfl rfl qao qm (Nat.le_refl _) ?_;intro w1 ah ae))
 rw[Qc]at ah;have ge:Bw w w1:=(Below.refl _ _).grown ae (Nat.le_refl _) qg;clear ae
 go_loopw [13] (λi wr=>∃k:X,k≤ts.length∧i=I k∧Hd (wr.ownsRow w.heap.size 9 1 (J (p_ w.heap.size) ts.length ts.length) ts.length (El ss k ss.length))∧Bw w wr) (λi _=>ts.length-(intOf i).toNat)
 case atStart=>exact⟨0,Nat.zero_le _,rfl,by show World.ownsRow _ _ _ _ _ _ _;rw[ri.o];simpa [El] using ah,ge⟩
 case round=>
  obtain⟨k,hk,rfl,HO,bc⟩:=hrel
  by_cases aj:k<ts.length
  ·obtain⟨b,off,rfl,c1⟩:=(HC.o.bl bc) k aj
   replace c1:wr.cell? ⟨b,off+k,N⟩=M (S (nx ts k)):=c1;have gh:=HS.o k aj;have HX:Hd (nx ss k=Aq n (nx ts k)):=px.o k aj;generalize nx ts k=x at *;have hx0:x.size≤1048576:=qb;go_wp2_with fail;refine(Iz x n _ hx0 h1 h8).mono ?_;rintro e w2 ⟨rfl,ag⟩;obtain⟨q,eq⟩:=Aj ((⟨(Ij (Co x.data.toList) n).toArray⟩:By));rw[eq];(have HQ:Hd (ss.getD k ByteArray.empty=q):=by show ss.getD k ByteArray.empty=q;have:=HX.o;unfold nx at this;rw[this,←eq];rfl);have ah:=Ac HO.o ag;have bg:=bt bc ag;have hks:k<ss.length:=zo ri.o;have cw:=ah.stored k (S (ss.getD k ByteArray.empty));rw[Uy ss k hks,HQ.o]at cw;have ci:=ah.frozenAt k
   have hce:w2.cell? ⟨w.heap.size,k,N⟩=M ((El ss k ss.length)[k]'(by rw[Iv ss k qb];exact hks)):=by
    rw[ah.cellAt k qb];exact Jr _
   generalize (El ss k ss.length)[k]'(by rw[Iv ss k qb];exact hks)=old at hce;have hbel2:Bw w (w2.setCell ⟨w.heap.size,k,N⟩ (S q)):=bg.setCell (Nat.le_refl _) _;have fc:Hd ((w2.setCell ⟨w.heap.size,k,N⟩ (S q)).ownsRow w.heap.size 9 1 (J (p_ w.heap.size) ts.length ts.length) ts.length (El ss (k+1) ss.length)):=cw.1;clear ah bc ag cw c1 eq;go_wp2;go_roundw
   case rel=>exact⟨k+1,qb,qj,fc.o,hbel2⟩
   case measure=>simp[intOf];omega
  ·obtain rfl:k=ts.length:=qb
   have M6:Hd (wr.ownsRow w.heap.size 9 1 (J (p_ w.heap.size) ts.length ts.length) ts.length (ss.map .string)):=by
    have:=HO.o;(have e:El ss ts.length ss.length=ss.map .string:=by rw[←ri.o];simp[El]);rw[e]at this;exact this
   go_wp2_with fail;go_ret;exact⟨bc,_,rfl,Nat.le_refl _,M6.o⟩
theorem Tz(a:Option Addr)(cap:X)(ts:L By)(w:E)(hc:Ca w a ts)(hl:ts.length≤1048576)(hs:∀i,(nx ts i).size≤maxLen):Calls prog 102 #[J a ts.length cap] w λe w'=>Bw w w'∧∃b,e=H (F b)∧(b=true↔ts.length≤5000∧∀i,i<ts.length→(nx ts i).size≤2002):=by
 have HC:Hd (Ca w a ts):=hc;have HS:Hd (∀i,(nx ts i).size≤maxLen):=hs;clear hc hs
 by_cases h2:5000<ts.length
 ·have d1:decide ((5000:Int)<(ts.length:Int))=true:=qh
  go_enter func102,ntmps102;go_wp2;go_ret;exact⟨Below.refl _ _,false,rfl,Ed (λh=>by have:=h.1;omega)⟩
 ·have d1:decide ((5000:Int)<(ts.length:Int))=false:=qh
  go_enter func102,ntmps102;go_wp2
  go_loopw [10] (λi wr=>∃(k:X),k≤ts.length∧i=I k∧Hd (∀i,i<k→(nx ts i).size≤2002)∧Bw w wr) (λi _=>ts.length-(intOf i).toNat)
  case atStart=>exact⟨0,Nat.zero_le _,rfl,(λi hi=>by omega:∀i,i<0→(nx ts i).size≤2002),Below.refl _ _⟩
  case round=>
   obtain⟨k,hk,rfl,HK,bc⟩:=hrel
   by_cases aj:k<ts.length
   ·obtain⟨b,off,rfl,c1⟩:=(HC.o.bl bc) k aj
    replace c1:wr.cell? ⟨b,off+k,N⟩=M (S (nx ts k)):=c1;have gh:=HS.o k
    by_cases h3:2002<(nx ts k).size
    ·have HN:Hd (¬ (ts.length≤5000∧∀i,i<ts.length→(nx ts i).size≤2002)):=λh=>by have:=h.2 k aj;omega
     exact qjr
    ·have fa:Hd (∀i,i<k+1→(nx ts i).size≤2002):=Cw HK.o qb
     generalize nx ts k=x at *;have d3:decide ((2002:Int)<(x.size:Int))=false:=qh;unfold maxLen at gh;go_wp2_with fail;go_roundw
     case rel=>exact⟨k+1,qb,qj,fa.o,bc⟩
     case measure=>simp[intOf];omega
   ·have W8:Hd (ts.length≤5000∧∀i,i<ts.length→(nx ts i).size≤2002):=⟨qb,λi hi=>HK.o i qb⟩
    go_wp2_with fail;go_ret;exact⟨bc,true,rfl,Gp W8.o⟩
structure Mc (w:E) (ta:Option Addr) (ts:L By) (ra:Option Addr) (rs:L T3):Prop where
 st:Ca w ta ts
 lt:ts.length≤1048576
 xt:∀i,(nx ts i).size≤maxLen
 qs:QsIn w ra rs
theorem Mc.bl{ts:L By}(h:Mc w ta ts ra rs)(hb:Bw w w'):Mc w' ta ts ra rs:=⟨h.st.bl hb,h.lt,h.xt,h.qs.bl hb⟩
def Il(n:Int)(ts:L By)(rs:L T3):Prop:=1≤n∧n≤8∧Hx n.toNat ts rs
theorem own_low{base base' e size:X}{v:Z}{xs:L Z}(h:w.ownsRow base e size v n xs)(hb:base'≤base):w.ownsRow base' e size v n xs:=by
 refine⟨h.1,?_⟩
 rcases h.2 with h2|⟨g,cap,cur,hv,hg,r⟩
 ·exact Or.inl h2
 ·exact Or.inr ⟨g,cap,cur,hv,Nat.le_trans hb hg,r⟩
theorem heap_at_new(w:E)(o:Obj):(w.alloc o).heap[w.heap.size]?=M o:=qev
theorem alB(w:E)(o:Obj):Bw w (w.alloc o):=aN _ _
def Jt(w:E)(g:X)(n:Int)(ta ra:Option Addr)(tl tc rl rc:X)(sv:Z):Prop:=w.heap[g]?=M (O #[I n,J ta tl tc,J ra rl rc,sv] 124 (0,0))
theorem Wf(n:Int)(ta ra:Option Addr)(tc rc:X)(ts:L By)(rs:L T3)(w:E)(hT:Kk w)(h:Mc w ta ts ra rs):Calls prog 73 #[G #[I n,J ta ts.length tc,J ra rs.length rc]] w λe w'=>Bw w w'∧((¬ Il n ts rs∧∃v,e=H (Y #[v,F false]))∨(Il n ts rs∧∃g sg,e=H (Y #[.pointer (p_ g),F true])∧Jt w' g n ta ra ts.length tc rs.length rc (J (p_ sg) ts.length ts.length)∧Ca w' (p_ sg) (ts.map (Aq n.toNat))∧w.heap.size≤g∧w'.ownsRow w.heap.size 9 1 (J (p_ sg) ts.length ts.length) ts.length ((ts.map (Aq n.toNat)).map .string))):=by
 have ak:Bw w (w.alloc (O #[I n,J ta ts.length tc,J ra rs.length rc] 35)):=aN _ _;have k0:(w.alloc (O #[I n,J ta ts.length tc,J ra rs.length rc] 35)).cell? ⟨w.heap.size,0,N⟩=M (I n):=qk;have k1:(w.alloc (O #[I n,J ta ts.length tc,J ra rs.length rc] 35)).cell? ⟨w.heap.size,1,N⟩=M (J ta ts.length tc):=qk;have k2:(w.alloc (O #[I n,J ta ts.length tc,J ra rs.length rc] 35)).cell? ⟨w.heap.size,2,N⟩=M (J ra rs.length rc):=qk;have HI:Hd (Mc w ta ts ra rs):=h;have HT:Hd (Kk w):=hT;clear h hT
 by_cases hn:1≤n∧n≤8
 ·obtain⟨m,rfl⟩:=Int.eq_ofNat_of_zero_le (show 0≤n from qb)
  have h1:1≤m:=qb;have h8:m≤8:=qb;have HN:Hd (1≤(m:Int)∧(m:Int)≤8):=hn;clear hn;go_enter func73,ntmps73
  go_wp2_with (first|(go_at_call 101;refine(Jw _ _ qb qb).mono ?_;rintro e w9 ⟨rfl,rfl⟩))
  refine(Tz ta tc ts _ (HI.o.st.bl ak) HI.o.lt HI.o.xt).mono ?_;rintro e w1 ⟨af,b,rfl,hb⟩;have bj:=bt ak af;have k10:=Aa af k0;have S6:=Aa af k1;have S5:=Aa af k2
  rcases Vf hb with⟨hg,rfl⟩|⟨hg,rfl⟩
  ·have HG:Hd (ts.length≤5000∧∀i,i<ts.length→(nx ts i).size≤2002):=hg
   clear hb hg ak af k0 k1 k2;go_wp2_with fail;refine(Qq ra rc rs m _ (HT.o.bl bj) h8 (HI.o.qs.bl bj)).mono ?_;rintro e w2 ⟨ag,b,rfl,hb⟩;have bg:=bt bj ag;have k20:=Aa ag k10;have k21:=Aa ag S6;have k22:=Aa ag S5
   rcases Vf hb with⟨hg,rfl⟩|⟨hg,rfl⟩
   ·have HR:Hd (rs.length≤2000∧∀i,i<rs.length→Hq m (qx rs i)):=hg
    have dw:Hd (∀W:E,Bw w W→Calls prog 104 #[J ta ts.length tc,I m] W λe w'=>Bw W w'∧∃g:X,e=H (J (p_ g) ts.length ts.length)∧W.heap.size≤g∧w'.ownsRow W.heap.size 9 1 (J (p_ g) ts.length ts.length) ts.length ((ts.map (Aq m)).map .string)):=λW hW=>sumsOf_any ta tc ts m W h1 h8 (HI.o.st.bl hW) HI.o.lt HG.o.2;clear hb hg ag bj k10 S6 S5;go_wp2_with fail;have L4:Bw w2 w2.drew:=(Below.refl _ _).drew
    go_region_held3 (λw'=>w'.cell? ⟨w.heap.size,0,N⟩=M (I m)∧w'.cell? ⟨w.heap.size,1,N⟩=M (J ta ts.length tc)∧w'.cell? ⟨w.heap.size,2,N⟩=M (J ra rs.length rc))
     (first|exact⟨k20,k21,k22⟩|(with_reducible exact⟨s0,s1,s2⟩)|exact⟨Aa (alB _ _) s0,Aa (alB _ _) s1,Aa (alB _ _) s2⟩)
     (first|(go_at_call 104;refine(dw.o _ bg.drew).mono ?_;rintro e w3 ⟨au,sg,rfl,hsg,how⟩;have s0:=Aa (bt L4 au) k20;have s1:=Aa (bt L4 au) k21;have s2:=Aa (bt L4 au) k22))
    go_wp2_with fail;obtain⟨w4,e4⟩:=Aj (w3.alloc (O #[I m,J ta ts.length tc,J ra rs.length rc,J (p_ sg) ts.length ts.length] 124));(have ce:Bw w3 w4:=by rw[←e4];exact alB _ _);(have M1:Hd (Jt w4 w3.heap.size m ta ra ts.length tc rs.length rc (J (p_ sg) ts.length ts.length)):=by show Jt _ _ _ _ _ _ _ _ _ _;rw[←e4];unfold Jt;exact heap_at_new _ _);have fc:Hd (Ca w4 (p_ sg) (ts.map (Aq m))):=(Mw (by rw[List.length_map]) how).bl ce;have jn:Bw w w4:=bt (bt (bt bg L4) au) ce
    have jw:Hd (∀W:E,Ca W (p_ sg) (ts.map (Aq m))→Calls prog 77 #[J (p_ sg) ts.length ts.length] W λe w'=>Bw W w'∧∃b,e=H (F b)∧(b=true↔Fu (ts.map (Aq m)))):=λW hW=>by
     have:=Ox (p_ sg) ts.length (ts.map (Aq m)) W hW (by rw[List.length_map];exact HI.o.lt);rw[List.length_map]at this;exact this
    have HOW4:Hd (w4.ownsRow w.heap.size 9 1 (J (p_ sg) ts.length ts.length) ts.length ((ts.map (Aq m)).map .string)):=Ac (own_low how (bt bg L4).size) ce;have HG3:Hd (w.heap.size≤w3.heap.size):=(bt (bt bg L4) au).size;rw[e4];clear e4 ce how au L4 hsg;refine(jw.o _ fc.o).mono ?_;rintro e w5 ⟨dh,b,rfl,hb⟩;have B7:=bt jn dh
    have HSH5:Hd (Jt w5 w3.heap.size m ta ra ts.length tc rs.length rc (J (p_ sg) ts.length ts.length)):=by
     have h4:=M1.o;unfold Jt at h4;show _=_;rw[dh.block _ (by rcases Nat.lt_or_ge w3.heap.size w4.heap.size with h'|h';(focus exact h');rw[Array.getElem?_eq_none h']at h4;cases h4)];exact h4
    rcases Vf hb with⟨hg,rfl⟩|⟨hg,rfl⟩
    ·have HW:Hd (Il m ts rs):=⟨HN.o.1,HN.o.2,⟨HG.o.1,HG.o.2,hg⟩,HR.o⟩
     clear hb hg;go_wp2_with fail;exact bR (results_tmp2 rfl _ _ _) rfl ⟨B7,Or.inr ⟨HW.o,_,sg,rfl,HSH5.o,fc.o.bl dh,HG3.o,Ac HOW4.o dh⟩⟩
    ·have HN2:Hd (¬ Il m ts rs):=λh=>hg h.2.2.1.2.2
     clear hb hg;go_wp2_with fail;exact bR (results_tmp2 rfl _ _ _) rfl ⟨B7,Or.inl ⟨HN2.o,_,rfl⟩⟩
   ·have HN2:Hd (¬ Il m ts rs):=λh=>hg h.2.2.2
    clear hb hg;go_wp2_with fail;exact bR (results_tmp2 rfl _ _ _) rfl ⟨bg,Or.inl ⟨HN2.o,_,rfl⟩⟩
  ·have HN2:Hd (¬ Il m ts rs):=λh=>hg ⟨h.2.2.1.1,h.2.2.1.2.1⟩
   clear hb hg;go_wp2_with fail;exact bR (results_tmp2 rfl _ _ _) rfl ⟨bj,Or.inl ⟨HN2.o,_,rfl⟩⟩
 ·have hn':n<1∨8<n:=qb
  have HN:Hd (¬ Il n ts rs):=λh=>hn ⟨h.1,h.2.1⟩;clear hn;go_enter func73,ntmps73
  go_wp2_with (first|(go_at_call 101;refine(Vu _ _ hn').mono ?_;rintro e w9 ⟨rfl,rfl⟩))
  exact bR (results_tmp2 rfl _ _ _) rfl ⟨ak,Or.inl ⟨HN.o,_,rfl⟩⟩
structure He (W0:E) (sa ta:Option Addr) (ss:L S2) (ts:L T2):Prop where
 rs:Hr W0 sa ss
 rt:Hb W0 ta ts
 v:SpV ss ts
 l1:ss.length<=200
 l2:ts.length<=200
 xc:∀i j,(ix (tx ts i).code j).text.size<=9223372036854775807
theorem Ql{b:X}{o:Obj}(h:w.heap[b']?=M o)(hne:b'≠b)(v0 v1 v2:Z):(((w.setCell ⟨b,0,N⟩ v0).setCell ⟨b,1,N⟩ v1).setCell ⟨b,2,N⟩ v2).heap[b']?=M o:=by
 rw[Dj _ ⟨b,2,N⟩ _ b' hne,Dj _ ⟨b,1,N⟩ _ b' hne,Dj _ ⟨b,0,N⟩ _ b' hne]
 exact h
section
open Go.Deep
end
section
open Go.Deep
end
section
open Go.Deep
end
section
open Go.Deep
theorem Rf(h:Lm w sa ss ta ts)(hc:Gu ss ts=0):He w sa ta ss ts:=by
 unfold Gu at hc
 split at hc
 ·omega
 ·rename_i h1
  split at hc
  ·omega
  ·rename_i h2
   split at hc
   ·omega
   ·rename_i h3
    split at hc
    ·omega
    ·rename_i h4
     split at hc
     ·omega
     ·rename_i h5
      split at hc
      ·omega
      ·rename_i h6
       split at hc
       ·omega
       ·rename_i h7
        have h2:=Classical.not_not.mp h2;have h3:=Classical.not_not.mp h3;have h4:=Classical.not_not.mp h4;have h6:=Classical.not_not.mp h6;have h7:=Classical.not_not.mp h7;refine⟨h.rs,h.rt,⟨h3,h4,?_,?_,?_,?_⟩,qb,qb,?_⟩
        ·rintro nm ⟨i,hi,e⟩ hn;exact h5 ⟨i,hi,by rw[e];exact hn⟩
        ·exact h6
        ·exact h7
        ·intro i hi;have hq:=h2.2 i (by rw[Bs];exact hi);rw[Dr]at hq;unfold Ez at hq;simpa using hq
        ·intro i j;have:=h.xt i j;unfold maxLen at this;omega
theorem Lm.bl(h:Lm w sa ss ta ts)(hb:Bw w w'):Lm w' sa ss ta ts:=⟨h.rs.bl hb,h.rt.bl hb,h.ls,h.lt,h.ns,h.xs,h.nt,h.lc,h.xt⟩
end
theorem cmp_lt:∀(a b:L UInt8),Lib.compareBytes a b<0↔Op.bytesLess a b=true
 | [],[]=>qha
 | [],_::_=>qha
 | _::_,[]=>qha
 | a::ar,b::bs=>by
  have ih:=cmp_lt ar bs
  by_cases h1:a<b
  ·simp[Lib.compareBytes,Op.bytesLess,h1]
  ·by_cases h2:b<a
   ·(have hne:¬ a=b:=by intro e;subst e;exact absurd h2 qg);simp[Lib.compareBytes,Op.bytesLess,h1,h2,hne]
   ·have he:a=b:=UInt8.le_antisymm (UInt8.not_lt.mp h2) (UInt8.not_lt.mp h1);subst he;simp[Lib.compareBytes,Op.bytesLess,ih]
theorem cmp_zero:∀(a b:L UInt8),Lib.compareBytes a b=0↔a=b
 | [],[]=>by simp[Lib.compareBytes]
 | [],_::_=>by simp[Lib.compareBytes]
 | _::_,[]=>by simp[Lib.compareBytes]
 | a::ar,b::bs=>by
  have ih:=cmp_zero ar bs
  by_cases h1:a<b
  ·have hne:¬ a=b:=by intro e;subst e;exact absurd h1 qg
   simp[Lib.compareBytes,h1,hne]
  ·by_cases h2:b<a
   ·(have hne:¬ a=b:=by intro e;subst e;exact absurd h2 qg);simp[Lib.compareBytes,h1,h2,hne]
   ·have he:a=b:=UInt8.le_antisymm (UInt8.not_lt.mp h2) (UInt8.not_lt.mp h1);subst he;simp[Lib.compareBytes,ih]
def Ml(a b:By):Int:=Lib.compareBytes a.data.toList b.data.toList
theorem cmpB_lt{a b:By}{v:Bool}(h:Au a b=v):decide (Ml a b<0)=v:=by
 unfold Au at h
 rw[ByteArray.toList_eq,ByteArray.toList_eq]at h
 unfold Ml
 cases v
 ·rw[decide_eq_false_iff_not,cmp_lt,h];simp
 ·rw[decide_eq_true_eq,cmp_lt];exact h
theorem Nz(a b:By):Ml a b=0↔a=b:=by
 unfold Ml
 rw[cmp_zero]
 exact⟨λh=>WideShapes.bytes_inj h,λh=>by rw[h]⟩
structure At (l:L By) (t:By) (r:X) (b:Bool):Prop where
 le:r<=l.length
 lo:∀j,j<r->Au (nx l j) t=true
 hi:∀j,r<=j->j<l.length->Au (nx l j) t=false
 has:b=true↔Eg l t
theorem Wu(s u t:By)(w:E):Calls prog 178 #[G #[S s,S u],S t] w λe w'=>Bw w w'/\e=H (I (Ml s t)):=by
 go_enter func178,ntmps178
 exact qkg
theorem Qu(a:Option Addr)(cap:X)(ss:L S2)(t:By)(w:E)(hc:Hr w a ss)(hl:ss.length<=1048576)(fb:Fu (Am ss)):Calls prog 177 #[J a ss.length cap,S t,.func (.func 178) #[] #[]] w λe w'=>Bw w w'/\∃(r:X)(b:Bool),e=H (Y #[I r,F b])/\At (Am ss) t r b:=by
 have G0:Hd ((Am ss).length=ss.length):=Cb ss
 have px:Hd (∀i,nx (Am ss) i=(sx ss i).name):=Dy ss
 obtain⟨l,el⟩:=Aj (Am ss)
 rw[el]at fb G0 px ⊢
 have jw:Hd (Fu l):=fb
 have HC:Hd (Hr w a ss):=hc
 clear fb el hc
 go_enter func177,ntmps177
 go_wp2
 go_loopw [9,10] (λi j wr=>∃lo hi:X,i=I lo/\j=I hi/\lo<=hi/\hi<=ss.length/\Hd (∀j,j<lo->Au (nx l j) t=true)/\Hd (∀j,hi<=j->j<l.length->Au (nx l j) t=false)/\Bw w wr) (λi j _=>(intOf j).toNat-(intOf i).toNat)
 case atStart=>exact⟨0,ss.length,rfl,rfl,Nat.zero_le _,Nat.le_refl _,(λj hj=>by omega:∀j,j<0->Au (nx l j) t=true),(λj h1 h2=>by have:=G0.o;omega:∀j,ss.length<=j->j<l.length->Au (nx l j) t=false),Below.refl _ _⟩
 case round=>
  obtain⟨lo,hi,rfl,rfl,g1,g2,HL,HH,bc⟩:=hrel
  by_cases aj:lo<hi
  ·obtain⟨m,e1,we,rm⟩:∃m:X,((lo:Int)+(hi:Int)) / 2=(m:Int)/\lo<=m/\m<hi:=⟨(lo+hi) / 2,qb,qb,qb⟩;obtain⟨b,off,rfl,c1,c2⟩:=(HC.o.bl bc) m qb;obtain⟨v,hv⟩:=Aj (Au (nx l m) t);have HV:Hd (Au (nx l m) t=v):=hv;have dv:decide (Ml (sx ss m).name t<0)=v:=by rw[<- px.o m];exact cmpB_lt hv
   clear hv;generalize sx ss m=s at c1 c2 dv;obtain⟨q,eq⟩:=Aj (Ml s.name t);rw[eq]at dv;have HN:Hd (∀W:E,Calls prog 178 #[G #[S s.name,S s.text],S t] W λe w'=>Bw W w'/\e=H (I q)):=λW=>qgv;clear eq;exact qic
  ·obtain rfl:lo=hi:=qb;have hle:lo<=l.length:=zo G0.o
   by_cases ym:lo<ss.length
   ·obtain⟨b,off,rfl,c1,c2⟩:=(HC.o.bl bc) lo ym;have hlI:(lo:Int)<(ss.length:Int):=qb;have HE0:Hd (nx l lo=(sx ss lo).name):=px.o lo
    by_cases he:(sx ss lo).name=t
    ·have HE:Hd (Eg l t):=⟨lo,by have:=G0.o;omega,by rw[HE0.o];exact he⟩;(have dz:(Ml (sx ss lo).name t == 0)=true:=by rw[beq_iff_eq,Nz];exact he);clear he HE0;generalize sx ss lo=s at c1 c2 dz;obtain⟨q,eq⟩:=Aj (Ml s.name t);rw[eq]at dz;have HN:Hd (∀W:E,Calls prog 178 #[G #[S s.name,S s.text],S t] W λe w'=>Bw W w'/\e=H (I q)):=λW=>qgv;clear eq;exact qkb
    ·have HE:Hd (¬ Eg l t):=λh=>he (by rw[<- HE0.o];exact(Nf jw.o HL.o HH.o h).2);(have dz:(Ml (sx ss lo).name t == 0)=false:=by rw[beq_eq_false_iff_ne];exact λh=>he ((Nz _ _).mp h));clear he HE0;generalize sx ss lo=s at c1 c2 dz;obtain⟨q,eq⟩:=Aj (Ml s.name t);rw[eq]at dz;have HN:Hd (∀W:E,Calls prog 178 #[G #[S s.name,S s.text],S t] W λe w'=>Bw W w'/\e=H (I q)):=λW=>qgv;clear eq;exact qkc
   ·exact qiy
theorem Ni(sa ta:Option Addr)(n1 n2 c1 c2:X)(ss:L S2)(t:By)(w:E)(hc:Hr w sa ss)(hl:ss.length<=1048576)(fb:Fu (Am ss))(hn:n1=ss.length):Calls prog 161 #[G #[J sa n1 c1,J ta n2 c2],S t] w λe w'=>Bw w w'/\∃(r:X)(b:Bool),e=H (Y #[I r,F b])/\At (Am ss) t r b:=by
 subst hn
 have ak:Bw w (w.alloc (O #[J sa ss.length c1,J ta n2 c2] 43)):=aN _ _
 go_enter func161,ntmps161
 go_wp2_with fail
 refine(Qu sa c1 ss t _ (hc.bl ak) hl fb).mono ?_
 rintro e w2 ⟨ag,r,b,rfl,hr⟩
 have HR:Hd (At (Am ss) t r b):=hr
 exact qmr
theorem Wt(s t:By)(u:Option Addr)(un uc:X)(w:E):Calls prog 181 #[G #[S s,J u un uc],S t] w λe w'=>Bw w w'/\e=H (I (Ml s t)):=by
 go_enter func181,ntmps181
 exact qkg
theorem Qt(a:Option Addr)(cap:X)(ss:L T2)(t:By)(w:E)(hc:Hb w a ss)(hl:ss.length<=1048576)(fb:Fu (Ak ss)):Calls prog 180 #[J a ss.length cap,S t,.func (.func 181) #[] #[]] w λe w'=>Bw w w'/\∃(r:X)(b:Bool),e=H (Y #[I r,F b])/\At (Ak ss) t r b:=by
 have G0:Hd ((Ak ss).length=ss.length):=Bs ss
 have px:Hd (∀i,nx (Ak ss) i=(tx ss i).name):=Dr ss
 obtain⟨l,el⟩:=Aj (Ak ss)
 rw[el]at fb G0 px ⊢
 have jw:Hd (Fu l):=fb
 have HC:Hd (Hb w a ss):=hc
 clear fb el hc
 go_enter func180,ntmps180
 go_wp2
 go_loopw [9,10] (λi j wr=>∃lo hi:X,i=I lo/\j=I hi/\lo<=hi/\hi<=ss.length/\Hd (∀j,j<lo->Au (nx l j) t=true)/\Hd (∀j,hi<=j->j<l.length->Au (nx l j) t=false)/\Bw w wr) (λi j _=>(intOf j).toNat-(intOf i).toNat)
 case atStart=>exact⟨0,ss.length,rfl,rfl,Nat.zero_le _,Nat.le_refl _,(λj hj=>by omega:∀j,j<0->Au (nx l j) t=true),(λj h1 h2=>by have:=G0.o;omega:∀j,ss.length<=j->j<l.length->Au (nx l j) t=false),Below.refl _ _⟩
 case round=>
  obtain⟨lo,hi,rfl,rfl,g1,g2,HL,HH,bc⟩:=hrel
  by_cases aj:lo<hi
  ·obtain⟨m,e1,we,rm⟩:∃m:X,((lo:Int)+(hi:Int)) / 2=(m:Int)/\lo<=m/\m<hi:=⟨(lo+hi) / 2,qb,qb,qb⟩;obtain⟨b,off,rfl,c1,y,p,c2,c3⟩:=(HC.o.bl bc) m qb;obtain⟨v,hv⟩:=Aj (Au (nx l m) t);have HV:Hd (Au (nx l m) t=v):=hv;have dv:decide (Ml (tx ss m).name t<0)=v:=by rw[<- px.o m];exact cmpB_lt hv
   clear hv;generalize tx ss m=s at c1 c2 c3 dv;obtain⟨q,eq⟩:=Aj (Ml s.name t);rw[eq]at dv;have HN:Hd (∀W:E,Calls prog 181 #[G #[S s.name,J y s.code.length p],S t] W λe w'=>Bw W w'/\e=H (I q)):=λW=>qgn;clear eq c3;exact qic
  ·obtain rfl:lo=hi:=qb;have hle:lo<=l.length:=zo G0.o
   by_cases ym:lo<ss.length
   ·obtain⟨b,off,rfl,c1,y,p,c2,c3⟩:=(HC.o.bl bc) lo ym;have hlI:(lo:Int)<(ss.length:Int):=qb;have HE0:Hd (nx l lo=(tx ss lo).name):=px.o lo
    by_cases he:(tx ss lo).name=t
    ·have HE:Hd (Eg l t):=⟨lo,by have:=G0.o;omega,by rw[HE0.o];exact he⟩;(have dz:(Ml (tx ss lo).name t == 0)=true:=by rw[beq_iff_eq,Nz];exact he);clear he HE0;generalize tx ss lo=s at c1 c2 c3 dz;obtain⟨q,eq⟩:=Aj (Ml s.name t);rw[eq]at dz;have HN:Hd (∀W:E,Calls prog 181 #[G #[S s.name,J y s.code.length p],S t] W λe w'=>Bw W w'/\e=H (I q)):=λW=>qgn;clear eq c3;exact qkb
    ·have HE:Hd (¬ Eg l t):=λh=>he (by rw[<- HE0.o];exact(Nf jw.o HL.o HH.o h).2);(have dz:(Ml (tx ss lo).name t == 0)=false:=by rw[beq_eq_false_iff_ne];exact λh=>he ((Nz _ _).mp h));clear he HE0;generalize tx ss lo=s at c1 c2 c3 dz;obtain⟨q,eq⟩:=Aj (Ml s.name t);rw[eq]at dz;have HN:Hd (∀W:E,Calls prog 181 #[G #[S s.name,J y s.code.length p],S t] W λe w'=>Bw W w'/\e=H (I q)):=λW=>qgn;clear eq c3;exact qkc
   ·exact qiy
theorem Nh(sa ta:Option Addr)(n1 n2 c1 c2:X)(ss:L T2)(t:By)(w:E)(hc:Hb w ta ss)(hl:ss.length<=1048576)(fb:Fu (Ak ss))(hn:n2=ss.length):Calls prog 162 #[G #[J sa n1 c1,J ta n2 c2],S t] w λe w'=>Bw w w'/\∃(r:X)(b:Bool),e=H (Y #[I r,F b])/\At (Ak ss) t r b:=by
 subst hn
 have ak:Bw w (w.alloc (O #[J sa n1 c1,J ta ss.length c2] 43)):=aN _ _
 go_enter func162,ntmps162
 go_wp2_with fail
 refine(Qt ta c2 ss t _ (hc.bl ak) hl fb).mono ?_
 rintro e w2 ⟨ag,r,b,rfl,hr⟩
 have HR:Hd (At (Ak ss) t r b):=hr
 exact qmr
theorem isThing_any(sa ta:Option Addr)(c1 c2:X)(ss:L S2)(ts:L T2)(t:By)(w:E)(rs:Hr w sa ss)(rt:Hb w ta ts)(h1:ss.length<=1048576)(h2:ts.length<=1048576)(a1:Fu (Am ss))(a2:Fu (Ak ts)):Calls prog 157 #[G #[J sa ss.length c1,J ta ts.length c2],S t] w λe w'=>Bw w w'/\∃b:Bool,e=H (F b)/\(b=true↔(Eg (Am ss) t\/Eg (Ak ts) t)):=by
 have ak:Bw w (w.alloc (O #[J sa ss.length c1,J ta ts.length c2] 43)):=aN _ _
 have k0:(w.alloc (O #[J sa ss.length c1,J ta ts.length c2] 43)).cell? ⟨w.heap.size,0,N⟩=M (J sa ss.length c1):=qk
 have k1:(w.alloc (O #[J sa ss.length c1,J ta ts.length c2] 43)).cell? ⟨w.heap.size,1,N⟩=M (J ta ts.length c2):=qk
 have HT:Hd (∀W:E,Bw w W->Calls prog 162 #[G #[J sa ss.length c1,J ta ts.length c2],S t] W λe w'=>Bw W w'/\∃(r:X)(b:Bool),e=H (Y #[I r,F b])/\At (Ak ts) t r b):=λW hW=>Nh sa ta ss.length ts.length c1 c2 ts t W (rt.bl hW) h2 a2 rfl
 clear rt a2
 go_enter func157,ntmps157
 go_wp2_with fail
 refine(Ni sa ta ss.length ts.length c1 c2 ss t _ (rs.bl ak) h1 a1 rfl).mono ?_
 rintro e w1 ⟨af,r1,b1,rfl,q1⟩
 have bj:=bt ak af
 have x0:=Aa af k0
 have x1:=Aa af k1
 have ki:Hd (b1=true↔Eg (Am ss) t):=q1.has
 clear ak af k0 k1 q1 rs a1
 go_wp2_with fail
 refine(HT.o w1 bj).mono ?_
 rintro e w2 ⟨ag,r2,b2,rfl,q2⟩
 have bg:=bt bj ag
 have Is:Hd (b2=true↔Eg (Ak ts) t):=q2.has
 clear ag q2 HT x0 x1 bj
 have HZ:Hd ((b1||b2)=true↔(Eg (Am ss) t\/Eg (Ak ts) t)):=by
  show(b1||b2)=true↔_;rw[Bool.or_eq_true,ki.o,Is.o]
 clear ki Is
 cases b1
 ·go_wp2;go_ret;exact⟨bg,b2,rfl,by simpa using HZ.o⟩
 ·go_wp2;go_ret;exact⟨bg,true,rfl,by simpa using HZ.o⟩
section
open Go.Deep
section
variable {B h mb k:X} {sv tv fv:Z} {w:E} {ms:Ms} {st al:L By} {av kv:Z} {vs:By->Z}
end
end
section
open Go.Deep
end
section
open Go.Deep
theorem Em{b:X}(h:b'≠b)(v0 v1 v2:Z):(((w.setCell ⟨b,0,N⟩ v0).setCell ⟨b,1,N⟩ v1).setCell ⟨b,2,N⟩ v2).heap[b']?=w.heap[b']?:=by
 rw[Dj _ ⟨b,2,N⟩ _ b' h,Dj _ ⟨b,1,N⟩ _ b' h,Dj _ ⟨b,0,N⟩ _ b' h]
theorem thing_of{nm:By}(h:b=true↔(Eg (Am ss) nm\/Eg (Ak ts) nm)):b=Ck ss ts nm:=by
 unfold Ck Xy
 by_cases q:Eg (Am ss) nm\/Eg (Ak ts) nm
 ·rw[h.mpr q];simp[q]
 ·cases b with
  | false=>simp[q]
  | true=>exact absurd (h.mp rfl) q
theorem Qar(sa ta:Option Addr)(c1 c2:X)(ss:L S2)(ts:L T2)(nm:By)(W0 w:E)(hE:He W0 sa ta ss ts)(hW:Bw W0 w):Calls prog 157 #[G #[J sa ss.length c1,J ta ts.length c2],S nm] w λe w'=>Bw w w'/\e=H (F (Ck ss ts nm)):=by
 have:=hE.l1
 have:=hE.l2
 refine(isThing_any sa ta c1 c2 ss ts nm w (hE.rs.bl hW) (hE.rt.bl hW) qb qb hE.v.ascS hE.v.ascT).mono ?_
 rintro e w' ⟨hb,b,rfl,U0⟩
 exact⟨hb,by rw[thing_of U0]⟩
end
section
open Go.Deep
theorem at_true(ha:Fu l)(h:At l t r true):r<l.length/\nx l r=t:=by
 obtain⟨j,hj,e⟩:=h.has.mp rfl
 rcases Nat.lt_trichotomy j r with q|q|q
 ·have:=h.lo j q;rw[e,Et]at this;cases this
 ·subst q;exact⟨hj,e⟩
 ·have h1:=h.hi r (Nat.le_refl _) qb;have h2:=ha.pair q hj;rw[e,h1]at h2;cases h2
theorem at_false(h:At l t r false):¬ Eg l t:=λq=>by have:=h.has.mpr q;cases this
end
theorem Uv(g:G3)(n:X)(w:E)(h8:n<=8)(hn:g.name.size<=maxLen)(hs:g.sum.size<=maxLen):Calls prog 67 #[G #[S g.name,F g.ask,S g.sum],I n] w λe w'=>Bw w w'/\∃b,e=H (F b)/\(b=true↔Mq n g):=by
 unfold maxLen at hn hs;have ak:Bw w (w.alloc (O #[S g.name,F g.ask,S g.sum] 136)):=aN _ _
 by_cases h1:Ar g.name
 ·have e1:=Db h1
  by_cases h2:g.sum.size=n
  ·have d2:((g.sum.size:Int) == (n:Int))=true:=qh
   have HH:Hd (Mq n g):=⟨h1,h2⟩;clear h2;go_enter func67,ntmps67
   go_wp2_with (first|(go_at_call 47;refine(Cd g.name _ hn).mono ?_;rintro e w9 ⟨rfl,rfl⟩;rw[e1]))
   go_ret;exact⟨ak,true,rfl,Gp HH.o⟩
  ·have d2:((g.sum.size:Int) == (n:Int))=false:=qh
   have HH:Hd (¬ Mq n g):=λh=>h2 h.2;clear h2;exact qjo
 ·have e1:=Cs h1
  have HH:Hd (¬ Mq n g):=λh=>h1 h.1;exact qjo
theorem Uu(a la:Option Addr)(cap lc:X)(is:L I3)(gs:L G3)(out:By)(n:X)(w:E)(h8:n<=8)(h:RcIn w a is la gs)(ho:out.size<=maxLen):Calls prog 46 #[G #[J a is.length cap,J la gs.length lc,S out],I n] w λe w'=>Bw w w'/\∃b,e=H (F b)/\(b=true↔Hq n ⟨is,gs,out⟩):=by
 have ak:Bw w (w.alloc (O #[J a is.length cap,J la gs.length lc,S out] 95)):=aN _ _;have k1:(w.alloc (O #[J a is.length cap,J la gs.length lc,S out] 95)).cell? ⟨w.heap.size,1,N⟩=M (J la gs.length lc):=qk;have k2:(w.alloc (O #[J a is.length cap,J la gs.length lc,S out] 95)).cell? ⟨w.heap.size,2,N⟩=M (S out):=qk;unfold maxLen at ho;have hlg:=h.lg;have HRG:Hd (Gk w la gs):=h.rg;have HNG:Hd (∀i,(gx gs i).name.size<=maxLen):=h.ng;have wo:Hd (∀i,(gx gs i).sum.size<=maxLen):=h.sg;obtain⟨v,ev⟩:=Aj (Ao is);have EV:Hd (Ao is=v):=ev;go_enter func46,ntmps46;go_wp2_with fail;refine(Ip a cap is _ (h.rc.bl ak) h.lc h.xc).mono ?_;rintro e w1 ⟨af,rfl⟩;rw[ev];have bj:=bt ak af;have S6:=Aa af k1;have S5:=Aa af k2;clear ak af k1 k2 h ev;cases v
 ·exact qlq
 ·by_cases h2:out.size=n
  ·have d2:((out.size:Int) != (n:Int))=false:=qh
   have H2:Hd (out.size=n):=h2;clear h2
   by_cases h3:200<gs.length
   ·exact qjv
   ·have d3:decide ((200:Int)<(gs.length:Int))=false:=qh
    go_wp2
    go_loopw [5] (λi wr=>∃k:X,k<=gs.length/\i=I k/\Hd (∀i,i<k->Mq n (gx gs i))/\wr.cell? ⟨w.heap.size,1,N⟩=M (J la gs.length lc)/\Bw w wr) (λi _=>gs.length-(intOf i).toNat)
    case atStart=>exact⟨0,Nat.zero_le _,rfl,(λi hi=>by omega:∀i,i<0->Mq n (gx gs i)),S6,bj⟩
    case round=>
     obtain⟨k,hk,rfl,HK,hx,bc⟩:=hrel
     by_cases aj:k<gs.length
     ·obtain⟨b,off,rfl,c1,c2,c3⟩:=(HRG.o.bl bc) k aj
      have T5:=HNG.o k;have gh:=wo.o k;have HG1:Hd (Mq n (gx gs k)->∀i,i<k+1->Mq n (gx gs i)):=λhg=>Cw HK.o hg;have X3:Hd (¬ Mq n (gx gs k)->¬ Hq n ⟨is,gs,out⟩):=λhg h=>hg (h.2.2.2 k aj);generalize gx gs k=g at *;clear S6 S5;go_wp2_with fail;refine(Uv g n _ h8 T5 gh).mono ?_;rintro e w2 ⟨ag,b,rfl,hb⟩;have hx2:=Aa ag hx
      rcases Vf hb with⟨hg,rfl⟩|⟨hg,rfl⟩
      ·have HO:Hd (∀i,i<k+1->Mq n (gx gs i)):=HG1.o hg
       clear hb hg;go_wp2;go_roundw
       case rel=>exact⟨k+1,qb,qj,HO.o,hx2,bt bc ag⟩
       case measure=>simp[intOf];omega
      ·have HO:Hd (¬ Hq n ⟨is,gs,out⟩):=X3.o hg
       clear hb hg;go_wp2;go_ret;exact⟨bt bc ag,false,rfl,Ed HO.o⟩
     ·have HO:Hd (Hq n ⟨is,gs,out⟩):=⟨EV.o,H2.o,by show gs.length<=200;omega,λi hi=>HK.o i (by simp only at hi;omega)⟩
      go_wp2;exact qgf
  ·exact qkr
theorem asc_step{k:X}(h:∀j,1<=j->j<k->Au (nx l (j-1)) (nx l j)=true)(hk:k=0\/Au (nx l (k-1)) (nx l k)=true):∀j,1<=j->j<k+1->Au (nx l (j-1)) (nx l j)=true:=by
 intro j h1 h2
 rcases Nat.lt_or_ge j k with h3|h3
 ·exact h j h1 h3
 ·obtain rfl:j=k:=qb
  rcases hk with hk|hk
  ·omega
  ·exact hk
theorem Pr(n:Int)(ta ra:Option Addr)(tc rc:X)(ts:L By)(rs:L T3)(w:E)(hl:ts.length<=1048576)(K8:rs.length<=1048576)(hn:¬ (1<=n/\n<=8)\/5000<ts.length\/2000<rs.length):Calls prog 24 #[G #[I n,J ta ts.length tc,J ra rs.length rc]] w λe w'=>Bw w w'/\e=H (F false):=by
 have ak:Bw w (w.alloc (O #[I n,J ta ts.length tc,J ra rs.length rc] 35)):=aN _ _
 by_cases h1:1<=n/\n<=8
 ·by_cases h2:5000<ts.length
  ·have d1:decide ((5000:Int)<(ts.length:Int))=true:=qh
   exact qju
  ·have d1:decide ((5000:Int)<(ts.length:Int))=false:=qh
   have d2:decide ((2000:Int)<(rs.length:Int))=true:=qh;exact qju
 ·have hn':n<1\/8<n:=qb
  go_enter func24,ntmps24
  go_wp2_with (first|(go_at_call 44;refine(l1Width_no _ _ hn').mono ?_;rintro e w9 ⟨rfl,rfl⟩))
  go_ret;exact⟨ak,rfl⟩
theorem Oy(n:X)(ta ra:Option Addr)(tc rc:X)(ts:L By)(rs:L T3)(w:E)(h1:1<=n)(h8:n<=8)(hl5:ts.length<=5000)(K8:rs.length<=2000)(h:Mc w ta ts ra rs):Calls prog 24 #[G #[I n,J ta ts.length tc,J ra rs.length rc]] w λe w'=>Bw w w'/\∃b,e=H (F b)/\(b=true↔Hx n ts rs):=by
 have ak:Bw w (w.alloc (O #[I n,J ta ts.length tc,J ra rs.length rc] 35)):=aN _ _;have x0:(w.alloc (O #[I n,J ta ts.length tc,J ra rs.length rc] 35)).cell? ⟨w.heap.size,0,N⟩=M (I n):=qk;have x1:(w.alloc (O #[I n,J ta ts.length tc,J ra rs.length rc] 35)).cell? ⟨w.heap.size,1,N⟩=M (J ta ts.length tc):=qk;have x2:(w.alloc (O #[I n,J ta ts.length tc,J ra rs.length rc] 35)).cell? ⟨w.heap.size,2,N⟩=M (J ra rs.length rc):=qk;have HI:Hd (Mc w ta ts ra rs):=h;obtain⟨ss,ess⟩:=Aj (ts.map (Aq n));have ri:Hd (ss.length=ts.length):=by show ss.length=ts.length;rw[<- ess,List.length_map]
 have px:Hd (∀i,i<ts.length->nx ss i=Aq n (nx ts i)):=λi h=>by rw[<- ess];exact Hi n ts i h
 have HAS:Hd (Fu ss↔Fu (ts.map (Aq n))):=by show Fu ss↔_;rw[ess]
 have d1:decide ((5000:Int)<(ts.length:Int))=false:=qh;have d2:decide ((2000:Int)<(rs.length:Int))=false:=qh;clear h ess;go_enter func24,ntmps24
 go_wp2_with (first|(go_at_call 44;refine(Kr _ _ qb qb).mono ?_;rintro e w9 ⟨rfl,rfl⟩))
 go_loopw [3,4] (λv i wr=>∃(k:X)(bf:By),k<=ts.length/\i=I k/\v=S bf/\Hd (k=0\/bf=nx ss (k-1))/\Hd (∀i,i<k->(nx ts i).size<=2002)/\Hd (∀j,1<=j->j<k->Au (nx ss (j-1)) (nx ss j)=true)/\wr.cell? ⟨w.heap.size,0,N⟩=M (I n)/\wr.cell? ⟨w.heap.size,1,N⟩=M (J ta ts.length tc)/\wr.cell? ⟨w.heap.size,2,N⟩=M (J ra rs.length rc)/\Bw w wr) (λ_ i _=>ts.length-(intOf i).toNat)
 case atStart=>exact⟨0,⟨#[]⟩,Nat.zero_le _,rfl,rfl,Or.inl rfl,(λi hi=>by omega:∀i,i<0->(nx ts i).size<=2002),(λj h1 h2=>by omega:∀j,1<=j->j<0->Au (nx ss (j-1)) (nx ss j)=true),x0,x1,x2,ak⟩
 case round=>
  obtain⟨k,bf,hk,rfl,rfl,HBF,HK,HA,y0,y1,y2,bc⟩:=hrel;clear x0 x1 x2 ak;have co:Bw wr wr.drew:=(Below.refl _ _).drew
  by_cases aj:k<ts.length
  ·obtain⟨b,off,rfl,c1⟩:=(HI.o.st.bl bc) k aj
   replace c1:wr.cell? ⟨b,off+k,N⟩=M (S (nx ts k)):=c1;have gh:=HI.o.xt k;have HX:Hd (nx ss k=Aq n (nx ts k)):=px.o k aj;have iy:(k:Int)<(ts.length:Int):=qb;have jr:(0:Int)<=(k:Int):=qb
   by_cases h3:2002<(nx ts k).size
   ·have HN:Hd (¬ Hx n ts rs):=λh=>by have:=h.1.2.1 k aj;omega
    exact qjr
   ·have fa:Hd (∀i,i<k+1->(nx ts i).size<=2002):=Cw HK.o qb
    generalize nx ts k=x at *;have d3:decide ((2002:Int)<(x.size:Int))=false:=qh;have hx0:x.size<=1048576:=qb;unfold maxLen at gh;obtain⟨q,eq⟩:=Aj (Aq n x);have rh:Hd (∀W:E,Calls prog 45 #[S x,I n] W λe w'=>e=H (S q)/\Bw W w'):=λW=>qgx;(have HQ:Hd (nx ss k=q):=by show nx ss k=q;rw[HX.o,eq]);clear eq;go_wp2_with fail
    go_region_held3 (λw'=>(w'.cell? ⟨w.heap.size,0,N⟩=M (I n)/\w'.cell? ⟨w.heap.size,1,N⟩=M (J (M ⟨b,off,N⟩) ts.length tc)/\w'.cell? ⟨w.heap.size,2,N⟩=M (J ra rs.length rc))/\w'.cell? ⟨b,off+k,N⟩=M (S x))
     (first|assumption|(simp[*];done)|exact⟨⟨Aa ag qq,Aa ag qq,Aa ag qq⟩,Aa ag qq⟩)
     (first|(go_at_call 45;refine(rh.o _).mono ?_;rintro e w2 ⟨rfl,ag⟩))
    all_goals
     have z0:=Aa ag (Aa co y0);have z1:=Aa ag (Aa co y1);have z2:=Aa ag (Aa co y2);have bg:=bt bc (bt co ag);clear y0 y1 y2 c1
     by_cases cq:k=0
     ·have dk:decide (0<k)=false:=qh
      have HA1:Hd (∀j,1<=j->j<k+1->Au (nx ss (j-1)) (nx ss j)=true):=asc_step HA.o (Or.inl cq);clear cq;exact qjk
     ·have dk:decide (0<k)=true:=qh
      (have HBE:Hd (nx ss (k-1)=bf):=by rcases HBF.o with h|h;exact absurd h cq;exact h.symm);obtain⟨v,hv⟩:=Aj (Au bf q);(have HV:Hd (Au (nx ss (k-1)) (nx ss k)=v):=by show Au (nx ss (k-1)) (nx ss k)=v;rw[HBE.o,HQ.o];exact hv);unfold Au at hv;have HK1':Hd (k≠0):=cq;clear cq;cases v
      ·have HN:Hd (¬ Hx n ts rs):=λh=>by
        have h3:=(HAS.o.mpr h.1.2.2) k (zo HK1'.o) (zo ri.o);rw[HV.o]at h3;cases h3
       go_wp2_with fail;go_ret;exact⟨bg,false,rfl,Ed HN.o⟩
      ·have HA1:Hd (∀j,1<=j->j<k+1->Au (nx ss (j-1)) (nx ss j)=true):=asc_step HA.o (Or.inr HV.o)
       exact qjk
  ·have pq:Hd (Vg n ts):=⟨hl5,λi hi=>HK.o i qb,HAS.o.mp (λj hj1 hj2=>HA.o j hj1 (zo ri.o))⟩
   clear HK HA HBF;go_wp2_with fail
   go_loopw [6] (λi wq=>∃(m:X),m<=rs.length/\i=I m/\Hd (∀i,i<m->Hq n (qx rs i))/\wq.cell? ⟨w.heap.size,0,N⟩=M (I n)/\wq.cell? ⟨w.heap.size,2,N⟩=M (J ra rs.length rc)/\Bw w wq) (λi _=>rs.length-(intOf i).toNat)
   case atStart=>exact⟨0,Nat.zero_le _,rfl,(λi hi=>by omega:∀i,i<0->Hq n (qx rs i)),y0,y2,bc⟩
   case round=>
    clear y0 y1 y2 bc co;obtain⟨m,hm,rfl,HK,y0,y2,bc⟩:=hrel
    by_cases hlt2:m<rs.length
    ·have hq:=HI.o.qs.bl bc
     obtain⟨b,off,rfl,ca,cc,la,lc,c1,c2,c3,c4,c5⟩:=hq.rq m hlt2;have n8:RcIn _ ca (qx rs m).code la (qx rs m).looks:=⟨c4,c5,(hq.sm.2 m hlt2).1,(hq.sm.2 m hlt2).2,hq.ok.xc m,hq.ok.ng m,hq.ok.sg m⟩;have hou:=hq.ok.so m;have HG1:Hd (Hq n (qx rs m)->∀i,i<m+1->Hq n (qx rs i)):=λhg=>Cw HK.o hg;have X3:Hd (¬ Hq n (qx rs m)->¬ Hx n ts rs):=λhg h=>hg (h.2.2 m hlt2);clear hq c4 c5;generalize qx rs m=x at *;obtain⟨xc,xl,xo⟩:=x;simp only at *;have iy:(m:Int)<(rs.length:Int):=qb;have jr:(0:Int)<=(m:Int):=qb;have pc:Hd (∀W:E,Bw wr W->Calls prog 46 #[G #[J ca xc.length cc,J la xl.length lc,S xo],I n] W λe w'=>Bw W w'/\∃b,e=H (F b)/\(b=true↔Hq n ⟨xc,xl,xo⟩)):=λW hW=>Uu ca la cc lc xc xl xo n W h8 ⟨n8.rc.bl hW,n8.rg.bl hW,n8.lc,n8.lg,n8.xc,n8.ng,n8.sg⟩ hou;clear n8
     by_cases hx:Hq n ⟨xc,xl,xo⟩
     ·have HO:Hd (∀i,i<m+1->Hq n (qx rs i)):=HG1.o hx
      have pa:Hd (∀W:E,Bw wr W->Calls prog 46 #[G #[J ca xc.length cc,J la xl.length lc,S xo],I n] W λe w'=>Bw W w'/\e=H (F true)):=λW hW=>(pc.o W hW).mono (λe w' ⟨h1,b,h2,h3⟩=>⟨h1,by rw[h2];rcases Vf h3 with⟨hg,rfl⟩|⟨hg,rfl⟩<;>first|rfl|exact absurd hx hg|exact absurd hg hx⟩);clear pc;have co:Bw wr wr.drew:=(Below.refl _ _).drew;go_wp2_with fail
      go_region_held3 (λw'=>(w'.cell? ⟨w.heap.size,0,N⟩=M (I n)/\w'.cell? ⟨w.heap.size,2,N⟩=M (J (M ⟨b,off,N⟩) rs.length rc))/\(w'.cell? ⟨b,off+m*3,N⟩=M (J ca xc.length cc)/\w'.cell? ⟨b,off+m*3+1,N⟩=M (J la xl.length lc)/\w'.cell? ⟨b,off+m*3+2,N⟩=M (S xo)))
       (first|assumption|(simp[*];done)|exact⟨⟨Aa ag qq,Aa ag qq⟩,Aa ag qq,Aa ag qq,Aa ag qq⟩)
       (first|(go_at_call 46;refine(pa.o _ co).mono ?_;rintro e w2 ⟨ag,rfl⟩))
      all_goals
       have z0:=Aa ag (Aa co y0);have z2:=Aa ag (Aa co y2);have bg:=bt bc (bt co ag);clear y0 y2 c1 c2 c3;go_wp2_with fail;go_roundw
       case rel=>exact⟨m+1,qb,qj,HO.o,z0,z2,bg⟩
       case measure=>simp[intOf];omega
     ·have HO:Hd (¬ Hx n ts rs):=X3.o hx
      have pa:Hd (∀W:E,Bw wr W->Calls prog 46 #[G #[J ca xc.length cc,J la xl.length lc,S xo],I n] W λe w'=>Bw W w'/\e=H (F false)):=λW hW=>(pc.o W hW).mono (λe w' ⟨h1,b,h2,h3⟩=>⟨h1,by rw[h2];rcases Vf h3 with⟨hg,rfl⟩|⟨hg,rfl⟩<;>first|rfl|exact absurd hx hg|exact absurd hg hx⟩);clear pc;have co:Bw wr wr.drew:=(Below.refl _ _).drew;go_wp2_with fail
      go_region_held3 (λw'=>(w'.cell? ⟨w.heap.size,0,N⟩=M (I n)/\w'.cell? ⟨w.heap.size,2,N⟩=M (J (M ⟨b,off,N⟩) rs.length rc))/\(w'.cell? ⟨b,off+m*3,N⟩=M (J ca xc.length cc)/\w'.cell? ⟨b,off+m*3+1,N⟩=M (J la xl.length lc)/\w'.cell? ⟨b,off+m*3+2,N⟩=M (S xo)))
       (first|assumption|(simp[*];done)|exact⟨⟨Aa ag qq,Aa ag qq⟩,Aa ag qq,Aa ag qq,Aa ag qq⟩)
       (first|(go_at_call 46;refine(pa.o _ co).mono ?_;rintro e w2 ⟨ag,rfl⟩))
      all_goals
       have bg:=bt bc (bt co ag);clear y0 y2 c1 c2 c3;go_wp2_with fail;go_ret;exact⟨bg,false,rfl,Ed HO.o⟩
    ·have HO:Hd (Hx n ts rs):=⟨pq.o,K8,λi hi=>HK.o i qb⟩
     go_wp2_with fail;exact qgf
structure Wv (w:E) (ta:Option Addr) (ts:L By) (ra:Option Addr) (rs:L T3):Prop where
 st:Ca w ta ts
 lt:ts.length<=maxLen
 xt:∀s∈ts,s.size<=maxLen
 rq:Lc w ra rs
 ok:QsOk rs
theorem Wv.bl{ts:L By}(h:Wv w ta ts ra rs)(hb:Bw w w'):Wv w' ta ts ra rs:=⟨h.st.bl hb,h.lt,h.xt,h.rq.bl hb,h.ok⟩
theorem Gr(n:Int)(ta ra:Option Addr)(tc rc:X)(ts:L By)(rs:L T3)(w:E)(h:Mc w ta ts ra rs):Calls prog 24 #[G #[I n,J ta ts.length tc,J ra rs.length rc]] w λe w'=>Bw w w'/\∃b,e=H (F b)/\(b=true↔Il n ts rs):=by
 by_cases hc:(1<=n/\n<=8)/\ts.length<=5000/\rs.length<=2000
 ·obtain⟨m,rfl⟩:=Int.eq_ofNat_of_zero_le (show 0<=n from qb)
  refine(Oy m ta ra tc rc ts rs w qb qb hc.2.1 hc.2.2 h).mono λe w' ⟨h1,b,h2,h3⟩=>⟨h1,b,h2,?_⟩;rw[h3];exact⟨λk=>⟨hc.1.1,hc.1.2,k⟩,λk=>k.2.2⟩
 ·refine(Pr n ta ra tc rc ts rs w h.lt h.qs.sm.1 qb).mono λe w' ⟨h1,h2⟩=>⟨h1,false,h2,Ed (λk=>hc ⟨⟨k.1,k.2.1⟩,k.2.2.1.1,k.2.2.2.1⟩)⟩
end Go.Proofs.YtoakjccojifagaaGreatDoor
