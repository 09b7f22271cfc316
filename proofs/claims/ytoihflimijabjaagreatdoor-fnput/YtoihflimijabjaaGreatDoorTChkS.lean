import Derived.Test.YtoihflimijabjaaGreatDoorTChkA
namespace Go.Proofs.YtoihflimijabjaaGreatDoor
open _root_.Go.Proofs.Tryz Go.RowKit
open Value renaming slice->J,string->S,bool->F
open Option renaming some->M,none->N
open Obj renaming cells->O
open Go renaming World->E
open Ending renaming returned->H
open _root_ renaming List->L,Nat->X
set_option linter.unusedVariables false
set_option maxHeartbeats 8000000
set_option maxRecDepth 100000
set_option linter.unusedSimpArgs false
variable {l:L By} {m k:X} {ss:L S2} {ts:L T2} {v:Int}
theorem Ya(s t:By)(w:E):Calls prog 62 #[S s,S t] w λe w'=>e=H (F (Aw s t))/\w=w':=by
 unfold Aw
 have e1:=Eu (rfl:s=s)
 go_enter func62,ntmps62
 exact qan
theorem lo_step{t:By}(h:Fg l)(hm:m<l.length)(hv:Aw (nx l m) t=true):∀j,j<m+1->Aw (nx l j) t=true:=by
 intro j hj
 rcases Nat.lt_or_ge j m with h1|h1
 ·exact Jj (h.pair h1 hm) hv
 ·obtain rfl:j=m:=qg;exact hv
theorem Vn{t:By}(h:Fg l)(hv:Aw (nx l m) t=false):∀j,m<=j->j<l.length->Aw (nx l j) t=false:=by
 intro j hj hl
 rcases Nat.lt_or_ge m j with h1|h1
 ·rw[Bool.eq_false_iff];intro h2;have:=Jj (h.pair h1 hl) h2;rw[hv]at this;cases this
 ·obtain rfl:j=m:=qg;exact hv
theorem Qao{t:By}{i:X}(h:Fg l)(h1:∀j,j<i->Aw (nx l j) t=true)(h2:∀j,i<=j->j<l.length->Aw (nx l j) t=false)(k:Hs l t):i<l.length/\nx l i=t:=by
 obtain⟨j,hj,e⟩:=k
 rcases Nat.lt_trichotomy j i with G9|G9|G9
 ·have:=h1 j G9;rw[e,Em]at this;cases this
 ·subst G9;exact⟨hj,e⟩
 ·have:=h.pair G9 hj;rw[e,h2 i (Nat.le_refl _) qg]at this;cases this
theorem Ni(sa ta:Option Addr)(n1 c1 c2:X)(ts:L T2)(s:By)(w:E)(hc:Jq w ta ts)(hl:ts.length<=1048576):Calls prog 86 #[.agg #[J sa n1 c1,J ta ts.length c2],S s] w λe w'=>Bw w w'/\∃r:Int,e=H (I r)/\((0<=r/\Hs (Au ts) s)\/(r<0/\¬ Hs (Au ts) s)):=by
 have ba:Bw w (w.alloc (O #[J sa n1 c1,J ta ts.length c2] 44)):=aN _ _
 have k1:(w.alloc (O #[J sa n1 c1,J ta ts.length c2] 44)).cell? ⟨w.heap.size,1,N⟩=M (J ta ts.length c2):=qr
 have HC:Hd (Jq (w.alloc (O #[J sa n1 c1,J ta ts.length c2] 44)) ta ts):=hc.bl ba
 clear hc
 go_enter func86,ntmps86
 go_wp2
 go_loopw [5] (λi wr=>∃k:X,k<=ts.length/\i=I k/\Hd (∀j,j<k->(tx ts j).name≠s)/\(w.alloc (O #[J sa n1 c1,J ta ts.length c2] 44))=wr) (λi _=>ts.length-(intOf i).toNat)
 case atStart=>exact⟨0,Nat.zero_le _,rfl,(λj hj=>by omega:∀j,j<0->(tx ts j).name≠s),rfl⟩
 case round=>
  obtain⟨k,hk,rfl,HA,rfl⟩:=hrel
  by_cases au:k<ts.length
  ·obtain⟨b,off,rfl,mu,x,p,ml,uy⟩:=HC.o k au;have gi:(k:Int)<(ts.length:Int):=qg;obtain⟨nm,en⟩:=Aj ((tx ts k).name);have EN:Hd ((tx ts k).name=nm):=en;rw[en]at mu;clear en ml uy
   by_cases he:nm=s
   ·have jj:=Eu he;have HE:Hd (nm=s):=he;clear he;go_wp2;go_ret;exact⟨ba,_,rfl,Or.inl ⟨qg,k,by rw[Cb];exact au,by rw[Dy,EN.o];exact HE.o⟩⟩
   ·exact qiu
  ·go_wp2;go_ret;exact⟨ba,_,rfl,Or.inr ⟨qg,λ⟨j,hj,e⟩=>by rw[Cb]at hj;rw[Dy]at e;exact HA.o j qg e⟩⟩
def Kp(w:E)(v1 v2:Value)(wr:E):Prop:=Bw w wr/\wr.cell? ⟨w.heap.size,0,N⟩=M v1/\wr.cell? ⟨w.heap.size,1,N⟩=M v2
theorem Kp.bl{w wr w':E}{v1 v2:Value}(h:Kp w v1 v2 wr)(hb:Bw wr w'):Kp w v1 v2 w':=⟨bt h.1 hb,Aa hb h.2.1,Aa hb h.2.2⟩
theorem Qbi(hk:k<ss.length)(h:Fo (sx ss k).name=false):¬ Ib (Av ss):=λhh=>by
 have:=hh k (by rw[Bo];exact hk)
 rw[Dk,h]at this;cases this
theorem Qbh{ss:L T2}(hk:k<ss.length)(h:Fo (tx ss k).name=false):¬ Ib (Au ss):=λhh=>by
 have:=hh k (by rw[Cb];exact hk)
 rw[Dy,h]at this;cases this
theorem acts_step(h:(v=0/\∀j,j<k->Aq (tx ts j).code=true)\/(v=7/\∃j,j<k/\Aq (tx ts j).code=false))(hk:Aq (tx ts k).code=true):(v=0/\∀j,j<k+1->Aq (tx ts j).code=true)\/(v=7/\∃j,j<k+1/\Aq (tx ts j).code=false):=by
 rcases h with⟨rfl,h⟩|⟨rfl,j,hj,h⟩
 ·exact Or.inl ⟨rfl,Ds h hk⟩
 ·exact Or.inr ⟨rfl,j,qg,h⟩
theorem acts_end(h1:¬ 200<ss.length+ts.length)(h2:Ib (Av ss)/\Ib (Au ts))(h3:Fg (Av ss))(h4:Fg (Au ts))(h5:¬ Qb (Av ss) (Au ts))(h6:Kr ss)(hk:k=ts.length)(h:(v=0/\∀j,j<k->Aq (tx ts j).code=true)\/(v=7/\∃j,j<k/\Aq (tx ts j).code=false)):Gp ss ts=v:=by
 subst hk
 rcases h with⟨rfl,h⟩|⟨rfl,j,hj,h⟩
 ·exact chk0 h1 h2 h3 h4 h5 h6 h
 ·exact chk7 h1 h2 h3 h4 h5 h6 (λhh=>by rw[hh j hj]at h;cases h)
theorem Fm(sa ta:Option Addr)(c1 c2:X)(ss:L S2)(ts:L T2)(w:E)(h:Ku w sa ss ta ts)(nf:Hi ss ts):Calls prog 72 #[.agg #[J sa ss.length c1,J ta ts.length c2]] w λe w'=>Bw w w'/\e=H (I (Gp ss ts)):=by
 have ba:Bw w (w.alloc (O #[J sa ss.length c1,J ta ts.length c2] 44)):=aN _ _
 obtain⟨rs,rt,ls,lt,ns,xs,nt,lc,xt⟩:=h
 obtain⟨l1,l2,l3⟩:=nf
 have tr:Kp w (J sa ss.length c1) (J ta ts.length c2) (w.alloc (O #[J sa ss.length c1,J ta ts.length c2] 44)):=⟨ba,qr,qr⟩
 by_cases hbig:200<ss.length+ts.length
 ·have HC:Hd (Gp ss ts=1):=chk1 hbig;clear rs rt ns xs nt lc xt l3;go_enter func72,ntmps72;go_wp2;go_ret;exact⟨ba,qci⟩
 ·have zw:Hd (¬ 200<ss.length+ts.length):=hbig;have RS:Hd (Hz w sa ss):=rs;have RT:Hd (Jq w ta ts):=rt;have NS:Hd (∀i,(sx ss i).name.size<=9223372036854775807):=ns;have NT:Hd (∀i,(tx ts i).name.size<=9223372036854775807):=nt;have XS:Hd (∀i,(sx ss i).text.size<=9223372036854775807):=xs;have XT:Hd (∀i j,(ix (tx ts i).code j).text.size<=9223372036854775807):=xt;have L3:Hd (∀i,i<ts.length->(tx ts i).code.length<=1048576):=l3;clear rs rt ns xs nt lc xt l3 ba;go_enter func72,ntmps72;go_wp2
  go_loopw [5] (λi wr=>∃k:X,k<=ss.length/\i=I k/\Hd (∀j,j<k->Fo (sx ss j).name=true)/\Hd (Kp w (J sa ss.length c1) (J ta ts.length c2) wr)) (λi _=>ss.length-(intOf i).toNat)
  case atStart=>exact⟨0,Nat.zero_le _,rfl,(λj hj=>by omega:∀j,j<0->Fo (sx ss j).name=true),tr⟩
  case round=>
   obtain⟨k,hk,rfl,HA,HK⟩:=hrel;obtain⟨dj,k0,k1⟩:=HK.o
   by_cases au:k<ss.length
   ·obtain⟨b,off,rfl,d1,d2⟩:=(RS.o.bl dj) k au;have jb:=NS.o k;have gi:(k:Int)<(ss.length:Int):=qg;obtain⟨v,hv⟩:=Aj (Fo (sx ss k).name);have HV:Hd (Fo (sx ss k).name=v):=hv;(have HN:Hd (∀W:E,Calls prog 59 #[S (sx ss k).name] W λe w'=>e=H (F v)/\W=w'):=λW=>by rw[<- hv];exact Bb _ W jb);clear hv d2 jb;generalize (sx ss k).name=s at d1 HN;cases v
    ·have HC:Hd (Gp ss ts=2):=chk2 zw.o (λh=>Qbi au HV.o h.1);exact qkb
    ·go_wp2_with (go_at_call 59;refine(HN.o _).mono ?_;rintro e w' ⟨rfl,rfl⟩)
     go_roundw
     case rel=>exact⟨k+1,qg,qp,Ds HA.o HV.o,HK.o⟩
     case measure=>simp[intOf];omega
   ·(have N9:Hd (Ib (Av ss)):=λj hj=>by rw[Dk];rw[Bo]at hj;exact HA.o j qg);clear HA;go_wp2
    go_loopw [6] (λi wr=>∃k:X,k<=ts.length/\i=I k/\Hd (∀j,j<k->Fo (tx ts j).name=true)/\Hd (Kp w (J sa ss.length c1) (J ta ts.length c2) wr)) (λi _=>ts.length-(intOf i).toNat)
    case atStart=>exact⟨0,Nat.zero_le _,rfl,(λj hj=>by omega:∀j,j<0->Fo (tx ts j).name=true),HK.o⟩
    case round=>
     clear HK dj k0 k1;obtain⟨k',hk',rfl,HA,HK⟩:=hrel;obtain⟨dj,k0,k1⟩:=HK.o
     by_cases au:k'<ts.length
     ·obtain⟨b,off,rfl,d1,x,p,d2,d3⟩:=(RT.o.bl dj) k' au;have jb:=NT.o k';have gi:(k':Int)<(ts.length:Int):=qg;obtain⟨v,hv⟩:=Aj (Fo (tx ts k').name);have HV:Hd (Fo (tx ts k').name=v):=hv;(have HN:Hd (∀W:E,Calls prog 59 #[S (tx ts k').name] W λe w'=>e=H (F v)/\W=w'):=λW=>by rw[<- hv];exact Bb _ W jb);clear hv d2 d3 jb;generalize (tx ts k').name=s at d1 HN;cases v
      ·have HC:Hd (Gp ss ts=2):=chk2 zw.o (λh=>Qbh au HV.o h.2);exact qkb
      ·go_wp2_with (go_at_call 59;refine(HN.o _).mono ?_;rintro e w' ⟨rfl,rfl⟩)
       go_roundw
       case rel=>exact⟨k'+1,qg,qp,Ds HA.o HV.o,HK.o⟩
       case measure=>simp[intOf];omega
     ·have H2:Hd (Ib (Av ss)/\Ib (Au ts)):=⟨N9.o,λj hj=>by rw[Dy];rw[Cb]at hj;exact HA.o j qg⟩;clear HA N9;go_wp2
      go_loopw [7] (λi wr=>∃m:X,(m=0\/m+1<=ss.length)/\i=I (m+1)/\Hd (∀j,1<=j->j<m+1->Aw (nx (Av ss) (j-1)) (nx (Av ss) j)=true)/\Hd (Kp w (J sa ss.length c1) (J ta ts.length c2) wr)) (λi _=>ss.length+1-(intOf i).toNat)
      case atStart=>exact⟨0,Or.inl rfl,rfl,(λj h1 h2=>by omega:∀j,1<=j->j<0+1->Aw (nx (Av ss) (j-1)) (nx (Av ss) j)=true),HK.o⟩
      case round=>
       clear HK dj k0 k1;obtain⟨m,hm,rfl,HA,HK⟩:=hrel;obtain⟨dj,k0,k1⟩:=HK.o
       by_cases au:m+1<ss.length
       ·obtain⟨b,off,rfl,d1,q1⟩:=(RS.o.bl dj) m qg;obtain⟨b',bq,e',d2,q2⟩:=(RS.o.bl dj) (m+1) au;simp only[Option.some.injEq,Addr.mk.injEq,and_true]at e';obtain⟨rfl,rfl⟩:=e';rw[<- Dk]at d1 d2;clear q1 q2;obtain⟨v,hv⟩:=Aj (Aw (nx (Av ss) m) (nx (Av ss) (m+1)));have HV:Hd (Aw (nx (Av ss) m) (nx (Av ss) (m+1))=v):=hv;unfold Aw at hv;generalize nx (Av ss) m=s at d1 hv;generalize nx (Av ss) (m+1)=s' at d2 hv;have um:(m:Int)+1<(ss.length:Int):=qg;cases v
        ·have HC:Hd (Gp ss ts=3):=chk3 zw.o H2.o (λh=>by have:=h (m+1) qg (by rw[Bo];exact au);rw[Nat.add_sub_cancel,HV.o]at this;cases this);exact qkc
        ·exact qir
       ·(have H3:Hd (Fg (Av ss)):=λj h1 h2=>by rw[Bo]at h2;exact HA.o j h1 qg);clear HA;go_wp2
        go_loopw [8] (λi wr=>∃m:X,(m=0\/m+1<=ts.length)/\i=I (m+1)/\Hd (∀j,1<=j->j<m+1->Aw (nx (Au ts) (j-1)) (nx (Au ts) j)=true)/\Hd (Kp w (J sa ss.length c1) (J ta ts.length c2) wr)) (λi _=>ts.length+1-(intOf i).toNat)
        case atStart=>exact⟨0,Or.inl rfl,rfl,(λj h1 h2=>by omega:∀j,1<=j->j<0+1->Aw (nx (Au ts) (j-1)) (nx (Au ts) j)=true),HK.o⟩
        case round=>
         clear HK dj k0 k1;obtain⟨m,hm,rfl,HA,HK⟩:=hrel;obtain⟨dj,k0,k1⟩:=HK.o
         by_cases au:m+1<ts.length
         ·obtain⟨b,off,rfl,d1,x1,p1,q1,r1⟩:=(RT.o.bl dj) m qg;obtain⟨b',bq,e',d2,x2,p2,q2,r2⟩:=(RT.o.bl dj) (m+1) au;simp only[Option.some.injEq,Addr.mk.injEq,and_true]at e';obtain⟨rfl,rfl⟩:=e';rw[<- Dy]at d1 d2;clear q1 r1 q2 r2;obtain⟨v,hv⟩:=Aj (Aw (nx (Au ts) m) (nx (Au ts) (m+1)));have HV:Hd (Aw (nx (Au ts) m) (nx (Au ts) (m+1))=v):=hv;unfold Aw at hv;generalize nx (Au ts) m=s at d1 hv;generalize nx (Au ts) (m+1)=s' at d2 hv;have um:(m:Int)+1<(ts.length:Int):=qg;cases v
          ·have HC:Hd (Gp ss ts=4):=chk4 zw.o H2.o H3.o (λh=>by have:=h (m+1) qg (by rw[Cb];exact au);rw[Nat.add_sub_cancel,HV.o]at this;cases this);exact qkc
          ·exact qir
         ·(have H4:Hd (Fg (Au ts)):=λj h1 h2=>by rw[Cb]at h2;exact HA.o j h1 qg);clear HA;go_wp2
          go_loopw [9] (λi wr=>∃k:X,k<=ss.length/\i=I k/\Hd (∀j,j<k->¬ Hs (Au ts) (sx ss j).name)/\Hd (Kp w (J sa ss.length c1) (J ta ts.length c2) wr)) (λi _=>ss.length-(intOf i).toNat)
          case atStart=>exact⟨0,Nat.zero_le _,rfl,(λj hj=>by omega:∀j,j<0->¬ Hs (Au ts) (sx ss j).name),HK.o⟩
          case round=>
           clear HK dj k0 k1;obtain⟨k5,jt,rfl,HA,HK⟩:=hrel;obtain⟨dj,k0,k1⟩:=HK.o
           by_cases au:k5<ss.length
           ·obtain⟨b,off,rfl,d1,d2⟩:=(RS.o.bl dj) k5 au;have gi:(k5:Int)<(ss.length:Int):=qg;obtain⟨s,es⟩:=Aj ((sx ss k5).name);have ES:Hd ((sx ss k5).name=s):=es;rw[es]at d1;clear es d2;have i6:Bw wr wr.drew:=(Below.refl _ _).drew;have RTd:Hd (Jq wr.drew ta ts):=(RT.o.bl dj).bl i6;clear i6;go_wp2_with fail
            go_region_held3 (λw'=>w'.cell? ⟨w.heap.size,0,N⟩=M (J (M ⟨b,off,N⟩) ss.length c1)/\w'.cell? ⟨w.heap.size,1,N⟩=M (J ta ts.length c2)/\w'.cell? ⟨b,off+k5*2,N⟩=M (S s))
             (first|assumption|(simp[*];done)|exact⟨Aa ah qu,Aa ah qu,Aa ah qu⟩)
             (first|(go_at_call 86;refine(Ni (M ⟨b,off,N⟩) ta ss.length c1 c2 ts s _ RTd.o l2).mono ?_;rintro e w1 ⟨ah,r,rfl,hr⟩))
            all_goals
             have HD:Hd (Kp w (J (M ⟨b,off,N⟩) ss.length c1) (J ta ts.length c2) w1):=(HK.o.bl (Below.refl _ _).drew).bl ah
             rcases hr with⟨hr,hh⟩|⟨hr,hh⟩
             ·have HC:Hd (Gp ss ts=5):=chk5 zw.o H2.o H3.o H4.o ⟨k5,by rw[Bo];exact au,by rw[Dk,ES.o];exact hh⟩;clear hh;go_wp2;go_ret;exact⟨HD.o.1,qci⟩
             ·have HNo:Hd (¬ Hs (Au ts) s):=hh;clear hh;go_wp2;go_roundw
              case rel=>exact⟨k5+1,qg,qp,Ds HA.o (by rw[ES.o];exact HNo.o),HD.o⟩
              case measure=>simp[intOf];omega
           ·(have H5:Hd (¬ Qb (Av ss) (Au ts)):=λ⟨j,hj,hh⟩=>by rw[Bo]at hj;rw[Dk]at hh;exact HA.o j qg hh);clear HA;go_wp2
            go_loopw [10] (λi wr=>∃k:X,k<=ss.length/\i=I k/\Hd (∀j,j<k->(sx ss j).text.size<=2000)/\Hd (Kp w (J sa ss.length c1) (J ta ts.length c2) wr)) (λi _=>ss.length-(intOf i).toNat)
            case atStart=>exact⟨0,Nat.zero_le _,rfl,(λj hj=>by omega:∀j,j<0->(sx ss j).text.size<=2000),HK.o⟩
            case round=>
             clear HK dj k0 k1;obtain⟨k6,hk6,rfl,HA,HK⟩:=hrel;obtain⟨dj,k0,k1⟩:=HK.o
             by_cases au:k6<ss.length
             ·obtain⟨b,off,rfl,d1,d2⟩:=(RS.o.bl dj) k6 au;have gi:(k6:Int)<(ss.length:Int):=qg;have jb:=XS.o k6;obtain⟨s,es⟩:=Aj ((sx ss k6).text);have ES:Hd ((sx ss k6).text=s):=es;rw[es]at d2 jb;clear es d1
              by_cases hts:s.size<=2000
              ·go_wp2;go_roundw
               case rel=>exact⟨k6+1,qg,qp,Ds HA.o (by rw[ES.o];exact hts),HK.o⟩
               case measure=>simp[intOf];omega
              ·have HC:Hd (Gp ss ts=6):=chk6 zw.o H2.o H3.o H4.o H5.o (λh=>by have:=h k6 au;rw[ES.o]at this;omega);go_wp2;go_ret;exact⟨dj,qci⟩
             ·have H6:Hd (Kr ss):=λj hj=>HA.o j qg;clear HA;go_wp2
              go_loopw [4,11] (λx i wr=>∃k:X,∃v:Int,k<=ts.length/\x=I v/\i=I k/\Hd ((v=0/\∀j,j<k->Aq (tx ts j).code=true)\/(v=7/\∃j,j<k/\Aq (tx ts j).code=false))/\Hd (Kp w (J sa ss.length c1) (J ta ts.length c2) wr)) (λ_ i _=>ts.length-(intOf i).toNat)
              case atStart=>exact⟨0,0,Nat.zero_le _,rfl,rfl,(Or.inl ⟨rfl,λj hj=>qg⟩:((0:Int)=0/\∀j,j<0->Aq (tx ts j).code=true)\/((0:Int)=7/\∃j,j<0/\Aq (tx ts j).code=false)),HK.o⟩
              case round=>
               clear HK dj k0 k1;obtain⟨k7,v7,D4,rfl,rfl,HA,HK⟩:=hrel;obtain⟨dj,k0,k1⟩:=HK.o
               by_cases au:k7<ts.length
               ·obtain⟨b,off,rfl,d1,x,p,d2,d3⟩:=(RT.o.bl dj) k7 au;have gi:(k7:Int)<(ts.length:Int):=qg;have hck:=L3.o k7 au;have hxk:=XT.o k7;obtain⟨i,ei⟩:=Aj ((tx ts k7).code);have EI:Hd ((tx ts k7).code=i):=ei;rw[ei]at d2 d3 hck hxk;clear ei d1;obtain⟨v,hv⟩:=Aj (Aq i);have HV:Hd (Aq i=v):=hv;(have HN:Hd (Calls prog 35 #[.agg #[J x i.length p]] wr λe w'=>Bw wr w'/\e=H (F v)):=by rw[<- hv];exact Ci x p i wr d3 hck hxk);clear hv d3 hxk;cases v
                ·go_wp2_with (go_at_call 35;refine HN.o.mono ?_;rintro e w1 ⟨ah,rfl⟩)
                 go_roundw
                 case rel=>exact⟨k7+1,7,qg,rfl,qp,Or.inr ⟨rfl,k7,qg,by rw[EI.o];exact HV.o⟩,HK.o.bl ah⟩
                 case measure=>simp[intOf];omega
                ·go_wp2_with (go_at_call 35;refine HN.o.mono ?_;rintro e w1 ⟨ah,rfl⟩)
                 go_roundw
                 case rel=>exact⟨k7+1,v7,qg,rfl,qp,acts_step HA.o (by rw[EI.o];exact HV.o),HK.o.bl ah⟩
                 case measure=>simp[intOf];omega
               ·have HC:Hd (Gp ss ts=v7):=acts_end zw.o H2.o H3.o H4.o H5.o H6.o qg HA.o;clear HA;go_wp2;go_ret;exact⟨dj,qci⟩
end Go.Proofs.YtoihflimijabjaaGreatDoor
