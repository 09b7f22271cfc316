import Derived.Test.YtoakjccojifagaaGreatDoorBtF
import Derived.Test.YtoakjccojifagaaGreatDoorBuY
namespace Go.Proofs.YtoakjccojifagaaGreatDoor
open Value renaming slice->J,string->S,bool->F,agg->G,tuple->Y
open Option renaming some->M,none->N
open Obj renaming cells->O
open Go renaming Value->Z,World->E
open Ending renaming returned->H
open _root_ renaming List->L,Nat->X
set_option maxHeartbeats 8000000
set_option maxRecDepth 100000
open _root_.Go.Proofs.Tryz Go.RowKit Go.Deep
set_option linter.unusedVariables false
set_option linter.unusedSimpArgs false
variable {w:E} {ss:L S2} {k n B h:X} {ts:L T2} {v:Int} {T:L By} {R:L T3} {qv:Z} {nm:By} {cs:Array Z} {l:L (X×X×Z)}
def Kp(w:E)(v1 v2:Z)(wr:E):Prop:=Bw w wr/\wr.cell? ⟨w.heap.size,0,N⟩=M v1/\wr.cell? ⟨w.heap.size,1,N⟩=M v2
theorem Kp.bl{wr w':E}{v1 v2:Z}(h:Kp w v1 v2 wr)(hb:Bw wr w'):Kp w v1 v2 w':=⟨bt h.1 hb,Aa hb h.2.1,Aa hb h.2.2⟩
theorem allN_bad_s(hk:k<ss.length)(h:Ez (sx ss k).name=false):¬ Hf (Am ss):=λhh=>by
 have:=hh k (by rw[Cb];exact hk)
 rw[Dy,h]at this;cases this
theorem allN_bad_t{ss:L T2}(hk:k<ss.length)(h:Ez (tx ss k).name=false):¬ Hf (Ak ss):=λhh=>by
 have:=hh k (by rw[Bs];exact hk)
 rw[Dr,h]at this;cases this
theorem acts_step(h:(v=0/\∀j,j<k->Ao (tx ts j).code=true)\/(v=7/\∃j,j<k/\Ao (tx ts j).code=false))(hk:Ao (tx ts k).code=true):(v=0/\∀j,j<k+1->Ao (tx ts j).code=true)\/(v=7/\∃j,j<k+1/\Ao (tx ts j).code=false):=by
 rcases h with⟨rfl,h⟩|⟨rfl,j,hj,h⟩
 ·exact Or.inl ⟨rfl,Cw h hk⟩
 ·exact Or.inr ⟨rfl,j,qb,h⟩
theorem acts_end(h1:¬ 200<ss.length+ts.length)(h2:Hf (Am ss)/\Hf (Ak ts))(h3:Fu (Am ss))(h4:Fu (Ak ts))(h5:¬ Nn (Am ss) (Ak ts))(h6:Js ss)(hk:k=ts.length)(h:(v=0/\∀j,j<k->Ao (tx ts j).code=true)\/(v=7/\∃j,j<k/\Ao (tx ts j).code=false)):Gu ss ts=v:=by
 subst hk
 rcases h with⟨rfl,h⟩|⟨rfl,j,hj,h⟩
 ·exact chk0 h1 h2 h3 h4 h5 h6 h
 ·exact chk7 h1 h2 h3 h4 h5 h6 (λhh=>by rw[hh j hj]at h;cases h)
theorem Kw(sa ta:Option Addr)(c1 c2:X)(ss:L S2)(ts:L T2)(w:E)(h:Lm w sa ss ta ts)(ly:Ew ss ts):Calls prog 25 #[G #[J sa ss.length c1,J ta ts.length c2]] w λe w'=>Bw w w'/\e=H (I (Gu ss ts)):=by
 have ak:Bw w (w.alloc (O #[J sa ss.length c1,J ta ts.length c2] 43)):=aN _ _
 obtain⟨rs,rt,ls,lt,ns,xs,nt,lc,xt⟩:=h
 obtain⟨l1,l2,l3⟩:=ly
 have P3:Kp w (J sa ss.length c1) (J ta ts.length c2) (w.alloc (O #[J sa ss.length c1,J ta ts.length c2] 43)):=⟨ak,qk,qk⟩
 by_cases zu:200<ss.length+ts.length
 ·have HC:Hd (Gu ss ts=1):=chk1 zu;clear rs rt ns xs nt lc xt l3;go_enter func25,ntmps25;go_wp2;go_ret;exact⟨ak,qad⟩
 ·have nj:Hd (¬ 200<ss.length+ts.length):=zu;have RS:Hd (Hr w sa ss):=rs;have RT:Hd (Hb w ta ts):=rt;have NS:Hd (∀i,(sx ss i).name.size<=9223372036854775807):=ns;have NT:Hd (∀i,(tx ts i).name.size<=9223372036854775807):=nt;have XS:Hd (∀i,(sx ss i).text.size<=9223372036854775807):=xs;have XT:Hd (∀i j,(ix (tx ts i).code j).text.size<=9223372036854775807):=xt;have L3:Hd (∀i,i<ts.length->(tx ts i).code.length<=1048576):=l3;clear rs rt ns xs nt lc xt l3 ak;go_enter func25,ntmps25;go_wp2
  go_loopw [5] (λi wr=>∃k:X,k<=ss.length/\i=I k/\Hd (∀j,j<k->Ez (sx ss j).name=true)/\Hd (Kp w (J sa ss.length c1) (J ta ts.length c2) wr)) (λi _=>ss.length-(intOf i).toNat)
  case atStart=>exact⟨0,Nat.zero_le _,rfl,(λj hj=>by omega:∀j,j<0->Ez (sx ss j).name=true),P3⟩
  case round=>
   obtain⟨k,hk,rfl,HA,HK⟩:=hrel;obtain⟨am,k0,k1⟩:=HK.o
   by_cases aj:k<ss.length
   ·obtain⟨b,off,rfl,d1,d2⟩:=(RS.o.bl am) k aj;have gh:=NS.o k;have iy:(k:Int)<(ss.length:Int):=qb;obtain⟨v,hv⟩:=Aj (Ez (sx ss k).name);have HV:Hd (Ez (sx ss k).name=v):=hv;(have HN:Hd (∀W:E,Calls prog 47 #[S (sx ss k).name] W λe w'=>e=H (F v)/\W=w'):=λW=>by rw[<- hv];exact Cd _ W gh);clear hv d2 gh;generalize (sx ss k).name=s at d1 HN;cases v
    ·have HC:Hd (Gu ss ts=2):=chk2 nj.o (λh=>allN_bad_s aj HV.o h.1);exact qla
    ·go_wp2_with (go_at_call 47;refine(HN.o _).mono ?_;rintro e w' ⟨rfl,rfl⟩)
     go_roundw
     case rel=>exact⟨k+1,qb,qj,Cw HA.o HV.o,HK.o⟩
     case measure=>simp[intOf];omega
   ·(have HA1:Hd (Hf (Am ss)):=λj hj=>by rw[Dy];rw[Cb]at hj;exact HA.o j qb);clear HA;go_wp2
    go_loopw [6] (λi wr=>∃k:X,k<=ts.length/\i=I k/\Hd (∀j,j<k->Ez (tx ts j).name=true)/\Hd (Kp w (J sa ss.length c1) (J ta ts.length c2) wr)) (λi _=>ts.length-(intOf i).toNat)
    case atStart=>exact⟨0,Nat.zero_le _,rfl,(λj hj=>by omega:∀j,j<0->Ez (tx ts j).name=true),HK.o⟩
    case round=>
     clear HK am k0 k1;obtain⟨k',hk',rfl,HA,HK⟩:=hrel;obtain⟨am,k0,k1⟩:=HK.o
     by_cases aj:k'<ts.length
     ·obtain⟨b,off,rfl,d1,x,p,d2,d3⟩:=(RT.o.bl am) k' aj;have gh:=NT.o k';have iy:(k':Int)<(ts.length:Int):=qb;obtain⟨v,hv⟩:=Aj (Ez (tx ts k').name);have HV:Hd (Ez (tx ts k').name=v):=hv;(have HN:Hd (∀W:E,Calls prog 47 #[S (tx ts k').name] W λe w'=>e=H (F v)/\W=w'):=λW=>by rw[<- hv];exact Cd _ W gh);clear hv d2 d3 gh;generalize (tx ts k').name=s at d1 HN;cases v
      ·have HC:Hd (Gu ss ts=2):=chk2 nj.o (λh=>allN_bad_t aj HV.o h.2);exact qla
      ·go_wp2_with (go_at_call 47;refine(HN.o _).mono ?_;rintro e w' ⟨rfl,rfl⟩)
       go_roundw
       case rel=>exact⟨k'+1,qb,qj,Cw HA.o HV.o,HK.o⟩
       case measure=>simp[intOf];omega
     ·have H2:Hd (Hf (Am ss)/\Hf (Ak ts)):=⟨HA1.o,λj hj=>by rw[Dr];rw[Bs]at hj;exact HA.o j qb⟩;clear HA HA1;go_wp2
      go_loopw [7] (λi wr=>∃m:X,(m=0\/m+1<=ss.length)/\i=I (m+1)/\Hd (∀j,1<=j->j<m+1->Au (nx (Am ss) (j-1)) (nx (Am ss) j)=true)/\Hd (Kp w (J sa ss.length c1) (J ta ts.length c2) wr)) (λi _=>ss.length+1-(intOf i).toNat)
      case atStart=>exact⟨0,Or.inl rfl,rfl,(λj h1 h2=>by omega:∀j,1<=j->j<0+1->Au (nx (Am ss) (j-1)) (nx (Am ss) j)=true),HK.o⟩
      case round=>
       clear HK am k0 k1;obtain⟨m,hm,rfl,HA,HK⟩:=hrel;obtain⟨am,k0,k1⟩:=HK.o
       by_cases aj:m+1<ss.length
       ·obtain⟨b,off,rfl,d1,q1⟩:=(RS.o.bl am) m qb;obtain⟨b',br,e',d2,q2⟩:=(RS.o.bl am) (m+1) aj;simp only[Option.some.injEq,Addr.mk.injEq,and_true]at e';obtain⟨rfl,rfl⟩:=e';rw[<- Dy]at d1 d2;clear q1 q2;obtain⟨v,hv⟩:=Aj (Au (nx (Am ss) m) (nx (Am ss) (m+1)));have HV:Hd (Au (nx (Am ss) m) (nx (Am ss) (m+1))=v):=hv;unfold Au at hv;generalize nx (Am ss) m=s at d1 hv;generalize nx (Am ss) (m+1)=s' at d2 hv;have hltI:(m:Int)+1<(ss.length:Int):=qb;cases v
        ·have HC:Hd (Gu ss ts=3):=chk3 nj.o H2.o (λh=>by have:=h (m+1) qb (by rw[Cb];exact aj);rw[Nat.add_sub_cancel,HV.o]at this;cases this);exact qlb
        ·exact qjf
       ·(have H3:Hd (Fu (Am ss)):=λj h1 h2=>by rw[Cb]at h2;exact HA.o j h1 qb);clear HA;go_wp2
        go_loopw [8] (λi wr=>∃m:X,(m=0\/m+1<=ts.length)/\i=I (m+1)/\Hd (∀j,1<=j->j<m+1->Au (nx (Ak ts) (j-1)) (nx (Ak ts) j)=true)/\Hd (Kp w (J sa ss.length c1) (J ta ts.length c2) wr)) (λi _=>ts.length+1-(intOf i).toNat)
        case atStart=>exact⟨0,Or.inl rfl,rfl,(λj h1 h2=>by omega:∀j,1<=j->j<0+1->Au (nx (Ak ts) (j-1)) (nx (Ak ts) j)=true),HK.o⟩
        case round=>
         clear HK am k0 k1;obtain⟨m,hm,rfl,HA,HK⟩:=hrel;obtain⟨am,k0,k1⟩:=HK.o
         by_cases aj:m+1<ts.length
         ·obtain⟨b,off,rfl,d1,x1,p1,q1,r1⟩:=(RT.o.bl am) m qb;obtain⟨b',br,e',d2,x2,p2,q2,r2⟩:=(RT.o.bl am) (m+1) aj;simp only[Option.some.injEq,Addr.mk.injEq,and_true]at e';obtain⟨rfl,rfl⟩:=e';rw[<- Dr]at d1 d2;clear q1 r1 q2 r2;obtain⟨v,hv⟩:=Aj (Au (nx (Ak ts) m) (nx (Ak ts) (m+1)));have HV:Hd (Au (nx (Ak ts) m) (nx (Ak ts) (m+1))=v):=hv;unfold Au at hv;generalize nx (Ak ts) m=s at d1 hv;generalize nx (Ak ts) (m+1)=s' at d2 hv;have hltI:(m:Int)+1<(ts.length:Int):=qb;cases v
          ·have HC:Hd (Gu ss ts=4):=chk4 nj.o H2.o H3.o (λh=>by have:=h (m+1) qb (by rw[Bs];exact aj);rw[Nat.add_sub_cancel,HV.o]at this;cases this);exact qlb
          ·exact qjf
         ·(have H4:Hd (Fu (Ak ts)):=λj h1 h2=>by rw[Bs]at h2;exact HA.o j h1 qb);clear HA;go_wp2
          go_loopw [9] (λi wr=>∃k:X,k<=ss.length/\i=I k/\Hd (∀j,j<k->¬ Eg (Ak ts) (sx ss j).name)/\Hd (Kp w (J sa ss.length c1) (J ta ts.length c2) wr)) (λi _=>ss.length-(intOf i).toNat)
          case atStart=>exact⟨0,Nat.zero_le _,rfl,(λj hj=>by omega:∀j,j<0->¬ Eg (Ak ts) (sx ss j).name),HK.o⟩
          case round=>
           clear HK am k0 k1;obtain⟨k5,jq,rfl,HA,HK⟩:=hrel;obtain⟨am,k0,k1⟩:=HK.o
           by_cases aj:k5<ss.length
           ·obtain⟨b,off,rfl,d1,d2⟩:=(RS.o.bl am) k5 aj;have iy:(k5:Int)<(ss.length:Int):=qb;obtain⟨s,es⟩:=Aj ((sx ss k5).name);have ES:Hd ((sx ss k5).name=s):=es;rw[es]at d1;clear es d2;have iu:Bw wr wr.drew:=(Below.refl _ _).drew;have RTd:Hd (Hb wr.drew ta ts):=(RT.o.bl am).bl iu;clear iu;go_wp2_with fail
            go_region_held3 (λw'=>w'.cell? ⟨w.heap.size,0,N⟩=M (J (M ⟨b,off,N⟩) ss.length c1)/\w'.cell? ⟨w.heap.size,1,N⟩=M (J ta ts.length c2)/\w'.cell? ⟨b,off+k5*2,N⟩=M (S s))
             (first|assumption|(simp[*];done)|exact⟨Aa af qq,Aa af qq,Aa af qq⟩)
             (first|(go_at_call 48;refine(Zu (M ⟨b,off,N⟩) ta ss.length c1 c2 ts s _ RTd.o l2).mono ?_;rintro e w1 ⟨af,r,rfl,hr⟩))
            all_goals
             have HD:Hd (Kp w (J (M ⟨b,off,N⟩) ss.length c1) (J ta ts.length c2) w1):=(HK.o.bl (Below.refl _ _).drew).bl af
             rcases hr with⟨hr,hh⟩|⟨hr,hh⟩
             ·have HC:Hd (Gu ss ts=5):=chk5 nj.o H2.o H3.o H4.o ⟨k5,by rw[Cb];exact aj,by rw[Dy,ES.o];exact hh⟩;clear hh;go_wp2;go_ret;exact⟨HD.o.1,qad⟩
             ·have HNo:Hd (¬ Eg (Ak ts) s):=hh;clear hh;go_wp2;go_roundw
              case rel=>exact⟨k5+1,qb,qj,Cw HA.o (by rw[ES.o];exact HNo.o),HD.o⟩
              case measure=>simp[intOf];omega
           ·(have H5:Hd (¬ Nn (Am ss) (Ak ts)):=λ⟨j,hj,hh⟩=>by rw[Cb]at hj;rw[Dy]at hh;exact HA.o j qb hh);clear HA;go_wp2
            go_loopw [10] (λi wr=>∃k:X,k<=ss.length/\i=I k/\Hd (∀j,j<k->(sx ss j).text.size<=2000)/\Hd (Kp w (J sa ss.length c1) (J ta ts.length c2) wr)) (λi _=>ss.length-(intOf i).toNat)
            case atStart=>exact⟨0,Nat.zero_le _,rfl,(λj hj=>by omega:∀j,j<0->(sx ss j).text.size<=2000),HK.o⟩
            case round=>
             clear HK am k0 k1;obtain⟨k6,jd,rfl,HA,HK⟩:=hrel;obtain⟨am,k0,k1⟩:=HK.o
             by_cases aj:k6<ss.length
             ·obtain⟨b,off,rfl,d1,d2⟩:=(RS.o.bl am) k6 aj;have iy:(k6:Int)<(ss.length:Int):=qb;have gh:=XS.o k6;obtain⟨s,es⟩:=Aj ((sx ss k6).text);have ES:Hd ((sx ss k6).text=s):=es;rw[es]at d2 gh;clear es d1
              by_cases S9:s.size<=2000
              ·go_wp2;go_roundw
               case rel=>exact⟨k6+1,qb,qj,Cw HA.o (by rw[ES.o];exact S9),HK.o⟩
               case measure=>simp[intOf];omega
              ·have HC:Hd (Gu ss ts=6):=chk6 nj.o H2.o H3.o H4.o H5.o (λh=>by have:=h k6 aj;rw[ES.o]at this;omega);go_wp2;go_ret;exact⟨am,qad⟩
             ·have H6:Hd (Js ss):=λj hj=>HA.o j qb;clear HA;go_wp2
              go_loopw [4,11] (λx i wr=>∃k:X,∃v:Int,k<=ts.length/\x=I v/\i=I k/\Hd ((v=0/\∀j,j<k->Ao (tx ts j).code=true)\/(v=7/\∃j,j<k/\Ao (tx ts j).code=false))/\Hd (Kp w (J sa ss.length c1) (J ta ts.length c2) wr)) (λ_ i _=>ts.length-(intOf i).toNat)
              case atStart=>exact⟨0,0,Nat.zero_le _,rfl,rfl,(Or.inl ⟨rfl,λj hj=>qb⟩:((0:Int)=0/\∀j,j<0->Ao (tx ts j).code=true)\/((0:Int)=7/\∃j,j<0/\Ao (tx ts j).code=false)),HK.o⟩
              case round=>
               clear HK am k0 k1;obtain⟨k7,v7,hk7,rfl,rfl,HA,HK⟩:=hrel;obtain⟨am,k0,k1⟩:=HK.o
               by_cases aj:k7<ts.length
               ·obtain⟨b,off,rfl,d1,x,p,d2,d3⟩:=(RT.o.bl am) k7 aj;have iy:(k7:Int)<(ts.length:Int):=qb;have B5:=L3.o k7 aj;have hxk:=XT.o k7;obtain⟨i,ei⟩:=Aj ((tx ts k7).code);have EI:Hd ((tx ts k7).code=i):=ei;rw[ei]at d2 d3 B5 hxk;clear ei d1;obtain⟨v,hv⟩:=Aj (Ao i);have HV:Hd (Ao i=v):=hv;(have HN:Hd (Calls prog 49 #[G #[J x i.length p]] wr λe w'=>Bw wr w'/\e=H (F v)):=by rw[<- hv];exact Ip x p i wr d3 B5 hxk);clear hv d3 hxk;cases v
                ·go_wp2_with (go_at_call 49;refine HN.o.mono ?_;rintro e w1 ⟨af,rfl⟩)
                 go_roundw
                 case rel=>exact⟨k7+1,7,qb,rfl,qj,Or.inr ⟨rfl,k7,qb,by rw[EI.o];exact HV.o⟩,HK.o.bl af⟩
                 case measure=>simp[intOf];omega
                ·go_wp2_with (go_at_call 49;refine HN.o.mono ?_;rintro e w1 ⟨af,rfl⟩)
                 go_roundw
                 case rel=>exact⟨k7+1,v7,qb,rfl,qj,acts_step HA.o (by rw[EI.o];exact HV.o),HK.o.bl af⟩
                 case measure=>simp[intOf];omega
               ·have HC:Hd (Gu ss ts=v7):=acts_end nj.o H2.o H3.o H4.o H5.o H6.o qb HA.o;clear HA;go_wp2;go_ret;exact⟨am,qad⟩
theorem sto_cp(h:Hx n T R):T.length<=1048576/\R.length<=2000/\∀i,i<R.length→1≤(qx R i).code.length∧(qx R i).code.length≤1048576∧(qx R i).looks.length≤1048576:=
 ⟨by have:=h.1.1;omega,h.2.1,λi hi=>by obtain⟨a,_,b,_⟩:=h.2.2 i hi;have:=Eb a;omega⟩
theorem copy_own{tx:Z}{V:E}(hs:Ev V B tx qv T R)(ho:Hx n T R):Calls prog 26 #[G #[I n,tx,qv]] V λe w'=>Bw V w'/\∃g p qa qc,e=H (G #[I n,J (p_ g) T.length p,J qa R.length qc])/\Ev w' V.heap.size (J (p_ g) T.length p) (J qa R.length qc) T R:=by
 obtain⟨g,p,rfl⟩:=hs.txa;obtain⟨qa,qc,e⟩:∃a cap,qv=J a R.length cap:=by obtain⟨ys,cv,lv,r⟩:=hs.rcs;exact Ax r.row
 subst e;have h3:=sto_cp ho
 have cw:Ca V (p_ g) T:=by
  obtain⟨a,cap,q,r⟩:=De.sl (w:=V) (lo:=B) (hi:=V.heap.size) (ts:=T) ⟨hs.txt,λb q=>(hs.txt.lt b q).2⟩;cases q;exact r
 refine(Lu n g 0 p qa qc T R V cw (hs.rcs.rowW (λi hi=>(h3.2.2 i hi).1)) h3.1 (zo h3.2.1) (λi hi=>(h3.2.2 i hi).2)).mono ?_;rintro e w' ⟨a1,g1,p1,v2,rfl,a2,a3⟩;have hr:=a3.recO;obtain⟨qa,qc,e⟩:∃a cap,v2=J a R.length cap:=by obtain⟨ys,cv,lv,r⟩:=hr;exact Ax r.row
 subst e;exact⟨a1,_,_,_,_,rfl,a2.own,⟨g1,p1,rfl⟩,hr⟩
def Pj(B n:X)(ss:L S2)(ts:L T2)(T:L By)(R:L T3)(nm:By)(e:Ending)(w':E):Prop:=
 ∃ms' s' a,Ba ss ts n [] ⟨T,R,[],[]⟩ [] (.make nm) ms' s' a/\
  ((∃d tx qv nv ev,a=.ok d/\e=H (G #[I d.c,S d.t,nS,I n,tx,qv,nv,ev,ze,ze])/\Ev w' B tx qv s'.T s'.R/\w'.ownsRow B 9 1 nv s'.ran.length (Av s'.ran)/\w'.ownsRow B 9 1 ev s'.held.length (Av s'.held))\/
   (∃b x y cv tx qv A B',a=.bad b/\Oh B w' b [x,y,cv,I 0,nS,nS,nS,nS,A,B']/\e=H (G #[x,y,cv,I n,tx,qv,nS,nS,A,B'])/\Ev w' B tx qv T R))
theorem Gf{j:X}{pre ee:L Z}{v:Z}(dy:pre.length=10)(hk:w.heap[h]?=M (O ((pre++ee).toArray) 105 (0,0)))(hj:ee[j]?=M v):w.cell? ⟨h,10+j,N⟩=M v:=by
 rw[cH hk,List.getElem?_toArray,List.getElem?_append_right qb,dy,Nat.add_sub_cancel_left];exact hj
def EndG(B h n:X)(w4:E)(P:Ending->E->Prop):Prop:=∃(xc:Int)(yt:By)(ca:Option Addr)(cn cc g p:X)(qa:Option Addr)(qc:X)(na:Option Addr)(nl nc:X)(ea:Option Addr)(el ec:X)(At Bt:By)(T':L By)(R':L T3)(pre:L Z),
 pre.length=10/\w4.heap[h]?=M (O ((pre++([I xc,S yt,J ca cn cc,I n,J (p_ g) T'.length p,J qa R'.length qc,J na nl nc,J ea el ec,S At,S Bt]:L Z)).toArray) 105 (0,0))/\Ev w4 B (J (p_ g) T'.length p) (J qa R'.length qc) T' R'/\Hx n T' R'/\
 ∀(w':E)(tx qv:Z),Bw w4 w'->Ev w' B tx qv T' R'->P (H (G #[I xc,S yt,J ca cn cc,I n,tx,qv,J na nl nc,J ea el ec,S At,S Bt])) w'
theorem Pj.gen{w4:E}(hv:SpV ss ts)(fw:Hx n T R)(de:Ar nm)(S8:WorkE B h n ss ts T R nm w4):EndG B h n w4 (Pj B n ss ts T R nm):=by
 obtain⟨ms',s',a,bu,pre,ee,dy,hk,⟨d,tx,qv,nv,ev,rfl,rfl,hs,hn,he,_,_⟩|⟨b,x,y,cv,tx,qv,A,B',rfl,he,rfl,hs,_⟩⟩:=S8
 ·obtain⟨g,p,e1⟩:=hs.txa
  subst e1;(obtain⟨qa,qc,e2⟩:∃a cap,qv=J a s'.R.length cap:=by obtain⟨ys,cv,lv,r⟩:=hs.rcs;exact Ax r.row);subst e2;obtain⟨na,nc,e3⟩:=Ax hn;subst e3;obtain⟨ea,ec,e4⟩:=Ax he;subst e4;obtain⟨_,i2,_,_⟩:=Ba.inv hv bu (Fy.nil ss ts) fw de (λb q=>qw);exact⟨_,_,_,_,_,g,p,qa,qc,na,_,nc,ea,_,ec,_,_,s'.T,s'.R,pre,dy,hk,hs,i2,λw' tx qv hb h2=>⟨ms',s',_,bu,Or.inl ⟨d,tx,qv,_,_,rfl,rfl,h2,Ac hn hb,Ac he hb⟩⟩⟩
 ·obtain⟨g,p,e1⟩:=hs.txa
  subst e1;(obtain⟨qa,qc,e2⟩:∃a cap,qv=J a R.length cap:=by obtain⟨ys,cv,lv,r⟩:=hs.rcs;exact Ax r.row);subst e2
  have heb:∀w',Bw w4 w'->Oh B w' b [x,y,cv,I 0,nS,nS,nS,nS,A,B']:=λw' hb=>by
   cases b with
   | circle ch=>obtain⟨cv,a,b⟩:=he;exact⟨cv,Ac a hb,b⟩
   | deep nm=>exact he
   | clash A B=>exact he
   | full=>exact he
  have hform:∃xc yt ca cn cc At Bt,x=I xc/\y=S yt/\cv=J ca cn cc/\A=S At/\B'=S Bt:=by
   cases b with
   | circle ch=>
     obtain⟨cv2,k,q⟩:=he;obtain⟨ca,cc,e3⟩:=Ax k;simp only[List.cons.injEq]at q;obtain⟨q1,q2,q3,_,_,_,_,_,q4,q5,_⟩:=q;exact⟨_,_,ca,_,cc,_,_,q1,q2,q3.trans e3,q4,q5⟩
   | deep nm=>have q:_=_:=he;simp only[List.cons.injEq]at q;obtain⟨q1,q2,q3,_,_,_,_,_,q4,q5,_⟩:=q;exact⟨_,_,_,_,_,_,_,q1,q2,q3,q4,q5⟩
   | clash A B=>have q:_=_:=he;simp only[List.cons.injEq]at q;obtain⟨q1,q2,q3,_,_,_,_,_,q4,q5,_⟩:=q;exact⟨_,_,_,_,_,_,_,q1,q2,q3,q4,q5⟩
   | full=>have q:_=_:=he;simp only[List.cons.injEq]at q;obtain⟨q1,q2,q3,_,_,_,_,_,q4,q5,_⟩:=q;exact⟨_,_,_,_,_,_,_,q1,q2,q3,q4,q5⟩
  obtain⟨xc,yt,ca,cn,cc,At,Bt,rfl,rfl,rfl,rfl,rfl⟩:=hform;exact⟨xc,yt,ca,cn,cc,g,p,qa,qc,N,0,0,N,0,0,At,Bt,T,R,pre,dy,hk,hs,fw,λw' tx qv hb h2=>⟨ms',s',_,bu,Or.inr ⟨b,_,_,_,tx,qv,_,_,rfl,heb w' hb,rfl,h2⟩⟩⟩
theorem Cf{e sz U:X}{u:Z}{xs:L Z}(ho:w.ownsRow B e sz u n xs)(hh:∀x∈l,x.1=h)(hk:w.heap[h]?=M (O cs U (0,0)))(he:U≠e):(Be w l).ownsRow B e sz u n xs:=Al ho λb q=>Es l w λx hx r=>Ae ho he hk (by rw[←hh x hx,←r];exact q)
theorem Ev.setU{tx:Z}(k:Ev w B tx qv T R)(hh:∀x∈l,x.1=h)(hk:w.heap[h]?=M (O cs 37 (0,0))):Ev (Go.Proofs.YtoakjccojifagaaGreatDoor.Be w l) B tx qv T R:=by
 obtain⟨xs,cv,lv,r⟩:=k.rcs;exact⟨Cf k.txt hh hk qd,k.txa,xs,cv,lv,Cf r.row hh hk qd,r.fil,λi hi=>by obtain⟨ys,a,b⟩:=r.code i hi;exact⟨ys,Cf a hh hk qd,b⟩,λi hi=>by obtain⟨ys,a,b⟩:=r.look i hi;exact⟨ys,Cf a hh hk qd,b⟩,r.apc,r.apl⟩
theorem Pj.setU{B0:X}{e:Ending}(k:Pj B n ss ts T R nm e w)(hB:B0<=B)(hh:∀x∈l,x.1=h)(hk:w.heap[h]?=M (O cs 37 (0,0))):Pj B0 n ss ts T R nm e (Be w l):=by
 obtain⟨ms',s',a,bu,⟨d,tx,qv,nv,ev,rfl,rfl,hs,hn,he⟩|⟨b,x,y,cv,tx,qv,A,B',rfl,he,rfl,hs⟩⟩:=k
 ·exact⟨ms',s',_,bu,Or.inl ⟨d,tx,qv,nv,ev,rfl,rfl,(hs.setU hh hk).base hB,Ah (Cf hn hh hk qd) hB,Ah (Cf he hh hk qd) hB⟩⟩
 ·refine⟨ms',s',_,bu,Or.inr ⟨b,x,y,cv,tx,qv,A,B',rfl,?_,rfl,(hs.setU hh hk).base hB⟩⟩
  cases b with
  | circle ch=>obtain⟨cv,a,b⟩:=he;exact⟨cv,Ah (Cf a hh hk qd) hB,b⟩
  | deep nm=>exact he
  | clash A B=>exact he
  | full=>exact he
theorem We(n tb:X)(qa sa ta:Option Addr)(tc qc c1 c2:X)(T:L By)(R:L T3)(ss:L S2)(ts:L T2)(nm:By)(w:E)(hw:Il n T R)(H0:Gu ss ts=0)(de:Ar nm)(cw:Mc w (p_ tb) T qa R)(hrp:Rl w qa R)(wb:Lm w sa ss ta ts)(ly:Ew ss ts):Calls prog 27 #[G #[I n,J (p_ tb) T.length tc,J qa R.length qc],G #[J sa ss.length c1,J ta ts.length c2],S nm] w λe w'=>Bw w w'/\Pj w.heap.size n ss ts T R nm e w':=by
 have h1:1<=n:=zo hw.1;have h8:n<=8:=zo hw.2.1;have hok0:Hx n T R:=by have:=hw.2.2;simpa using this
 have oh:=Ad hok0;clear hok0;obtain⟨W,eW⟩:=Aj (((w.alloc (O #[I n,J (p_ tb) T.length tc,J qa R.length qc] 35)).alloc (O #[J sa ss.length c1,J ta ts.length c2] 43)).alloc (O #[I 0,ze,nS,I 0,nS,nS,nS,nS,ze,ze] 37));have HW:Hd (Bw w W):=by show Below _ _ _;rw[←eW];exact((aN _ _).alloc qg _).alloc qh _
 obtain⟨Q,eQ⟩:=Aj w.heap.size;have HQ:Hd (W.heap[Q]?=M (O #[I n,J (p_ tb) T.length tc,J qa R.length qc] 35 (0,0))):=by show _=_;rw[←eW,←eQ];exact Sl (Sl (Hj _ _))
 have HP:Hd (W.heap[Q+1]?=M (O #[J sa ss.length c1,J ta ts.length c2] 43 (0,0))):=by
  show _=_;rw[←eW,←eQ];exact qir
 have HZ:Hd (W.heap[Q+1+1]?=M (O #[I 0,ze,nS,I 0,nS,nS,nS,nS,ze,ze] 37 (0,0))):=by
  show _=_;rw[←eW,←eQ];have:=Hj ((w.alloc (O #[I n,J (p_ tb) T.length tc,J qa R.length qc] 35)).alloc (O #[J sa ss.length c1,J ta ts.length c2] 43)) (O #[I 0,ze,nS,I 0,nS,nS,nS,nS,ze,ze] 37);exact qjh
 have Z2:=Ad hw;have HCH:=Ad H0;have sf:=Ad de;have fc:=Ad cw;have HRP:=Ad hrp;have HSP:=Ad wb;have ft:=Ad ly;clear hw H0 de cw hrp wb ly;obtain⟨q0,q1,q2⟩:=Bb HQ.o;obtain⟨p0,p1⟩:=Ft HP.o;go_enter func27,ntmps27;go_wp2_with fail
 try rw[eQ]
 clear eW q0 q1 q2;refine(Gr n _ _ _ _ T R W (fc.o.bl HW.o)).mono ?_;rintro e w1 ⟨af,b,rfl,U0⟩;obtain rfl:b=true:=U0.2 Z2.o;clear U0;replace HQ:=Ad (Af HQ.o af);replace HP:=Ad (Af HP.o af);replace HZ:=Ad (Af HZ.o af);replace HW:=Ad (bt HW.o af);clear af;clear p0 p1;obtain⟨p0,p1⟩:=Ft HP.o;go_wp2_with fail;clear p0 p1;refine(Kw sa ta c1 c2 ss ts w1 (HSP.o.bl HW.o) ft.o).mono ?_;rintro e w2 ⟨ag,rfl⟩;rw[HCH.o];replace HQ:=Ad (Af HQ.o ag);replace HP:=Ad (Af HP.o ag);replace HZ:=Ad (Af HZ.o ag);replace HW:=Ad (bt HW.o ag);clear ag;go_wp2_with fail;refine(Cd nm w2 (zo sf.o.2.1)).mono ?_;rintro e w3 ⟨rfl,rfl⟩;rw[Db sf.o];obtain⟨q0,q1,q2⟩:=Bb HQ.o;obtain⟨p0,p1⟩:=Ft HP.o;go_wp2_with fail;clear q0 q1 q2 p0 p1;refine(l5Work_any sa ta qa c1 c2 n tb tc qc ss ts T R nm w2 (Rf (HSP.o.bl HW.o) HCH.o) h1 h8 (fc.o.st.bl HW.o) (HRP.o.bl HW.o) oh.o sf.o (sto_cp oh.o)).mono ?_;rintro e w4 ⟨ce,h,hh,rfl,S8⟩;have h24:w.heap.size<=w2.heap.size:=HW.o.size;have h24w:w2.heap.size<=w4.heap.size:=ce.size;replace HQ:=Ad (Af HQ.o ce);replace HP:=Ad (Af HP.o ce);replace HZ:=Ad (Af HZ.o ce);replace HW:=Ad (bt HW.o ce);clear ce;have HW4:=HW;have hZlt:Q+1+1<w4.heap.size:=Ag HZ.o;obtain⟨xc,yt,ca,cn,cc,g,p,qa2,qc2,na,nl,nc,ea,el,ec,At,Bt,T',R',pre,dy,hk,hs,ho,hfin⟩:=Pj.gen (Rf HSP.o HCH.o).v oh.o sf.o S8;have k10:w4.cell? ⟨h,10,N⟩=M (I xc):=Gf (j:=0) dy hk rfl;have S6:w4.cell? ⟨h,11,N⟩=M (S yt):=Gf (j:=1) dy hk rfl;have S5:w4.cell? ⟨h,12,N⟩=M (J ca cn cc):=Gf (j:=2) dy hk rfl;have k13:w4.cell? ⟨h,13,N⟩=M (I n):=Gf (j:=3) dy hk rfl;have k14:w4.cell? ⟨h,14,N⟩=M ((J (p_ g) T'.length p)):=Gf (j:=4) dy hk rfl;have k15:w4.cell? ⟨h,15,N⟩=M ((J qa2 R'.length qc2)):=Gf (j:=5) dy hk rfl;have k16:w4.cell? ⟨h,16,N⟩=M (J na nl nc):=Gf (j:=6) dy hk rfl;have k17:w4.cell? ⟨h,17,N⟩=M (J ea el ec):=Gf (j:=7) dy hk rfl;have k18:w4.cell? ⟨h,18,N⟩=M (S At):=Gf (j:=8) dy hk rfl;have k19:w4.cell? ⟨h,19,N⟩=M (S Bt):=Gf (j:=9) dy hk rfl;have HS:=Ad hs;have HO:=Ad ho;have HFIN:=Ad hfin;clear hs ho hfin S8 hk dy
 go_upto_region 4 with fail
 clear k10 S6 S5 k13 k14 k15 k16 k17 k18 k19;obtain⟨RR,eRR⟩:=Aj w4.heap.size;obtain⟨w6,e6⟩:=Aj (w4.alloc (O #[I xc,S yt,J ca cn cc,I n,J (p_ g) T'.length p,J qa2 R'.length qc2,J na nl nc,J ea el ec,S At,S Bt] 37));have bz:Bw w4 w6:=qaw;have jo:Hd (w6.heap[RR]?=M (O #[I xc,S yt,J ca cn cc,I n,J (p_ g) T'.length p,J qa2 R'.length qc2,J na nl nc,J ea el ec,S At,S Bt] 37 (0,0))):=qcs;rw[e6]
 try rw[eRR]
 clear e6;have uk:=Ad bz;replace HS:=Ad (HS.o.bl bz);replace HZ:=Ad (Af HZ.o bz);clear bz HQ HP;obtain⟨-,-,-,k3,k4,k5⟩:=Xw jo.o;go_wp2_with fail;clear k3 k4 k5;refine(copy_own HS.o HO.o).mono ?_;rintro e w7 ⟨cj,g7,p7,qa7,qc7,rfl,hs7⟩;have N6:=Ad (bt uk.o cj);replace jo:=Ad (Af jo.o cj);replace HZ:=Ad (Af HZ.o cj);have h26:w2.heap.size<=w6.heap.size:=Nat.le_trans h24w uk.o.size;have A1:=Ad (hs7.base h26);clear hs7 cj;obtain⟨k0,k1,k2,k3,k4,k5,k6,k7,k8,k9⟩:=Dz jo.o;have kf:=fZ jo.o
 go_upto_region 5 with fail
 obtain⟨l,el⟩:∃l:L (X×X×Z),l=[(RR,3,I n),(RR,4,J (p_ g7) T'.length p7),(RR,5,J qa7 R'.length qc7)]:=⟨_,rfl⟩;have bi:∀x∈l,x.1=RR:=qy;have be:=Cl l w7 _ bi jo.o;have cr:Bw w4 (Be w7 l):=Az l w7 N6.o (λx hx=>qz);have hVS:=A1.o.setU bi jo.o;have hVZ:(Be w7 l).heap[Q+1+1]?=M (O #[I 0,ze,nS,I 0,nS,nS,nS,nS,ze,ze] 37 (0,0)):=(Es l w7 (λx hx q=>by rw[bi x hx]at q;omega)).trans HZ.o;obtain⟨A,eA⟩:=Aj (Be w7 l);rw[eA]at be cr hVS hVZ;rw[el]at be eA;simp only[Be,List.foldl]at eA;rw[eA];simp only[List.foldl,List.setIfInBounds_toArray,List.set_cons_zero,List.set_cons_succ]at be;have HBR:=Ad (HFIN.o A _ _ cr hVS);have HA:=Ad be;have V0:=Ad hVZ;have HWA:=Ad (HW4.o.trans (cr.mono HW4.o.size));clear be cr hVS hVZ eA el bi kf k0 k1 k2 k3 k4 k5 k6 k7 k8 k9;have k0:=cK HA.o 0;have z0:=cK V0.o 0;have k1:=cK HA.o 1;have z1:=cK V0.o 1;have k2:=cK HA.o 2;have z2:=cK V0.o 2;have k3:=cK HA.o 3;have z3:=cK V0.o 3;have k4:=cK HA.o 4;have z4:=cK V0.o 4;have k5:=cK HA.o 5;have z5:=cK V0.o 5;have k6:=cK HA.o 6;have z6:=cK V0.o 6;have k7:=cK HA.o 7;have z7:=cK V0.o 7;have k8:=cK HA.o 8;have z8:=cK V0.o 8;have k9:=cK HA.o 9;have z9:=cK V0.o 9;have kf:=fZ V0.o;obtain⟨l,el⟩:∃l:L (X×X×Z),l=[(Q+1+1,0,I xc),(Q+1+1,1,S yt),(Q+1+1,2,J ca cn cc),(Q+1+1,3,I n),(Q+1+1,4,(J (p_ g7) T'.length p7)),(Q+1+1,5,(J qa7 R'.length qc7)),(Q+1+1,6,J na nl nc),(Q+1+1,7,J ea el ec),(Q+1+1,8,S At),(Q+1+1,9,S Bt)]:=⟨_,rfl⟩;have bi:∀x∈l,x.1=Q+1+1:=qy;have be:=Cl l A _ bi V0.o;have Y7:=HBR.o.setU (show w.heap.size<=w2.heap.size from h24) bi V0.o;have cr:Bw w (Be A l):=Az l A HWA.o (λx hx=>qz);obtain⟨V,eV⟩:=Aj (Be A l);rw[eV]at be Y7 cr;rw[el]at be eV;simp only[Be,List.foldl]at eV;simp only[List.foldl,List.setIfInBounds_toArray,List.set_cons_zero,List.set_cons_succ]at be;have HV:=Ad be;have HBR2:=Ad Y7;have jz:=Ad cr;clear be Y7 cr el bi;go_wp2_with fail
 try rw[eV]
 obtain⟨y0,y1,y2,y3,y4,y5,y6,y7,y8,y9⟩:=Dz HV.o;exact bR (v:=G #[I xc,S yt,J ca cn cc,I n,(J (p_ g7) T'.length p7),(J qa7 R'.length qc7),J na nl nc,J ea el ec,S At,S Bt]) qgh rfl (by first|exact⟨jz.o,HBR2.o⟩|(rw[←eQ];exact⟨jz.o,HBR2.o⟩))
theorem Fx.setU(k:Fx w B qv R)(hh:∀x∈l,x.1=h)(hk:w.heap[h]?=M (O cs 37 (0,0))):Fx (Go.Proofs.YtoakjccojifagaaGreatDoor.Be w l) B qv R:=by
 obtain⟨xs,cv,lv,r⟩:=k;exact⟨xs,cv,lv,Cf r.row hh hk qd,r.fil,λi hi=>by obtain⟨ys,a,b⟩:=r.code i hi;exact⟨ys,Cf a hh hk qd,b⟩,λi hi=>by obtain⟨ys,a,b⟩:=r.look i hi;exact⟨ys,Cf a hh hk qd,b⟩,r.apc,r.apl⟩
theorem Pu(n:Int)(b off tc:X)(ra:Option Addr)(rc:X)(ts:L By)(rs:L T3)(w:E)(hT:Kk w)(h:Mc w (M ⟨b,off,N⟩) ts ra rs)(rp:Rk w ra rs)(hr:rs.length≤1048576)(km:∀i,i<rs.length→(qx rs i).code.length≤1048576∧(qx rs i).looks.length≤1048576):Calls prog 55 #[G #[I n,J (M ⟨b,off,N⟩) ts.length tc,J ra rs.length rc]] w λe w'=>Bw w w'∧((¬ Il n ts rs∧e=H (Y #[.pointer N,F false]))∨(Il n ts rs∧∃g g1 p1 sv qv,e=H (Y #[.pointer (p_ g),F true])∧w.heap.size≤g∧ShO w' g w.heap.size w'.heap.size n.toNat sv (J (p_ g1) ts.length p1) qv ts rs)):=by
 have ak:Bw w (w.alloc (O #[I n,J (M ⟨b,off,N⟩) ts.length tc,J ra rs.length rc] 35)):=aN _ _;have k0:(w.alloc (O #[I n,J (M ⟨b,off,N⟩) ts.length tc,J ra rs.length rc] 35)).cell? ⟨w.heap.size,0,N⟩=M (I n):=qk;have k1:(w.alloc (O #[I n,J (M ⟨b,off,N⟩) ts.length tc,J ra rs.length rc] 35)).cell? ⟨w.heap.size,1,N⟩=M (J (M ⟨b,off,N⟩) ts.length tc):=qk;have k2:(w.alloc (O #[I n,J (M ⟨b,off,N⟩) ts.length tc,J ra rs.length rc] 35)).cell? ⟨w.heap.size,2,N⟩=M (J ra rs.length rc):=qk;have HI:Hd (Mc w (M ⟨b,off,N⟩) ts ra rs):=h;have HRP:Hd (Rk w ra rs):=rp;have Eq:=h.lt;have HT:Hd (Kk w):=hT;have HKK:=Ad km;clear h hT rp km;go_enter func55,ntmps55;go_wp2_with fail;refine(Wf n _ ra tc rc ts rs _ (HT.o.bl ak) (HI.o.bl ak)).mono ?_;rintro e w1 ⟨af,⟨hw,v,rfl⟩|⟨hw,g,sg,rfl,di,_,Y4,how⟩⟩
 ·have HW:Hd (¬ Il n ts rs):=hw
  have bj:=bt ak af;clear hw af ak;go_wp2_with fail;exact bR (results_tmp2 rfl _ _ _) rfl ⟨bj,Or.inl ⟨HW.o,rfl⟩⟩
 ·obtain⟨m,rfl⟩:=Int.eq_ofNat_of_zero_le (show 0≤n by have:=hw.1;omega)
  have HW:Hd (Il m ts rs):=hw;have bj:=bt ak af;have c0:=Aa af k0;have c1:=Aa af k1;have c2:=Aa af k2;have hge':w.heap.size≤g:=Nat.le_trans ak.size Y4;have M1:Hd (w1.heap[g]?=M (O #[I (m:Int),J (M ⟨b,off,N⟩) ts.length tc,J ra rs.length rc,J (p_ sg) ts.length ts.length] 124 (0,0))):=di
  have M6:Hd (De w1 w.heap.size w1.heap.size (J (p_ sg) ts.length ts.length) (ts.map (Aq m))):=by
   have h:=Bh.new (Ah how ak.size);unfold De;rw[List.length_map];exact h
  have HCY:Hd (∀_:Unit,Calls prog 57 #[G #[I (m:Int),J (M ⟨b,off,N⟩) ts.length tc,J ra rs.length rc]] w1 λe w'=>Bw w1 w'∧∃g1 p1 v2,e=H (G #[I (m:Int),J (p_ g1) ts.length p1,v2])∧De w' w1.heap.size w'.heap.size (J (p_ g1) ts.length p1) ts∧Ht w' w1.heap.size w'.heap.size v2 rs):=λ_=>Kf m b off tc ra rc ts rs w1 (HI.o.st.bl bj) (HRP.o.bl bj) Eq hr HKK.o;have fm:w.heap.size≤w1.heap.size:=bj.size;clear hw di how ak af k0 k1 k2 Y4;go_wp2_with fail;refine(HCY.o ()).mono ?_;rintro e w2 ⟨ag,g1,p1,v2,rfl,o1,o2⟩;obtain⟨a2,p2,rfl,_⟩:=o2.sl;have kg:=Af M1.o ag;have HKG:Hd (w2.heap[g]?=M (O #[I (m:Int),J (M ⟨b,off,N⟩) ts.length tc,J ra rs.length rc,J (p_ sg) ts.length ts.length] 124 (0,0))):=kg;have ht:Dn w2 g 124:=⟨_,kg⟩;have ik:w1.heap.size≤w2.heap.size:=ag.size;have bg:=bt bj ag;have oe:Hd (De w2 w.heap.size w2.heap.size (J (p_ sg) ts.length ts.length) (ts.map (Aq m))):=(M6.o.bl ag).wide (Nat.le_refl _) ik;have pq:Hd (De w2 w.heap.size w2.heap.size (J (p_ g1) ts.length p1) ts):=o1.wide fm (Nat.le_refl _);have HQX:Hd (Ht w2 w.heap.size w2.heap.size (J a2 rs.length p2) rs):=o2.wide fm (Nat.le_refl _)
  have X0:Hd (∀b,(Value.slice (p_ sg) ts.length ts.length).ownBlock=M b→(Value.slice (p_ g1) ts.length p1).ownBlock≠M b):=λb e e'=>by
   have h1:=M6.o.top b e;have h2:=((Bh.own o1).lt b e').1;omega
  obtain⟨q0,q1,q2,q3,qf⟩:=Kh kg;have R8:Hd (Dn w2 g 124):=ht;clear o1 o2 kg ht ag c0 c1 c2 HCY;go_wp2_with fail;refine bR (results_tmp2 rfl _ _ _) rfl ?_;refine⟨below_set3P bg hge' _ _ _,Or.inr ⟨HW.o,g,g1,p1,J (p_ sg) ts.length ts.length,J a2 rs.length p2,rfl,hge',?_⟩⟩;have cz:(((w2.setCell ⟨g,0,N⟩ (I (m:Int))).setCell ⟨g,1,N⟩ (J (p_ g1) ts.length p1)).setCell ⟨g,2,N⟩ (J a2 rs.length p2)).heap.size=w2.heap.size:=qg;exact⟨blk4_set3 HKG.o _ _ _,by rw[cz];exact((oe.o.setT R8.o qd _).setT (R8.o.set _) qd _).setT ((R8.o.set _).set _) qd _,by rw[cz];exact((pq.o.setT R8.o qd _).setT (R8.o.set _) qd _).setT ((R8.o.set _).set _) qd _,by rw[cz];exact((HQX.o.setT R8.o qd qd qd _).setT (R8.o.set _) qd qd qd _).setT ((R8.o.set _).set _) qd qd qd _,X0.o⟩
abbrev Qo:Array Z:=#[I 0,ze,nS,I 0,nS,nS,nS,nS,ze,ze]
def BuildN(B:X)(n:Int)(T:L By)(R:L T3)(v:Z)(w':E):Prop:=
 ∃tx qv,v=G #[I 9,ze,nS,I n,tx,qv,nS,nS,ze,ze]/\Ev w' B tx qv T R
theorem allA_no(n:Int)(tb tf tc m nc:X)(na:Option Addr)(hm9:m≤9223372036854775807)(qa sa ta:Option Addr)(qc c1 c2:X)(T:L By)(R:L T3)(ss:L S2)(ts:L T2)(w:E)(hT:Kk w)(cw:Mc w (M ⟨tb,tf,N⟩) T qa R)(hrz:Rk w qa R)(hr:R.length≤1048576)(km:∀i,i<R.length→(qx R i).code.length≤1048576∧(qx R i).looks.length≤1048576)(wb:Lm w sa ss ta ts)(ly:Ew ss ts)(im:¬ (Il n T R/\Gu ss ts=0/\m≤200)):Calls prog 31 #[G #[I n,J (M ⟨tb,tf,N⟩) T.length tc,J qa R.length qc],G #[J sa ss.length c1,J ta ts.length c2],J na m nc] w λe w'=>Bw w w'/\∃v u,e=H (Y #[v,u])/\BuildN w.heap.size n T R v w':=by
 obtain⟨W,eW⟩:=Aj (((w.alloc (O #[I n,J (M ⟨tb,tf,N⟩) T.length tc,J qa R.length qc] 35)).alloc (O #[J sa ss.length c1,J ta ts.length c2] 43)).alloc (O Qo 37));have bq:Bw w W:=qcn;have HQ:Hd (W.heap[w.heap.size]?=M (O #[I n,J (M ⟨tb,tf,N⟩) T.length tc,J qa R.length qc] 35 (0,0))):=qcr
 have HP:Hd (W.heap[w.heap.size+1]?=M (O #[J sa ss.length c1,J ta ts.length c2] 43 (0,0))):=by
  exact qdh
 have HZ:Hd (W.heap[w.heap.size+1+1]?=M (O Qo 37 (0,0))):=by
  exact qdg
 have oo:=Ad bq;have M1:=Ad (Pu n tb tf tc qa qc T R W (hT.bl bq) (cw.bl bq) (hrz.bl bq) hr km);have xq:=Ad (λ(V:E) (hV:Bw w V)=>Kf n tb tf tc qa qc T R V (cw.st.bl hV) (hrz.bl hV) cw.lt hr km);have I5:=Ad (λ(V:E) (hV:Bw w V)=>Ov sa ta c1 c2 ss ts V (hT.bl hV) (wb.bl hV) ly);obtain⟨q0,q1,q2,qf⟩:=Dx HQ.o;clear hT cw hrz hr km wb ly bq;go_enter func31,ntmps31;go_wp2_with fail;clear eW;refine M1.o.mono ?_;rintro e w1 ⟨af,⟨hw,rfl⟩|⟨hw,g,g1,p1,sv,qv,rfl,hg,di⟩⟩
 ·have ki:=Ad (Ab af HQ.o)
  have o8:=Ad (Ab af HZ.o);have d7:=Ad (bt oo.o af);obtain⟨x0,x1,x2,xf⟩:=Dx ki.o;clear af hw q0 q1 q2 qf HQ HP HZ M1 I5 im;go_wp2_with fail;clear x0 x1 x2 xf;refine(xq.o w1 d7.o).mono ?_;rintro e w2 ⟨ag,g1,p1,v2,rfl,o1,o2⟩;obtain⟨a2,p2,rfl,_⟩:=o2.sl;have mu:=Ad (Ab ag o8.o);have fj:=Ad (bt d7.o ag);have cu:=Ad (show Ev w2 w.heap.size (J (p_ g1) T.length p1) (J a2 R.length p2) T R from ⟨Ah o1.own (zo d7.o.size),⟨g1,p1,rfl⟩,o2.recO.base (zo d7.o.size)⟩);clear ag o1 o2 d7 o8 ki;obtain⟨ye,yd,yb,xz,xy,xx,xw,xv,xu,xr⟩:=Dz mu.o;have zcf:=fZ mu.o;obtain⟨l,el⟩:∃l:L (X×X×Z),l=[((w.heap.size+1+1),0,I 9),((w.heap.size+1+1),1,ze),((w.heap.size+1+1),2,nS),((w.heap.size+1+1),3,I n),((w.heap.size+1+1),4,J (p_ g1) T.length p1),((w.heap.size+1+1),5,J a2 R.length p2),((w.heap.size+1+1),6,nS),((w.heap.size+1+1),7,nS),((w.heap.size+1+1),8,ze),((w.heap.size+1+1),9,ze)]:=⟨_,rfl⟩;have bi:∀x∈l,x.1=(w.heap.size+1+1):=qy;have be:=Cl l w2 _ bi mu.o;have hS:=cu.o.setU bi mu.o;have cr:Bw w (Be w2 l):=Az l w2 fj.o (λx hx=>qz);obtain⟨V,eV⟩:=Aj (Be w2 l);rw[eV]at be cr hS;rw[el]at be eV;simp only[Be,List.foldl]at eV;simp only[List.foldl,List.setIfInBounds_toArray,List.set_cons_zero,List.set_cons_succ]at be;have HV:=Ad be;have jz:=Ad cr;have ew:=Ad hS;clear be cr el bi hS;go_wp2_with fail
  try rw[eV]
  obtain⟨y0,y1,y2,y3,y4,y5,y6,y7,y8,y9⟩:=Dz HV.o;exact bR (v:=Y #[G #[I 9,ze,nS,I n,J (p_ g1) T.length p1,J a2 R.length p2,nS,nS,ze,ze],nS]) qco rfl (⟨jz.o,_,_,rfl,_,_,rfl,ew.o⟩)
 ·have ki:=Ad (Ab af HQ.o)
  have jp:=Ad (Ab af HP.o);have o8:=Ad (Ab af HZ.o);have d7:=Ad (bt oo.o af);obtain⟨x0,x1⟩:=Ft jp.o
  by_cases hc:Gu ss ts=0
  ·skip
   have HC:=Ad (I5.o w1 d7.o);rw[hc]at HC;(have rm:200<m:=by apply Classical.byContradiction;intro q;exact im ⟨hw,hc,qb⟩);have D9:((m:Int) > 200)=True:=qh;clear hc;clear af hw q0 q1 q2 qf HQ HP HZ M1 I5 im di hg;go_wp2_with fail;clear x0 x1;refine HC.o.mono ?_;rintro e w1b ⟨zx,rfl⟩;replace ki:=Ad (Ab zx ki.o);replace o8:=Ad (Ab zx o8.o);replace d7:=Ad (bt d7.o zx);clear zx jp HC;obtain⟨x0,x1,x2,xf⟩:=Dx ki.o;exact qhp
  ·skip
   have HC:=Ad (I5.o w1 d7.o);generalize Gu ss ts=ck at *;clear af hw q0 q1 q2 qf HQ HP HZ M1 I5 im di hg;go_wp2_with fail;clear x0 x1;refine HC.o.mono ?_;rintro e w1b ⟨zx,rfl⟩;replace ki:=Ad (Ab zx ki.o);replace o8:=Ad (Ab zx o8.o);replace d7:=Ad (bt d7.o zx);clear zx jp HC;obtain⟨x0,x1,x2,xf⟩:=Dx ki.o;have hcN:(ck != 0)=true:=qcd;exact qhp
theorem Yy(n:Int)(tb tf tc:X)(qa sa ta:Option Addr)(qc c1 c2:X)(T:L By)(R:L T3)(ss:L S2)(ts:L T2)(nm:By)(w:E)(cw:Mc w (M ⟨tb,tf,N⟩) T qa R)(yj:Rl w qa R)(hr:R.length≤1048576)(km:∀i,i<R.length→(qx R i).code.length≤1048576∧(qx R i).looks.length≤1048576)(wb:Lm w sa ss ta ts)(ly:Ew ss ts)(de:nm.size<=9223372036854775807)(im:¬ (Il n T R/\Gu ss ts=0/\Ar nm)):Calls prog 27 #[G #[I n,J (M ⟨tb,tf,N⟩) T.length tc,J qa R.length qc],G #[J sa ss.length c1,J ta ts.length c2],S nm] w λe w'=>Bw w w'/\∃v,e=H v/\BuildN w.heap.size n T R v w':=by
 obtain⟨W,eW⟩:=Aj (((w.alloc (O #[I n,J (M ⟨tb,tf,N⟩) T.length tc,J qa R.length qc] 35)).alloc (O #[J sa ss.length c1,J ta ts.length c2] 43)).alloc (O Qo 37));have bq:Bw w W:=qcn;have HQ:Hd (W.heap[w.heap.size]?=M (O #[I n,J (M ⟨tb,tf,N⟩) T.length tc,J qa R.length qc] 35 (0,0))):=qcr
 have HP:Hd (W.heap[w.heap.size+1]?=M (O #[J sa ss.length c1,J ta ts.length c2] 43 (0,0))):=by
  exact qdh
 have HZ:Hd (W.heap[w.heap.size+1+1]?=M (O Qo 37 (0,0))):=by
  exact qdg
 have oo:=Ad bq;obtain⟨q0,q1,q2,qf⟩:=Dx HQ.o;obtain⟨x0,x1⟩:=Ft HP.o;have HVS:=Ad (Gr n _ _ tc qc T R W (cw.bl bq));have I5:=Ad (λ(V:E) (hV:Bw w V)=>Kw sa ta c1 c2 ss ts V (wb.bl hV) ly);have xq:=Ad (λ(V:E) (hV:Bw w V)=>Lu n tb tf tc qa qc T R V (cw.st.bl hV) (yj.bl hV) cw.lt hr km);have jk:=Ad im;clear cw yj hr km wb ly bq im;go_enter func27,ntmps27;go_wp2_with fail;clear eW q0 q1 q2 qf x0 x1;refine HVS.o.mono ?_;clear HVS;rintro e w1 ⟨af,b,rfl,U0⟩;replace HQ:=Ad (Ab af HQ.o);replace HP:=Ad (Ab af HP.o);replace HZ:=Ad (Ab af HZ.o);have d7:=Ad (bt oo.o af);clear af oo;cases b
 ·clear U0 I5 jk
  obtain⟨x0,x1,x2,xf⟩:=Dx HQ.o;go_wp2_with fail;clear x0 x1 x2 xf;refine(xq.o w1 d7.o).mono ?_;rintro e w9 ⟨zw,g1,p1,v2,rfl,o1,o2⟩;obtain⟨a2,p2,rfl,_⟩:=o2.sl;have xh:=Ad (Ab zw HZ.o);have HB9:=Ad (bt d7.o zw);have xj:=Ad (show Ev w9 w.heap.size (J (p_ g1) T.length p1) (J a2 R.length p2) T R from ⟨Ah o1.own (zo d7.o.size),⟨g1,p1,rfl⟩,o2.recO.base (zo d7.o.size)⟩);clear zw o1 o2 HQ HP HZ xq d7;obtain⟨ye,yd,yb,xz,xy,xx,xw,xv,xu,xr⟩:=Dz xh.o;have zcf:=fZ xh.o;obtain⟨l,el⟩:∃l:L (X×X×Z),l=[((w.heap.size+1+1),0,I 9),((w.heap.size+1+1),1,ze),((w.heap.size+1+1),2,nS),((w.heap.size+1+1),3,I n),((w.heap.size+1+1),4,J (p_ g1) T.length p1),((w.heap.size+1+1),5,J a2 R.length p2),((w.heap.size+1+1),6,nS),((w.heap.size+1+1),7,nS),((w.heap.size+1+1),8,ze),((w.heap.size+1+1),9,ze)]:=⟨_,rfl⟩;have bi:∀x∈l,x.1=(w.heap.size+1+1):=qy;have be:=Cl l w9 _ bi xh.o;have hS:=xj.o.setU bi xh.o;have cr:Bw w (Be w9 l):=Az l w9 HB9.o (λx hx=>qz);obtain⟨V,eV⟩:=Aj (Be w9 l);rw[eV]at be cr hS;rw[el]at be eV;simp only[Be,List.foldl]at eV;simp only[List.foldl,List.setIfInBounds_toArray,List.set_cons_zero,List.set_cons_succ]at be;have HV:=Ad be;have jz:=Ad cr;have ew:=Ad hS;clear be cr el bi hS;go_wp2_with fail
  try rw[eV]
  obtain⟨y0,y1,y2,y3,y4,y5,y6,y7,y8,y9⟩:=Dz HV.o;exact bR (v:=G #[I 9,ze,nS,I n,J (p_ g1) T.length p1,J a2 R.length p2,nS,nS,ze,ze]) qgh rfl ⟨jz.o,_,rfl,_,_,rfl,ew.o⟩
 have Z2:=Ad (U0.1 rfl);clear U0;obtain⟨x0,x1⟩:=Ft HP.o;have HC:=Ad (I5.o w1 d7.o);have W9:Hd (¬ (Gu ss ts=0/\Ar nm)):=λh=>jk.o ⟨Z2.o,h⟩;clear I5 jk Z2;generalize Gu ss ts=ck at *;go_wp2_with fail;clear x0 x1;refine HC.o.mono ?_;clear HC;rintro e w2 ⟨ag,rfl⟩;replace HQ:=Ad (Ab ag HQ.o);replace HP:=Ad (Ab ag HP.o);replace HZ:=Ad (Ab ag HZ.o);have fj:=Ad (bt d7.o ag);clear ag d7
 by_cases hc:ck=0
 rotate_left 1
 ·have hcI:(ck == 0)=false:=qcd
  have hcN:(ck != 0)=true:=qcd;clear W9;exact qho
 subst hc;have T4:¬ Ar nm:=λh=>W9.o ⟨rfl,h⟩;have HNB:=Ad (Cs T4);clear W9 T4;go_wp2_with fail;refine(Cd nm w2 de).mono ?_;rintro e w3 ⟨rfl,rfl⟩;rw[HNB.o];exact qho
end Go.Proofs.YtoakjccojifagaaGreatDoor
