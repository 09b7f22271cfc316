import Derived.Test.YtbkkjodaaijimaaGreatDoorBtF
import Derived.Test.YtbkkjodaaijimaaGreatDoorBvO
namespace Go.Proofs.YtbkkjodaaijimaaGreatDoor
open Value renaming slice->J,string->S,bool->F,agg->G,tuple->Y
open Option renaming some->M,none->N
open Obj renaming cells->O
open Go renaming Value->Z,World->E
open Ending renaming returned->H
open _root_ renaming List->L,Nat->X
set_option maxHeartbeats 8000000
set_option maxRecDepth 100000
open _root_.Go.Proofs.Tryz Go.RowKit Go.Deep
set_option linter.unusedVariables false
set_option linter.unusedSimpArgs false
variable {w:E} {ss:L S2} {k n B h:X} {ts:L T2} {T:L By} {R:L T3} {qv:Z} {nm:By} {cs:Array Z} {l:L (X×X×Z)}
def Kp(w:E)(v1 v2:Z)(wr:E):Prop:=Bw w wr/\wr.cell? ⟨w.heap.size,0,N⟩=M v1/\wr.cell? ⟨w.heap.size,1,N⟩=M v2
theorem Kp.bl{wr w':E}{v1 v2:Z}(h:Kp w v1 v2 wr)(hb:Bw wr w'):Kp w v1 v2 w':=⟨bt h.1 hb,Aa hb h.2.1,Aa hb h.2.2⟩
theorem allN_bad_s(hk:k<ss.length)(h:Ew (sx ss k).name=false):¬ Gw (Am ss):=λhh=>by
 have:=hh k (by rw[Bs];exact hk)
 rw[Dv,h]at this;cases this
theorem allN_bad_t{ss:L T2}(hk:k<ss.length)(h:Ew (tx ss k).name=false):¬ Gw (Ak ss):=λhh=>by
 have:=hh k (by rw[Bp];exact hk)
 rw[Dk,h]at this;cases this
theorem acts_step{v:Int}(h:(v=0/\∀j,j<k->Au (tx ts j).code=true)\/(v=7/\∃j,j<k/\Au (tx ts j).code=false))(hk:Au (tx ts k).code=true):(v=0/\∀j,j<k+1->Au (tx ts j).code=true)\/(v=7/\∃j,j<k+1/\Au (tx ts j).code=false):=by
 rcases h with⟨rfl,h⟩|⟨rfl,j,hj,h⟩
 ·exact Or.inl ⟨rfl,Co h hk⟩
 ·exact Or.inr ⟨rfl,j,qb,h⟩
theorem acts_end{v:Int}(h1:¬ 200<ss.length+ts.length)(h2:Gw (Am ss)/\Gw (Ak ts))(h3:Fs (Am ss))(h4:Fs (Ak ts))(h5:¬ Nn (Am ss) (Ak ts))(h6:Jf ss)(hk:k=ts.length)(h:(v=0/\∀j,j<k->Au (tx ts j).code=true)\/(v=7/\∃j,j<k/\Au (tx ts j).code=false)):Ic ss ts=v:=by
 subst hk
 rcases h with⟨rfl,h⟩|⟨rfl,j,hj,h⟩
 ·exact chk0 h1 h2 h3 h4 h5 h6 h
 ·exact chk7 h1 h2 h3 h4 h5 h6 (λhh=>by rw[hh j hj]at h;cases h)
theorem Ob(sa ta:Option Addr)(c1 c2:X)(ss:L S2)(ts:L T2)(w:E)(h:Lv w sa ss ta ts)(lx:Fj ss ts):Calls prog 40 #[G #[J sa ss.length c1,J ta ts.length c2]] w λe w'=>Bw w w'/\e=H (I (Ic ss ts)):=by
 have ak:Bw w (w.alloc (O #[J sa ss.length c1,J ta ts.length c2] 40)):=aN _ _
 obtain⟨rs,rt,ls,lt,ns,xs,nt,lc,xt⟩:=h
 obtain⟨l1,l2,l3⟩:=lx
 have J2:Kp w (J sa ss.length c1) (J ta ts.length c2) (w.alloc (O #[J sa ss.length c1,J ta ts.length c2] 40)):=⟨ak,qk,qk⟩
 by_cases vf:200<ss.length+ts.length
 ·have HC:Hd (Ic ss ts=1):=chk1 vf;clear rs rt ns xs nt lc xt l3;go_enter func40,ntmps40;go_wp2;go_ret;exact⟨ak,qac⟩
 ·have lq:Hd (¬ 200<ss.length+ts.length):=vf;have RS:Hd (Ho w sa ss):=rs;have RT:Hd (Gu w ta ts):=rt;have NS:Hd (∀i,(sx ss i).name.size<=9223372036854775807):=ns;have NT:Hd (∀i,(tx ts i).name.size<=9223372036854775807):=nt;have XS:Hd (∀i,(sx ss i).text.size<=9223372036854775807):=xs;have XT:Hd (∀i j,(ix (tx ts i).code j).text.size<=9223372036854775807):=xt;have L3:Hd (∀i,i<ts.length->(tx ts i).code.length<=1048576):=l3;clear rs rt ns xs nt lc xt l3 ak;go_enter func40,ntmps40;go_wp2
  go_loopw [5] (λi wr=>∃k:X,k<=ss.length/\i=I k/\Hd (∀j,j<k->Ew (sx ss j).name=true)/\Hd (Kp w (J sa ss.length c1) (J ta ts.length c2) wr)) (λi _=>ss.length-(intOf i).toNat)
  case atStart=>exact⟨0,Nat.zero_le _,rfl,(λj hj=>by omega:∀j,j<0->Ew (sx ss j).name=true),J2⟩
  case round=>
   obtain⟨k,hk,rfl,HA,HK⟩:=hrel;obtain⟨am,k0,k1⟩:=HK.o
   by_cases aj:k<ss.length
   ·obtain⟨b,off,rfl,d1,d2⟩:=(RS.o.bl am) k aj;have fx:=NS.o k;have io:(k:Int)<(ss.length:Int):=qb;obtain⟨v,hv⟩:=Aj (Ew (sx ss k).name);have HV:Hd (Ew (sx ss k).name=v):=hv;(have HN:Hd (∀W:E,Calls prog 41 #[S (sx ss k).name] W λe w'=>e=H (F v)/\W=w'):=λW=>by rw[<- hv];exact Ca _ W fx);clear hv d2 fx;generalize (sx ss k).name=s at d1 HN;cases v
    ·have HC:Hd (Ic ss ts=2):=chk2 lq.o (λh=>allN_bad_s aj HV.o h.1);exact qkn
    ·go_wp2_with (go_at_call 41;refine(HN.o _).mono ?_;rintro e w' ⟨rfl,rfl⟩)
     go_roundw
     case rel=>exact⟨k+1,qb,qj,Co HA.o HV.o,HK.o⟩
     case measure=>simp[intOf];omega
   ·(have HA1:Hd (Gw (Am ss)):=λj hj=>by rw[Dv];rw[Bs]at hj;exact HA.o j qb);clear HA;go_wp2
    go_loopw [6] (λi wr=>∃k:X,k<=ts.length/\i=I k/\Hd (∀j,j<k->Ew (tx ts j).name=true)/\Hd (Kp w (J sa ss.length c1) (J ta ts.length c2) wr)) (λi _=>ts.length-(intOf i).toNat)
    case atStart=>exact⟨0,Nat.zero_le _,rfl,(λj hj=>by omega:∀j,j<0->Ew (tx ts j).name=true),HK.o⟩
    case round=>
     clear HK am k0 k1;obtain⟨k',hk',rfl,HA,HK⟩:=hrel;obtain⟨am,k0,k1⟩:=HK.o
     by_cases aj:k'<ts.length
     ·obtain⟨b,off,rfl,d1,x,p,d2,d3⟩:=(RT.o.bl am) k' aj;have fx:=NT.o k';have io:(k':Int)<(ts.length:Int):=qb;obtain⟨v,hv⟩:=Aj (Ew (tx ts k').name);have HV:Hd (Ew (tx ts k').name=v):=hv;(have HN:Hd (∀W:E,Calls prog 41 #[S (tx ts k').name] W λe w'=>e=H (F v)/\W=w'):=λW=>by rw[<- hv];exact Ca _ W fx);clear hv d2 d3 fx;generalize (tx ts k').name=s at d1 HN;cases v
      ·have HC:Hd (Ic ss ts=2):=chk2 lq.o (λh=>allN_bad_t aj HV.o h.2);exact qkn
      ·go_wp2_with (go_at_call 41;refine(HN.o _).mono ?_;rintro e w' ⟨rfl,rfl⟩)
       go_roundw
       case rel=>exact⟨k'+1,qb,qj,Co HA.o HV.o,HK.o⟩
       case measure=>simp[intOf];omega
     ·have H2:Hd (Gw (Am ss)/\Gw (Ak ts)):=⟨HA1.o,λj hj=>by rw[Dk];rw[Bp]at hj;exact HA.o j qb⟩;clear HA HA1;go_wp2
      go_loopw [7] (λi wr=>∃m:X,(m=0\/m+1<=ss.length)/\i=I (m+1)/\Hd (∀j,1<=j->j<m+1->Ap (nx (Am ss) (j-1)) (nx (Am ss) j)=true)/\Hd (Kp w (J sa ss.length c1) (J ta ts.length c2) wr)) (λi _=>ss.length+1-(intOf i).toNat)
      case atStart=>exact⟨0,Or.inl rfl,rfl,(λj h1 h2=>by omega:∀j,1<=j->j<0+1->Ap (nx (Am ss) (j-1)) (nx (Am ss) j)=true),HK.o⟩
      case round=>
       clear HK am k0 k1;obtain⟨m,hm,rfl,HA,HK⟩:=hrel;obtain⟨am,k0,k1⟩:=HK.o
       by_cases aj:m+1<ss.length
       ·obtain⟨b,off,rfl,d1,q1⟩:=(RS.o.bl am) m qb;obtain⟨b',bp,e',d2,q2⟩:=(RS.o.bl am) (m+1) aj;simp only[Option.some.injEq,Addr.mk.injEq,and_true]at e';obtain⟨rfl,rfl⟩:=e';rw[<- Dv]at d1 d2;clear q1 q2;obtain⟨v,hv⟩:=Aj (Ap (nx (Am ss) m) (nx (Am ss) (m+1)));have HV:Hd (Ap (nx (Am ss) m) (nx (Am ss) (m+1))=v):=hv;unfold Ap at hv;generalize nx (Am ss) m=s at d1 hv;generalize nx (Am ss) (m+1)=s' at d2 hv;have hltI:(m:Int)+1<(ss.length:Int):=qb;cases v
        ·have HC:Hd (Ic ss ts=3):=chk3 lq.o H2.o (λh=>by have:=h (m+1) qb (by rw[Bs];exact aj);rw[Nat.add_sub_cancel,HV.o]at this;cases this);exact qko
        ·exact qip
       ·(have H3:Hd (Fs (Am ss)):=λj h1 h2=>by rw[Bs]at h2;exact HA.o j h1 qb);clear HA;go_wp2
        go_loopw [8] (λi wr=>∃m:X,(m=0\/m+1<=ts.length)/\i=I (m+1)/\Hd (∀j,1<=j->j<m+1->Ap (nx (Ak ts) (j-1)) (nx (Ak ts) j)=true)/\Hd (Kp w (J sa ss.length c1) (J ta ts.length c2) wr)) (λi _=>ts.length+1-(intOf i).toNat)
        case atStart=>exact⟨0,Or.inl rfl,rfl,(λj h1 h2=>by omega:∀j,1<=j->j<0+1->Ap (nx (Ak ts) (j-1)) (nx (Ak ts) j)=true),HK.o⟩
        case round=>
         clear HK am k0 k1;obtain⟨m,hm,rfl,HA,HK⟩:=hrel;obtain⟨am,k0,k1⟩:=HK.o
         by_cases aj:m+1<ts.length
         ·obtain⟨b,off,rfl,d1,x1,p1,q1,r1⟩:=(RT.o.bl am) m qb;obtain⟨b',bp,e',d2,x2,p2,q2,r2⟩:=(RT.o.bl am) (m+1) aj;simp only[Option.some.injEq,Addr.mk.injEq,and_true]at e';obtain⟨rfl,rfl⟩:=e';rw[<- Dk]at d1 d2;clear q1 r1 q2 r2;obtain⟨v,hv⟩:=Aj (Ap (nx (Ak ts) m) (nx (Ak ts) (m+1)));have HV:Hd (Ap (nx (Ak ts) m) (nx (Ak ts) (m+1))=v):=hv;unfold Ap at hv;generalize nx (Ak ts) m=s at d1 hv;generalize nx (Ak ts) (m+1)=s' at d2 hv;have hltI:(m:Int)+1<(ts.length:Int):=qb;cases v
          ·have HC:Hd (Ic ss ts=4):=chk4 lq.o H2.o H3.o (λh=>by have:=h (m+1) qb (by rw[Bp];exact aj);rw[Nat.add_sub_cancel,HV.o]at this;cases this);exact qko
          ·exact qip
         ·(have H4:Hd (Fs (Ak ts)):=λj h1 h2=>by rw[Bp]at h2;exact HA.o j h1 qb);clear HA;go_wp2
          go_loopw [9] (λi wr=>∃k:X,k<=ss.length/\i=I k/\Hd (∀j,j<k->¬ Ed (Ak ts) (sx ss j).name)/\Hd (Kp w (J sa ss.length c1) (J ta ts.length c2) wr)) (λi _=>ss.length-(intOf i).toNat)
          case atStart=>exact⟨0,Nat.zero_le _,rfl,(λj hj=>by omega:∀j,j<0->¬ Ed (Ak ts) (sx ss j).name),HK.o⟩
          case round=>
           clear HK am k0 k1;obtain⟨k5,jb,rfl,HA,HK⟩:=hrel;obtain⟨am,k0,k1⟩:=HK.o
           by_cases aj:k5<ss.length
           ·obtain⟨b,off,rfl,d1,d2⟩:=(RS.o.bl am) k5 aj;have io:(k5:Int)<(ss.length:Int):=qb;obtain⟨s,es⟩:=Aj ((sx ss k5).name);have ES:Hd ((sx ss k5).name=s):=es;rw[es]at d1;clear es d2;have f9:Bw wr wr.drew:=(Below.refl _ _).drew;have RTd:Hd (Gu wr.drew ta ts):=(RT.o.bl am).bl f9;clear f9;go_wp2_with fail
            go_region_held3 (λw'=>w'.cell? ⟨w.heap.size,0,N⟩=M (J (M ⟨b,off,N⟩) ss.length c1)/\w'.cell? ⟨w.heap.size,1,N⟩=M (J ta ts.length c2)/\w'.cell? ⟨b,off+k5*2,N⟩=M (S s))
             (first|assumption|(simp[*];done)|exact⟨Aa af qt,Aa af qt,Aa af qt⟩)
             (first|(go_at_call 60;refine(Zc (M ⟨b,off,N⟩) ta ss.length c1 c2 ts s _ RTd.o l2).mono ?_;rintro e w1 ⟨af,r,rfl,hr⟩))
            all_goals
             have HD:Hd (Kp w (J (M ⟨b,off,N⟩) ss.length c1) (J ta ts.length c2) w1):=(HK.o.bl (Below.refl _ _).drew).bl af
             rcases hr with⟨hr,hh⟩|⟨hr,hh⟩
             ·have HC:Hd (Ic ss ts=5):=chk5 lq.o H2.o H3.o H4.o ⟨k5,by rw[Bs];exact aj,by rw[Dv,ES.o];exact hh⟩;clear hh;go_wp2;go_ret;exact⟨HD.o.1,qac⟩
             ·have HNo:Hd (¬ Ed (Ak ts) s):=hh;clear hh;go_wp2;go_roundw
              case rel=>exact⟨k5+1,qb,qj,Co HA.o (by rw[ES.o];exact HNo.o),HD.o⟩
              case measure=>simp[intOf];omega
           ·(have H5:Hd (¬ Nn (Am ss) (Ak ts)):=λ⟨j,hj,hh⟩=>by rw[Bs]at hj;rw[Dv]at hh;exact HA.o j qb hh);clear HA;go_wp2
            go_loopw [10] (λi wr=>∃k:X,k<=ss.length/\i=I k/\Hd (∀j,j<k->(sx ss j).text.size<=2000)/\Hd (Kp w (J sa ss.length c1) (J ta ts.length c2) wr)) (λi _=>ss.length-(intOf i).toNat)
            case atStart=>exact⟨0,Nat.zero_le _,rfl,(λj hj=>by omega:∀j,j<0->(sx ss j).text.size<=2000),HK.o⟩
            case round=>
             clear HK am k0 k1;obtain⟨k6,ip,rfl,HA,HK⟩:=hrel;obtain⟨am,k0,k1⟩:=HK.o
             by_cases aj:k6<ss.length
             ·obtain⟨b,off,rfl,d1,d2⟩:=(RS.o.bl am) k6 aj;have io:(k6:Int)<(ss.length:Int):=qb;have fx:=XS.o k6;obtain⟨s,es⟩:=Aj ((sx ss k6).text);have ES:Hd ((sx ss k6).text=s):=es;rw[es]at d2 fx;clear es d1
              by_cases M0:s.size<=2000
              ·go_wp2;go_roundw
               case rel=>exact⟨k6+1,qb,qj,Co HA.o (by rw[ES.o];exact M0),HK.o⟩
               case measure=>simp[intOf];omega
              ·have HC:Hd (Ic ss ts=6):=chk6 lq.o H2.o H3.o H4.o H5.o (λh=>by have:=h k6 aj;rw[ES.o]at this;omega);go_wp2;go_ret;exact⟨am,qac⟩
             ·have H6:Hd (Jf ss):=λj hj=>HA.o j qb;clear HA;go_wp2
              go_loopw [4,11] (λx i wr=>∃k:X,∃v:Int,k<=ts.length/\x=I v/\i=I k/\Hd ((v=0/\∀j,j<k->Au (tx ts j).code=true)\/(v=7/\∃j,j<k/\Au (tx ts j).code=false))/\Hd (Kp w (J sa ss.length c1) (J ta ts.length c2) wr)) (λ_ i _=>ts.length-(intOf i).toNat)
              case atStart=>exact⟨0,0,Nat.zero_le _,rfl,rfl,(Or.inl ⟨rfl,λj hj=>qb⟩:((0:Int)=0/\∀j,j<0->Au (tx ts j).code=true)\/((0:Int)=7/\∃j,j<0/\Au (tx ts j).code=false)),HK.o⟩
              case round=>
               clear HK am k0 k1;obtain⟨k7,v7,hk7,rfl,rfl,HA,HK⟩:=hrel;obtain⟨am,k0,k1⟩:=HK.o
               by_cases aj:k7<ts.length
               ·obtain⟨b,off,rfl,d1,x,p,d2,d3⟩:=(RT.o.bl am) k7 aj;have io:(k7:Int)<(ts.length:Int):=qb;have yg:=L3.o k7 aj;have T4:=XT.o k7;obtain⟨i,ei⟩:=Aj ((tx ts k7).code);have EI:Hd ((tx ts k7).code=i):=ei;rw[ei]at d2 d3 yg T4;clear ei d1;obtain⟨v,hv⟩:=Aj (Au i);have HV:Hd (Au i=v):=hv;(have HN:Hd (Calls prog 61 #[G #[J x i.length p]] wr λe w'=>Bw wr w'/\e=H (F v)):=by rw[<- hv];exact Ih x p i wr d3 yg T4);clear hv d3 T4;cases v
                ·go_wp2_with (go_at_call 61;refine HN.o.mono ?_;rintro e w1 ⟨af,rfl⟩)
                 go_roundw
                 case rel=>exact⟨k7+1,7,qb,rfl,qj,Or.inr ⟨rfl,k7,qb,by rw[EI.o];exact HV.o⟩,HK.o.bl af⟩
                 case measure=>simp[intOf];omega
                ·go_wp2_with (go_at_call 61;refine HN.o.mono ?_;rintro e w1 ⟨af,rfl⟩)
                 go_roundw
                 case rel=>exact⟨k7+1,v7,qb,rfl,qj,acts_step HA.o (by rw[EI.o];exact HV.o),HK.o.bl af⟩
                 case measure=>simp[intOf];omega
               ·have HC:Hd (Ic ss ts=v7):=acts_end lq.o H2.o H3.o H4.o H5.o H6.o qb HA.o;clear HA;go_wp2;go_ret;exact⟨am,qac⟩
theorem sto_cp(h:Jy n T R):T.length<=1048576/\R.length<=2000/\∀i,i<R.length→1≤(qx R i).code.length∧(qx R i).code.length≤1048576∧(qx R i).looks.length≤1048576:=
 ⟨by have:=h.1.1;omega,h.2.1,λi hi=>by obtain⟨a,_,b,_⟩:=h.2.2 i hi;have:=Dh a;omega⟩
theorem copy_own{tx:Z}{V:E}(hs:Gc V B tx qv T R)(ho:Jy n T R):Calls prog 42 #[G #[I n,tx,qv]] V λe w'=>Bw V w'/\∃g p qa qc,e=H (G #[I n,J (p_ g) T.length p,J qa R.length qc])/\Gc w' V.heap.size (J (p_ g) T.length p) (J qa R.length qc) T R:=by
 obtain⟨g,p,rfl⟩:=hs.txa;obtain⟨qa,qc,e⟩:∃a cap,qv=J a R.length cap:=by obtain⟨ys,cv,lv,r⟩:=hs.rcs;exact Ay r.row
 subst e;have h3:=sto_cp ho
 have de:Cc V (p_ g) T:=by
  obtain⟨a,cap,q,r⟩:=Cp.sl (w:=V) (lo:=B) (hi:=V.heap.size) (ts:=T) ⟨hs.txt,λb q=>(hs.txt.lt b q).2⟩;cases q;exact r
 refine(Om n g 0 p qa qc T R V de (hs.rcs.rowW (λi hi=>(h3.2.2 i hi).1)) h3.1 (zo h3.2.1) (λi hi=>(h3.2.2 i hi).2)).mono ?_;rintro e w' ⟨a1,g1,p1,v2,rfl,a2,a3⟩;have hr:=a3.recO;obtain⟨qa,qc,e⟩:∃a cap,v2=J a R.length cap:=by obtain⟨ys,cv,lv,r⟩:=hr;exact Ay r.row
 subst e;exact⟨a1,_,_,_,_,rfl,a2.own,⟨g1,p1,rfl⟩,hr⟩
def Ox(B n:X)(ss:L S2)(ts:L T2)(T:L By)(R:L T3)(nm:By)(e:Ending)(w':E):Prop:=
 ∃ms' s' a,Bc ss ts n [] ⟨T,R,[],[]⟩ [] (.make nm) ms' s' a/\
  ((∃d tx qv nv ev,a=.ok d/\e=H (G #[I d.c,S d.t,nS,I n,tx,qv,nv,ev,ze,ze])/\Gc w' B tx qv s'.T s'.R/\w'.ownsRow B 9 1 nv s'.ran.length (Aq s'.ran)/\w'.ownsRow B 9 1 ev s'.held.length (Aq s'.held))\/
   (∃b x y cv tx qv A B',a=.bad b/\Jh B w' b [x,y,cv,I 0,nS,nS,nS,nS,A,B']/\e=H (G #[x,y,cv,I n,tx,qv,nS,nS,A,B'])/\Gc w' B tx qv T R))
theorem Ga{j:X}{pre ee:L Z}{v:Z}(dr:pre.length=10)(hk:w.heap[h]?=M (O ((pre++ee).toArray) 86 (0,0)))(hj:ee[j]?=M v):w.cell? ⟨h,10+j,N⟩=M v:=by
 rw[cH hk,List.getElem?_toArray,List.getElem?_append_right qb,dr,Nat.add_sub_cancel_left];exact hj
def EndG(B h n:X)(w4:E)(P:Ending->E->Prop):Prop:=∃(xc:Int)(yt:By)(ca:Option Addr)(cn cc g p:X)(qa:Option Addr)(qc:X)(na:Option Addr)(nl nc:X)(ea:Option Addr)(el ec:X)(At Bt:By)(T':L By)(R':L T3)(pre:L Z),
 pre.length=10/\w4.heap[h]?=M (O ((pre++([I xc,S yt,J ca cn cc,I n,J (p_ g) T'.length p,J qa R'.length qc,J na nl nc,J ea el ec,S At,S Bt]:L Z)).toArray) 86 (0,0))/\Gc w4 B (J (p_ g) T'.length p) (J qa R'.length qc) T' R'/\Jy n T' R'/\
 ∀(w':E)(tx qv:Z),Bw w4 w'->Gc w' B tx qv T' R'->P (H (G #[I xc,S yt,J ca cn cc,I n,tx,qv,J na nl nc,J ea el ec,S At,S Bt])) w'
theorem Ox.gen{w4:E}(hv:SpV ss ts)(ft:Jy n T R)(cm:Ar nm)(L7:WorkE B h n ss ts T R nm w4):EndG B h n w4 (Ox B n ss ts T R nm):=by
 obtain⟨ms',s',a,bi,pre,ee,dr,hk,⟨d,tx,qv,nv,ev,rfl,rfl,hs,hn,he,_,_⟩|⟨b,x,y,cv,tx,qv,A,B',rfl,he,rfl,hs,_⟩⟩:=L7
 ·obtain⟨g,p,e1⟩:=hs.txa
  subst e1;(obtain⟨qa,qc,e2⟩:∃a cap,qv=J a s'.R.length cap:=by obtain⟨ys,cv,lv,r⟩:=hs.rcs;exact Ay r.row);subst e2;obtain⟨na,nc,e3⟩:=Ay hn;subst e3;obtain⟨ea,ec,e4⟩:=Ay he;subst e4;obtain⟨_,i2,_,_⟩:=Bc.inv hv bi (Fv.nil ss ts) ft cm (λb q=>qw);exact⟨_,_,_,_,_,g,p,qa,qc,na,_,nc,ea,_,ec,_,_,s'.T,s'.R,pre,dr,hk,hs,i2,λw' tx qv hb h2=>⟨ms',s',_,bi,Or.inl ⟨d,tx,qv,_,_,rfl,rfl,h2,Ab hn hb,Ab he hb⟩⟩⟩
 ·obtain⟨g,p,e1⟩:=hs.txa
  subst e1;(obtain⟨qa,qc,e2⟩:∃a cap,qv=J a R.length cap:=by obtain⟨ys,cv,lv,r⟩:=hs.rcs;exact Ay r.row);subst e2
  have heb:∀w',Bw w4 w'->Jh B w' b [x,y,cv,I 0,nS,nS,nS,nS,A,B']:=λw' hb=>by
   cases b with
   | circle ch=>obtain⟨cv,a,b⟩:=he;exact⟨cv,Ab a hb,b⟩
   | deep nm=>exact he
   | clash A B=>exact he
   | full=>exact he
  have hform:∃xc yt ca cn cc At Bt,x=I xc/\y=S yt/\cv=J ca cn cc/\A=S At/\B'=S Bt:=by
   cases b with
   | circle ch=>
     obtain⟨cv2,k,q⟩:=he;obtain⟨ca,cc,e3⟩:=Ay k;simp only[List.cons.injEq]at q;obtain⟨q1,q2,q3,_,_,_,_,_,q4,q5,_⟩:=q;exact⟨_,_,ca,_,cc,_,_,q1,q2,q3.trans e3,q4,q5⟩
   | deep nm=>have q:_=_:=he;simp only[List.cons.injEq]at q;obtain⟨q1,q2,q3,_,_,_,_,_,q4,q5,_⟩:=q;exact⟨_,_,_,_,_,_,_,q1,q2,q3,q4,q5⟩
   | clash A B=>have q:_=_:=he;simp only[List.cons.injEq]at q;obtain⟨q1,q2,q3,_,_,_,_,_,q4,q5,_⟩:=q;exact⟨_,_,_,_,_,_,_,q1,q2,q3,q4,q5⟩
   | full=>have q:_=_:=he;simp only[List.cons.injEq]at q;obtain⟨q1,q2,q3,_,_,_,_,_,q4,q5,_⟩:=q;exact⟨_,_,_,_,_,_,_,q1,q2,q3,q4,q5⟩
  obtain⟨xc,yt,ca,cn,cc,At,Bt,rfl,rfl,rfl,rfl,rfl⟩:=hform;exact⟨xc,yt,ca,cn,cc,g,p,qa,qc,N,0,0,N,0,0,At,Bt,T,R,pre,dr,hk,hs,ft,λw' tx qv hb h2=>⟨ms',s',_,bi,Or.inr ⟨b,_,_,_,tx,qv,_,_,rfl,heb w' hb,rfl,h2⟩⟩⟩
theorem Dy{e sz U:X}{u:Z}{xs:L Z}(ho:w.ownsRow B e sz u n xs)(hh:∀x∈l,x.1=h)(hk:w.heap[h]?=M (O cs U (0,0)))(he:U≠e):(Cu w l).ownsRow B e sz u n xs:=Al ho λb q=>Gz l w λx hx r=>Ae ho he hk (by rw[←hh x hx,←r];exact q)
theorem Gc.setU{tx:Z}(k:Gc w B tx qv T R)(hh:∀x∈l,x.1=h)(hk:w.heap[h]?=M (O cs 54 (0,0))):Gc (Go.Proofs.YtbkkjodaaijimaaGreatDoor.Cu w l) B tx qv T R:=by
 obtain⟨xs,cv,lv,r⟩:=k.rcs;exact⟨Dy k.txt hh hk qd,k.txa,xs,cv,lv,Dy r.row hh hk qd,r.fil,λi hi=>by obtain⟨ys,a,b⟩:=r.code i hi;exact⟨ys,Dy a hh hk qd,b⟩,λi hi=>by obtain⟨ys,a,b⟩:=r.look i hi;exact⟨ys,Dy a hh hk qd,b⟩,r.apc,r.apl⟩
theorem Ox.setU{B0:X}{e:Ending}(k:Ox B n ss ts T R nm e w)(hB:B0<=B)(hh:∀x∈l,x.1=h)(hk:w.heap[h]?=M (O cs 54 (0,0))):Ox B0 n ss ts T R nm e (Cu w l):=by
 obtain⟨ms',s',a,bi,⟨d,tx,qv,nv,ev,rfl,rfl,hs,hn,he⟩|⟨b,x,y,cv,tx,qv,A,B',rfl,he,rfl,hs⟩⟩:=k
 ·exact⟨ms',s',_,bi,Or.inl ⟨d,tx,qv,nv,ev,rfl,rfl,(hs.setU hh hk).base hB,Ah (Dy hn hh hk qd) hB,Ah (Dy he hh hk qd) hB⟩⟩
 ·refine⟨ms',s',_,bi,Or.inr ⟨b,x,y,cv,tx,qv,A,B',rfl,?_,rfl,(hs.setU hh hk).base hB⟩⟩
  cases b with
  | circle ch=>obtain⟨cv,a,b⟩:=he;exact⟨cv,Ah (Dy a hh hk qd) hB,b⟩
  | deep nm=>exact he
  | clash A B=>exact he
  | full=>exact he
theorem Vj(n tb:X)(qa sa ta:Option Addr)(tc qc c1 c2:X)(T:L By)(R:L T3)(ss:L S2)(ts:L T2)(nm:By)(w:E)(hw:Ke n T R)(hch:Ic ss ts=0)(cm:Ar nm)(de:Nm w (p_ tb) T qa R)(hrp:Uo w qa R)(xy:Lv w sa ss ta ts)(lx:Fj ss ts):Calls prog 22 #[G #[I n,J (p_ tb) T.length tc,J qa R.length qc],G #[J sa ss.length c1,J ta ts.length c2],S nm] w λe w'=>Bw w w'/\Ox w.heap.size n ss ts T R nm e w':=by
 have h1:1<=n:=zo hw.1;have h8:n<=8:=zo hw.2.1;have hok0:Jy n T R:=by have:=hw.2.2;simpa using this
 have xm:=Ac hok0;clear hok0;obtain⟨W,eW⟩:=Aj (((w.alloc (O #[I n,J (p_ tb) T.length tc,J qa R.length qc] 35)).alloc (O #[J sa ss.length c1,J ta ts.length c2] 40)).alloc (O #[I 0,ze,nS,I 0,nS,nS,nS,nS,ze,ze] 54));have HW:Hd (Bw w W):=by show Below _ _ _;rw[←eW];exact((aN _ _).alloc qg _).alloc qh _
 obtain⟨Q,eQ⟩:=Aj w.heap.size;have HQ:Hd (W.heap[Q]?=M (O #[I n,J (p_ tb) T.length tc,J qa R.length qc] 35 (0,0))):=by show _=_;rw[←eW,←eQ];exact Ph (Ph (Hc _ _))
 have HP:Hd (W.heap[Q+1]?=M (O #[J sa ss.length c1,J ta ts.length c2] 40 (0,0))):=by
  show _=_;rw[←eW,←eQ];have:=Hc (w.alloc (O #[I n,J (p_ tb) T.length tc,J qa R.length qc] 35)) (O #[J sa ss.length c1,J ta ts.length c2] 40);rw[show(w.alloc (O #[I n,J (p_ tb) T.length tc,J qa R.length qc] 35)).heap.size=w.heap.size+1 from qg]at this;exact Ph this
 have HZ:Hd (W.heap[Q+1+1]?=M (O #[I 0,ze,nS,I 0,nS,nS,nS,nS,ze,ze] 54 (0,0))):=by
  show _=_;rw[←eW,←eQ];have:=Hc ((w.alloc (O #[I n,J (p_ tb) T.length tc,J qa R.length qc] 35)).alloc (O #[J sa ss.length c1,J ta ts.length c2] 40)) (O #[I 0,ze,nS,I 0,nS,nS,nS,nS,ze,ze] 54)
  rwa [show((w.alloc (O #[I n,J (p_ tb) T.length tc,J qa R.length qc] 35)).alloc (O #[J sa ss.length c1,J ta ts.length c2] 40)).heap.size=w.heap.size+2 from qg]at this
 have HWD:=Ac hw;have HCH:=Ac hch;have ox:=Ac cm;have fh:=Ac de;have HRP:=Ac hrp;have HSP:=Ac xy;have gt:=Ac lx;clear hw hch cm de hrp xy lx;obtain⟨q0,q1,q2⟩:=Bd HQ.o;obtain⟨p0,p1⟩:=Fq HP.o;go_enter func22,ntmps22;go_wp2_with fail
 try rw[eQ]
 clear eW q0 q1 q2;refine(Jo n _ _ _ _ T R W (fh.o.bl HW.o)).mono ?_;rintro e w1 ⟨af,b,rfl,hbi⟩;obtain rfl:b=true:=hbi.2 HWD.o;clear hbi;replace HQ:=Ac (Af HQ.o af);replace HP:=Ac (Af HP.o af);replace HZ:=Ac (Af HZ.o af);replace HW:=Ac (bt HW.o af);clear af;clear p0 p1;obtain⟨p0,p1⟩:=Fq HP.o;go_wp2_with fail;clear p0 p1;refine(Ob sa ta c1 c2 ss ts w1 (HSP.o.bl HW.o) gt.o).mono ?_;rintro e w2 ⟨ag,rfl⟩;rw[HCH.o];replace HQ:=Ac (Af HQ.o ag);replace HP:=Ac (Af HP.o ag);replace HZ:=Ac (Af HZ.o ag);replace HW:=Ac (bt HW.o ag);clear ag;go_wp2_with fail;refine(Ca nm w2 (zo ox.o.2.1)).mono ?_;rintro e w3 ⟨rfl,rfl⟩;rw[Cs ox.o];obtain⟨q0,q1,q2⟩:=Bd HQ.o;obtain⟨p0,p1⟩:=Fq HP.o;go_wp2_with fail;clear q0 q1 q2 p0 p1;refine(l5Work_any sa ta qa c1 c2 n tb tc qc ss ts T R nm w2 (Zj (HSP.o.bl HW.o) HCH.o) h1 h8 (fh.o.st.bl HW.o) (HRP.o.bl HW.o) xm.o ox.o (sto_cp xm.o)).mono ?_;rintro e w4 ⟨co,h,hh,rfl,L7⟩;have h24:w.heap.size<=w2.heap.size:=HW.o.size;have h24w:w2.heap.size<=w4.heap.size:=co.size;replace HQ:=Ac (Af HQ.o co);replace HP:=Ac (Af HP.o co);replace HZ:=Ac (Af HZ.o co);replace HW:=Ac (bt HW.o co);clear co;have HW4:=HW;have hZlt:Q+1+1<w4.heap.size:=Ag HZ.o;obtain⟨xc,yt,ca,cn,cc,g,p,S4,S3,na,nl,nc,ea,el,ec,At,Bt,T',R',pre,dr,hk,hs,ho,hfin⟩:=Ox.gen (Zj HSP.o HCH.o).v xm.o ox.o L7;have S8:w4.cell? ⟨h,10,N⟩=M (I xc):=Ga (j:=0) dr hk rfl;have L5:w4.cell? ⟨h,11,N⟩=M (S yt):=Ga (j:=1) dr hk rfl;have L4:w4.cell? ⟨h,12,N⟩=M (J ca cn cc):=Ga (j:=2) dr hk rfl;have k13:w4.cell? ⟨h,13,N⟩=M (I n):=Ga (j:=3) dr hk rfl;have k14:w4.cell? ⟨h,14,N⟩=M ((J (p_ g) T'.length p)):=Ga (j:=4) dr hk rfl;have k15:w4.cell? ⟨h,15,N⟩=M ((J S4 R'.length S3)):=Ga (j:=5) dr hk rfl;have k16:w4.cell? ⟨h,16,N⟩=M (J na nl nc):=Ga (j:=6) dr hk rfl;have k17:w4.cell? ⟨h,17,N⟩=M (J ea el ec):=Ga (j:=7) dr hk rfl;have k18:w4.cell? ⟨h,18,N⟩=M (S At):=Ga (j:=8) dr hk rfl;have k19:w4.cell? ⟨h,19,N⟩=M (S Bt):=Ga (j:=9) dr hk rfl;have HS:=Ac hs;have HO:=Ac ho;have HFIN:=Ac hfin;clear hs ho hfin L7 hk dr
 go_upto_region 4 with fail
 clear S8 L5 L4 k13 k14 k15 k16 k17 k18 k19;obtain⟨RR,eRR⟩:=Aj w4.heap.size;obtain⟨w6,e6⟩:=Aj (w4.alloc (O #[I xc,S yt,J ca cn cc,I n,J (p_ g) T'.length p,J S4 R'.length S3,J na nl nc,J ea el ec,S At,S Bt] 54));have bz:Bw w4 w6:=qax;have iu:Hd (w6.heap[RR]?=M (O #[I xc,S yt,J ca cn cc,I n,J (p_ g) T'.length p,J S4 R'.length S3,J na nl nc,J ea el ec,S At,S Bt] 54 (0,0))):=qbq;rw[e6]
 try rw[eRR]
 clear e6;have yz:=Ac bz;replace HS:=Ac (HS.o.bl bz);replace HZ:=Ac (Af HZ.o bz);replace HW:=Ac (bt HW.o bz);clear bz HQ HP;obtain⟨-,-,-,k3,k4,k5⟩:=Xd iu.o;go_wp2_with fail;clear k3 k4 k5;refine(copy_own HS.o HO.o).mono ?_;rintro e w7 ⟨ce,g7,p7,qa7,qc7,rfl,hs7⟩;have R9:=Ac (bt yz.o ce);replace iu:=Ac (Af iu.o ce);replace HZ:=Ac (Af HZ.o ce);have h26:w2.heap.size<=w6.heap.size:=Nat.le_trans h24w yz.o.size;have D6:=Ac (hs7.base h26);clear hs7 ce;obtain⟨k0,k1,k2,k3,k4,k5,k6,k7,k8,k9⟩:=Fz iu.o;have kf:=fZ iu.o
 go_upto_region 5 with fail
 obtain⟨l,el⟩:∃l:L (X×X×Z),l=[(RR,3,I n),(RR,4,J (p_ g7) T'.length p7),(RR,5,J qa7 R'.length qc7)]:=⟨_,rfl⟩;have fk:∀x∈l,x.1=RR:=qah;have d6:=Ep l w7 _ fk iu.o;have gu:Bw w4 (Cu w7 l):=Cm l w7 R9.o (λx hx=>qam);have hVS:=D6.o.setU fk iu.o;have hVZ:(Cu w7 l).heap[Q+1+1]?=M (O #[I 0,ze,nS,I 0,nS,nS,nS,nS,ze,ze] 54 (0,0)):=(Gz l w7 (λx hx q=>by rw[fk x hx]at q;omega)).trans HZ.o;obtain⟨A,eA⟩:=Aj (Cu w7 l);rw[eA]at d6 gu hVS hVZ;rw[el]at d6 eA;simp only[Cu,List.foldl]at eA;rw[eA];simp only[List.foldl,List.setIfInBounds_toArray,List.set_cons_zero,List.set_cons_succ]at d6;have HBR:=Ac (HFIN.o A _ _ gu hVS);have HA:=Ac d6;have N7:=Ac hVZ;have HWA:=Ac (HW4.o.trans (gu.mono HW4.o.size));clear d6 gu hVS hVZ eA el fk kf k0 k1 k2 k3 k4 k5 k6 k7 k8 k9;have k0:=cK HA.o 0;have z0:=cK N7.o 0;have k1:=cK HA.o 1;have z1:=cK N7.o 1;have k2:=cK HA.o 2;have z2:=cK N7.o 2;have k3:=cK HA.o 3;have z3:=cK N7.o 3;have k4:=cK HA.o 4;have z4:=cK N7.o 4;have k5:=cK HA.o 5;have z5:=cK N7.o 5;have k6:=cK HA.o 6;have z6:=cK N7.o 6;have k7:=cK HA.o 7;have z7:=cK N7.o 7;have k8:=cK HA.o 8;have z8:=cK N7.o 8;have k9:=cK HA.o 9;have z9:=cK N7.o 9;have kf:=fZ N7.o;obtain⟨l,el⟩:∃l:L (X×X×Z),l=[(Q+1+1,0,I xc),(Q+1+1,1,S yt),(Q+1+1,2,J ca cn cc),(Q+1+1,3,I n),(Q+1+1,4,(J (p_ g7) T'.length p7)),(Q+1+1,5,(J qa7 R'.length qc7)),(Q+1+1,6,J na nl nc),(Q+1+1,7,J ea el ec),(Q+1+1,8,S At),(Q+1+1,9,S Bt)]:=⟨_,rfl⟩;have fk:∀x∈l,x.1=Q+1+1:=qah;have d6:=Ep l A _ fk N7.o;have J6:=HBR.o.setU (show w.heap.size<=w2.heap.size from h24) fk N7.o;have gu:Bw w (Cu A l):=Cm l A HWA.o (λx hx=>qam);obtain⟨V,eV⟩:=Aj (Cu A l);rw[eV]at d6 J6 gu;rw[el]at d6 eV;simp only[Cu,List.foldl]at eV;simp only[List.foldl,List.setIfInBounds_toArray,List.set_cons_zero,List.set_cons_succ]at d6;have HV:=Ac d6;have HBR2:=Ac J6;have px:=Ac gu;clear d6 J6 gu el fk;go_wp2_with fail
 try rw[eV]
 obtain⟨y0,y1,y2,y3,y4,y5,y6,y7,y8,y9⟩:=Fz HV.o;exact bR (v:=G #[I xc,S yt,J ca cn cc,I n,(J (p_ g7) T'.length p7),(J qa7 R'.length qc7),J na nl nc,J ea el ec,S At,S Bt]) qfm rfl (by first|exact⟨px.o,HBR2.o⟩|(rw[←eQ];exact⟨px.o,HBR2.o⟩))
theorem Pd(n:Int)(b off tc:X)(ra:Option Addr)(rc:X)(ts:L By)(rs:L T3)(w:E)(hT:Kd w)(h:Nm w (M ⟨b,off,N⟩) ts ra rs)(rp:Qt w ra rs)(hr:rs.length≤1048576)(jx:∀i,i<rs.length→(qx rs i).code.length≤1048576∧(qx rs i).looks.length≤1048576):Calls prog 92 #[G #[I n,J (M ⟨b,off,N⟩) ts.length tc,J ra rs.length rc]] w λe w'=>Bw w w'∧((¬ Ke n ts rs∧e=H (Y #[.pointer N,F false]))∨(Ke n ts rs∧∃g g1 p1 sv qv,e=H (Y #[.pointer (p_ g),F true])∧w.heap.size≤g∧ShO w' g w.heap.size w'.heap.size n.toNat sv (J (p_ g1) ts.length p1) qv ts rs)):=by
 have ak:Bw w (w.alloc (O #[I n,J (M ⟨b,off,N⟩) ts.length tc,J ra rs.length rc] 35)):=aN _ _;have k0:(w.alloc (O #[I n,J (M ⟨b,off,N⟩) ts.length tc,J ra rs.length rc] 35)).cell? ⟨w.heap.size,0,N⟩=M (I n):=qk;have k1:(w.alloc (O #[I n,J (M ⟨b,off,N⟩) ts.length tc,J ra rs.length rc] 35)).cell? ⟨w.heap.size,1,N⟩=M (J (M ⟨b,off,N⟩) ts.length tc):=qk;have k2:(w.alloc (O #[I n,J (M ⟨b,off,N⟩) ts.length tc,J ra rs.length rc] 35)).cell? ⟨w.heap.size,2,N⟩=M (J ra rs.length rc):=qk;have HI:Hd (Nm w (M ⟨b,off,N⟩) ts ra rs):=h;have HRP:Hd (Qt w ra rs):=rp;have wo:=h.lt;have HT:Hd (Kd w):=hT;have HKK:=Ac jx;clear h hT rp jx;go_enter func92,ntmps92;go_wp2_with fail;refine(Vl n _ ra tc rc ts rs _ (HT.o.bl ak) (HI.o.bl ak)).mono ?_;rintro e w1 ⟨af,⟨hw,v,rfl⟩|⟨hw,g,sg,rfl,cw,_,Q4,how⟩⟩
 ·have HW:Hd (¬ Ke n ts rs):=hw
  have bh:=bt ak af;clear hw af ak;go_wp2_with fail;exact bR (results_tmp2 rfl _ _ _) rfl ⟨bh,Or.inl ⟨HW.o,rfl⟩⟩
 ·obtain⟨m,rfl⟩:=Int.eq_ofNat_of_zero_le (show 0≤n by have:=hw.1;omega)
  have HW:Hd (Ke m ts rs):=hw;have bh:=bt ak af;have c0:=Aa af k0;have c1:=Aa af k1;have c2:=Aa af k2;have hge':w.heap.size≤g:=Nat.le_trans ak.size Q4;have K3:Hd (w1.heap[g]?=M (O #[I (m:Int),J (M ⟨b,off,N⟩) ts.length tc,J ra rs.length rc,J (p_ sg) ts.length ts.length] 171 (0,0))):=cw
  have yr:Hd (Cp w1 w.heap.size w1.heap.size (J (p_ sg) ts.length ts.length) (ts.map (Av m))):=by
   have h:=Bg.new (Ah how ak.size);unfold Cp;rw[List.length_map];exact h
  have HCY:Hd (∀_:Unit,Calls prog 94 #[G #[I (m:Int),J (M ⟨b,off,N⟩) ts.length tc,J ra rs.length rc]] w1 λe w'=>Bw w1 w'∧∃g1 p1 v2,e=H (G #[I (m:Int),J (p_ g1) ts.length p1,v2])∧Cp w' w1.heap.size w'.heap.size (J (p_ g1) ts.length p1) ts∧Ez w' w1.heap.size w'.heap.size v2 rs):=λ_=>Jv m b off tc ra rc ts rs w1 (HI.o.st.bl bh) (HRP.o.bl bh) wo hr HKK.o;have d9:w.heap.size≤w1.heap.size:=bh.size;clear hw cw how ak af k0 k1 k2 Q4;go_wp2_with fail;refine(HCY.o ()).mono ?_;rintro e w2 ⟨ag,g1,p1,v2,rfl,o1,o2⟩;obtain⟨a2,p2,rfl,_⟩:=o2.sl;have kg:=Af K3.o ag;have HKG:Hd (w2.heap[g]?=M (O #[I (m:Int),J (M ⟨b,off,N⟩) ts.length tc,J ra rs.length rc,J (p_ sg) ts.length ts.length] 171 (0,0))):=kg;have ht:Cv w2 g 171:=⟨_,kg⟩;have gj:w1.heap.size≤w2.heap.size:=ag.size;have be:=bt bh ag;have mj:Hd (Cp w2 w.heap.size w2.heap.size (J (p_ sg) ts.length ts.length) (ts.map (Av m))):=(yr.o.bl ag).wide (Nat.le_refl _) gj;have rv:Hd (Cp w2 w.heap.size w2.heap.size (J (p_ g1) ts.length p1) ts):=o1.wide d9 (Nat.le_refl _);have HQX:Hd (Ez w2 w.heap.size w2.heap.size (J a2 rs.length p2) rs):=o2.wide d9 (Nat.le_refl _)
  have O5:Hd (∀b,(Value.slice (p_ sg) ts.length ts.length).ownBlock=M b→(Value.slice (p_ g1) ts.length p1).ownBlock≠M b):=λb e e'=>by
   have h1:=yr.o.top b e;have h2:=((Bg.own o1).lt b e').1;omega
  obtain⟨q0,q1,q2,q3,qf⟩:=Lu kg;have K8:Hd (Cv w2 g 171):=ht;clear o1 o2 kg ht ag c0 c1 c2 HCY;go_wp2_with fail;refine bR (results_tmp2 rfl _ _ _) rfl ?_;refine⟨below_set3P be hge' _ _ _,Or.inr ⟨HW.o,g,g1,p1,J (p_ sg) ts.length ts.length,J a2 rs.length p2,rfl,hge',?_⟩⟩;have cz:(((w2.setCell ⟨g,0,N⟩ (I (m:Int))).setCell ⟨g,1,N⟩ (J (p_ g1) ts.length p1)).setCell ⟨g,2,N⟩ (J a2 rs.length p2)).heap.size=w2.heap.size:=qg;exact⟨blk4_set3 HKG.o _ _ _,by rw[cz];exact((mj.o.setT K8.o qd _).setT (K8.o.set _) qd _).setT ((K8.o.set _).set _) qd _,by rw[cz];exact((rv.o.setT K8.o qd _).setT (K8.o.set _) qd _).setT ((K8.o.set _).set _) qd _,by rw[cz];exact((HQX.o.setT K8.o qd qd qd _).setT (K8.o.set _) qd qd qd _).setT ((K8.o.set _).set _) qd qd qd _,O5.o⟩
abbrev z10:Array Z:=#[I 0,ze,nS,I 0,nS,nS,nS,nS,ze,ze]
def Zk(B:X)(n:Int)(T:L By)(R:L T3)(v:Z)(w':E):Prop:=
 ∃tx qv,v=G #[I 9,ze,nS,I n,tx,qv,nS,nS,ze,ze]/\Gc w' B tx qv T R
theorem allB_no(n:Int)(tb tf tc nb nc:X)(qa sa ta:Option Addr)(qc c1 c2:X)(T:L By)(R:L T3)(ss:L S2)(ts:L T2)(nm:By)(w:E)(hT:Kd w)(de:Nm w (M ⟨tb,tf,N⟩) T qa R)(hrz:Qt w qa R)(hr:R.length≤1048576)(jx:∀i,i<R.length→(qx R i).code.length≤1048576∧(qx R i).looks.length≤1048576)(xy:Lv w sa ss ta ts)(lx:Fj ss ts)(gg:¬ (Ke n T R/\Ic ss ts=0)):Calls prog 66 #[G #[I n,J (M ⟨tb,tf,N⟩) T.length tc,J qa R.length qc],G #[J sa ss.length c1,J ta ts.length c2],J (p_ nb) 1 nc] w λe w'=>Bw w w'/\∃v u,e=H (Y #[v,u])/\Zk w.heap.size n T R v w':=by
 obtain⟨W,eW⟩:=Aj (((w.alloc (O #[I n,J (M ⟨tb,tf,N⟩) T.length tc,J qa R.length qc] 35)).alloc (O #[J sa ss.length c1,J ta ts.length c2] 40)).alloc (O z10 54));have bn:Bw w W:=qcj;have HQ:Hd (W.heap[w.heap.size]?=M (O #[I n,J (M ⟨tb,tf,N⟩) T.length tc,J qa R.length qc] 35 (0,0))):=qcm
 have HP:Hd (W.heap[w.heap.size+1]?=M (O #[J sa ss.length c1,J ta ts.length c2] 40 (0,0))):=by
  exact qch
 have HZ:Hd (W.heap[w.heap.size+1+1]?=M (O z10 54 (0,0))):=by
  exact qcg
 have vg:w.heap.size+1+1<W.heap.size:=Ag HZ.o;have my:=Ac bn;have K3:=Ac (Pd n tb tf tc qa qc T R W (hT.bl bn) (de.bl bn) (hrz.bl bn) hr jx);have K9:=Ac (λ(V:E) (hV:Bw w V)=>Jv n tb tf tc qa qc T R V (de.st.bl hV) (hrz.bl hV) de.lt hr jx);have HCK:=Ac (λ(V:E) (hV:Bw w V)=>Oh sa ta c1 c2 ss ts V (hT.bl hV) (xy.bl hV) lx);obtain⟨q0,q1,q2,qf⟩:=Dw HQ.o;clear hT de hrz hr jx xy lx bn;go_enter func66,ntmps66;go_wp2_with fail;clear eW;refine K3.o.mono ?_;rintro e w1 ⟨af,⟨hw,rfl⟩|⟨hw,g,g1,p1,sv,qv,rfl,hg,cw⟩⟩
 ·have kt:=Ac (Ad af HQ.o)
  have oc:=Ac (Ad af HZ.o);have ff:=Ac (bt my.o af);obtain⟨x0,x1,x2,xf⟩:=Dw kt.o;have d9:=af.size;clear af hw q0 q1 q2 qf HQ HP HZ K3 HCK gg;go_wp2_with fail;clear x0 x1 x2 xf;refine(K9.o w1 ff.o).mono ?_;exact qgw
 ·have kt:=Ac (Ad af HQ.o)
  have jr:=Ac (Ad af HP.o);have oc:=Ac (Ad af HZ.o);have ff:=Ac (bt my.o af);obtain⟨x0,x1⟩:=Fq jr.o;have d9:=af.size;have hc:Ic ss ts≠0:=λe=>gg ⟨hw,e⟩;have HC:=Ac (HCK.o w1 ff.o);generalize Ic ss ts=ck at *;clear af hw q0 q1 q2 qf HQ HP HZ K3 HCK gg cw hg;go_wp2_with fail;clear x0 x1;refine HC.o.mono ?_;rintro e w1b ⟨X6,rfl⟩;replace kt:=Ac (Ad X6 kt.o);replace oc:=Ac (Ad X6 oc.o);replace ff:=Ac (bt ff.o X6);have hs1b:=X6.size;clear X6 jr HC;obtain⟨x0,x1,x2,xf⟩:=Dw kt.o;(have hcI:(ck == 0)=false:=by simpa using hc);(have hcN:(ck != 0)=true:=by simpa using hc);go_wp2_with fail;clear x0 x1 x2 xf;refine(K9.o w1b ff.o).mono ?_;exact qgw
theorem Yf(n:Int)(tb tf tc:X)(qa sa ta:Option Addr)(qc c1 c2:X)(T:L By)(R:L T3)(ss:L S2)(ts:L T2)(nm:By)(w:E)(de:Nm w (M ⟨tb,tf,N⟩) T qa R)(zh:Uo w qa R)(hr:R.length≤1048576)(jx:∀i,i<R.length→(qx R i).code.length≤1048576∧(qx R i).looks.length≤1048576)(xy:Lv w sa ss ta ts)(lx:Fj ss ts)(cm:nm.size<=9223372036854775807)(gg:¬ (Ke n T R/\Ic ss ts=0/\Ar nm)):Calls prog 22 #[G #[I n,J (M ⟨tb,tf,N⟩) T.length tc,J qa R.length qc],G #[J sa ss.length c1,J ta ts.length c2],S nm] w λe w'=>Bw w w'/\∃v,e=H v/\Zk w.heap.size n T R v w':=by
 obtain⟨W,eW⟩:=Aj (((w.alloc (O #[I n,J (M ⟨tb,tf,N⟩) T.length tc,J qa R.length qc] 35)).alloc (O #[J sa ss.length c1,J ta ts.length c2] 40)).alloc (O z10 54));have bn:Bw w W:=qcj;have HQ:Hd (W.heap[w.heap.size]?=M (O #[I n,J (M ⟨tb,tf,N⟩) T.length tc,J qa R.length qc] 35 (0,0))):=qcm
 have HP:Hd (W.heap[w.heap.size+1]?=M (O #[J sa ss.length c1,J ta ts.length c2] 40 (0,0))):=by
  exact qch
 have HZ:Hd (W.heap[w.heap.size+1+1]?=M (O z10 54 (0,0))):=by
  exact qcg
 have vg:w.heap.size+1+1<W.heap.size:=Ag HZ.o;have my:=Ac bn;obtain⟨q0,q1,q2,qf⟩:=Dw HQ.o;obtain⟨x0,x1⟩:=Fq HP.o;have HVS:=Ac (Jo n _ _ tc qc T R W (de.bl bn));have HCK:=Ac (λ(V:E) (hV:Bw w V)=>Ob sa ta c1 c2 ss ts V (xy.bl hV) lx);have K9:=Ac (λ(V:E) (hV:Bw w V)=>Om n tb tf tc qa qc T R V (de.st.bl hV) (zh.bl hV) de.lt hr jx);have im:=Ac gg;clear de zh hr jx xy lx bn gg;go_enter func22,ntmps22;go_wp2_with fail;clear eW q0 q1 q2 qf x0 x1;refine HVS.o.mono ?_;clear HVS;rintro e w1 ⟨af,b,rfl,hbi⟩;replace HQ:=Ac (Ad af HQ.o);replace HP:=Ac (Ad af HP.o);replace HZ:=Ac (Ad af HZ.o);have ff:=Ac (bt my.o af);have d9:=af.size;clear af my;cases b
 ·clear hbi HCK im
  obtain⟨x0,x1,x2,xf⟩:=Dw HQ.o;go_wp2_with fail;clear x0 x1 x2 xf;refine(K9.o w1 ff.o).mono ?_;rintro e w9 ⟨hb9,g1,p1,v2,rfl,o1,o2⟩;obtain⟨a2,p2,rfl,_⟩:=o2.sl;have HZ9:=Ac (Ad hb9 HZ.o);have HB9:=Ac (bt ff.o hb9);have A9:=Ac (show Gc w9 w.heap.size (J (p_ g1) T.length p1) (J a2 R.length p2) T R from ⟨Ah o1.own (zo ff.o.size),⟨g1,p1,rfl⟩,o2.recO.base (zo ff.o.size)⟩);have hs9:=hb9.size;clear hb9 o1 o2 HQ HP HZ K9 ff;obtain⟨zc0,zc1,zc2,zc3,zc4,zc5,zc6,zc7,zc8,zc9⟩:=Fz HZ9.o;have zcf:=fZ HZ9.o;obtain⟨l,el⟩:∃l:L (X×X×Z),l=[((w.heap.size+1+1),0,I 9),((w.heap.size+1+1),1,ze),((w.heap.size+1+1),2,nS),((w.heap.size+1+1),3,I n),((w.heap.size+1+1),4,J (p_ g1) T.length p1),((w.heap.size+1+1),5,J a2 R.length p2),((w.heap.size+1+1),6,nS),((w.heap.size+1+1),7,nS),((w.heap.size+1+1),8,ze),((w.heap.size+1+1),9,ze)]:=⟨_,rfl⟩;have fk:∀x∈l,x.1=(w.heap.size+1+1):=qah;have d6:=Ep l w9 _ fk HZ9.o;have hS:=A9.o.setU fk HZ9.o;have gu:Bw w (Cu w9 l):=Cm l w9 HB9.o (λx hx=>qam);obtain⟨V,eV⟩:=Aj (Cu w9 l);rw[eV]at d6 gu hS;rw[el]at d6 eV;simp only[Cu,List.foldl]at eV;simp only[List.foldl,List.setIfInBounds_toArray,List.set_cons_zero,List.set_cons_succ]at d6;have HV:=Ac d6;have px:=Ac gu;have oo:=Ac hS;clear d6 gu el fk hS;go_wp2_with fail
  try rw[eV]
  obtain⟨y0,y1,y2,y3,y4,y5,y6,y7,y8,y9⟩:=Fz HV.o;exact bR (v:=G #[I 9,ze,nS,I n,J (p_ g1) T.length p1,J a2 R.length p2,nS,nS,ze,ze]) qfm rfl ⟨px.o,_,rfl,_,_,rfl,oo.o⟩
 have HWD:=Ac (hbi.1 rfl);clear hbi;obtain⟨x0,x1⟩:=Fq HP.o;have HC:=Ac (HCK.o w1 ff.o);have O4:Hd (¬ (Ic ss ts=0/\Ar nm)):=λh=>im.o ⟨HWD.o,h⟩;clear HCK im HWD;generalize Ic ss ts=ck at *;go_wp2_with fail;clear x0 x1;refine HC.o.mono ?_;clear HC;rintro e w2 ⟨ag,rfl⟩;replace HQ:=Ac (Ad ag HQ.o);replace HP:=Ac (Ad ag HP.o);replace HZ:=Ac (Ad ag HZ.o);have fw:=Ac (bt ff.o ag);have gj:=ag.size;clear ag ff
 by_cases hc:ck=0
 rotate_left 1
 ·have hcI:(ck == 0)=false:=by simpa using hc
  (have hcN:(ck != 0)=true:=by simpa using hc);clear O4;exact qgv
 subst hc;have U4:¬ Ar nm:=λh=>O4.o ⟨rfl,h⟩;have HNB:=Ac (Cn U4);clear O4 U4;go_wp2_with fail;refine(Ca nm w2 cm).mono ?_;rintro e w3 ⟨rfl,rfl⟩;rw[HNB.o];exact qgv
end Go.Proofs.YtbkkjodaaijimaaGreatDoor
