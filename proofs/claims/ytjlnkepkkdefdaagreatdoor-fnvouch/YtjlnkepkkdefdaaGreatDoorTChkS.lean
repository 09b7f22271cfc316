import Derived.Test.YtjlnkepkkdefdaaGreatDoorTChkT
namespace Go.Proofs.YtjlnkepkkdefdaaGreatDoor
open Go.RowKit
set_option linter.unusedVariables false
set_option maxHeartbeats 8000000
set_option maxRecDepth 100000
set_option linter.unusedSimpArgs false
def Kp (w:World) (v1 v2:Value) (wr:World):Prop:=Below w.heap.size w wr/\wr.cell? ⟨w.heap.size,0,none⟩=some v1/\wr.cell? ⟨w.heap.size,1,none⟩=some v2
theorem Kp.bl {w wr w':World} {v1 v2:Value} (h:Kp w v1 v2 wr) (hb:Below wr.heap.size wr w'):Kp w v1 v2 w':=⟨bt h.1 hb,Ab hb h.2.1,Ab hb h.2.2⟩
theorem allN_bad_s {ss:List S2} {k:Nat} (hk:k<ss.length) (h:Cu (sx ss k).name=false):¬ Gz (Ai ss):=fun hh=>by
 have:=hh k (by rw[Ca];exact hk)
 rw[Eb,h] at this;cases this
theorem allN_bad_t {ss:List T2} {k:Nat} (hk:k<ss.length) (h:Cu (tx ss k).name=false):¬ Gz (Ae ss):=fun hh=>by
 have:=hh k (by rw[Bj];exact hk)
 rw[Df,h] at this;cases this
theorem acts_step {ts:List T2} {k:Nat} {v:Int} (h:(v=0/\∀ j,j<k->Ah (tx ts j).code=true)\/(v=7/\∃ j,j<k/\Ah (tx ts j).code=false)) (hk:Ah (tx ts k).code=true):(v=0/\∀ j,j<k+1->Ah (tx ts j).code=true)\/(v=7/\∃ j,j<k+1/\Ah (tx ts j).code=false):=by
 rcases h with ⟨rfl,h⟩|⟨rfl,j,hj,h⟩
 ·exact Or.inl ⟨rfl,Dc h hk⟩
 ·exact Or.inr ⟨rfl,j,by omega,h⟩
theorem acts_end {ss:List S2} {ts:List T2} {k:Nat} {v:Int} (h1:¬ 200<ss.length+ts.length) (h2:Gz (Ai ss)/\Gz (Ae ts)) (h3:Ey (Ai ss)) (h4:Ey (Ae ts)) (h5:¬ Mk (Ai ss) (Ae ts)) (h6:Ix ss) (hk:k=ts.length) (h:(v=0/\∀ j,j<k->Ah (tx ts j).code=true)\/(v=7/\∃ j,j<k/\Ah (tx ts j).code=false)):Iw ss ts=v:=by
 subst hk
 rcases h with ⟨rfl,h⟩|⟨rfl,j,hj,h⟩
 ·exact chk0 h1 h2 h3 h4 h5 h6 h
 ·exact chk7 h1 h2 h3 h4 h5 h6 (fun hh=>by rw[hh j hj] at h;cases h)
theorem Tw (sa ta:Option Addr) (c1 c2:Nat) (ss:List S2) (ts:List T2) (w:World) (h:Mx w sa ss ta ts) (hsm:Mu ss ts) :
  Calls Tryz.prog 18 #[.agg #[.slice sa ss.length c1,.slice ta ts.length c2]] w fun e w'=>Below w.heap.size w w'/\e=.returned (.int .i64 (Iw ss ts)):=by
 have hb0:Below w.heap.size w (w.alloc (.cells #[.slice sa ss.length c1,.slice ta ts.length c2] 26)):=aN _ _
 obtain⟨rs,rt,ls,lt,ns,xs,nt,lc,xt⟩:=h
 obtain⟨l1,l2,l3⟩:=hsm
 have hkp:Kp w (.slice sa ss.length c1) (.slice ta ts.length c2) (w.alloc (.cells #[.slice sa ss.length c1,.slice ta ts.length c2] 26)):=⟨hb0,by simp[go_sem],by simp[go_sem]⟩
 by_cases hbig:200<ss.length+ts.length
 ·have HC:Hd (Iw ss ts=1):=chk1 hbig;clear rs rt ns xs nt lc xt l3;go_enter Tryz.func18,Tryz.ntmps18;go_wp2;go_ret;exact⟨hb0,by rw[HC.o];rfl⟩
 ·have HBIG:Hd (¬ 200<ss.length+ts.length):=hbig;have RS:Hd (Iz w sa ss):=rs;have RT:Hd (Iy w ta ts):=rt;have NS:Hd (∀ i,(sx ss i).name.size<=9223372036854775807):=ns;have NT:Hd (∀ i,(tx ts i).name.size<=9223372036854775807):=nt;have XS:Hd (∀ i,(sx ss i).text.size<=9223372036854775807):=xs;have XT:Hd (∀ i j,(ix (tx ts i).code j).text.size<=9223372036854775807):=xt;have L3:Hd (∀ i,i<ts.length->(tx ts i).code.length<=1048576):=l3;clear rs rt ns xs nt lc xt l3 hb0;go_enter Tryz.func18,Tryz.ntmps18;go_wp2
  go_loopw [5] (fun i wr=>∃ k:Nat,k<=ss.length/\i=.int .i64 k/\Hd (∀ j,j<k->Cu (sx ss j).name=true)/\Hd (Kp w (.slice sa ss.length c1) (.slice ta ts.length c2) wr)) (fun i _=>ss.length-(intOf i).toNat)
  case atStart=>exact⟨0,Nat.zero_le _,rfl,(fun j hj=>by omega:∀ j,j<0->Cu (sx ss j).name=true),hkp⟩
  case round=>
   obtain⟨k,hk,rfl,HA,HK⟩:=hrel;obtain⟨hbel,k0,k1⟩:=HK.o
   by_cases hlt:k<ss.length
   ·obtain⟨b,off,rfl,d1,d2⟩:=(RS.o.bl hbel) k hlt;have hsk:=NS.o k;(have hkI:(k:Int)<(ss.length:Int):=by omega);obtain⟨v,hv⟩:∃ v,Cu (sx ss k).name=v:=⟨_,rfl⟩;have HV:Hd (Cu (sx ss k).name=v):=hv;(have HN:Hd (∀ W:World,Calls Tryz.prog 19 #[.string (sx ss k).name] W fun e w'=>e=.returned (.bool v)/\W=w'):=fun W=>by rw[<- hv];exact Db _ W hsk);clear hv d2 hsk;generalize (sx ss k).name=s at d1 HN;cases v
    ·have HC:Hd (Iw ss ts=2):=chk2 HBIG.o (fun h=>allN_bad_s hlt HV.o h.1)
     go_wp2_with (go_at_call 19;refine(HN.o _).mono ?_;rintro e w' ⟨rfl,rfl⟩)
     go_ret;exact⟨hbel,by rw[HC.o];rfl⟩
    ·go_wp2_with (go_at_call 19;refine(HN.o _).mono ?_;rintro e w' ⟨rfl,rfl⟩)
     go_roundw
     case rel=>exact⟨k+1,by omega,by go_num,Dc HA.o HV.o,HK.o⟩
     case measure=>simp[intOf];omega
   ·(have HA1:Hd (Gz (Ai ss)):=fun j hj=>by rw[Eb];rw[Ca] at hj;exact HA.o j (by omega));clear HA;go_wp2
    go_loopw [6] (fun i wr=>∃ k:Nat,k<=ts.length/\i=.int .i64 k/\Hd (∀ j,j<k->Cu (tx ts j).name=true)/\Hd (Kp w (.slice sa ss.length c1) (.slice ta ts.length c2) wr)) (fun i _=>ts.length-(intOf i).toNat)
    case atStart=>exact⟨0,Nat.zero_le _,rfl,(fun j hj=>by omega:∀ j,j<0->Cu (tx ts j).name=true),HK.o⟩
    case round=>
     clear HK hbel k0 k1;obtain⟨k',hk',rfl,HA,HK⟩:=hrel;obtain⟨hbel,k0,k1⟩:=HK.o
     by_cases hlt:k'<ts.length
     ·obtain⟨b,off,rfl,d1,x,p,d2,d3⟩:=(RT.o.bl hbel) k' hlt;have hsk:=NT.o k';(have hkI:(k':Int)<(ts.length:Int):=by omega);obtain⟨v,hv⟩:∃ v,Cu (tx ts k').name=v:=⟨_,rfl⟩;have HV:Hd (Cu (tx ts k').name=v):=hv;(have HN:Hd (∀ W:World,Calls Tryz.prog 19 #[.string (tx ts k').name] W fun e w'=>e=.returned (.bool v)/\W=w'):=fun W=>by rw[<- hv];exact Db _ W hsk);clear hv d2 d3 hsk;generalize (tx ts k').name=s at d1 HN;cases v
      ·have HC:Hd (Iw ss ts=2):=chk2 HBIG.o (fun h=>allN_bad_t hlt HV.o h.2)
       go_wp2_with (go_at_call 19;refine(HN.o _).mono ?_;rintro e w' ⟨rfl,rfl⟩)
       go_ret;exact⟨hbel,by rw[HC.o];rfl⟩
      ·go_wp2_with (go_at_call 19;refine(HN.o _).mono ?_;rintro e w' ⟨rfl,rfl⟩)
       go_roundw
       case rel=>exact⟨k'+1,by omega,by go_num,Dc HA.o HV.o,HK.o⟩
       case measure=>simp[intOf];omega
     ·have H2:Hd (Gz (Ai ss)/\Gz (Ae ts)):=⟨HA1.o,fun j hj=>by rw[Df];rw[Bj] at hj;exact HA.o j (by omega)⟩;clear HA HA1;go_wp2
      go_loopw [7] (fun i wr=>∃ m:Nat,(m=0\/m+1<=ss.length)/\i=.int .i64 (m+1)/\Hd (∀ j,1<=j->j<m+1->Aw (nx (Ai ss) (j-1)) (nx (Ai ss) j)=true)/\Hd (Kp w (.slice sa ss.length c1) (.slice ta ts.length c2) wr)) (fun i _=>ss.length+1-(intOf i).toNat)
      case atStart=>exact⟨0,Or.inl rfl,rfl,(fun j h1 h2=>by omega:∀ j,1<=j->j<0+1->Aw (nx (Ai ss) (j-1)) (nx (Ai ss) j)=true),HK.o⟩
      case round=>
       clear HK hbel k0 k1;obtain⟨m,hm,rfl,HA,HK⟩:=hrel;obtain⟨hbel,k0,k1⟩:=HK.o
       by_cases hlt:m+1<ss.length
       ·obtain⟨b,off,rfl,d1,q1⟩:=(RS.o.bl hbel) m (by omega);obtain⟨b',off',e',d2,q2⟩:=(RS.o.bl hbel) (m+1) hlt;simp only[Option.some.injEq,Addr.mk.injEq,and_true] at e';obtain⟨rfl,rfl⟩:=e';rw[<- Eb] at d1 d2;clear q1 q2;obtain⟨v,hv⟩:∃ v,Aw (nx (Ai ss) m) (nx (Ai ss) (m+1))=v:=⟨_,rfl⟩;have HV:Hd (Aw (nx (Ai ss) m) (nx (Ai ss) (m+1))=v):=hv;unfold Aw at hv;generalize nx (Ai ss) m=s at d1 hv;generalize nx (Ai ss) (m+1)=s' at d2 hv;(have hltI:(m:Int)+1<(ss.length:Int):=by omega);cases v
        ·have HC:Hd (Iw ss ts=3):=chk3 HBIG.o H2.o (fun h=>by have:=h (m+1) (by omega) (by rw[Ca];exact hlt);rw[Nat.add_sub_cancel,HV.o] at this;cases this);go_wp2;go_region
         all_goals
          go_wp2;go_ret;exact⟨by repeat (first|exact hbel|apply Below.drew),by rw[HC.o];rfl⟩
        ·have HD:Hd (Kp w _ _ wr.drew):=HK.o.bl (Below.refl _ _).drew;go_wp2;go_region
         all_goals
          go_wp2;go_roundw
          case rel=>exact⟨m+1,by omega,by go_num,Jo HA.o HV.o,HD.o⟩
          case measure=>simp[intOf];omega
       ·(have H3:Hd (Ey (Ai ss)):=fun j h1 h2=>by rw[Ca] at h2;exact HA.o j h1 (by omega));clear HA;go_wp2
        go_loopw [8] (fun i wr=>∃ m:Nat,(m=0\/m+1<=ts.length)/\i=.int .i64 (m+1)/\Hd (∀ j,1<=j->j<m+1->Aw (nx (Ae ts) (j-1)) (nx (Ae ts) j)=true)/\Hd (Kp w (.slice sa ss.length c1) (.slice ta ts.length c2) wr)) (fun i _=>ts.length+1-(intOf i).toNat)
        case atStart=>exact⟨0,Or.inl rfl,rfl,(fun j h1 h2=>by omega:∀ j,1<=j->j<0+1->Aw (nx (Ae ts) (j-1)) (nx (Ae ts) j)=true),HK.o⟩
        case round=>
         clear HK hbel k0 k1;obtain⟨m,hm,rfl,HA,HK⟩:=hrel;obtain⟨hbel,k0,k1⟩:=HK.o
         by_cases hlt:m+1<ts.length
         ·obtain⟨b,off,rfl,d1,x1,p1,q1,r1⟩:=(RT.o.bl hbel) m (by omega);obtain⟨b',off',e',d2,x2,p2,q2,r2⟩:=(RT.o.bl hbel) (m+1) hlt;simp only[Option.some.injEq,Addr.mk.injEq,and_true] at e';obtain⟨rfl,rfl⟩:=e';rw[<- Df] at d1 d2;clear q1 r1 q2 r2;obtain⟨v,hv⟩:∃ v,Aw (nx (Ae ts) m) (nx (Ae ts) (m+1))=v:=⟨_,rfl⟩;have HV:Hd (Aw (nx (Ae ts) m) (nx (Ae ts) (m+1))=v):=hv;unfold Aw at hv;generalize nx (Ae ts) m=s at d1 hv;generalize nx (Ae ts) (m+1)=s' at d2 hv;(have hltI:(m:Int)+1<(ts.length:Int):=by omega);cases v
          ·have HC:Hd (Iw ss ts=4):=chk4 HBIG.o H2.o H3.o (fun h=>by have:=h (m+1) (by omega) (by rw[Bj];exact hlt);rw[Nat.add_sub_cancel,HV.o] at this;cases this);go_wp2;go_region
           all_goals
            go_wp2;go_ret;exact⟨by repeat (first|exact hbel|apply Below.drew),by rw[HC.o];rfl⟩
          ·have HD:Hd (Kp w _ _ wr.drew):=HK.o.bl (Below.refl _ _).drew;go_wp2;go_region
           all_goals
            go_wp2;go_roundw
            case rel=>exact⟨m+1,by omega,by go_num,Jo HA.o HV.o,HD.o⟩
            case measure=>simp[intOf];omega
         ·(have H4:Hd (Ey (Ae ts)):=fun j h1 h2=>by rw[Bj] at h2;exact HA.o j h1 (by omega));clear HA;go_wp2
          go_loopw [9] (fun i wr=>∃ k:Nat,k<=ss.length/\i=.int .i64 k/\Hd (∀ j,j<k->¬ Fi (Ae ts) (sx ss j).name)/\Hd (Kp w (.slice sa ss.length c1) (.slice ta ts.length c2) wr)) (fun i _=>ss.length-(intOf i).toNat)
          case atStart=>exact⟨0,Nat.zero_le _,rfl,(fun j hj=>by omega:∀ j,j<0->¬ Fi (Ae ts) (sx ss j).name),HK.o⟩
          case round=>
           clear HK hbel k0 k1;obtain⟨k5,hk5,rfl,HA,HK⟩:=hrel;obtain⟨hbel,k0,k1⟩:=HK.o
           by_cases hlt:k5<ss.length
           ·obtain⟨b,off,rfl,d1,d2⟩:=(RS.o.bl hbel) k5 hlt;(have hkI:(k5:Int)<(ss.length:Int):=by omega);obtain⟨s,es⟩:∃ s,(sx ss k5).name=s:=⟨_,rfl⟩;have ES:Hd ((sx ss k5).name=s):=es;rw[es] at d1;clear es d2;have hbd:Below wr.heap.size wr wr.drew:=(Below.refl _ _).drew;have RTd:Hd (Iy wr.drew ta ts):=(RT.o.bl hbel).bl hbd;clear hbd;go_wp2_with fail
            go_region_held3 (fun w'=>w'.cell? ⟨w.heap.size,0,none⟩=some (.slice (some ⟨b,off,none⟩) ss.length c1)/\w'.cell? ⟨w.heap.size,1,none⟩=some (.slice ta ts.length c2)/\w'.cell? ⟨b,off+k5*2,none⟩=some (.string s))
             (first|assumption|(simp[*];done)|exact⟨Ab hb1 (by simp[*]),Ab hb1 (by simp[*]),Ab hb1 (by simp[*])⟩)
             (first|(go_at_call 43;refine(Wf (some ⟨b,off,none⟩) ta ss.length c1 c2 ts s _ RTd.o l2).mono ?_;rintro e w1 ⟨hb1,r,rfl,hr⟩))
            all_goals
             have HD:Hd (Kp w (.slice (some ⟨b,off,none⟩) ss.length c1) (.slice ta ts.length c2) w1):=(HK.o.bl (Below.refl _ _).drew).bl hb1
             rcases hr with ⟨hr,hh⟩|⟨hr,hh⟩
             ·have HC:Hd (Iw ss ts=5):=chk5 HBIG.o H2.o H3.o H4.o ⟨k5,by rw[Ca];exact hlt,by rw[Eb,ES.o];exact hh⟩;clear hh;go_wp2;go_ret;exact⟨HD.o.1,by rw[HC.o];rfl⟩
             ·have HNo:Hd (¬ Fi (Ae ts) s):=hh;clear hh;go_wp2;go_roundw
              case rel=>exact⟨k5+1,by omega,by go_num,Dc HA.o (by rw[ES.o];exact HNo.o),HD.o⟩
              case measure=>simp[intOf];omega
           ·(have H5:Hd (¬ Mk (Ai ss) (Ae ts)):=fun ⟨j,hj,hh⟩=>by rw[Ca] at hj;rw[Eb] at hh;exact HA.o j (by omega) hh);clear HA;go_wp2
            go_loopw [10] (fun i wr=>∃ k:Nat,k<=ss.length/\i=.int .i64 k/\Hd (∀ j,j<k->(sx ss j).text.size<=2000)/\Hd (Kp w (.slice sa ss.length c1) (.slice ta ts.length c2) wr)) (fun i _=>ss.length-(intOf i).toNat)
            case atStart=>exact⟨0,Nat.zero_le _,rfl,(fun j hj=>by omega:∀ j,j<0->(sx ss j).text.size<=2000),HK.o⟩
            case round=>
             clear HK hbel k0 k1;obtain⟨k6,hk6,rfl,HA,HK⟩:=hrel;obtain⟨hbel,k0,k1⟩:=HK.o
             by_cases hlt:k6<ss.length
             ·obtain⟨b,off,rfl,d1,d2⟩:=(RS.o.bl hbel) k6 hlt;(have hkI:(k6:Int)<(ss.length:Int):=by omega);have hsk:=XS.o k6;obtain⟨s,es⟩:∃ s,(sx ss k6).text=s:=⟨_,rfl⟩;have ES:Hd ((sx ss k6).text=s):=es;rw[es] at d2 hsk;clear es d1
              by_cases hts:s.size<=2000
              ·go_wp2;go_roundw
               case rel=>exact⟨k6+1,by omega,by go_num,Dc HA.o (by rw[ES.o];exact hts),HK.o⟩
               case measure=>simp[intOf];omega
              ·have HC:Hd (Iw ss ts=6):=chk6 HBIG.o H2.o H3.o H4.o H5.o (fun h=>by have:=h k6 hlt;rw[ES.o] at this;omega);go_wp2;go_ret;exact⟨hbel,by rw[HC.o];rfl⟩
             ·have H6:Hd (Ix ss):=fun j hj=>HA.o j (by omega);clear HA;go_wp2
              go_loopw [4,11] (fun x i wr=>∃ k:Nat,∃ v:Int,k<=ts.length/\x=.int .i64 v/\i=.int .i64 k/\Hd ((v=0/\∀ j,j<k->Ah (tx ts j).code=true)\/(v=7/\∃ j,j<k/\Ah (tx ts j).code=false))/\Hd (Kp w (.slice sa ss.length c1) (.slice ta ts.length c2) wr)) (fun _ i _=>ts.length-(intOf i).toNat)
              case atStart=>exact⟨0,0,Nat.zero_le _,rfl,rfl,(Or.inl ⟨rfl,fun j hj=>by omega⟩:((0:Int)=0/\∀ j,j<0->Ah (tx ts j).code=true)\/((0:Int)=7/\∃ j,j<0/\Ah (tx ts j).code=false)),HK.o⟩
              case round=>
               clear HK hbel k0 k1;obtain⟨k7,v7,hk7,rfl,rfl,HA,HK⟩:=hrel;obtain⟨hbel,k0,k1⟩:=HK.o
               by_cases hlt:k7<ts.length
               ·obtain⟨b,off,rfl,d1,x,p,d2,d3⟩:=(RT.o.bl hbel) k7 hlt;(have hkI:(k7:Int)<(ts.length:Int):=by omega);have hck:=L3.o k7 hlt;have hxk:=XT.o k7;obtain⟨i,ei⟩:∃ i,(tx ts k7).code=i:=⟨_,rfl⟩;have EI:Hd ((tx ts k7).code=i):=ei;rw[ei] at d2 d3 hck hxk;clear ei d1;obtain⟨v,hv⟩:∃ v,Ah i=v:=⟨_,rfl⟩;have HV:Hd (Ah i=v):=hv;(have HN:Hd (Calls Tryz.prog 44 #[.agg #[.slice x i.length p]] wr fun e w'=>Below wr.heap.size wr w'/\e=.returned (.bool v)):=by rw[<- hv];exact Cs x p i wr d3 hck hxk);clear hv d3 hxk;cases v
                ·go_wp2_with (go_at_call 44;refine HN.o.mono ?_;rintro e w1 ⟨hb1,rfl⟩)
                 go_roundw
                 case rel=>exact⟨k7+1,7,by omega,rfl,by go_num,Or.inr ⟨rfl,k7,by omega,by rw[EI.o];exact HV.o⟩,HK.o.bl hb1⟩
                 case measure=>simp[intOf];omega
                ·go_wp2_with (go_at_call 44;refine HN.o.mono ?_;rintro e w1 ⟨hb1,rfl⟩)
                 go_roundw
                 case rel=>exact⟨k7+1,v7,by omega,rfl,by go_num,acts_step HA.o (by rw[EI.o];exact HV.o),HK.o.bl hb1⟩
                 case measure=>simp[intOf];omega
               ·have HC:Hd (Iw ss ts=v7):=acts_end HBIG.o H2.o H3.o H4.o H5.o H6.o (by omega) HA.o;clear HA;go_wp2;go_ret;exact⟨hbel,by rw[HC.o];rfl⟩
end Go.Proofs.YtjlnkepkkdefdaaGreatDoor
