import Derived.Test.YtbkkjodaaijimaaGreatDoorBtF
namespace Go.Proofs.YtbkkjodaaijimaaGreatDoor
open _root_.Go.Proofs.Tryz Go.RowKit Go.Deep
open Value renaming slice->J,string->S,bool->F,agg->G
open Option renaming some->M,none->N
open Obj renaming cells->O
open Go renaming Value->Z,World->E
open Ending renaming returned->H
open _root_ renaming List->L,Nat->X
set_option linter.unusedVariables false
set_option linter.unusedSimpArgs false
set_option maxRecDepth 100000
set_option maxHeartbeats 8000000
variable {k B g n j e sz lo hi m:X} {xs ys zs:L Z} {w w' w2:E} {ss:L S2} {ts:L T2} {cv:X->Z} {cl:X->X}
def Fl(g:X)(w w':E):Prop:=∀b,b<w.heap.size->b≠g->w'.heap[b]?=w.heap[b]?
theorem szIns_any(i:I3)(l:Int)(w:E)(h0:0<=l)(h1:l<=1048576)(hs:i.text.size<=9223372036854775807):Calls prog 104 #[G #[I i.op,S i.text,I i.n],I l] w λe w'=>Bw w w'/\((l-i.text.size<0/\e=H (I (-1)))\/(0<=l-i.text.size/\e=H (I (l-i.text.size)))):=by
 by_cases h:l-i.text.size<0
 ·go_enter func104,ntmps104
  go_wp2;go_ret;exact⟨aN _ _,Or.inl ⟨h,rfl⟩⟩
 ·go_enter func104,ntmps104
  go_wp2;go_ret;exact⟨aN _ _,Or.inr ⟨qb,rfl⟩⟩
theorem toIns_any(i:I3)(w:E):Calls prog 115 #[G #[I i.op,S i.text,I i.n]] w λe w'=>Bw w w'/\e=H (G #[I i.op,S i.text,I i.n]):=by
 go_enter func115,ntmps115;go_wp2;exact bR (v:=G #[I i.op,S i.text,I i.n]) (by simp[results,results115,go_sem]) rfl ⟨((aN _ _).alloc qg _).alloc qh _,rfl⟩
theorem eqIns_same(i:I3)(w:E):Calls prog 131 #[G #[I i.op,S i.text,I i.n],G #[I i.op,S i.text,I i.n]] w λe w'=>Bw w w'/\e=H (F true):=by
 have e1:=Dg (rfl:i.text=i.text);go_enter func131,ntmps131;exact qex
theorem eqInsS_same(a a':Option Addr)(cap ai:X)(is:L I3)(w:E)(hc:Bu w a is)(mr:Bu w a' is)(hl:is.length<=1048576):Calls prog 102 #[J a is.length cap,J a' is.length ai] w λe w'=>Bw w w'/\e=H (F true):=by
 go_enter func102,ntmps102;go_wp2
 go_loopw [5] (λi wr=>∃k:X,k<=is.length/\i=I k/\Bw w wr) (λi _=>is.length-(intOf i).toNat)
 case atStart=>exact⟨0,Nat.zero_le _,rfl,Below.refl _ _⟩
 case round=>
  obtain⟨k,hk,rfl,am⟩:=hrel
  by_cases aj:k<is.length
  ·obtain⟨b,off,rfl,c1,c2,c3⟩:=(hc.bl am) k aj
   obtain⟨b',bp,rfl,d1,d2,d3⟩:=(mr.bl am) k aj;generalize ix is k=i at *;clear hc mr;have io:(k:Int)<(is.length:Int):=qb;have iy:(0:Int)<=(k:Int):=qb;go_wp2_with fail
   go_region_held3 (λw'=>(w'.cell? ⟨b,off+k*3,N⟩=M (I i.op)/\w'.cell? ⟨b,off+k*3+1,N⟩=M (S i.text)/\w'.cell? ⟨b,off+k*3+2,N⟩=M (I i.n))/\(w'.cell? ⟨b',bp+k*3,N⟩=M (I i.op)/\w'.cell? ⟨b',bp+k*3+1,N⟩=M (S i.text)/\w'.cell? ⟨b',bp+k*3+2,N⟩=M (I i.n)))
    (first|assumption|(simp[*];done)|exact⟨⟨Aa af qt,Aa af qt,Aa af qt⟩,Aa af qt,Aa af qt,Aa af qt⟩)
    (first|(go_at_call 131;refine(eqIns_same i _).mono ?_;rintro e w1 ⟨af,rfl⟩))
   all_goals
    go_wp2;go_roundw
    case rel=>exact⟨k+1,qb,qj,am.trans (Below.trans (Below.drew (Below.refl _ _)) (af.mono qct))⟩
    case measure=>simp[intOf];omega
  ·exact qbl
theorem Nh(a a':Option Addr)(cap ai:X)(is:L I3)(w:E)(hc:Bu w a is)(mr:Bu w a' is)(hl:is.length<=1048576):Calls prog 78 #[G #[J a is.length cap],G #[J a' is.length ai]] w λe w'=>Bw w w'/\e=H (F true):=by
 go_enter func78,ntmps78;go_wp2_with fail;have ak:Bw w ((w.alloc (O #[J a is.length cap] 91)).alloc (O #[J a' is.length ai] 91)):=(aN _ _).alloc qg _;refine(eqInsS_same a a' cap ai is _ (hc.bl ak) (mr.bl ak) hl).mono ?_;rintro e w1 ⟨af,rfl⟩;go_wp2;go_ret;exact⟨ak.trans (af.mono ak.size),rfl⟩
theorem Qab(a:Option Addr)(cap:X)(is:L I3)(lft:Int)(w:E)(hf0:0<=lft)(zt:lft<=1048576)(hc:Bu w a is)(hl:is.length<=maxLen)(hs:∀i,(ix is i).text.size<=maxLen):Calls prog 80 #[J a is.length cap,I lft] w λe w'=>Bw w w'/\∃r:Int,e=H (I r)/\(r<0\/((is.length:Int)<=lft/\0<=r/\r<=lft)):=by
 unfold maxLen at hl hs
 by_cases h0:(is.length:Int)<=lft
 ·go_enter func80,ntmps80
  go_wp2
  go_loopw [1,5] (λl i wr=>∃k:X,∃q:Int,k<=is.length/\i=I k/\l=I q/\0<=q/\q<=lft/\Bw w wr) (λ_ i _=>is.length-(intOf i).toNat)
  case atStart=>exact⟨0,_,Nat.zero_le _,rfl,rfl,qb,qb,Below.refl _ _⟩
  case round=>
   obtain⟨k,q,hk,rfl,rfl,hq0,km,bc⟩:=hrel
   by_cases aj:k<is.length
   ·obtain⟨b,off,rfl,c1,c2,c3⟩:=(hc.bl bc) k aj
    have fx:=hs k;clear hs hc;generalize ix is k=i at *;go_wp2_with fail;refine(szIns_any i _ _ qb qb fx).mono ?_;rintro e w1 ⟨af,⟨hneg,rfl⟩|⟨hpos,rfl⟩⟩
    ·go_wp2
     go_ret;exact⟨bc.trans (af.mono bc.size),-1,rfl,qb⟩
    ·exact qjo
   ·go_wp2
    go_ret;exact⟨bc,_,rfl,qb⟩
 ·go_enter func80,ntmps80
  go_wp2;go_ret;exact⟨Below.refl _ _,-1,rfl,qb⟩
theorem Mr(a:Option Addr)(cap:X)(is:L I3)(lft:Int)(w:E)(hf0:0<=lft)(zt:lft<=1048576)(hc:Bu w a is)(hl:is.length<=maxLen)(hs:∀i,(ix is i).text.size<=maxLen):Calls prog 55 #[G #[J a is.length cap],I lft] w λe w'=>Bw w w'/\∃r:Int,e=H (I r)/\(r<0\/((is.length:Int)<=lft/\0<=r/\r<=lft)):=by
 have ak:Bw w (w.alloc (O #[J a is.length cap] 70)):=aN _ _;go_enter func55,ntmps55;go_wp2_with fail;refine(Qab a cap is lft _ hf0 zt (hc.bl ak) hl hs).mono ?_;exact qjl
theorem Xu(i:S2)(l:Int)(w:E)(h0:0<=l)(h1:l<=1048576)(hs:i.name.size<=maxLen)(ht:i.text.size<=maxLen):Calls prog 37 #[G #[S i.name,S i.text],I l] w λe w'=>Bw w w'/\∃r:Int,e=H (I r)/\(r<0\/(0<=r/\r<=l)):=by
 unfold maxLen at hs ht
 by_cases h:l-i.name.size<0
 ·exact qes
 ·by_cases h2:l-i.name.size-i.text.size<0
  ·exact qes
  ·exact qes
theorem Xr(n:By)(a:Option Addr)(cap:X)(is:L I3)(l:Int)(w:E)(h0:0<=l)(h1:l<=1048576)(hn:n.size<=maxLen)(hc:Bu w a is)(hl:is.length<=maxLen)(hs:∀i,(ix is i).text.size<=maxLen):Calls prog 38 #[G #[S n,J a is.length cap],I l] w λe w'=>Bw w w'/\∃r:Int,e=H (I r)/\(r<0\/(is.length<=1048576/\0<=r/\r<=l)):=by
 have ak:Bw w (w.alloc (O #[S n,J a is.length cap] 79)):=aN _ _;unfold maxLen at hn
 by_cases h:l-n.size<0
 ·go_enter func38,ntmps38
  go_wp2;go_ret;exact⟨ak,_,rfl,qb⟩
 ·go_enter func38,ntmps38
  go_wp2_with fail;refine(Mr a cap is (l-n.size) _ qb qb (hc.bl ak) hl hs).mono ?_;exact qjl
theorem szSS_any(a:Option Addr)(cap:X)(is:L S2)(lft:Int)(w:E)(hf0:0<=lft)(zt:lft<=1048576)(hc:Ho w a is)(hl:is.length<=maxLen)(hs:∀i,(sx is i).name.size<=maxLen)(ht:∀i,(sx is i).text.size<=maxLen):Calls prog 19 #[J a is.length cap,I lft] w λe w'=>Bw w w'/\∃r:Int,e=H (I r)/\(r<0\/((is.length:Int)<=lft/\0<=r/\r<=lft)):=by
 have F4:=hl;unfold maxLen at F4
 by_cases h0:(is.length:Int)<=lft
 ·go_enter func19,ntmps19
  go_wp2
  go_loopw [1,5] (λl i wr=>∃k:X,∃q:Int,k<=is.length/\i=I k/\l=I q/\0<=q/\q<=lft/\Bw w wr) (λ_ i _=>is.length-(intOf i).toNat)
  case atStart=>exact⟨0,_,Nat.zero_le _,rfl,rfl,qb,qb,Below.refl _ _⟩
  case round=>
   obtain⟨k,q,hk,rfl,rfl,hq0,km,bc⟩:=hrel
   by_cases aj:k<is.length
   ·obtain⟨b,off,rfl,c1,c2⟩:=(hc.bl bc) k aj
    have fx:=hs k;have fe:=ht k;clear hs ht hc;generalize sx is k=i at *;go_wp2_with fail;refine(Xu i _ _ qb qb fx fe).mono ?_;rintro e w1 ⟨af,r,rfl,hr⟩
    rcases hr with hr|hr
    ·go_wp2
     go_ret;exact⟨bc.trans (af.mono bc.size),-1,rfl,qb⟩
    ·have zk:0<=r:=qb
     have kl:r<=q:=qb;exact qjo
   ·go_wp2
    go_ret;exact⟨bc,_,rfl,qb⟩
 ·go_enter func19,ntmps19
  go_wp2;go_ret;exact⟨Below.refl _ _,-1,rfl,qb⟩
theorem szTS_any(a:Option Addr)(cap:X)(is:L T2)(lft:Int)(w:E)(hf0:0<=lft)(zt:lft<=1048576)(hc:Gu w a is)(hl:is.length<=maxLen)(hs:∀i,(tx is i).name.size<=maxLen)(ht:∀i,(tx is i).code.length<=maxLen)(hu:∀i j,(ix (tx is i).code j).text.size<=maxLen):Calls prog 20 #[J a is.length cap,I lft] w λe w'=>Bw w w'/\∃r:Int,e=H (I r)/\(r<0\/((is.length:Int)<=lft/\0<=r/\r<=lft/\∀i,i<is.length->(tx is i).code.length<=1048576)):=by
 have F4:=hl;unfold maxLen at F4
 by_cases h0:(is.length:Int)<=lft
 ·go_enter func20,ntmps20
  go_wp2
  go_loopw [1,5] (λl i wr=>∃k:X,∃q:Int,k<=is.length/\i=I k/\l=I q/\0<=q/\q<=lft/\Bw w wr/\Hd (∀i,i<k->(tx is i).code.length<=1048576)) (λ_ i _=>is.length-(intOf i).toNat)
  case atStart=>exact⟨0,_,Nat.zero_le _,rfl,rfl,qb,qb,Below.refl _ _,(λi hi=>by omega:∀i,i<0->(tx is i).code.length<=1048576)⟩
  case round=>
   obtain⟨k,q,hk,rfl,rfl,hq0,km,bc,HK⟩:=hrel
   by_cases aj:k<is.length
   ·obtain⟨b,off,rfl,c1,a',ai,c2,c3⟩:=(hc.bl bc) k aj
    have fx:=hs k;have fe:=ht k;have huk:=hu k;clear hs ht hc;obtain⟨i,ei⟩:=Aj (tx is k);rw[ei]at c1 c2 c3 fx fe huk;have EI:Hd (tx is k=i):=ei;clear ei;go_wp2_with fail;refine(Xr i.name a' ai i.code _ _ qb qb fx c3 fe huk).mono ?_;rintro e w1 ⟨af,r,rfl,hr⟩
    rcases hr with hr|hr
    ·go_wp2
     go_ret;exact⟨bc.trans (af.mono bc.size),-1,rfl,Or.inl qb⟩
    ·have zk:0<=r:=qb
     have kl:r<=q:=qb;go_wp2;go_roundw
     case rel=>exact⟨k+1,_,qb,qj,rfl,qb,qb,bc.trans (af.mono bc.size),Co HK.o (by rw[EI.o];omega)⟩
     case measure=>simp[intOf];omega
   ·exact qkr
 ·go_enter func20,ntmps20
  exact qfc
theorem filledS_set{is:L S2}(h:Kq is k xs)(hx:k*2+1<xs.length):Kq is (k+1) ((xs.set (k*2) (S (sx is k).name)).set (k*2+1) (S (sx is k).text)):=by
 intro i hi
 rcases Nat.lt_or_ge i k with hl|hl
 ·obtain⟨h1,h2⟩:=h i hl
  simp only[List.getElem?_set];rw[if_neg qb,if_neg qb,if_neg qb,if_neg qb];exact⟨h1,h2⟩
 ·obtain rfl:i=k:=qb
  simp[List.getElem?_set];omega
theorem Tryz.info96:(prog.info? 96).map (λi=>(i.zero,i.size,i.bytes))=M (M (G #[S ByteArray.empty,S ByteArray.empty]),2,32):=qi
theorem Tryz.info99:(prog.info? 99).map (λi=>(i.zero,i.size,i.bytes))=M (M (G #[S ByteArray.empty,nS]),2,40):=qi
theorem Dq{cap T:X}(h:w.ownsRow B T 2 (J (p_ g) n cap) n xs)(hj:j<n*2):∃v,w.cell? ⟨g,j,N⟩=M v:=by
 exact qeu
theorem Xm(i:S2)(w:E):Calls prog 45 #[G #[S i.name,S i.text]] w λe w'=>Bw w w'/\e=H (G #[S i.name,S i.text]):=by
 go_enter func45,ntmps45;go_wp2;exact bR (v:=G #[S i.name,S i.text]) (by simp[results,results45,go_sem]) rfl ⟨((aN _ _).alloc qg _).alloc qh _,rfl⟩
theorem Vv(i:S2)(w:E):Calls prog 51 #[G #[S i.name,S i.text],G #[S i.name,S i.text]] w λe w'=>Bw w w'/\e=H (F true):=by
 have e1:=Dg (rfl:i.text=i.text);have e2:=Dg (rfl:i.name=i.name);go_enter func51,ntmps51;exact qex
theorem Ue(a a':Option Addr)(cap ai:X)(is:L S2)(w:E)(hc:Ho w a is)(mr:Ho w a' is)(hl:is.length<=1048576):Calls prog 30 #[J a is.length cap,J a' is.length ai] w λe w'=>Bw w w'/\e=H (F true):=by
 go_enter func30,ntmps30;go_wp2
 go_loopw [5] (λi wr=>∃k:X,k<=is.length/\i=I k/\Bw w wr) (λi _=>is.length-(intOf i).toNat)
 case atStart=>exact⟨0,Nat.zero_le _,rfl,Below.refl _ _⟩
 case round=>
  obtain⟨k,hk,rfl,am⟩:=hrel
  by_cases aj:k<is.length
  ·obtain⟨b,off,rfl,c1,c2⟩:=(hc.bl am) k aj
   obtain⟨b',bp,rfl,d1,d2⟩:=(mr.bl am) k aj;generalize sx is k=i at *;clear hc mr;have io:(k:Int)<(is.length:Int):=qb;have iy:(0:Int)<=(k:Int):=qb;go_wp2_with fail
   go_region_held3 (λw'=>(w'.cell? ⟨b,off+k*2,N⟩=M (S i.name)/\w'.cell? ⟨b,off+k*2+1,N⟩=M (S i.text))/\(w'.cell? ⟨b',bp+k*2,N⟩=M (S i.name)/\w'.cell? ⟨b',bp+k*2+1,N⟩=M (S i.text)))
    (first|assumption|(simp[*];done)|exact⟨⟨Aa af qt,Aa af qt⟩,Aa af qt,Aa af qt⟩)
    (first|(go_at_call 51;refine(Vv i _).mono ?_;rintro e w1 ⟨af,rfl⟩))
   all_goals
    go_wp2;go_roundw
    case rel=>exact⟨k+1,qb,qj,am.trans (Below.trans (Below.drew (Below.refl _ _)) (af.mono qct))⟩
    case measure=>simp[intOf];omega
  ·exact qbl
theorem Vu(n:By)(a a':Option Addr)(cap ai:X)(is:L I3)(w:E)(hc:Bu w a is)(mr:Bu w a' is)(hl:is.length<=1048576):Calls prog 52 #[G #[S n,J a is.length cap],G #[S n,J a' is.length ai]] w λe w'=>Bw w w'/\e=H (F true):=by
 have e2:=Dg (rfl:n=n);have ak:Bw w ((w.alloc (O #[S n,J a is.length cap] 99)).alloc (O #[S n,J a' is.length ai] 99)):=(aN _ _).alloc qg _;go_enter func52,ntmps52;go_wp2_with fail;refine(Nh a a' cap ai is _ (hc.bl ak) (mr.bl ak) hl).mono ?_;rintro e w1 ⟨af,rfl⟩;go_wp2;go_ret;exact⟨bt ak af,rfl⟩
theorem Ud(a a':Option Addr)(cap ai:X)(is:L T2)(w:E)(hc:Gu w a is)(mr:Gu w a' is)(hl:is.length<=1048576)(jx:∀i,i<is.length->(tx is i).code.length<=1048576):Calls prog 31 #[J a is.length cap,J a' is.length ai] w λe w'=>Bw w w'/\e=H (F true):=by
 have HK:Hd (∀i,i<is.length->(tx is i).code.length<=1048576):=jx;clear jx;go_enter func31,ntmps31;go_wp2
 go_loopw [5] (λi wr=>∃k:X,k<=is.length/\i=I k/\Bw w wr) (λi _=>is.length-(intOf i).toNat)
 case atStart=>exact⟨0,Nat.zero_le _,rfl,Below.refl _ _⟩
 case round=>
  obtain⟨k,hk,rfl,am⟩:=hrel
  by_cases aj:k<is.length
  ·obtain⟨b,off,rfl,c1,x,p,c2,c3⟩:=(hc.bl am) k aj
   obtain⟨b',bp,rfl,d1,x',p',d2,d3⟩:=(mr.bl am) k aj;have yg:=HK.o k aj;generalize tx is k=i at *;clear hc mr;have C3:Hd (Bu wr x i.code):=c3;have D3:Hd (Bu wr x' i.code):=d3;clear c3 d3;have io:(k:Int)<(is.length:Int):=qb;have iy:(0:Int)<=(k:Int):=qb;have f9:Bw wr wr.drew:=(Below.refl _ _).drew;go_wp2_with fail
   go_region_held3 (λw'=>(w'.cell? ⟨b,off+k*2,N⟩=M (S i.name)/\w'.cell? ⟨b,off+k*2+1,N⟩=M (J x i.code.length p))/\(w'.cell? ⟨b',bp+k*2,N⟩=M (S i.name)/\w'.cell? ⟨b',bp+k*2+1,N⟩=M (J x' i.code.length p')))
    (first|assumption|(simp[*];done)|exact⟨⟨Aa af qt,Aa af qt⟩,Aa af qt,Aa af qt⟩)
    (first|(go_at_call 52;refine(Vu i.name x x' p p' i.code _ (C3.o.bl f9) (D3.o.bl f9) yg).mono ?_;rintro e w1 ⟨af,rfl⟩))
   all_goals
    go_wp2;go_roundw
    case rel=>exact⟨k+1,qb,qj,am.trans (Below.trans (Below.drew (Below.refl _ _)) (af.mono qct))⟩
    case measure=>simp[intOf];omega
  ·exact qbl
theorem Zi(sa ta sa' mz:Option Addr)(c1 c2 D1 yl:X)(ss:L S2)(ts:L T2)(w:E)(rs:Ho w sa ss)(rt:Gu w ta ts)(rs':Ho w sa' ss)(rt':Gu w mz ts)(h:Fj ss ts):Calls prog 12 #[G #[J sa ss.length c1,J ta ts.length c2],G #[J sa' ss.length D1,J mz ts.length yl]] w λe w'=>Bw w w'/\e=H (F true):=by
 obtain⟨h1,h2,h3⟩:=h;have ak:Bw w ((w.alloc (O #[J sa ss.length c1,J ta ts.length c2] 40)).alloc (O #[J sa' ss.length D1,J mz ts.length yl] 40)):=(aN _ _).alloc qg _;go_enter func12,ntmps12;go_wp2_with fail;refine(Ue sa sa' c1 D1 ss _ (rs.bl ak) (rs'.bl ak) h1).mono ?_;rintro e w1 ⟨af,rfl⟩;have bh:=bt ak af;have k1:w1.cell? ⟨w.heap.size,1,N⟩=M (J ta ts.length c2):=Aa af qk;have k2:w1.cell? ⟨w.heap.size+1,1,N⟩=M (J mz ts.length yl):=Aa af qk;clear ak af;go_wp2_with fail;refine(Ud ta mz c2 yl ts _ (rt.bl bh) (rt'.bl bh) h2 h3).mono ?_;rintro e w2 ⟨ag,rfl⟩;go_wp2;go_ret;exact⟨bt bh ag,rfl⟩
def digM(n:X):By:=⟨#[UInt8.ofNat (48+n)]⟩
theorem dig_byteM(d:X)(h:d<10):((UInt8.ofNat (48+d)).toNat:Int)=48+d:=by rw[UInt8.toNat_ofNat'];omega
theorem qconv_one(W:E)(g:X)(c:Int)(u:UInt8)(hu:(u.toNat:Int)=c)(h:W.cell? ⟨g,0,N⟩=M (.int .u8 c)):(convert 110 9 (J (p_ g) 1 1)).run prog W=.ok (S ⟨#[u]⟩) W:=by
 subst hu
 exact run_convert_bytes_back (P:=prog) W 110 9 5 ⟨g,0,N⟩ 1 [u] underlying110 underlying5 underlying9 (λt ht=>by
  (obtain rfl:t=0:=by simp at ht;omega);simpa [Addr.add] using h)
def mtL:X->X->By->ByteArray
 | 0,_,out=>out
 | f+1,k,out=>if k=0 then out else mtL f (k / 10) (digM (k % 10)++out)
theorem mtL_zero(f:X)(out:By):mtL f 0 out=out:=by cases f<;>simp[mtL]
def mt(k:X):By:=⟨#[109]⟩++mtL 16 k ⟨#[]⟩
theorem Dt(K:X)(w:E)(h1:1<=K)(h2:K<1000000000000000):Calls prog 35 #[I K] w λe w'=>Bw w w'/\e=H (S (mt K)):=by
 go_enter func35,ntmps35;go_wp2
 go_loopw [0,3] (λa v wr=>∃(f k:X)(out:By),a=I k/\v=S out/\Hd (mtL f k out=mtL 16 K ⟨#[]⟩)/\k<10 ^ f/\f<=16/\out.size+f=16/\Bw w wr) (λa _ _=>(intOf a).toNat)
 case atStart=>exact⟨16,K,⟨#[]⟩,rfl,rfl,rfl,qb,qb,rfl,Below.refl _ _⟩
 case round=>
  obtain⟨f,k,out,rfl,rfl,HM,hk,hf,ho,bc⟩:=hrel
  by_cases h0:k=0
  ·subst h0
   have HO:Hd (mt K=(⟨#[109]⟩:By)++out):=by
    show mt K=_;unfold mt;rw[<- HM.o,mtL_zero]
   have hs:((⟨#[109]⟩:By)++out).size=1+out.size:=ByteArray.size_append;go_wp2;go_ret;exact⟨bc,by rw[HO.o];rfl⟩
  ·obtain⟨g,rfl⟩:∃g,f=g+1:=by
    cases f with
    | zero=>simp at hk;omega
    | succ g=>exact⟨g,rfl⟩
   (have hk':k / 10<10 ^ g:=by rw[Nat.pow_succ]at hk;omega);obtain⟨d,ed⟩:=Aj (k % 10);have hd:d<10:=qb
   have ku:Hd (mtL g (k / 10) (digM d++out)=mtL 16 K ⟨#[]⟩):=by
    show mtL g (k / 10) (digM d++out)=_;rw[<- HM.o,<- ed];simp only[mtL,h0,if_false]
   have hu:=dig_byteM d hd;have hs:(digM d++out).size=1+out.size:=ByteArray.size_append;unfold digM at ku hs;generalize UInt8.ofNat (48+d)=u at *;have e1:(k:Int) % 10=(d:Int):=qb;obtain⟨k2,e2⟩:=Aj (k / 10);rw[e2]at ku hk';have e3:(k:Int) / 10=(k2:Int):=qb;have aj:k2<k:=qb;have io:(0:Int)<(k:Int):=qb;have hcv:=qconv_one (wr.alloc (O #[.int .u8 (48+d)] 5)) wr.heap.size (48+d) u hu qk;have hkb:k<10000000000000000:=Nat.lt_of_lt_of_le hk (Nat.pow_le_pow_right qb hf);have HK':Hd (k2<10 ^ g):=hk';clear hu ed e2 hk hk' h0;go_wp2;go_roundw
   case rel=>exact⟨g,k2,_,qj,rfl,ku.o,HK'.o,qb,by rw[hs];omega,bc.alloc bc.size _⟩
   case measure=>simp[intOf];omega
theorem Fl.set(h:Fl g w w')(j:X)(v:Z):Fl g w (w'.setCell ⟨g,j,N⟩ v):=λb hb hne=>by
 rw[hC w' ⟨g,j,N⟩ v b hne];exact h b hb hne
theorem Fl.bl(h:Fl g w w')(hs:w.heap.size<=w'.heap.size)(hb:Bw w' w2):Fl g w w2:=λb hl hne=>by
 rw[hb.block b qb];exact h b hl hne
def Zl(K n:X)(ys:L Z):Prop:=∀i,i<n->ys[i*3]?=M (I ((K+3*i:X):Int))/\ys[i*3+1]?=M (S (mt (K+3*i+1)))/\ys[i*3+2]?=M (I ((K+3*i+2:X):Int))
theorem mkI_set{K:X}(h:Zl K k ys)(hx:k*3+2<ys.length):Zl K (k+1) (((ys.set (k*3) (I ((K+3*k:X):Int))).set (k*3+1) (S (mt (K+3*k+1)))).set (k*3+2) (I ((K+3*k+2:X):Int))):=by
 exact qht
theorem Yu(B g n cap K:X)(xs:L Z)(w:E)(ah:w.ownsRow B 143 3 (J (p_ g) n cap) n xs)(hB:B<=w.heap.size)(hn:n<=1048576)(h1:1<=K)(h2:K<=900000000000000):Calls prog 53 #[J (p_ g) n cap,I K] w λe w'=>e=H (I ((K+3*n:X):Int))/\Below B w w'/\Fl g w w'/\∃ys,w'.ownsRow B 143 3 (J (p_ g) n cap) n ys/\Zl K n ys:=by
 have vx:B<=g:=(ah.lt g rfl).1;go_enter func53,ntmps53;go_wp2
 go_loopw [1,5] (λk i wr=>∃(m:X)(ys:L Z),m<=n/\i=I m/\k=I ((K+3*m:X):Int)/\Hd (wr.ownsRow B 143 3 (J (p_ g) n cap) n ys)/\Hd (Zl K m ys)/\Hd (Fl g w wr)/\w.heap.size<=wr.heap.size/\Below B w wr) (λ_ i _=>n-(intOf i).toNat)
 case atStart=>exact⟨0,xs,Nat.zero_le _,rfl,rfl,ah,(λi hi=>by omega:Zl K 0 xs),(λb _ _=>rfl:Fl g w w),Nat.le_refl _,Below.refl _ _⟩
 case round=>
  obtain⟨m,ys,hm,rfl,rfl,HO,HM,HK,cz,bc⟩:=hrel;clear ah
  by_cases aj:m<n
  ·have C0:m*3+2<ys.length:=by rw[HO.o.1];omega
   have ku:Hd (Zl K (m+1) (((ys.set (m*3) (I ((K+3*m:X):Int))).set (m*3+1) (S (mt (K+3*m+1)))).set (m*3+2) (I ((K+3*m+2:X):Int)))):=mkI_set HM.o C0;have Q7:K+3*m+1<1000000000000000:=qb;have HT:Hd (∀W:E,Calls prog 35 #[I ((K+3*m+1:X):Int)] W λe w'=>Bw W w'/\e=H (S (mt (K+3*m+1)))):=λW=>Dt (K+3*m+1) W qb Q7;generalize mt (K+3*m+1)=t at *;obtain⟨c,ec⟩:=Aj (K+3*m);rw[ec]at ku HT Q7 ⊢;have HE:Hd (K+3*m=c):=ec;clear ec;obtain⟨o1,d1⟩:=Bo HO.o (j:=m*3) qb;have bx:=HO.o.frozenAt;have vr:=(HO.o.stored (m*3) (I (c:Int))).1;have V4:(m:Int)<(n:Int):=qb;go_wp2_with fail;refine(HT.o _).mono ?_;rintro e w2 ⟨ag,rfl⟩;have aq:=Ab vr ag;have ke:Below B w w2:=(bc.setCell (p:=⟨g,m*3,N⟩) vx _).trans (ag.mono qh);have F7:=aq.frozenAt;obtain⟨o2,d2⟩:=Bo aq (j:=m*3+1) qb;obtain⟨o3,d3⟩:=Bo aq (j:=m*3+2) qb;have uy:Hd (w2.ownsRow B 143 3 (J (p_ g) n cap) n (ys.set (m*3) (I (c:Int)))):=aq;have fs:Hd (Fl g w w2):=(HK.o.set (m*3) (I (c:Int))).bl (by simpa using cz) ag;(have gj:w.heap.size<=w2.heap.size:=by have:=ag.size;simp at this;omega);clear vr aq ag bx d1 bc;go_wp2;go_roundw
   case rel=>exact⟨m+1,_,qb,qj,congrArg (Value.int .i64) (zo HE.o),((uy.o.stored _ _).1.stored _ _).1,ku.o,(fs.o.set _ _).set _ _,qcy,(ke.setCell (p:=⟨g,m*3+1,N⟩) vx _).setCell (p:=⟨g,m*3+2,N⟩) vx _⟩
   case measure=>simp[intOf];omega
  ·exact qdc
def mb(k:X):Bool:=decide (k % 3=0)
def RdG(K n:X)(w:E)(g:X):Prop:=∀i,i<n->w.cell? ⟨g,i*3,N⟩=M (S (mt (K+3*i)))/\w.cell? ⟨g,i*3+1,N⟩=M (F (mb (K+3*i+1)))/\w.cell? ⟨g,i*3+2,N⟩=M (S (mt (K+3*i+2)))
theorem RdG.bl{K:X}(h:RdG K n w g)(hb:Bw w w'):RdG K n w' g:=λi hi=>
 ⟨Aa hb (h i hi).1,Aa hb (h i hi).2.1,Aa hb (h i hi).2.2⟩
theorem My{cap:X}(h:w.ownsRow B e sz (J (p_ g) n cap) n xs){b:X}(hb:b≠g)(v:Z):(w.setCell ⟨b,j,N⟩ v).ownsRow B e sz (J (p_ g) n cap) n xs:=by
 refine⟨h.1,?_⟩
 rcases h.2 with⟨h2,_⟩|⟨g',cap,cur,hv,hg,hh,r⟩
 ·cases h2
 ·exact qkf
theorem toInsS_own(a:Option Addr)(cap:X)(is:L I3)(w:E)(hc:Bu w a is)(hl:is.length<=1048576):Calls prog 90 #[J a is.length cap] w λe w'=>Bw w w'/\∃g:X,e=H (J (p_ g) is.length is.length)/\∃xs,w'.ownsRow w.heap.size 143 3 (J (p_ g) is.length is.length) is.length xs/\Ck is is.length xs:=by
 obtain⟨z0,hi,bq,bg,bv⟩:=info_parts Tryz.info143;go_enter func90,ntmps90
 go_wp2_with (first|(at_make;refine wpList_make_full _ rfl (.tmp 6) (.tmp 6) 89 rfl w.heap.size 143 z0 (G #[I 0,S ByteArray.empty,I 0]) 3 underlying89 hi bq bg .i64 .i64 _ _ is.length rfl rfl rfl rfl qan qm (Nat.le_refl _) ?_;intro w1 ah ae))
 have fq:Bw w w1:=(Below.refl _ _).grown ae (Nat.le_refl _) qg;clear ae
 go_loopw [4] (λi wr=>∃k:X,∃xs:L Z,k<=is.length/\i=I k/\wr.ownsRow w.heap.size 143 3 (J (p_ w.heap.size) is.length is.length) is.length xs/\Ck is k xs/\Bw w wr) (λi _=>is.length-(intOf i).toNat)
 case atStart=>exact⟨0,_,Nat.zero_le _,rfl,ah,λi hi=>qb,fq⟩
 case round=>
  obtain⟨k,xs,hk,rfl,ah,M8,am⟩:=hrel
  by_cases aj:k<is.length
  ·obtain⟨b,off,rfl,c1,c2,c3⟩:=(hc.bl am) k aj
   have sr:=filled3_set M8 (show k*3+2<xs.length from qcu);generalize ix is k=i at *;clear fq hc M8;go_wp2_with fail;refine(toIns_any i _).mono ?_;rintro e w2 ⟨ag,rfl⟩;have aq:=Ab ah ag;have ke:Bw w w2:=am.trans (ag.mono am.size);have bx:=aq.frozenAt;obtain⟨o1,d1⟩:=Jx aq (j:=k*3) qb;obtain⟨o2,d2⟩:=Jx aq (j:=k*3+1) qb;obtain⟨o3,d3⟩:=Jx aq (j:=k*3+2) qb;have HO:Hd (w2.ownsRow w.heap.size 143 3 (J (p_ w.heap.size) is.length is.length) is.length xs):=aq;exact qij
  ·exact qev
theorem Nz(a:Option Addr)(cap:X)(is:L I3)(w:E)(hc:Bu w a is)(hl:is.length<=1048576):Calls prog 64 #[G #[J a is.length cap]] w λe w'=>Bw w w'/\∃g:X,e=H (G #[J (p_ g) is.length is.length])/\∃xs,w'.ownsRow w.heap.size 143 3 (J (p_ g) is.length is.length) is.length xs/\Ck is is.length xs:=by
 go_enter func64,ntmps64;go_wp2_with fail;have ak:Bw w (((w.alloc (O #[J a is.length cap] 70)).alloc (O #[nS] 91)).alloc (O #[nS] 91)):=((aN _ _).alloc qg _).alloc qh _;refine(toInsS_own a cap is _ (hc.bl ak) hl).mono ?_;rintro e w1 ⟨af,g,rfl,xs,hr,hf⟩;have hg:=(hr.lt g rfl).1;simp at hg;have hb:Bw w w1:=ak.trans (af.mono ak.size);have hz:=af.size;simp at hz;have c1:w1.cell? ⟨w.heap.size+1,0,N⟩=M nS:=Aa af qk;have c2:w1.cell? ⟨w.heap.size+1+1,0,N⟩=M nS:=Aa af qk;have f1:w1.frozen? ⟨w.heap.size+1,0,N⟩=false:=by rw[af.frozen (p:=⟨w.heap.size+1,0,N⟩) qg];simp[go_sem]
 have f2:w1.frozen? ⟨w.heap.size+1+1,0,N⟩=false:=by rw[af.frozen (p:=⟨w.heap.size+1+1,0,N⟩) qg];simp[go_sem]
 clear ak af;go_wp2;exact bR (v:=G #[J (p_ g) is.length is.length]) (by simp[results,results64,go_sem,c1]) rfl ⟨Oc (Oc hb qb _) qb _,g,rfl,xs,My (My (Jj hr qh) qb _) qb _,hf⟩
theorem Yt(K:X)(w:E)(h2:K<=900000000000000):Calls prog 53 #[nS,I K] w λe w'=>e=H (I (K:Int))/\w=w':=by
 go_enter func53,ntmps53;exact qek
theorem Pj(B n K:X)(v:Z)(xs:L Z)(w:E)(ah:w.ownsRow B 143 3 v n xs)(hB:B<=w.heap.size)(hn:n<=1048576)(h1:1<=K)(h2:K<=900000000000000):Calls prog 53 #[v,I K] w λe w'=>e=H (I ((K+3*n:X):Int))/\Below B w w'/\Dc v.ownBlock w w'/\∃ys,w'.ownsRow B 143 3 v n ys/\Zl K n ys:=by
 rcases Gj ah with⟨rfl,rfl⟩|⟨g,cap,rfl⟩
 ·refine(Yt K w h2).mono ?_
  exact qld
 ·refine(Yu B g n cap K xs w ah hB hn h1 h2).mono ?_
  exact qkl
theorem Gm.bl{v:Z}(h:Gm w lo hi v ss)(hb:Bw w w'):Gm w' lo hi v ss:=by
 obtain⟨xs,h1,h2⟩:=h;exact⟨xs,h1.bl hb,h2⟩
theorem Mf.bl{v:Z}(h:Mf w lo hi v ts xs cv)(hb:Bw w w'):Mf w' lo hi v ts xs cv:=
 ⟨h.row.bl hb,h.fil,λi hi=>by obtain⟨ys,h1,h2⟩:=h.code i hi;exact⟨ys,h1.bl hb,h2⟩,h.apart⟩
theorem Gv.bl{v:Z}(h:Gv w lo hi v ts)(hb:Bw w w'):Gv w' lo hi v ts:=by
 obtain⟨xs,cv,h⟩:=h;exact⟨xs,cv,h.bl hb⟩
theorem Th(u v:Z)(hj:j<k*2):((xs.set (k*2) u).set (k*2+1) v)[j]?=xs[j]?:=by
 simp only[List.getElem?_set];rw[if_neg qb,if_neg qb]
theorem set2_0(u v:Z)(hx:k*2+1<xs.length):((xs.set (k*2) u).set (k*2+1) v)[k*2]?=M u:=by
 simp only[List.getElem?_set];rw[if_neg qb,if_pos trivial,if_pos qb]
theorem set2_1(u v:Z)(hx:k*2+1<xs.length):((xs.set (k*2) u).set (k*2+1) v)[k*2+1]?=M v:=by
 simp only[List.getElem?_set];rw[if_pos trivial,if_pos qh]
/-! ### toSpace -/
theorem Vb(a:Option Addr)(cap:X)(is:L S2)(w:E)(hc:Ho w a is)(hl:is.length<=1048576):Calls prog 25 #[J a is.length cap] w λe w'=>Bw w w'/\∃g:X,e=H (J (p_ g) is.length is.length)/\∃xs,w'.ownsRow w.heap.size 96 2 (J (p_ g) is.length is.length) is.length xs/\Kq is is.length xs:=by
 obtain⟨z0,hi,bq,bg,bv⟩:=info_parts Tryz.info96;go_enter func25,ntmps25
 go_wp2_with (first|(at_make;refine wpList_make_full _ rfl (.tmp 6) (.tmp 6) 37 rfl w.heap.size 96 z0 (G #[S ByteArray.empty,S ByteArray.empty]) 2 underlying37 hi bq bg .i64 .i64 _ _ is.length rfl rfl rfl rfl qan qm (Nat.le_refl _) ?_;intro w1 ah ae))
 have fq:Bw w w1:=(Below.refl _ _).grown ae (Nat.le_refl _) qg;clear ae
 go_loopw [4] (λi wr=>∃k:X,∃xs:L Z,k<=is.length/\i=I k/\wr.ownsRow w.heap.size 96 2 (J (p_ w.heap.size) is.length is.length) is.length xs/\Kq is k xs/\Bw w wr) (λi _=>is.length-(intOf i).toNat)
 case atStart=>exact⟨0,_,Nat.zero_le _,rfl,ah,λi hi=>qb,fq⟩
 case round=>
  obtain⟨k,xs,hk,rfl,ah,M8,am⟩:=hrel
  by_cases aj:k<is.length
  ·obtain⟨b,off,rfl,c1,c2⟩:=(hc.bl am) k aj
   have sr:=filledS_set M8 (show k*2+1<xs.length from qcu);generalize sx is k=i at *;clear fq hc M8;go_wp2_with fail;refine(Xm i _).mono ?_;rintro e w2 ⟨ag,rfl⟩;have aq:=Ab ah ag;have ke:Bw w w2:=am.trans (ag.mono am.size);have bx:=aq.frozenAt;obtain⟨o1,d1⟩:=Dq aq (j:=k*2) qb;obtain⟨o2,d2⟩:=Dq aq (j:=k*2+1) qb;have HO:Hd (w2.ownsRow w.heap.size 96 2 (J (p_ w.heap.size) is.length is.length) is.length xs):=aq;clear ah aq ag am;go_wp2;go_roundw
   case rel=>exact⟨k+1,_,qb,qj,((HO.o.stored _ _).1.stored _ _).1,sr,(ke.setCell (Nat.le_refl _) _).setCell (Nat.le_refl _) _⟩
   case measure=>simp[intOf];omega
  ·exact qev
theorem Xl(n:By)(a:Option Addr)(cap:X)(is:L I3)(w:E)(hc:Bu w a is)(hl:is.length<=1048576):Calls prog 46 #[G #[S n,J a is.length cap]] w λe w'=>Bw w w'/\∃g:X,e=H (G #[S n,J (p_ g) is.length is.length])/\∃xs,w'.ownsRow w.heap.size 143 3 (J (p_ g) is.length is.length) is.length xs/\Ck is is.length xs:=by
 go_enter func46,ntmps46;go_wp2_with fail;have ak:Bw w (((w.alloc (O #[S n,J a is.length cap] 79)).alloc (O #[ze,nS] 99)).alloc (O #[S n,nS] 99)):=((aN _ _).alloc qg _).alloc qh _;refine(Nz a cap is _ (hc.bl ak) hl).mono ?_;rintro e w1 ⟨af,g,rfl,xs,hr,hf⟩;have hg:=(hr.lt g rfl).1;simp at hg;have hb:Bw w w1:=ak.trans (af.mono ak.size);have hz:=af.size;simp at hz;have Nj:w1.cell? ⟨w.heap.size+1,0,N⟩=M ze:=Aa af qk;have wa:w1.cell? ⟨w.heap.size+1,1,N⟩=M nS:=Aa af qk;have c20:w1.cell? ⟨w.heap.size+1+1,0,N⟩=M (S n):=Aa af qk;have c21:w1.cell? ⟨w.heap.size+1+1,1,N⟩=M nS:=Aa af qk;have f1:∀j,w1.frozen? ⟨w.heap.size+1,j,N⟩=false:=λj=>by rw[af.frozen (p:=⟨w.heap.size+1,j,N⟩) qg];simp[go_sem]
 have f2:∀j,w1.frozen? ⟨w.heap.size+1+1,j,N⟩=false:=λj=>by rw[af.frozen (p:=⟨w.heap.size+1+1,j,N⟩) qg];simp[go_sem]
 clear ak af;go_wp2;refine bR (v:=G #[S n,J (p_ g) is.length is.length]) (by simp[results,results46,go_sem,Nj,wa]) rfl ⟨?_,g,rfl,xs,?_,hf⟩
 ·exact((hb.setCell (p:=⟨w.heap.size+1+1,1,N⟩) qh _).setCell (p:=⟨w.heap.size+1,0,N⟩) qg _).setCell (p:=⟨w.heap.size+1,1,N⟩) qg _
 ·exact My (My (My (Jj hr qh) qb _) qb _) qb _
theorem Uz(a:Option Addr)(cap:X)(is:L T2)(w:E)(hc:Gu w a is)(hl:is.length<=1048576)(hk:∀i,i<is.length->(tx is i).code.length<=1048576):Calls prog 26 #[J a is.length cap] w λe w'=>Bw w w'/\∃g:X,e=H (J (p_ g) is.length is.length)/\Gv w' w.heap.size w'.heap.size (J (p_ g) is.length is.length) is:=by
 obtain⟨z0,hi,bq,bg,bv⟩:=info_parts Tryz.info99;have HK:Hd (∀i,i<is.length->(tx is i).code.length<=1048576):=hk;clear hk;go_enter func26,ntmps26
 go_wp2_with (first|(at_make;refine wpList_make_full _ rfl (.tmp 6) (.tmp 6) 38 rfl w.heap.size 99 z0 (G #[S ByteArray.empty,nS]) 2 underlying38 hi bq bg .i64 .i64 _ _ is.length rfl rfl rfl rfl qan qm (Nat.le_refl _) ?_;intro w1 ah ae))
 have fq:Bw w w1:=(Below.refl _ _).grown ae (Nat.le_refl _) qg;clear ae
 go_loopw [4] (λi wr=>∃(k:X)(xs:L Z)(cv:X->Z),k<=is.length/\i=I k/\wr.ownsRow w.heap.size 99 2 (J (p_ w.heap.size) is.length is.length) is.length xs/\Hd (Ey wr (w.heap.size+1) is k xs cv)/\Bw w wr) (λi _=>is.length-(intOf i).toNat)
 case atStart=>exact⟨0,_,_,Nat.zero_le _,rfl,ah,Ey.zero _ _ _ _,fq⟩
 case round=>
  obtain⟨k,xs,cv,hk,rfl,ah,HP,am⟩:=hrel
  by_cases aj:k<is.length
  ·obtain⟨b,off,rfl,c1,a',ai,c2,c3⟩:=(hc.bl am) k aj
   have yg:=HK.o k aj;have C0:k*2+1<xs.length:=qcu;have hgl:w.heap.size<wr.heap.size:=(ah.lt _ rfl).2;have HF:Hd (∀(W:E)(c:Z)(ys:L Z),Bw wr W->W.ownsRow wr.heap.size 143 3 c (tx is k).code.length ys->Ck (tx is k).code (tx is k).code.length ys->Ey W (w.heap.size+1) is (k+1) ((xs.set (k*2) (S (tx is k).name)).set (k*2+1) c) (λi=>if i=k then c else cv i)):=λW c ys h1 h2 h3=>HP.o.add h1 hgl h2 h3 (λj hj=>Th _ _ hj) (set2_0 _ _ C0) (set2_1 _ _ C0);generalize tx is k=i at *;clear fq hc;go_wp2_with fail;refine(Xl i.name a' ai i.code _ c3 yg).mono ?_;rintro e w2 ⟨ag,g,rfl,ys,hr,ww⟩;have aq:=Ab ah ag;have ke:Bw w w2:=am.trans (ag.mono am.size);have bx:=aq.frozenAt;have sr:=((HF.o w2 _ ys ag hr ww).set (b:=w.heap.size) (j:=k*2) (Nat.lt_succ_self _) (S i.name)).set (b:=w.heap.size) (j:=k*2+1) (Nat.lt_succ_self _) (J (p_ g) i.code.length i.code.length);obtain⟨o1,d1⟩:=Dq aq (j:=k*2) qb;obtain⟨o2,d2⟩:=Dq aq (j:=k*2+1) qb;have HO:Hd (w2.ownsRow w.heap.size 99 2 (J (p_ w.heap.size) is.length is.length) is.length xs):=aq;have fl:Hd _:=sr;clear ah aq ag am sr HP HF hr ww;go_wp2;go_roundw
   case rel=>exact⟨k+1,_,_,qb,qj,((HO.o.stored _ _).1.stored _ _).1,fl.o,(ke.setCell (Nat.le_refl _) _).setCell (Nat.le_refl _) _⟩
   case measure=>simp[intOf];omega
  ·have ek:k=is.length:=qb
   subst ek;go_wp2;go_ret;exact⟨am,_,rfl,HP.o.own ah (Nat.le_succ _) (Nat.le_refl _)⟩
theorem Mp(sa ta:Option Addr)(c1 c2:X)(ss:L S2)(ts:L T2)(w:E)(rs:Ho w sa ss)(rt:Gu w ta ts)(h:Fj ss ts):Calls prog 8 #[G #[J sa ss.length c1,J ta ts.length c2]] w λe w'=>Bw w w'/\∃v1 v2:Z,e=H (G #[v1,v2])/\Gm w' w.heap.size w'.heap.size v1 ss/\Gv w' w.heap.size w'.heap.size v2 ts:=by
 obtain⟨h1,h2,h3⟩:=h;go_enter func8,ntmps8;go_wp2_with fail;have ak:Bw w (((w.alloc (O #[J sa ss.length c1,J ta ts.length c2] 29)).alloc (O #[nS,nS] 40)).alloc (O #[nS,nS] 40)):=((aN _ _).alloc qg _).alloc qh _;refine(Vb sa c1 ss _ (rs.bl ak) h1).mono ?_;rintro e w1 ⟨af,g,rfl,xs,hr,bx⟩;have hg:=(hr.lt g rfl).1;simp at hg;have gy:Hd (Gm w1 (w.heap.size+1+1+1) w1.heap.size (J (p_ g) ss.length ss.length) ss):=⟨xs,Bg.new (Jj hr qg),bx⟩;have hb:Bw w w1:=ak.trans (af.mono ak.size);have hz:=af.size;simp at hz;have c01:w1.cell? ⟨w.heap.size,1,N⟩=M (J ta ts.length c2):=Aa af qk;have Nj:w1.cell? ⟨w.heap.size+1,0,N⟩=M nS:=Aa af qk;have wa:w1.cell? ⟨w.heap.size+1,1,N⟩=M nS:=Aa af qk;have c20:w1.cell? ⟨w.heap.size+1+1,0,N⟩=M nS:=Aa af qk;have c21:w1.cell? ⟨w.heap.size+1+1,1,N⟩=M nS:=Aa af qk;have f1:∀j,w1.frozen? ⟨w.heap.size+1,j,N⟩=false:=λj=>by rw[af.frozen (p:=⟨w.heap.size+1,j,N⟩) qg];simp[go_sem]
 have f2:∀j,w1.frozen? ⟨w.heap.size+1+1,j,N⟩=false:=λj=>by rw[af.frozen (p:=⟨w.heap.size+1+1,j,N⟩) qg];simp[go_sem]
 clear ak af;go_wp2_with fail;have kh:Bw w (w1.setCell ⟨w.heap.size+1+1,0,N⟩ (J (p_ g) ss.length ss.length)):=hb.setCell (p:=⟨w.heap.size+1+1,0,N⟩) qh _;refine(Uz ta c2 ts _ (rt.bl kh) h2 h3).mono ?_;rintro e w2 ⟨ag,g2,rfl,ly⟩;have ba:Bw w w2:=kh.trans (ag.mono kh.size);have cr:Hd (Gm w2 (w.heap.size+1+1+1) w1.heap.size (J (p_ g) ss.length ss.length) ss):=(gy.o.set (j:=0) (show w.heap.size+1+1<w.heap.size+1+1+1 from qb) _).bl ag;have bv:=ag.size;simp at bv;have HT2:Hd (Gv w2 (w.heap.size+1+1+1) w2.heap.size (J (p_ g2) ts.length ts.length) ts):=ly.wide qh (Nat.le_refl _);have hs12:w1.heap.size<=w2.heap.size:=by simpa using ag.size
 have d10:w2.cell? ⟨w.heap.size+1,0,N⟩=M nS:=Aa ag (by simp[go_sem,Nj]);have d11:w2.cell? ⟨w.heap.size+1,1,N⟩=M nS:=Aa ag (by simp[go_sem,wa]);have d20:w2.cell? ⟨w.heap.size+1+1,0,N⟩=M (J (p_ g) ss.length ss.length):=Aa ag (by simp[go_sem,c20]);have d21:w2.cell? ⟨w.heap.size+1+1,1,N⟩=M nS:=Aa ag (by simp[go_sem,c21]);have e1:∀j,w2.frozen? ⟨w.heap.size+1,j,N⟩=false:=λj=>by rw[ag.frozen (p:=⟨w.heap.size+1,j,N⟩) qh];simp[go_sem,f1]
 have e2:∀j,w2.frozen? ⟨w.heap.size+1+1,j,N⟩=false:=λj=>by rw[ag.frozen (p:=⟨w.heap.size+1+1,j,N⟩) qh];simp[go_sem,f2]
 clear ag kh hb c01 Nj wa c20 c21 f1 f2 hr ly gy;go_wp2;refine bR (v:=G #[J (p_ g) ss.length ss.length,J (p_ g2) ts.length ts.length]) (by simp[results,results8,go_sem,d10,d11]) rfl ⟨?_,_,_,rfl,?_,?_⟩
 ·exact((ba.setCell (p:=⟨w.heap.size+1+1,1,N⟩) qh _).setCell (p:=⟨w.heap.size+1,0,N⟩) qg _).setCell (p:=⟨w.heap.size+1,1,N⟩) qg _
 ·exact(((cr.o.set qb _).set qb _).set qb _).wide qb qh
 ·exact(((HT2.o.set qb _).set qb _).set qb _).wide qb qg
def RdX(K n:X)(w:E)(g:X):Prop:=∀i,i<n->w.cell? ⟨g,i,N⟩=M (S (mt (K+i)))
theorem RdX.bl{K:X}(h:RdX K n w g)(hb:Bw w w'):RdX K n w' g:=λi hi=>Aa hb (h i hi)
def MkS(K n:X)(ys:L Z):Prop:=∀i,i<n->ys[i*2]?=M (S (mt (K+2*i)))/\ys[i*2+1]?=M (S (mt (K+2*i+1)))
theorem mkS_set{K:X}(h:MkS K k ys)(hx:k*2+1<ys.length):MkS K (k+1) ((ys.set (k*2) (S (mt (K+2*k)))).set (k*2+1) (S (mt (K+2*k+1)))):=by
 intro i hi
 rcases Nat.lt_or_ge i k with hl|hl
 ·obtain⟨h1,h2⟩:=h i hl
  rw[Th _ _ qb,Th _ _ qb];exact⟨h1,h2⟩
 ·obtain rfl:i=k:=qb
  exact⟨set2_0 _ _ hx,set2_1 _ _ hx⟩
theorem Sa(B g n cap K:X)(xs:L Z)(w:E)(ah:w.ownsRow B 96 2 (J (p_ g) n cap) n xs)(hB:B<=w.heap.size)(hn:n<=1048576)(h1:1<=K)(h2:K<=900000000000000):Calls prog 33 #[J (p_ g) n cap,I K] w λe w'=>e=H (I ((K+2*n:X):Int))/\Below B w w'/\Fl g w w'/\∃ys,w'.ownsRow B 96 2 (J (p_ g) n cap) n ys/\MkS K n ys:=by
 have vx:B<=g:=(ah.lt g rfl).1;go_enter func33,ntmps33;go_wp2
 go_loopw [1,5] (λk i wr=>∃(m:X)(ys:L Z),m<=n/\i=I m/\k=I ((K+2*m:X):Int)/\Hd (wr.ownsRow B 96 2 (J (p_ g) n cap) n ys)/\Hd (MkS K m ys)/\Hd (Fl g w wr)/\w.heap.size<=wr.heap.size/\Below B w wr) (λ_ i _=>n-(intOf i).toNat)
 case atStart=>exact⟨0,xs,Nat.zero_le _,rfl,rfl,ah,(λi hi=>by omega:MkS K 0 xs),(λb _ _=>rfl:Fl g w w),Nat.le_refl _,Below.refl _ _⟩
 case round=>
  obtain⟨m,ys,hm,rfl,rfl,HO,HM,HK,cz,bc⟩:=hrel;clear ah
  by_cases aj:m<n
  ·have C0:m*2+1<ys.length:=by rw[HO.o.1];omega
   have ku:Hd (MkS K (m+1) ((ys.set (m*2) (S (mt (K+2*m)))).set (m*2+1) (S (mt (K+2*m+1))))):=mkS_set HM.o C0;have Q7:K+2*m+1<1000000000000000:=qb;have HT:Hd (∀W:E,Calls prog 35 #[I ((K+2*m:X):Int)] W λe w'=>Bw W w'/\e=H (S (mt (K+2*m)))):=λW=>Dt (K+2*m) W qb qb
   have HU:Hd (∀W:E,Calls prog 35 #[I ((K+2*m:X)+1:Int)] W λe w'=>Bw W w'/\e=H (S (mt (K+2*m+1)))):=λW=>by
    have h:=Dt (K+2*m+1) W qb Q7;rw[show((K+2*m+1:X):Int)=((K+2*m:X):Int)+1 from qb]at h;exact h
   generalize mt (K+2*m)=t at *;generalize mt (K+2*m+1)=u at *;obtain⟨c,ec⟩:=Aj (K+2*m);rw[ec]at HT HU Q7 ⊢;have HE:Hd (K+2*m=c):=ec;clear ec;have V4:(m:Int)<(n:Int):=qb;go_wp2_with fail;refine(HT.o _).mono ?_;rintro e w2 ⟨ag,rfl⟩;have aq:=Ab HO.o ag;have ke:Below B w w2:=bc.trans (ag.mono qb);have F7:=aq.frozenAt;obtain⟨o1,d1⟩:=Dq aq (j:=m*2) qb;have uy:Hd (w2.ownsRow B 96 2 (J (p_ g) n cap) n ys):=aq;have fs:Hd (Fl g w w2):=HK.o.bl cz ag;have gj:w.heap.size<=w2.heap.size:=zo ag.size;clear aq ag bc HO;go_wp2_with fail;refine(HU.o _).mono ?_;rintro e w3 ⟨ba,rfl⟩;have fj:=Ab (uy.o.stored (m*2) (S t)).1 ba;have xd:Below B w w3:=(ke.setCell (p:=⟨g,m*2,N⟩) vx _).trans (ba.mono qh);have ph:Hd (Fl g w w3):=(fs.o.set (m*2) _).bl qcy ba;(have nj:w.heap.size<=w3.heap.size:=by have:=ba.size;simp at this;omega);have hfr3:=fj.frozenAt;obtain⟨o3,d3⟩:=Dq fj (j:=m*2+1) qb;have G9:Hd (w3.ownsRow B 96 2 (J (p_ g) n cap) n (ys.set (m*2) (S t))):=fj;clear fj ba d1 ke F7 uy;go_wp2;go_roundw
   case rel=>exact⟨m+1,_,qb,qj,congrArg (Value.int .i64) (zo HE.o),(G9.o.stored _ _).1,ku.o,ph.o.set _ _,by simpa using nj,xd.setCell (p:=⟨g,m*2+1,N⟩) vx _⟩
   case measure=>simp[intOf];omega
  ·exact qdc
theorem Rz(K:X)(w:E)(h2:K<=900000000000000):Calls prog 33 #[nS,I K] w λe w'=>e=H (I (K:Int))/\w=w':=by
 go_enter func33,ntmps33;exact qek
theorem Ry(lo hi n K:X)(v:Z)(xs:L Z)(w:E)(hr:Bg w lo hi 96 2 v n xs)(hB:lo<=w.heap.size)(hn:n<=1048576)(h1:1<=K)(h2:K<=900000000000000):Calls prog 33 #[v,I K] w λe w'=>e=H (I ((K+2*n:X):Int))/\Below lo w w'/\Dc v.ownBlock w w'/\∃ys,Bg w' lo hi 96 2 v n ys/\MkS K n ys:=by
 rcases Gj hr.own with⟨rfl,rfl⟩|⟨g,cap,rfl⟩
 ·refine(Rz K w h2).mono ?_
  exact qli
 ·refine(Sa lo g n cap K xs w hr.own hB hn h1 h2).mono ?_
  exact qka
def kT(cl:X->X)(K:X):X->X
 | 0=>K
 | i+1=>kT cl K i+1+3*cl i
theorem kT_le(cl:X->X)(K:X):∀i n,i<=n->kT cl K i<=kT cl K n:=by
 intro i n h
 induction n with
 | zero=>
   (obtain rfl:i=0:=by omega);exact Nat.le_refl _
 | succ n ih=>
   rcases Nat.lt_or_ge i (n+1)with h1|h1
   ·have:=ih qb
    simp only[kT];omega
   ·obtain rfl:i=n+1:=qb
    exact Nat.le_refl _
theorem kT_bound(cl:X->X)(K:X):∀n,(∀i,i<n->cl i<=1048576)->kT cl K n<=K+n*3145729:=by
 intro n
 induction n with
 | zero=>intro _;simp[kT]
 | succ n ih=>
   intro h;have:=ih (λi hi=>h i qb);have:=h n qb;simp only[kT];rw[Nat.succ_mul];omega
theorem Ee.bl{v:Z}(h:Ee w lo hi v n cl xs cv)(hb:Bw w w'):Ee w' lo hi v n cl xs cv:=
 ⟨h.row.bl hb,h.sec,λi hi=>by obtain⟨ys,h1⟩:=h.code i hi;exact⟨ys,h1.bl hb⟩,h.apart⟩
theorem Ee.keepO{v u:Z}(h:Ee w lo hi v n cl xs cv)(ho:w.ownsRow B e sz u m zs)(hk:Dc u.ownBlock w w')(h1:99≠e)(h2:143≠e):Ee w' lo hi v n cl xs cv:=
 ⟨h.row.same λb eb=>hk b (h.row.own.lt b eb).2 (λe'=>Px h.row.own ho h1 b eb e'.symm),h.sec,λi hi=>by
  obtain⟨ys,k1⟩:=h.code i hi;exact⟨ys,k1.same λb eb=>hk b (k1.own.lt b eb).2 (λe'=>Px k1.own ho h2 b eb e'.symm)⟩,h.apart⟩
theorem Ee.store{cap:X}(h:Ee w lo hi (J (p_ g) n cap) n cl xs cv)(m:X)(u:Z):Ee (w.setCell ⟨g,m*2,N⟩ u) lo hi (J (p_ g) n cap) n cl (xs.set (m*2) u) cv:=
 ⟨⟨(h.row.own.stored (m*2) u).1,h.row.top⟩,λi hi=>by rw[List.getElem?_set,if_neg qb];exact h.sec i hi,λi hi=>by
  obtain⟨ys,k1⟩:=h.code i hi;exact⟨ys,k1.same λb eb=>hC w ⟨g,m*2,N⟩ u b (by show b≠g;intro e;subst e;exact Px h.row.own k1.own qd b rfl eb)⟩,h.apart⟩
theorem Ee.mark{v:Z}(h:Ee w lo hi v n cl xs cv)(hm:m<n)(hk:Dc (cv m).ownBlock w w')(hn:Bg w' lo hi 143 3 (cv m) (cl m) zs):Ee w' lo hi v n cl xs cv:=by
 obtain⟨y0,k0⟩:=h.code m hm;refine⟨h.row.same λb eb=>hk b (h.row.own.lt b eb).2 (λe'=>Px h.row.own k0.own qd b eb e'.symm),h.sec,λi hi=>?_,h.apart⟩
 by_cases hi':i=m
 ·subst hi';exact⟨zs,hn⟩
 ·obtain⟨ys,k1⟩:=h.code i hi
  exact⟨ys,k1.same λb eb=>hk b (k1.own.lt b eb).2 (λe'=>h.apart i m hi hm hi' b eb e'.symm)⟩
def Mi(w:E)(lo hi K:X)(cl:X->X)(cv:X->Z)(m:X)(ys:L Z):Prop:=∀i,i<m->ys[i*2]?=M (S (mt (kT cl K i)))/\∃zs,Bg w lo hi 143 3 (cv i) (cl i) zs/\Zl (kT cl K i+1) (cl i) zs
theorem Mi.bl{K:X}(h:Mi w lo hi K cl cv m ys)(hb:Bw w w'):Mi w' lo hi K cl cv m ys:=λi hi=>by
 obtain⟨h1,zs,h2,h3⟩:=h i hi;exact⟨h1,zs,h2.bl hb,h3⟩
theorem Mi.store{K cap:X}(h:Mi w lo hi K cl cv m ys)(hr:Ee w lo hi (J (p_ g) n cap) n cl ys cv)(u:Z):Mi (w.setCell ⟨g,m*2,N⟩ u) lo hi K cl cv m (ys.set (m*2) u):=λi hi=>by
 obtain⟨h1,zs,h2,h3⟩:=h i hi;exact⟨by rw[List.getElem?_set,if_neg qb];exact h1,zs,h2.same λb eb=>hC w ⟨g,m*2,N⟩ u b (by show b≠g;intro e;subst e;exact Px hr.row.own h2.own qd b rfl eb),h3⟩
theorem Mi.mark{K:X}{v:Z}(h:Mi w lo hi K cl cv m ys)(hr:Ee w lo hi v n cl ys cv)(hm:m<n)(hk:Dc (cv m).ownBlock w w')(hn:Bg w' lo hi 143 3 (cv m) (cl m) zs)(hz:Zl (kT cl K m+1) (cl m) zs)(hy:ys[m*2]?=M (S (mt (kT cl K m)))):Mi w' lo hi K cl cv (m+1) ys:=λi hi=>by
 rcases Nat.lt_or_ge i m with aj|Q4
 ·obtain⟨h1,zs',h2,h3⟩:=h i aj
  exact⟨h1,zs',h2.same λb eb=>hk b (h2.own.lt b eb).2 (λe'=>hr.apart i m qb hm qb b eb e'.symm),h3⟩
 ·obtain rfl:i=m:=qb
  exact⟨hy,zs,hn,hz⟩
def Eu(v:Z)(cv:X->Z)(n:X)(w w':E):Prop:=∀b,b<w.heap.size->v.ownBlock≠M b->(∀i,i<n->(cv i).ownBlock≠M b)->w'.heap[b]?=w.heap[b]?
theorem Eu.bl{v:Z}(h:Eu v cv n w w')(hs:w.heap.size<=w'.heap.size)(hb:Bw w' w2):Eu v cv n w w2:=λb hl h1 h2=>by
 rw[hb.block b qb];exact h b hl h1 h2
theorem Eu.set{cap:X}(h:Eu (J (p_ g) n cap) cv n w w')(u:Z):Eu (J (p_ g) n cap) cv n w (w'.setCell ⟨g,m,N⟩ u):=λb hl h1 h2=>by
 rw[hC w' ⟨g,m,N⟩ u b (λe=>h1 (by rw[e];rfl))];exact h b hl h1 h2
theorem Eu.mark{v:Z}(h:Eu v cv n w w')(hs:w.heap.size<=w'.heap.size)(hm:m<n)(hk:Dc (cv m).ownBlock w' w2):Eu v cv n w w2:=λb hl h1 h2=>by
 rw[hk b qb (λe=>h2 m hm e.symm)];exact h b hl h1 h2
theorem Eu.keepR{v:Z}(h:Eu v cv n w w')(hr:Ee w lo hi v n cl xs cv):De lo hi w w':=λb hb ho=>h b hb (λe=>by have h1:=(hr.row.own.lt b e).1;have h2:=hr.row.top b e;omega) (λi hi e=>by
 obtain⟨ys,k⟩:=hr.code i hi;have h1:=(k.own.lt b e).1;have h2:=k.top b e;omega)
theorem code_slice{v:Z}(h:Bg w lo hi 143 3 v n ys):∃va vc,v=J va n vc:=by
 rcases Gj h.own with⟨hv,rfl⟩|⟨g',c',hv⟩
 ·exact⟨_,_,hv⟩
 ·exact⟨_,_,hv⟩
theorem Rw(lo hi g n cap K:X)(cl:X->X)(xs:L Z)(cv:X->Z)(w:E)(hr:Ee w lo hi (J (p_ g) n cap) n cl xs cv)(hB:lo<=w.heap.size)(hn:n<=1048576)(vu:∀i,i<n->cl i<=1048576)(h1:1<=K)(h2:kT cl K n<=800000000000000):Calls prog 34 #[J (p_ g) n cap,I K] w λe w'=>e=H (I ((kT cl K n:X):Int))/\Below lo w w'/\Eu (J (p_ g) n cap) cv n w w'/\∃ys,Ee w' lo hi (J (p_ g) n cap) n cl ys cv/\Mi w' lo hi K cl cv n ys:=by
 have vx:lo<=g:=(hr.row.own.lt g rfl).1;have HCL:Hd (∀i,i<n->cl i<=1048576):=vu;have HKT:Hd (∀i,i<=n->K<=kT cl K i/\kT cl K i<=800000000000000):=λi hi=>⟨kT_le cl K 0 i (Nat.zero_le _),Nat.le_trans (kT_le cl K i n hi) h2⟩;clear vu h2;go_enter func34,ntmps34;go_wp2
 go_loopw [1,5] (λk i wr=>∃(m:X)(ys:L Z),m<=n/\i=I m/\k=I ((kT cl K m:X):Int)/\Hd (Ee wr lo hi (J (p_ g) n cap) n cl ys cv)/\Hd (Mi wr lo hi K cl cv m ys)/\Hd (Eu (J (p_ g) n cap) cv n w wr)/\w.heap.size<=wr.heap.size/\Below lo w wr) (λ_ i _=>n-(intOf i).toNat)
 case atStart=>exact⟨0,xs,Nat.zero_le _,rfl,rfl,hr,(λi hi=>by omega:Mi w lo hi K cl cv 0 xs),(λb _ _ _=>rfl:Eu (J (p_ g) n cap) cv n w w),Nat.le_refl _,Below.refl _ _⟩
 case round=>
  obtain⟨m,ys,hm,rfl,rfl,HR,HM,HK,cz,bc⟩:=hrel;clear hr
  by_cases aj:m<n
  ·obtain⟨cq,iw⟩:=HKT.o m hm
   have F8:=HCL.o m aj;have HS:Hd (kT cl K (m+1)=kT cl K m+1+3*cl m):=rfl;(have C0:m*2+1<ys.length:=by rw[HR.o.row.own.1];omega);obtain⟨c,ec⟩:=Aj (kT cl K m);have HT:Hd (∀W:E,Calls prog 35 #[I (c:Int)] W λe w'=>Bw W w'/\e=H (S (mt c))):=λW=>Dt c W qb qb
   have HI:Hd (∀(W:E)(zs:L Z),W.ownsRow lo 143 3 (cv m) (cl m) zs->lo<=W.heap.size->Calls prog 53 #[cv m,I ((c:Int)+1)] W λe w'=>e=H (I ((c+1+3*cl m:X):Int))/\Below lo W w'/\Dc (cv m).ownBlock W w'/\∃ys,w'.ownsRow lo 143 3 (cv m) (cl m) ys/\Zl (c+1) (cl m) ys):=λW zs h3 h4=>by
    have h:=Pj lo (cl m) (c+1) (cv m) zs W h3 h4 F8 qb qb;rw[show((c+1:X):Int)=(c:Int)+1 from qb]at h;exact h
   rw[ec]at cq iw HS ⊢;have HE:Hd (kT cl K m=c):=ec;clear ec;have V4:(m:Int)<(n:Int):=qb;obtain⟨t,et⟩:=Aj (mt c);rw[et]at HT;have HET:Hd (mt c=t):=et;clear et;obtain⟨z0,bq⟩:=HR.o.code m aj;obtain⟨va,vc,ev⟩:=code_slice bq;have EV:Hd (cv m=J va (cl m) vc):=ev;clear bq ev;go_wp2_with fail;refine(HT.o _).mono ?_;rintro e w2 ⟨ag,rfl⟩;have mx:Hd (Ee w2 lo hi (J (p_ g) n cap) n cl ys cv):=HR.o.bl ag;have ku:Hd (Mi w2 lo hi K cl cv m ys):=HM.o.bl ag;have fs:Hd (Eu (J (p_ g) n cap) cv n w w2):=HK.o.bl cz ag;have ke:Below lo w w2:=bc.trans (ag.mono qb);have gj:w.heap.size<=w2.heap.size:=zo ag.size;have F7:=mx.o.row.own.frozenAt;obtain⟨o1,d1⟩:=Dq mx.o.row.own (j:=m*2) qb;(have d2:w2.cell? ⟨g,m*2+1,N⟩=M (J va (cl m) vc):=by rw[mx.o.row.own.cellAt _ qb,mx.o.sec m aj,EV.o]);have gz:Hd (Ee (w2.setCell ⟨g,m*2,N⟩ (S t)) lo hi (J (p_ g) n cap) n cl (ys.set (m*2) (S t)) cv):=mx.o.store m (S t);have B5:Hd (Mi (w2.setCell ⟨g,m*2,N⟩ (S t)) lo hi K cl cv m (ys.set (m*2) (S t))):=ku.o.store mx.o (S t);have ph:Hd (Eu (J (p_ g) n cap) cv n w (w2.setCell ⟨g,m*2,N⟩ (S t))):=fs.o.set _;have xd:Below lo w (w2.setCell ⟨g,m*2,N⟩ (S t)):=ke.setCell (p:=⟨g,m*2,N⟩) vx _
   have HC:Hd (Calls prog 53 #[J va (cl m) vc,I ((c:Int)+1)] (w2.setCell ⟨g,m*2,N⟩ (S t)) λe w'=>e=H (I ((c+1+3*cl m:X):Int))/\Below lo (w2.setCell ⟨g,m*2,N⟩ (S t)) w'/\Dc (cv m).ownBlock (w2.setCell ⟨g,m*2,N⟩ (S t)) w'/\∃ys,w'.ownsRow lo 143 3 (cv m) (cl m) ys/\Zl (c+1) (cl m) ys):=by
    obtain⟨zs,hzs⟩:=gz.o.code m aj;have h:=HI.o _ zs hzs.own qh;rw[EV.o]at h ⊢;exact h
   clear ag bc HR HM HK HI HT mx ku fs ke;go_wp2_with fail;refine HC.o.mono ?_;rintro e w4 ⟨rfl,co,re,zs,ho4,hm4⟩;have ht4:Bg w4 lo hi 143 3 (cv m) (cl m) zs:=⟨ho4,λb eb=>by obtain⟨zz,hzz⟩:=gz.o.code m aj;exact hzz.top b eb⟩;have li:Hd (Ee w4 lo hi (J (p_ g) n cap) n cl (ys.set (m*2) (S t)) cv):=gz.o.mark aj re ht4;have HM4:Hd (Mi w4 lo hi K cl cv (m+1) (ys.set (m*2) (S t))):=B5.o.mark gz.o aj re ht4 (by rw[HE.o];exact hm4) (by rw[HE.o,HET.o,List.getElem?_set,if_pos rfl,if_pos qb]);have Eq:Hd (Eu (J (p_ g) n cap) cv n w w4):=ph.o.mark qcy aj re;have No:Below lo w w4:=xd.trans co;(have B8:w.heap.size<=w4.heap.size:=by have:=co.size;simp at this;omega);clear co re ho4 hm4 ht4 gz B5 ph xd d1 d2 F7 HC;go_wp2;go_roundw
   case rel=>exact⟨m+1,_,qb,qj,congrArg (Value.int .i64) (by rw[HS.o];omega),li.o,HM4.o,Eq.o,B8,No⟩
   case measure=>simp[intOf];omega
  ·exact qlv
theorem Ru(K:X)(w:E)(h2:K<=900000000000000):Calls prog 34 #[nS,I K] w λe w'=>e=H (I (K:Int))/\w=w':=by
 go_enter func34,ntmps34;exact qek
theorem Rt(lo hi n K:X)(v:Z)(cl:X->X)(xs:L Z)(cv:X->Z)(w:E)(hr:Ee w lo hi v n cl xs cv)(hB:lo<=w.heap.size)(hn:n<=1048576)(vu:∀i,i<n->cl i<=1048576)(h1:1<=K)(h2:kT cl K n<=800000000000000):Calls prog 34 #[v,I K] w λe w'=>e=H (I ((kT cl K n:X):Int))/\Below lo w w'/\Eu v cv n w w'/\∃ys,Ee w' lo hi v n cl ys cv/\Mi w' lo hi K cl cv n ys:=by
 rcases Gj hr.row.own with⟨rfl,rfl⟩|⟨g,cap,rfl⟩
 ·refine(Ru K w (by simp only[kT]at h2;omega)).mono ?_
  rintro e w' ⟨rfl,rfl⟩;exact⟨rfl,Below.refl _ _,λ_ _ _ _=>rfl,xs,hr,λi hi=>qb⟩
 ·exact Rw lo hi g n cap K cl xs cv w hr hB hn vu h1 h2
def MkSp(w:E)(lo hi K:X)(v1 v2:Z)(n1 n2:X)(cl:X->X):Prop:=(∃ys,Bg w lo hi 96 2 v1 n1 ys/\MkS K n1 ys)/\∃ys cv,Ee w lo hi v2 n2 cl ys cv/\Mi w lo hi (K+2*n1) cl cv n2 ys
theorem Vp(lo hi n1 n2 K:X)(v1 v2:Z)(cl:X->X)(xs zs:L Z)(cv:X->Z)(w:E)(h1:Bg w lo hi 96 2 v1 n1 xs)(h2:Ee w lo hi v2 n2 cl zs cv)(hB:lo<=w.heap.size)(M5:n1<=1048576)(hn2:n2<=1048576)(vu:∀i,i<n2->cl i<=1048576)(hK:1<=K)(hK2:kT cl (K+2*n1) n2<=800000000000000):Calls prog 14 #[G #[v1,v2],I K] w λe w'=>e=H (I ((kT cl (K+2*n1) n2:X):Int))/\Below lo w w'/\De lo hi w w'/\MkSp w' lo hi K v1 v2 n1 n2 cl:=by
 have hK3:K+2*n1<=800000000000000:=Nat.le_trans (kT_le cl (K+2*n1) 0 n2 (Nat.zero_le _)) hK2;obtain⟨va,vc,rfl⟩:=Ji h1;obtain⟨vb,vd,rfl⟩:=Ji h2.row;have ak:Bw w (w.alloc (O #[J va n1 vc,J vb n2 vd] 40)):=aN _ _;have k1:(w.alloc (O #[J va n1 vc,J vb n2 vd] 40)).cell? ⟨w.heap.size,1,N⟩=M (J vb n2 vd):=qk;have hw0:(w.alloc (O #[J va n1 vc,J vb n2 vd] 40)).heap.size=w.heap.size+1:=qg;have vj:Hd (Ee (w.alloc (O #[J va n1 vc,J vb n2 vd] 40)) lo hi (J vb n2 vd) n2 cl zs cv):=h2.bl ak;have Y3:=h1.bl ak;have hne:(Value.slice va n1 vc).ownBlock≠M w.heap.size:=λe=>by have:=(h1.own.lt _ e).2;omega
 have HC:Hd (∀W:E,Ee W lo hi (J vb n2 vd) n2 cl zs cv->lo<=W.heap.size->Calls prog 34 #[J vb n2 vd,I ((K+2*n1:X):Int)] W λe w'=>e=H (I ((kT cl (K+2*n1) n2:X):Int))/\Below lo W w'/\Eu (J vb n2 vd) cv n2 W w'/\∃ys,Ee w' lo hi (J vb n2 vd) n2 cl ys cv/\Mi w' lo hi (K+2*n1) cl cv n2 ys):=λW h3 h4=>Rt lo hi n2 (K+2*n1) _ cl zs cv W h3 h4 hn2 vu qb hK2;clear hK2 h2 h1 vu;go_enter func14,ntmps14;go_wp2_with fail;refine(Ry lo hi n1 K _ xs _ Y3 qb M5 hK qb).mono ?_;rintro e w1 ⟨rfl,af,cq,ys,kl,up⟩;have bh:Below lo w w1:=(ak.mono hB).trans af;have d9:w.heap.size+1<=w1.heap.size:=zo af.size
 have c1:w1.cell? ⟨w.heap.size,1,N⟩=M (J vb n2 vd):=by
  exact qmn
 have ik:Hd (Ee w1 lo hi (J vb n2 vd) n2 cl zs cv):=vj.o.keepO Y3.own cq qd qd;have du:Hd (De lo hi w w1):=(De.of_below ak).trans ak.size (cq.keepR λb e=>⟨(Y3.own.lt b e).1,Y3.top b e⟩);have gy:Hd (Bg w1 lo hi 96 2 (J va n1 vc) n1 ys):=kl;have xu:Hd (MkS K n1 ys):=up;clear ak af cq kl up k1 vj Y3 hne hw0;go_wp2_with fail;refine(HC.o w1 ik.o qb).mono ?_;rintro e w2 ⟨rfl,ag,iw,ys2,ly,rd⟩;have be:Below lo w w2:=bh.trans ag;have fs:Hd (De lo hi w w2):=du.o.trans qb (iw.keepR ik.o);have HP:Hd (MkSp w2 lo hi K (J va n1 vc) (J vb n2 vd) n1 n2 cl):=⟨⟨ys,gy.o.same λb e=>iw b (gy.o.own.lt b e).2 (λe'=>Px ik.o.row.own gy.o.own qd b e' e) (λi hi e'=>by obtain⟨zz,hz⟩:=ik.o.code i hi;exact Px hz.own gy.o.own qd b e' e),xu.o⟩,ys2,cv,ly,rd⟩;clear ag iw ly rd ik du gy xu HC c1;go_wp2;go_ret;exact⟨rfl,be,fs.o,HP.o⟩
theorem Lv.move{sa ta sa' mz:Option Addr}(h:Lv w sa ss ta ts)(rs:Ho w' sa' ss)(rt:Gu w' mz ts):Lv w' sa' ss mz ts:=⟨rs,rt,h.ls,h.lt,h.ns,h.xs,h.nt,h.lc,h.xt⟩
theorem eqSpace_own{lo' hi':X}{v1 v2 u1 u2:Z}(h1:Gm w lo hi v1 ss)(h2:Gv w lo hi v2 ts)(k1:Gm w lo' hi' u1 ss)(k2:Gv w lo' hi' u2 ts)(hs:Fj ss ts):Calls prog 12 #[G #[v1,v2],G #[u1,u2]] w λe w'=>Bw w w'/\e=H (F true):=by
 obtain⟨a1,p1,rfl,r1⟩:=h1.sl;obtain⟨a2,p2,rfl,r2⟩:=h2.sl;obtain⟨a3,p3,rfl,r3⟩:=k1.sl;obtain⟨a4,p4,rfl,r4⟩:=k2.sl;exact Zi a1 a2 a3 a4 p1 p2 p3 p4 ss ts w r1 r2 r3 r4 hs
end Go.Proofs.YtbkkjodaaijimaaGreatDoor
