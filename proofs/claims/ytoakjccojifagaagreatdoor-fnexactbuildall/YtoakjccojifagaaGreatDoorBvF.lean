import Derived.Test.YtoakjccojifagaaGreatDoorBtG
import Derived.Test.YtoakjccojifagaaGreatDoorVsC
namespace Go.Proofs.YtoakjccojifagaaGreatDoor
open _root_.Go.Proofs.Tryz Go.RowKit Go.Deep
open Value renaming slice->J,string->S,bool->F,agg->G
open Option renaming some->M,none->N
open Obj renaming cells->O
open Go renaming Value->Z,World->E
open Ending renaming returned->H
open _root_ renaming List->L,Nat->X
set_option linter.unusedVariables false
set_option linter.unusedSimpArgs false
set_option maxRecDepth 100000
set_option maxHeartbeats 8000000
variable {k B g n cap j e sz lo hi m:X} {xs ys zs:L Z} {w w' w2:E} {v:Z} {ss:L S2} {ts:L T2} {cv:X->Z} {cl:X->X}
def Fm(g:X)(w w':E):Prop:=∀b,b<w.heap.size->b≠g->w'.heap[b]?=w.heap[b]?
theorem szIns_any(i:I3)(l:Int)(w:E)(h0:0<=l)(h1:l<=1048576)(hs:i.text.size<=9223372036854775807):Calls prog 116 #[G #[I i.op,S i.text,I i.n],I l] w λe w'=>Bw w w'/\((l-i.text.size<0/\e=H (I (-1)))\/(0<=l-i.text.size/\e=H (I (l-i.text.size)))):=by
 by_cases h:l-i.text.size<0
 ·go_enter func116,ntmps116
  go_wp2;go_ret;exact⟨aN _ _,Or.inl ⟨h,rfl⟩⟩
 ·go_enter func116,ntmps116
  go_wp2;go_ret;exact⟨aN _ _,Or.inr ⟨qb,rfl⟩⟩
theorem toIns_any(i:I3)(w:E):Calls prog 126 #[G #[I i.op,S i.text,I i.n]] w λe w'=>Bw w w'/\e=H (G #[I i.op,S i.text,I i.n]):=by
 go_enter func126,ntmps126;go_wp2;exact bR (v:=G #[I i.op,S i.text,I i.n]) (by simp[results,results126,go_sem]) rfl ⟨((aN _ _).alloc qg _).alloc qh _,rfl⟩
theorem eqIns_same(i:I3)(w:E):Calls prog 144 #[G #[I i.op,S i.text,I i.n],G #[I i.op,S i.text,I i.n]] w λe w'=>Bw w w'/\e=H (F true):=by
 go_enter func144,ntmps144;exact qft
theorem eqInsS_same(a a':Option Addr)(cap ai:X)(is:L I3)(w:E)(hc:Ch w a is)(o6:Ch w a' is)(hl:is.length<=1048576):Calls prog 114 #[J a is.length cap,J a' is.length ai] w λe w'=>Bw w w'/\e=H (F true):=by
 go_enter func114,ntmps114;go_wp2
 go_loopw [5] (λi wr=>∃k:X,k<=is.length/\i=I k/\Bw w wr) (λi _=>is.length-(intOf i).toNat)
 case atStart=>exact⟨0,Nat.zero_le _,rfl,Below.refl _ _⟩
 case round=>
  obtain⟨k,hk,rfl,am⟩:=hrel
  by_cases aj:k<is.length
  ·obtain⟨b,off,rfl,c1,c2,c3⟩:=(hc.bl am) k aj
   obtain⟨b',br,rfl,d1,d2,d3⟩:=(o6.bl am) k aj;generalize ix is k=i at *;clear hc o6;have iy:(k:Int)<(is.length:Int):=qb;have jr:(0:Int)<=(k:Int):=qb;go_wp2_with fail
   go_region_held3 (λw'=>(w'.cell? ⟨b,off+k*3,N⟩=M (I i.op)/\w'.cell? ⟨b,off+k*3+1,N⟩=M (S i.text)/\w'.cell? ⟨b,off+k*3+2,N⟩=M (I i.n))/\(w'.cell? ⟨b',br+k*3,N⟩=M (I i.op)/\w'.cell? ⟨b',br+k*3+1,N⟩=M (S i.text)/\w'.cell? ⟨b',br+k*3+2,N⟩=M (I i.n)))
    (first|assumption|(simp[*];done)|exact⟨⟨Aa af qq,Aa af qq,Aa af qq⟩,Aa af qq,Aa af qq,Aa af qq⟩)
    (first|(go_at_call 144;refine(eqIns_same i _).mono ?_;rintro e w1 ⟨af,rfl⟩))
   all_goals
    go_wp2;go_roundw
    case rel=>exact⟨k+1,qb,qj,am.trans (Below.trans (Below.drew (Below.refl _ _)) (af.mono qcy))⟩
    case measure=>simp[intOf];omega
  ·exact qbp
theorem Nj(a a':Option Addr)(cap ai:X)(is:L I3)(w:E)(hc:Ch w a is)(o6:Ch w a' is)(hl:is.length<=1048576):Calls prog 87 #[G #[J a is.length cap],G #[J a' is.length ai]] w λe w'=>Bw w w'/\e=H (F true):=by
 go_enter func87,ntmps87;go_wp2_with fail;have ak:Bw w ((w.alloc (O #[J a is.length cap] 92)).alloc (O #[J a' is.length ai] 92)):=(aN _ _).alloc qg _;refine(eqInsS_same a a' cap ai is _ (hc.bl ak) (o6.bl ak) hl).mono ?_;rintro e w1 ⟨af,rfl⟩;go_wp2;go_ret;exact⟨ak.trans (af.mono ak.size),rfl⟩
theorem Qau(a:Option Addr)(cap:X)(is:L I3)(lft:Int)(w:E)(hf0:0<=lft)(E7:lft<=1048576)(hc:Ch w a is)(hl:is.length<=maxLen)(hs:∀i,(ix is i).text.size<=maxLen):Calls prog 91 #[J a is.length cap,I lft] w λe w'=>Bw w w'/\∃r:Int,e=H (I r)/\(r<0\/((is.length:Int)<=lft/\0<=r/\r<=lft)):=by
 unfold maxLen at hl hs
 by_cases h0:(is.length:Int)<=lft
 ·go_enter func91,ntmps91
  go_wp2
  go_loopw [1,5] (λl i wr=>∃k:X,∃q:Int,k<=is.length/\i=I k/\l=I q/\0<=q/\q<=lft/\Bw w wr) (λ_ i _=>is.length-(intOf i).toNat)
  case atStart=>exact⟨0,_,Nat.zero_le _,rfl,rfl,qb,qb,Below.refl _ _⟩
  case round=>
   obtain⟨k,q,hk,rfl,rfl,hq0,l7,bc⟩:=hrel
   by_cases aj:k<is.length
   ·obtain⟨b,off,rfl,c1,c2,c3⟩:=(hc.bl bc) k aj
    have gh:=hs k;clear hs hc;generalize ix is k=i at *;go_wp2_with fail;refine(szIns_any i _ _ qb qb gh).mono ?_;rintro e w1 ⟨af,⟨hneg,rfl⟩|⟨hpos,rfl⟩⟩
    ·go_wp2
     go_ret;exact⟨bc.trans (af.mono bc.size),-1,rfl,qb⟩
    ·exact qke
   ·go_wp2
    go_ret;exact⟨bc,_,rfl,qb⟩
 ·go_enter func91,ntmps91
  go_wp2;go_ret;exact⟨Below.refl _ _,-1,rfl,qb⟩
theorem Mv(a:Option Addr)(cap:X)(is:L I3)(lft:Int)(w:E)(hf0:0<=lft)(E7:lft<=1048576)(hc:Ch w a is)(hl:is.length<=maxLen)(hs:∀i,(ix is i).text.size<=maxLen):Calls prog 65 #[G #[J a is.length cap],I lft] w λe w'=>Bw w w'/\∃r:Int,e=H (I r)/\(r<0\/((is.length:Int)<=lft/\0<=r/\r<=lft)):=by
 have ak:Bw w (w.alloc (O #[J a is.length cap] 77)):=aN _ _;go_enter func65,ntmps65;go_wp2_with fail;refine(Qau a cap is lft _ hf0 E7 (hc.bl ak) hl hs).mono ?_;exact qka
theorem Yn(i:S2)(l:Int)(w:E)(h0:0<=l)(h1:l<=1048576)(hs:i.name.size<=maxLen)(ht:i.text.size<=maxLen):Calls prog 42 #[G #[S i.name,S i.text],I l] w λe w'=>Bw w w'/\∃r:Int,e=H (I r)/\(r<0\/(0<=r/\r<=l)):=by
 unfold maxLen at hs ht
 by_cases h:l-i.name.size<0
 ·exact qfn
 ·by_cases h2:l-i.name.size-i.text.size<0
  ·exact qfn
  ·exact qfn
theorem Yl(n:By)(a:Option Addr)(cap:X)(is:L I3)(l:Int)(w:E)(h0:0<=l)(h1:l<=1048576)(hn:n.size<=maxLen)(hc:Ch w a is)(hl:is.length<=maxLen)(hs:∀i,(ix is i).text.size<=maxLen):Calls prog 43 #[G #[S n,J a is.length cap],I l] w λe w'=>Bw w w'/\∃r:Int,e=H (I r)/\(r<0\/(is.length<=1048576/\0<=r/\r<=l)):=by
 have ak:Bw w (w.alloc (O #[S n,J a is.length cap] 86)):=aN _ _;unfold maxLen at hn
 by_cases h:l-n.size<0
 ·go_enter func43,ntmps43
  go_wp2;go_ret;exact⟨ak,_,rfl,qb⟩
 ·go_enter func43,ntmps43
  go_wp2_with fail;refine(Mv a cap is (l-n.size) _ qb qb (hc.bl ak) hl hs).mono ?_;exact qka
theorem szSS_any(a:Option Addr)(cap:X)(is:L S2)(lft:Int)(w:E)(hf0:0<=lft)(E7:lft<=1048576)(hc:Hr w a is)(hl:is.length<=maxLen)(hs:∀i,(sx is i).name.size<=maxLen)(ht:∀i,(sx is i).text.size<=maxLen):Calls prog 22 #[J a is.length cap,I lft] w λe w'=>Bw w w'/\∃r:Int,e=H (I r)/\(r<0\/((is.length:Int)<=lft/\0<=r/\r<=lft)):=by
 have K9:=hl;unfold maxLen at K9
 by_cases h0:(is.length:Int)<=lft
 ·go_enter func22,ntmps22
  go_wp2
  go_loopw [1,5] (λl i wr=>∃k:X,∃q:Int,k<=is.length/\i=I k/\l=I q/\0<=q/\q<=lft/\Bw w wr) (λ_ i _=>is.length-(intOf i).toNat)
  case atStart=>exact⟨0,_,Nat.zero_le _,rfl,rfl,qb,qb,Below.refl _ _⟩
  case round=>
   obtain⟨k,q,hk,rfl,rfl,hq0,l7,bc⟩:=hrel
   by_cases aj:k<is.length
   ·obtain⟨b,off,rfl,c1,c2⟩:=(hc.bl bc) k aj
    have gh:=hs k;have fl:=ht k;clear hs ht hc;generalize sx is k=i at *;go_wp2_with fail;refine(Yn i _ _ qb qb gh fl).mono ?_;rintro e w1 ⟨af,r,rfl,hr⟩
    rcases hr with hr|hr
    ·go_wp2
     go_ret;exact⟨bc.trans (af.mono bc.size),-1,rfl,qb⟩
    ·have B3:0<=r:=qb
     exact qke
   ·go_wp2
    go_ret;exact⟨bc,_,rfl,qb⟩
 ·go_enter func22,ntmps22
  go_wp2;go_ret;exact⟨Below.refl _ _,-1,rfl,qb⟩
theorem szTS_any(a:Option Addr)(cap:X)(is:L T2)(lft:Int)(w:E)(hf0:0<=lft)(E7:lft<=1048576)(hc:Hb w a is)(hl:is.length<=maxLen)(hs:∀i,(tx is i).name.size<=maxLen)(ht:∀i,(tx is i).code.length<=maxLen)(hu:∀i j,(ix (tx is i).code j).text.size<=maxLen):Calls prog 23 #[J a is.length cap,I lft] w λe w'=>Bw w w'/\∃r:Int,e=H (I r)/\(r<0\/((is.length:Int)<=lft/\0<=r/\r<=lft/\∀i,i<is.length->(tx is i).code.length<=1048576)):=by
 have K9:=hl;unfold maxLen at K9
 by_cases h0:(is.length:Int)<=lft
 ·go_enter func23,ntmps23
  go_wp2
  go_loopw [1,5] (λl i wr=>∃k:X,∃q:Int,k<=is.length/\i=I k/\l=I q/\0<=q/\q<=lft/\Bw w wr/\Hd (∀i,i<k->(tx is i).code.length<=1048576)) (λ_ i _=>is.length-(intOf i).toNat)
  case atStart=>exact⟨0,_,Nat.zero_le _,rfl,rfl,qb,qb,Below.refl _ _,(λi hi=>by omega:∀i,i<0->(tx is i).code.length<=1048576)⟩
  case round=>
   obtain⟨k,q,hk,rfl,rfl,hq0,l7,bc,HK⟩:=hrel
   by_cases aj:k<is.length
   ·obtain⟨b,off,rfl,c1,a',ai,c2,c3⟩:=(hc.bl bc) k aj
    have gh:=hs k;have fl:=ht k;have huk:=hu k;clear hs ht hc;obtain⟨i,ei⟩:=Aj (tx is k);rw[ei]at c1 c2 c3 gh fl huk;have EI:Hd (tx is k=i):=ei;clear ei;go_wp2_with fail;refine(Yl i.name a' ai i.code _ _ qb qb gh c3 fl huk).mono ?_;rintro e w1 ⟨af,r,rfl,hr⟩
    rcases hr with hr|hr
    ·go_wp2
     go_ret;exact⟨bc.trans (af.mono bc.size),-1,rfl,Or.inl qb⟩
    ·have B3:0<=r:=qb
     go_wp2;go_roundw
     case rel=>exact⟨k+1,_,qb,qj,rfl,qb,qb,bc.trans (af.mono bc.size),Cw HK.o (by rw[EI.o];omega)⟩
     case measure=>simp[intOf];omega
   ·exact qld
 ·go_enter func23,ntmps23
  exact qfy
theorem filledS_set{is:L S2}(h:Oc is k xs)(hx:k*2+1<xs.length):Oc is (k+1) ((xs.set (k*2) (S (sx is k).name)).set (k*2+1) (S (sx is k).text)):=by
 intro i hi
 rcases Nat.lt_or_ge i k with hl|hl
 ·obtain⟨h1,h2⟩:=h i hl
  simp only[List.getElem?_set];rw[if_neg qb,if_neg qb,if_neg qb,if_neg qb];exact⟨h1,h2⟩
 ·obtain rfl:i=k:=qb
  simp[List.getElem?_set];omega
theorem Tryz.info97:(prog.info? 97).map (λi=>(i.zero,i.size,i.bytes))=M (M (G #[S ByteArray.empty,S ByteArray.empty]),2,32):=qi
theorem Tryz.info99:(prog.info? 99).map (λi=>(i.zero,i.size,i.bytes))=M (M (G #[S ByteArray.empty,nS]),2,40):=qi
theorem Du{T:X}(h:w.ownsRow B T 2 (J (p_ g) n cap) n xs)(hj:j<n*2):∃v,w.cell? ⟨g,j,N⟩=M v:=by
 exact qfq
theorem Yg(i:S2)(w:E):Calls prog 53 #[G #[S i.name,S i.text]] w λe w'=>Bw w w'/\e=H (G #[S i.name,S i.text]):=by
 go_enter func53,ntmps53;go_wp2;exact bR (v:=G #[S i.name,S i.text]) (by simp[results,results53,go_sem]) rfl ⟨((aN _ _).alloc qg _).alloc qh _,rfl⟩
theorem Wp(i:S2)(w:E):Calls prog 60 #[G #[S i.name,S i.text],G #[S i.name,S i.text]] w λe w'=>Bw w w'/\e=H (F true):=by
 go_enter func60,ntmps60;exact qft
theorem Va(a a':Option Addr)(cap ai:X)(is:L S2)(w:E)(hc:Hr w a is)(o6:Hr w a' is)(hl:is.length<=1048576):Calls prog 33 #[J a is.length cap,J a' is.length ai] w λe w'=>Bw w w'/\e=H (F true):=by
 go_enter func33,ntmps33;go_wp2
 go_loopw [5] (λi wr=>∃k:X,k<=is.length/\i=I k/\Bw w wr) (λi _=>is.length-(intOf i).toNat)
 case atStart=>exact⟨0,Nat.zero_le _,rfl,Below.refl _ _⟩
 case round=>
  obtain⟨k,hk,rfl,am⟩:=hrel
  by_cases aj:k<is.length
  ·obtain⟨b,off,rfl,c1,c2⟩:=(hc.bl am) k aj
   obtain⟨b',br,rfl,d1,d2⟩:=(o6.bl am) k aj;generalize sx is k=i at *;clear hc o6;have iy:(k:Int)<(is.length:Int):=qb;have jr:(0:Int)<=(k:Int):=qb;go_wp2_with fail
   go_region_held3 (λw'=>(w'.cell? ⟨b,off+k*2,N⟩=M (S i.name)/\w'.cell? ⟨b,off+k*2+1,N⟩=M (S i.text))/\(w'.cell? ⟨b',br+k*2,N⟩=M (S i.name)/\w'.cell? ⟨b',br+k*2+1,N⟩=M (S i.text)))
    (first|assumption|(simp[*];done)|exact⟨⟨Aa af qq,Aa af qq⟩,Aa af qq,Aa af qq⟩)
    (first|(go_at_call 60;refine(Wp i _).mono ?_;rintro e w1 ⟨af,rfl⟩))
   all_goals
    go_wp2;go_roundw
    case rel=>exact⟨k+1,qb,qj,am.trans (Below.trans (Below.drew (Below.refl _ _)) (af.mono qcy))⟩
    case measure=>simp[intOf];omega
  ·exact qbp
theorem Wo(n:By)(a a':Option Addr)(cap ai:X)(is:L I3)(w:E)(hc:Ch w a is)(o6:Ch w a' is)(hl:is.length<=1048576):Calls prog 61 #[G #[S n,J a is.length cap],G #[S n,J a' is.length ai]] w λe w'=>Bw w w'/\e=H (F true):=by
 have ak:Bw w ((w.alloc (O #[S n,J a is.length cap] 99)).alloc (O #[S n,J a' is.length ai] 99)):=(aN _ _).alloc qg _;go_enter func61,ntmps61;go_wp2_with fail;refine(Nj a a' cap ai is _ (hc.bl ak) (o6.bl ak) hl).mono ?_;rintro e w1 ⟨af,rfl⟩;go_wp2;go_ret;exact⟨bt ak af,rfl⟩
theorem Uz(a a':Option Addr)(cap ai:X)(is:L T2)(w:E)(hc:Hb w a is)(o6:Hb w a' is)(hl:is.length<=1048576)(km:∀i,i<is.length->(tx is i).code.length<=1048576):Calls prog 34 #[J a is.length cap,J a' is.length ai] w λe w'=>Bw w w'/\e=H (F true):=by
 have HK:Hd (∀i,i<is.length->(tx is i).code.length<=1048576):=km;clear km;go_enter func34,ntmps34;go_wp2
 go_loopw [5] (λi wr=>∃k:X,k<=is.length/\i=I k/\Bw w wr) (λi _=>is.length-(intOf i).toNat)
 case atStart=>exact⟨0,Nat.zero_le _,rfl,Below.refl _ _⟩
 case round=>
  obtain⟨k,hk,rfl,am⟩:=hrel
  by_cases aj:k<is.length
  ·obtain⟨b,off,rfl,c1,x,p,c2,c3⟩:=(hc.bl am) k aj
   obtain⟨b',br,rfl,d1,x',p',d2,d3⟩:=(o6.bl am) k aj;have B5:=HK.o k aj;generalize tx is k=i at *;clear hc o6;have C3:Hd (Ch wr x i.code):=c3;have D3:Hd (Ch wr x' i.code):=d3;clear c3 d3;have iy:(k:Int)<(is.length:Int):=qb;have jr:(0:Int)<=(k:Int):=qb;have iu:Bw wr wr.drew:=(Below.refl _ _).drew;go_wp2_with fail
   go_region_held3 (λw'=>(w'.cell? ⟨b,off+k*2,N⟩=M (S i.name)/\w'.cell? ⟨b,off+k*2+1,N⟩=M (J x i.code.length p))/\(w'.cell? ⟨b',br+k*2,N⟩=M (S i.name)/\w'.cell? ⟨b',br+k*2+1,N⟩=M (J x' i.code.length p')))
    (first|assumption|(simp[*];done)|exact⟨⟨Aa af qq,Aa af qq⟩,Aa af qq,Aa af qq⟩)
    (first|(go_at_call 61;refine(Wo i.name x x' p p' i.code _ (C3.o.bl iu) (D3.o.bl iu) B5).mono ?_;rintro e w1 ⟨af,rfl⟩))
   all_goals
    go_wp2;go_roundw
    case rel=>exact⟨k+1,qb,qj,am.trans (Below.trans (Below.drew (Below.refl _ _)) (af.mono qcy))⟩
    case measure=>simp[intOf];omega
  ·exact qbp
theorem Qac(sa ta sa' nk:Option Addr)(c1 c2 In B9:X)(ss:L S2)(ts:L T2)(w:E)(rs:Hr w sa ss)(rt:Hb w ta ts)(rs':Hr w sa' ss)(rt':Hb w nk ts)(h:Ew ss ts):Calls prog 14 #[G #[J sa ss.length c1,J ta ts.length c2],G #[J sa' ss.length In,J nk ts.length B9]] w λe w'=>Bw w w'/\e=H (F true):=by
 obtain⟨h1,h2,h3⟩:=h;have ak:Bw w ((w.alloc (O #[J sa ss.length c1,J ta ts.length c2] 43)).alloc (O #[J sa' ss.length In,J nk ts.length B9] 43)):=(aN _ _).alloc qg _;go_enter func14,ntmps14;go_wp2_with fail;refine(Va sa sa' c1 In ss _ (rs.bl ak) (rs'.bl ak) h1).mono ?_;rintro e w1 ⟨af,rfl⟩;have bj:=bt ak af;have k1:w1.cell? ⟨w.heap.size,1,N⟩=M (J ta ts.length c2):=Aa af qk;have k2:w1.cell? ⟨w.heap.size+1,1,N⟩=M (J nk ts.length B9):=Aa af qk;clear ak af;go_wp2_with fail;refine(Uz ta nk c2 B9 ts _ (rt.bl bj) (rt'.bl bj) h2 h3).mono ?_;rintro e w2 ⟨ag,rfl⟩;go_wp2;go_ret;exact⟨bt bj ag,rfl⟩
def digM(n:X):By:=⟨#[UInt8.ofNat (48+n)]⟩
theorem dig_byteM(d:X)(h:d<10):((UInt8.ofNat (48+d)).toNat:Int)=48+d:=by rw[UInt8.toNat_ofNat'];omega
theorem qconv_one(W:E)(g:X)(c:Int)(u:UInt8)(hu:(u.toNat:Int)=c)(h:W.cell? ⟨g,0,N⟩=M (.int .u8 c)):(convert 130 9 (J (p_ g) 1 1)).run prog W=.ok (S ⟨#[u]⟩) W:=by
 subst hu
 exact run_convert_bytes_back (P:=prog) W 130 9 5 ⟨g,0,N⟩ 1 [u] underlying130 underlying5 underlying9 (λt ht=>by
  (obtain rfl:t=0:=by simp at ht;omega);simpa [Addr.add] using h)
def mtL:X->X->By->ByteArray
 | 0,_,out=>out
 | f+1,k,out=>if k=0 then out else mtL f (k / 10) (digM (k % 10)++out)
theorem mtL_zero(f:X)(out:By):mtL f 0 out=out:=by cases f<;>simp[mtL]
def mt(k:X):By:=⟨#[109]⟩++mtL 16 k ⟨#[]⟩
theorem Cx(K:X)(w:E)(h1:1<=K)(h2:K<1000000000000000):Calls prog 38 #[I K] w λe w'=>Bw w w'/\e=H (S (mt K)):=by
 go_enter func38,ntmps38;go_wp2
 go_loopw [0,3] (λa v wr=>∃(f k:X)(out:By),a=I k/\v=S out/\Hd (mtL f k out=mtL 16 K ⟨#[]⟩)/\k<10 ^ f/\f<=16/\out.size+f=16/\Bw w wr) (λa _ _=>(intOf a).toNat)
 case atStart=>exact⟨16,K,⟨#[]⟩,rfl,rfl,rfl,qb,qb,rfl,Below.refl _ _⟩
 case round=>
  obtain⟨f,k,out,rfl,rfl,HM,hk,hf,ho,bc⟩:=hrel
  by_cases h0:k=0
  ·subst h0
   have HO:Hd (mt K=(⟨#[109]⟩:By)++out):=by
    show mt K=_;unfold mt;rw[<- HM.o,mtL_zero]
   have hs:((⟨#[109]⟩:By)++out).size=1+out.size:=ByteArray.size_append;go_wp2;go_ret;exact⟨bc,by rw[HO.o];rfl⟩
  ·obtain⟨g,rfl⟩:∃g,f=g+1:=by
    cases f with
    | zero=>simp at hk;omega
    | succ g=>exact⟨g,rfl⟩
   (have hk':k / 10<10 ^ g:=by rw[Nat.pow_succ]at hk;omega);obtain⟨d,ed⟩:=Aj (k % 10);have hd:d<10:=qb
   have mi:Hd (mtL g (k / 10) (digM d++out)=mtL 16 K ⟨#[]⟩):=by
    show mtL g (k / 10) (digM d++out)=_;rw[<- HM.o,<- ed];simp only[mtL,h0,if_false]
   have hu:=dig_byteM d hd;have hs:(digM d++out).size=1+out.size:=ByteArray.size_append;unfold digM at mi hs;generalize UInt8.ofNat (48+d)=u at *;have e1:(k:Int) % 10=(d:Int):=qb;obtain⟨k2,e2⟩:=Aj (k / 10);rw[e2]at mi hk';have e3:(k:Int) / 10=(k2:Int):=qb;have aj:k2<k:=qb;have iy:(0:Int)<(k:Int):=qb;have hcv:=qconv_one (wr.alloc (O #[.int .u8 (48+d)] 5)) wr.heap.size (48+d) u hu qk;have hkb:k<10000000000000000:=Nat.lt_of_lt_of_le hk (Nat.pow_le_pow_right qb hf);have HK':Hd (k2<10 ^ g):=hk';clear hu ed e2 hk hk' h0;go_wp2;go_roundw
   case rel=>exact⟨g,k2,_,qj,rfl,mi.o,HK'.o,qb,by rw[hs];omega,bc.alloc bc.size _⟩
   case measure=>simp[intOf];omega
theorem Fm.set(h:Fm g w w')(j:X)(v:Z):Fm g w (w'.setCell ⟨g,j,N⟩ v):=λb hb hne=>by
 rw[Dj w' ⟨g,j,N⟩ v b hne];exact h b hb hne
theorem Fm.bl(h:Fm g w w')(hs:w.heap.size<=w'.heap.size)(hb:Bw w' w2):Fm g w w2:=λb hl hne=>by
 rw[hb.block b qb];exact h b hl hne
def Ya(K n:X)(ys:L Z):Prop:=∀i,i<n->ys[i*3]?=M (I ((K+3*i:X):Int))/\ys[i*3+1]?=M (S (mt (K+3*i+1)))/\ys[i*3+2]?=M (I ((K+3*i+2:X):Int))
theorem mkI_set{K:X}(h:Ya K k ys)(hx:k*3+2<ys.length):Ya K (k+1) (((ys.set (k*3) (I ((K+3*k:X):Int))).set (k*3+1) (S (mt (K+3*k+1)))).set (k*3+2) (I ((K+3*k+2:X):Int))):=by
 exact qii
theorem Zn(B g n cap K:X)(xs:L Z)(w:E)(ah:w.ownsRow B 139 3 (J (p_ g) n cap) n xs)(hB:B<=w.heap.size)(hn:n<=1048576)(h1:1<=K)(h2:K<=900000000000000):Calls prog 62 #[J (p_ g) n cap,I K] w λe w'=>e=H (I ((K+3*n:X):Int))/\Below B w w'/\Fm g w w'/\∃ys,w'.ownsRow B 139 3 (J (p_ g) n cap) n ys/\Ya K n ys:=by
 have yo:B<=g:=(ah.lt g rfl).1;go_enter func62,ntmps62;go_wp2
 go_loopw [1,5] (λk i wr=>∃(m:X)(ys:L Z),m<=n/\i=I m/\k=I ((K+3*m:X):Int)/\Hd (wr.ownsRow B 139 3 (J (p_ g) n cap) n ys)/\Hd (Ya K m ys)/\Hd (Fm g w wr)/\w.heap.size<=wr.heap.size/\Below B w wr) (λ_ i _=>n-(intOf i).toNat)
 case atStart=>exact⟨0,xs,Nat.zero_le _,rfl,rfl,ah,(λi hi=>by omega:Ya K 0 xs),(λb _ _=>rfl:Fm g w w),Nat.le_refl _,Below.refl _ _⟩
 case round=>
  obtain⟨m,ys,hm,rfl,rfl,HO,HM,HK,cz,bc⟩:=hrel;clear ah
  by_cases aj:m<n
  ·have K5:m*3+2<ys.length:=by rw[HO.o.1];omega
   have mi:Hd (Ya K (m+1) (((ys.set (m*3) (I ((K+3*m:X):Int))).set (m*3+1) (S (mt (K+3*m+1)))).set (m*3+2) (I ((K+3*m+2:X):Int)))):=mkI_set HM.o K5;have F4:K+3*m+1<1000000000000000:=qb;have HT:Hd (∀W:E,Calls prog 38 #[I ((K+3*m+1:X):Int)] W λe w'=>Bw W w'/\e=H (S (mt (K+3*m+1)))):=λW=>Cx (K+3*m+1) W qb F4;generalize mt (K+3*m+1)=t at *;obtain⟨c,ec⟩:=Aj (K+3*m);rw[ec]at mi HT F4 ⊢;have HE:Hd (K+3*m=c):=ec;clear ec;obtain⟨o1,d1⟩:=Br HO.o (j:=m*3) qb;have ci:=HO.o.frozenAt;have yl:=(HO.o.stored (m*3) (I (c:Int))).1;have D9:(m:Int)<(n:Int):=qb;go_wp2_with fail;refine(HT.o _).mono ?_;rintro e w2 ⟨ag,rfl⟩;have aq:=Ac yl ag;have lz:Below B w w2:=(bc.setCell (p:=⟨g,m*3,N⟩) yo _).trans (ag.mono qh);have L0:=aq.frozenAt;obtain⟨o2,d2⟩:=Br aq (j:=m*3+1) qb;obtain⟨o3,d3⟩:=Br aq (j:=m*3+2) qb;have ws:Hd (w2.ownsRow B 139 3 (J (p_ g) n cap) n (ys.set (m*3) (I (c:Int)))):=aq;have gg:Hd (Fm g w w2):=(HK.o.set (m*3) (I (c:Int))).bl (by simpa using cz) ag;(have ik:w.heap.size<=w2.heap.size:=by have:=ag.size;simp at this;omega);clear yl aq ag ci d1 bc;go_wp2;go_roundw
   case rel=>exact⟨m+1,_,qb,qj,congrArg (Value.int .i64) (zo HE.o),((ws.o.stored _ _).1.stored _ _).1,mi.o,(gg.o.set _ _).set _ _,qdd,(lz.setCell (p:=⟨g,m*3+1,N⟩) yo _).setCell (p:=⟨g,m*3+2,N⟩) yo _⟩
   case measure=>simp[intOf];omega
  ·exact qdk
def mb(k:X):Bool:=decide (k % 3=0)
def RdG(K n:X)(w:E)(g:X):Prop:=∀i,i<n->w.cell? ⟨g,i*3,N⟩=M (S (mt (K+3*i)))/\w.cell? ⟨g,i*3+1,N⟩=M (F (mb (K+3*i+1)))/\w.cell? ⟨g,i*3+2,N⟩=M (S (mt (K+3*i+2)))
theorem RdG.bl{K:X}(h:RdG K n w g)(hb:Bw w w'):RdG K n w' g:=λi hi=>
 ⟨Aa hb (h i hi).1,Aa hb (h i hi).2.1,Aa hb (h i hi).2.2⟩
theorem Na(h:w.ownsRow B e sz (J (p_ g) n cap) n xs){b:X}(hb:b≠g)(v:Z):(w.setCell ⟨b,j,N⟩ v).ownsRow B e sz (J (p_ g) n cap) n xs:=by
 refine⟨h.1,?_⟩
 rcases h.2 with⟨h2,_⟩|⟨g',cap,cur,hv,hg,hh,r⟩
 ·cases h2
 ·exact qkt
theorem toInsS_own(a:Option Addr)(cap:X)(is:L I3)(w:E)(hc:Ch w a is)(hl:is.length<=1048576):Calls prog 99 #[J a is.length cap] w λe w'=>Bw w w'/\∃g:X,e=H (J (p_ g) is.length is.length)/\∃xs,w'.ownsRow w.heap.size 139 3 (J (p_ g) is.length is.length) is.length xs/\Ct is is.length xs:=by
 obtain⟨z0,hi,bo,bm,cm⟩:=info_parts Tryz.info139;go_enter func99,ntmps99
 go_wp2_with (first|(at_make;refine wpList_make_full _ rfl (.tmp 6) (.tmp 6) 90 rfl w.heap.size 139 z0 (G #[I 0,S ByteArray.empty,I 0]) 3 underlying90 hi bo bm .i64 .i64 _ _ is.length rfl rfl rfl rfl qao qm (Nat.le_refl _) ?_;intro w1 ah ae))
 have ge:Bw w w1:=(Below.refl _ _).grown ae (Nat.le_refl _) qg;clear ae
 go_loopw [4] (λi wr=>∃k:X,∃xs:L Z,k<=is.length/\i=I k/\wr.ownsRow w.heap.size 139 3 (J (p_ w.heap.size) is.length is.length) is.length xs/\Ct is k xs/\Bw w wr) (λi _=>is.length-(intOf i).toNat)
 case atStart=>exact⟨0,_,Nat.zero_le _,rfl,ah,λi hi=>qb,ge⟩
 case round=>
  obtain⟨k,xs,hk,rfl,ah,T7,am⟩:=hrel
  by_cases aj:k<is.length
  ·obtain⟨b,off,rfl,c1,c2,c3⟩:=(hc.bl am) k aj
   have ut:=filled3_set T7 (show k*3+2<xs.length from qcz);generalize ix is k=i at *;clear ge hc T7;go_wp2_with fail;refine(toIns_any i _).mono ?_;rintro e w2 ⟨ag,rfl⟩;have aq:=Ac ah ag;have lz:Bw w w2:=am.trans (ag.mono am.size);have ci:=aq.frozenAt;obtain⟨o1,d1⟩:=Kg aq (j:=k*3) qb;obtain⟨o2,d2⟩:=Kg aq (j:=k*3+1) qb;obtain⟨o3,d3⟩:=Kg aq (j:=k*3+2) qb;have HO:Hd (w2.ownsRow w.heap.size 139 3 (J (p_ w.heap.size) is.length is.length) is.length xs):=aq;exact qiz
  ·exact qfr
theorem Oj(a:Option Addr)(cap:X)(is:L I3)(w:E)(hc:Ch w a is)(hl:is.length<=1048576):Calls prog 71 #[G #[J a is.length cap]] w λe w'=>Bw w w'/\∃g:X,e=H (G #[J (p_ g) is.length is.length])/\∃xs,w'.ownsRow w.heap.size 139 3 (J (p_ g) is.length is.length) is.length xs/\Ct is is.length xs:=by
 go_enter func71,ntmps71;go_wp2_with fail;have ak:Bw w (((w.alloc (O #[J a is.length cap] 77)).alloc (O #[nS] 92)).alloc (O #[nS] 92)):=((aN _ _).alloc qg _).alloc qh _;refine(toInsS_own a cap is _ (hc.bl ak) hl).mono ?_;rintro e w1 ⟨af,g,rfl,xs,hr,hf⟩;have hg:=(hr.lt g rfl).1;simp at hg;have hb:Bw w w1:=ak.trans (af.mono ak.size);have hz:=af.size;simp at hz;have c1:w1.cell? ⟨w.heap.size+1,0,N⟩=M nS:=Aa af qk;have c2:w1.cell? ⟨w.heap.size+1+1,0,N⟩=M nS:=Aa af qk;have f1:w1.frozen? ⟨w.heap.size+1,0,N⟩=false:=by rw[af.frozen (p:=⟨w.heap.size+1,0,N⟩) qg];simp[go_sem]
 have f2:w1.frozen? ⟨w.heap.size+1+1,0,N⟩=false:=by rw[af.frozen (p:=⟨w.heap.size+1+1,0,N⟩) qg];simp[go_sem]
 clear ak af;go_wp2;exact bR (v:=G #[J (p_ g) is.length is.length]) (by simp[results,results71,go_sem,c1]) rfl ⟨Om (Om hb qb _) qb _,g,rfl,xs,Na (Na (Ju hr qh) qb _) qb _,hf⟩
theorem Zm(K:X)(w:E)(h2:K<=900000000000000):Calls prog 62 #[nS,I K] w λe w'=>e=H (I (K:Int))/\w=w':=by
 go_enter func62,ntmps62;exact qff
theorem Qa(B n K:X)(v:Z)(xs:L Z)(w:E)(ah:w.ownsRow B 139 3 v n xs)(hB:B<=w.heap.size)(hn:n<=1048576)(h1:1<=K)(h2:K<=900000000000000):Calls prog 62 #[v,I K] w λe w'=>e=H (I ((K+3*n:X):Int))/\Below B w w'/\Dl v.ownBlock w w'/\∃ys,w'.ownsRow B 139 3 v n ys/\Ya K n ys:=by
 rcases Gs ah with⟨rfl,rfl⟩|⟨g,cap,rfl⟩
 ·refine(Zm K w h2).mono ?_
  exact qlp
 ·refine(Zn B g n cap K xs w ah hB hn h1 h2).mono ?_
  exact qky
theorem Hc.bl(h:Hc w lo hi v ss)(hb:Bw w w'):Hc w' lo hi v ss:=by
 obtain⟨xs,h1,h2⟩:=h;exact⟨xs,h1.bl hb,h2⟩
theorem Mj.bl(h:Mj w lo hi v ts xs cv)(hb:Bw w w'):Mj w' lo hi v ts xs cv:=
 ⟨h.row.bl hb,h.fil,λi hi=>by obtain⟨ys,h1,h2⟩:=h.code i hi;exact⟨ys,h1.bl hb,h2⟩,h.apart⟩
theorem Gw.bl(h:Gw w lo hi v ts)(hb:Bw w w'):Gw w' lo hi v ts:=by
 obtain⟨xs,cv,h⟩:=h;exact⟨xs,cv,h.bl hb⟩
theorem Uf(u v:Z)(hj:j<k*2):((xs.set (k*2) u).set (k*2+1) v)[j]?=xs[j]?:=by
 simp only[List.getElem?_set];rw[if_neg qb,if_neg qb]
theorem set2_0(u v:Z)(hx:k*2+1<xs.length):((xs.set (k*2) u).set (k*2+1) v)[k*2]?=M u:=by
 simp only[List.getElem?_set];rw[if_neg qb,if_pos trivial,if_pos qb]
theorem set2_1(u v:Z)(hx:k*2+1<xs.length):((xs.set (k*2) u).set (k*2+1) v)[k*2+1]?=M v:=by
 simp only[List.getElem?_set];rw[if_pos trivial,if_pos qh]
/-! ### toSpace -/
theorem Vx(a:Option Addr)(cap:X)(is:L S2)(w:E)(hc:Hr w a is)(hl:is.length<=1048576):Calls prog 29 #[J a is.length cap] w λe w'=>Bw w w'/\∃g:X,e=H (J (p_ g) is.length is.length)/\∃xs,w'.ownsRow w.heap.size 97 2 (J (p_ g) is.length is.length) is.length xs/\Oc is is.length xs:=by
 obtain⟨z0,hi,bo,bm,cm⟩:=info_parts Tryz.info97;go_enter func29,ntmps29
 go_wp2_with (first|(at_make;refine wpList_make_full _ rfl (.tmp 6) (.tmp 6) 40 rfl w.heap.size 97 z0 (G #[S ByteArray.empty,S ByteArray.empty]) 2 underlying40 hi bo bm .i64 .i64 _ _ is.length rfl rfl rfl rfl qao qm (Nat.le_refl _) ?_;intro w1 ah ae))
 have ge:Bw w w1:=(Below.refl _ _).grown ae (Nat.le_refl _) qg;clear ae
 go_loopw [4] (λi wr=>∃k:X,∃xs:L Z,k<=is.length/\i=I k/\wr.ownsRow w.heap.size 97 2 (J (p_ w.heap.size) is.length is.length) is.length xs/\Oc is k xs/\Bw w wr) (λi _=>is.length-(intOf i).toNat)
 case atStart=>exact⟨0,_,Nat.zero_le _,rfl,ah,λi hi=>qb,ge⟩
 case round=>
  obtain⟨k,xs,hk,rfl,ah,T7,am⟩:=hrel
  by_cases aj:k<is.length
  ·obtain⟨b,off,rfl,c1,c2⟩:=(hc.bl am) k aj
   have ut:=filledS_set T7 (show k*2+1<xs.length from qcz);generalize sx is k=i at *;clear ge hc T7;go_wp2_with fail;refine(Yg i _).mono ?_;rintro e w2 ⟨ag,rfl⟩;have aq:=Ac ah ag;have lz:Bw w w2:=am.trans (ag.mono am.size);have ci:=aq.frozenAt;obtain⟨o1,d1⟩:=Du aq (j:=k*2) qb;obtain⟨o2,d2⟩:=Du aq (j:=k*2+1) qb;have HO:Hd (w2.ownsRow w.heap.size 97 2 (J (p_ w.heap.size) is.length is.length) is.length xs):=aq;clear ah aq ag am;go_wp2;go_roundw
   case rel=>exact⟨k+1,_,qb,qj,((HO.o.stored _ _).1.stored _ _).1,ut,(lz.setCell (Nat.le_refl _) _).setCell (Nat.le_refl _) _⟩
   case measure=>simp[intOf];omega
  ·exact qfr
theorem Yf(n:By)(a:Option Addr)(cap:X)(is:L I3)(w:E)(hc:Ch w a is)(hl:is.length<=1048576):Calls prog 54 #[G #[S n,J a is.length cap]] w λe w'=>Bw w w'/\∃g:X,e=H (G #[S n,J (p_ g) is.length is.length])/\∃xs,w'.ownsRow w.heap.size 139 3 (J (p_ g) is.length is.length) is.length xs/\Ct is is.length xs:=by
 go_enter func54,ntmps54;go_wp2_with fail;have ak:Bw w (((w.alloc (O #[S n,J a is.length cap] 86)).alloc (O #[ze,nS] 99)).alloc (O #[S n,nS] 99)):=((aN _ _).alloc qg _).alloc qh _;refine(Oj a cap is _ (hc.bl ak) hl).mono ?_;rintro e w1 ⟨af,g,rfl,xs,hr,hf⟩;have hg:=(hr.lt g rfl).1;simp at hg;have hb:Bw w w1:=ak.trans (af.mono ak.size);have hz:=af.size;simp at hz;have Mi:w1.cell? ⟨w.heap.size+1,0,N⟩=M ze:=Aa af qk;have vf:w1.cell? ⟨w.heap.size+1,1,N⟩=M nS:=Aa af qk;have c20:w1.cell? ⟨w.heap.size+1+1,0,N⟩=M (S n):=Aa af qk;have c21:w1.cell? ⟨w.heap.size+1+1,1,N⟩=M nS:=Aa af qk;have f1:∀j,w1.frozen? ⟨w.heap.size+1,j,N⟩=false:=λj=>by rw[af.frozen (p:=⟨w.heap.size+1,j,N⟩) qg];simp[go_sem]
 have f2:∀j,w1.frozen? ⟨w.heap.size+1+1,j,N⟩=false:=λj=>by rw[af.frozen (p:=⟨w.heap.size+1+1,j,N⟩) qg];simp[go_sem]
 clear ak af;go_wp2;refine bR (v:=G #[S n,J (p_ g) is.length is.length]) (by simp[results,results54,go_sem,Mi,vf]) rfl ⟨?_,g,rfl,xs,?_,hf⟩
 ·exact((hb.setCell (p:=⟨w.heap.size+1+1,1,N⟩) qh _).setCell (p:=⟨w.heap.size+1,0,N⟩) qg _).setCell (p:=⟨w.heap.size+1,1,N⟩) qg _
 ·exact Na (Na (Na (Ju hr qh) qb _) qb _) qb _
theorem Vw(a:Option Addr)(cap:X)(is:L T2)(w:E)(hc:Hb w a is)(hl:is.length<=1048576)(hk:∀i,i<is.length->(tx is i).code.length<=1048576):Calls prog 30 #[J a is.length cap] w λe w'=>Bw w w'/\∃g:X,e=H (J (p_ g) is.length is.length)/\Gw w' w.heap.size w'.heap.size (J (p_ g) is.length is.length) is:=by
 obtain⟨z0,hi,bo,bm,cm⟩:=info_parts Tryz.info99;have HK:Hd (∀i,i<is.length->(tx is i).code.length<=1048576):=hk;clear hk;go_enter func30,ntmps30
 go_wp2_with (first|(at_make;refine wpList_make_full _ rfl (.tmp 6) (.tmp 6) 41 rfl w.heap.size 99 z0 (G #[S ByteArray.empty,nS]) 2 underlying41 hi bo bm .i64 .i64 _ _ is.length rfl rfl rfl rfl qao qm (Nat.le_refl _) ?_;intro w1 ah ae))
 have ge:Bw w w1:=(Below.refl _ _).grown ae (Nat.le_refl _) qg;clear ae
 go_loopw [4] (λi wr=>∃(k:X)(xs:L Z)(cv:X->Z),k<=is.length/\i=I k/\wr.ownsRow w.heap.size 99 2 (J (p_ w.heap.size) is.length is.length) is.length xs/\Hd (Jp wr (w.heap.size+1) is k xs cv)/\Bw w wr) (λi _=>is.length-(intOf i).toNat)
 case atStart=>exact⟨0,_,_,Nat.zero_le _,rfl,ah,Jp.zero _ _ _ _,ge⟩
 case round=>
  obtain⟨k,xs,cv,hk,rfl,ah,HP,am⟩:=hrel
  by_cases aj:k<is.length
  ·obtain⟨b,off,rfl,c1,a',ai,c2,c3⟩:=(hc.bl am) k aj
   have B5:=HK.o k aj;have K5:k*2+1<xs.length:=qcz;have hgl:w.heap.size<wr.heap.size:=(ah.lt _ rfl).2;have HF:Hd (∀(W:E)(c:Z)(ys:L Z),Bw wr W->W.ownsRow wr.heap.size 139 3 c (tx is k).code.length ys->Ct (tx is k).code (tx is k).code.length ys->Jp W (w.heap.size+1) is (k+1) ((xs.set (k*2) (S (tx is k).name)).set (k*2+1) c) (λi=>if i=k then c else cv i)):=λW c ys h1 h2 h3=>HP.o.add h1 hgl h2 h3 (λj hj=>Uf _ _ hj) (set2_0 _ _ K5) (set2_1 _ _ K5);generalize tx is k=i at *;clear ge hc;go_wp2_with fail;refine(Yf i.name a' ai i.code _ c3 B5).mono ?_;rintro e w2 ⟨ag,g,rfl,ys,hr,zr⟩;have aq:=Ac ah ag;have lz:Bw w w2:=am.trans (ag.mono am.size);have ci:=aq.frozenAt;have ut:=((HF.o w2 _ ys ag hr zr).set (b:=w.heap.size) (j:=k*2) (Nat.lt_succ_self _) (S i.name)).set (b:=w.heap.size) (j:=k*2+1) (Nat.lt_succ_self _) (J (p_ g) i.code.length i.code.length);obtain⟨o1,d1⟩:=Du aq (j:=k*2) qb;obtain⟨o2,d2⟩:=Du aq (j:=k*2+1) qb;have HO:Hd (w2.ownsRow w.heap.size 99 2 (J (p_ w.heap.size) is.length is.length) is.length xs):=aq;have fy:Hd _:=ut;clear ah aq ag am ut HP HF hr zr;go_wp2;go_roundw
   case rel=>exact⟨k+1,_,_,qb,qj,((HO.o.stored _ _).1.stored _ _).1,fy.o,(lz.setCell (Nat.le_refl _) _).setCell (Nat.le_refl _) _⟩
   case measure=>simp[intOf];omega
  ·have ek:k=is.length:=qb
   subst ek;go_wp2;go_ret;exact⟨am,_,rfl,HP.o.own ah (Nat.le_succ _) (Nat.le_refl _)⟩
theorem Mu(sa ta:Option Addr)(c1 c2:X)(ss:L S2)(ts:L T2)(w:E)(rs:Hr w sa ss)(rt:Hb w ta ts)(h:Ew ss ts):Calls prog 9 #[G #[J sa ss.length c1,J ta ts.length c2]] w λe w'=>Bw w w'/\∃v1 v2:Z,e=H (G #[v1,v2])/\Hc w' w.heap.size w'.heap.size v1 ss/\Gw w' w.heap.size w'.heap.size v2 ts:=by
 obtain⟨h1,h2,h3⟩:=h;go_enter func9,ntmps9;go_wp2_with fail;have ak:Bw w (((w.alloc (O #[J sa ss.length c1,J ta ts.length c2] 29)).alloc (O #[nS,nS] 43)).alloc (O #[nS,nS] 43)):=((aN _ _).alloc qg _).alloc qh _;refine(Vx sa c1 ss _ (rs.bl ak) h1).mono ?_;rintro e w1 ⟨af,g,rfl,xs,hr,ci⟩;have hg:=(hr.lt g rfl).1;simp at hg;have ir:Hd (Hc w1 (w.heap.size+1+1+1) w1.heap.size (J (p_ g) ss.length ss.length) ss):=⟨xs,Bh.new (Ju hr qg),ci⟩;have hb:Bw w w1:=ak.trans (af.mono ak.size);have hz:=af.size;simp at hz;have c01:w1.cell? ⟨w.heap.size,1,N⟩=M (J ta ts.length c2):=Aa af qk;have Mi:w1.cell? ⟨w.heap.size+1,0,N⟩=M nS:=Aa af qk;have vf:w1.cell? ⟨w.heap.size+1,1,N⟩=M nS:=Aa af qk;have c20:w1.cell? ⟨w.heap.size+1+1,0,N⟩=M nS:=Aa af qk;have c21:w1.cell? ⟨w.heap.size+1+1,1,N⟩=M nS:=Aa af qk;have f1:∀j,w1.frozen? ⟨w.heap.size+1,j,N⟩=false:=λj=>by rw[af.frozen (p:=⟨w.heap.size+1,j,N⟩) qg];simp[go_sem]
 have f2:∀j,w1.frozen? ⟨w.heap.size+1+1,j,N⟩=false:=λj=>by rw[af.frozen (p:=⟨w.heap.size+1+1,j,N⟩) qg];simp[go_sem]
 clear ak af;go_wp2_with fail;have mo:Bw w (w1.setCell ⟨w.heap.size+1+1,0,N⟩ (J (p_ g) ss.length ss.length)):=hb.setCell (p:=⟨w.heap.size+1+1,0,N⟩) qh _;refine(Vw ta c2 ts _ (rt.bl mo) h2 h3).mono ?_;rintro e w2 ⟨ag,g2,rfl,nr⟩;have au:Bw w w2:=mo.trans (ag.mono mo.size);have cu:Hd (Hc w2 (w.heap.size+1+1+1) w1.heap.size (J (p_ g) ss.length ss.length) ss):=(ir.o.set (j:=0) (show w.heap.size+1+1<w.heap.size+1+1+1 from qb) _).bl ag;have cm:=ag.size;simp at cm;have HT2:Hd (Gw w2 (w.heap.size+1+1+1) w2.heap.size (J (p_ g2) ts.length ts.length) ts):=nr.wide qh (Nat.le_refl _);have hs12:w1.heap.size<=w2.heap.size:=by simpa using ag.size
 have d10:w2.cell? ⟨w.heap.size+1,0,N⟩=M nS:=Aa ag (by simp[go_sem,Mi]);have d11:w2.cell? ⟨w.heap.size+1,1,N⟩=M nS:=Aa ag (by simp[go_sem,vf]);have d20:w2.cell? ⟨w.heap.size+1+1,0,N⟩=M (J (p_ g) ss.length ss.length):=Aa ag (by simp[go_sem,c20]);have d21:w2.cell? ⟨w.heap.size+1+1,1,N⟩=M nS:=Aa ag (by simp[go_sem,c21]);have e1:∀j,w2.frozen? ⟨w.heap.size+1,j,N⟩=false:=λj=>by rw[ag.frozen (p:=⟨w.heap.size+1,j,N⟩) qh];simp[go_sem,f1]
 have e2:∀j,w2.frozen? ⟨w.heap.size+1+1,j,N⟩=false:=λj=>by rw[ag.frozen (p:=⟨w.heap.size+1+1,j,N⟩) qh];simp[go_sem,f2]
 clear ag mo hb c01 Mi vf c20 c21 f1 f2 hr nr ir;go_wp2;refine bR (v:=G #[J (p_ g) ss.length ss.length,J (p_ g2) ts.length ts.length]) (by simp[results,results9,go_sem,d10,d11]) rfl ⟨?_,_,_,rfl,?_,?_⟩
 ·exact((au.setCell (p:=⟨w.heap.size+1+1,1,N⟩) qh _).setCell (p:=⟨w.heap.size+1,0,N⟩) qg _).setCell (p:=⟨w.heap.size+1,1,N⟩) qg _
 ·exact(((cu.o.set qb _).set qb _).set qb _).wide qb qh
 ·exact(((HT2.o.set qb _).set qb _).set qb _).wide qb qg
def RdX(K n:X)(w:E)(g:X):Prop:=∀i,i<n->w.cell? ⟨g,i,N⟩=M (S (mt (K+i)))
theorem RdX.bl{K:X}(h:RdX K n w g)(hb:Bw w w'):RdX K n w' g:=λi hi=>Aa hb (h i hi)
def MkS(K n:X)(ys:L Z):Prop:=∀i,i<n->ys[i*2]?=M (S (mt (K+2*i)))/\ys[i*2+1]?=M (S (mt (K+2*i+1)))
theorem mkS_set{K:X}(h:MkS K k ys)(hx:k*2+1<ys.length):MkS K (k+1) ((ys.set (k*2) (S (mt (K+2*k)))).set (k*2+1) (S (mt (K+2*k+1)))):=by
 intro i hi
 rcases Nat.lt_or_ge i k with hl|hl
 ·obtain⟨h1,h2⟩:=h i hl
  rw[Uf _ _ qb,Uf _ _ qb];exact⟨h1,h2⟩
 ·obtain rfl:i=k:=qb
  exact⟨set2_0 _ _ hx,set2_1 _ _ hx⟩
theorem Sv(B g n cap K:X)(xs:L Z)(w:E)(ah:w.ownsRow B 97 2 (J (p_ g) n cap) n xs)(hB:B<=w.heap.size)(hn:n<=1048576)(h1:1<=K)(h2:K<=900000000000000):Calls prog 36 #[J (p_ g) n cap,I K] w λe w'=>e=H (I ((K+2*n:X):Int))/\Below B w w'/\Fm g w w'/\∃ys,w'.ownsRow B 97 2 (J (p_ g) n cap) n ys/\MkS K n ys:=by
 have yo:B<=g:=(ah.lt g rfl).1;go_enter func36,ntmps36;go_wp2
 go_loopw [1,5] (λk i wr=>∃(m:X)(ys:L Z),m<=n/\i=I m/\k=I ((K+2*m:X):Int)/\Hd (wr.ownsRow B 97 2 (J (p_ g) n cap) n ys)/\Hd (MkS K m ys)/\Hd (Fm g w wr)/\w.heap.size<=wr.heap.size/\Below B w wr) (λ_ i _=>n-(intOf i).toNat)
 case atStart=>exact⟨0,xs,Nat.zero_le _,rfl,rfl,ah,(λi hi=>by omega:MkS K 0 xs),(λb _ _=>rfl:Fm g w w),Nat.le_refl _,Below.refl _ _⟩
 case round=>
  obtain⟨m,ys,hm,rfl,rfl,HO,HM,HK,cz,bc⟩:=hrel;clear ah
  by_cases aj:m<n
  ·have K5:m*2+1<ys.length:=by rw[HO.o.1];omega
   have mi:Hd (MkS K (m+1) ((ys.set (m*2) (S (mt (K+2*m)))).set (m*2+1) (S (mt (K+2*m+1))))):=mkS_set HM.o K5;have F4:K+2*m+1<1000000000000000:=qb;have HT:Hd (∀W:E,Calls prog 38 #[I ((K+2*m:X):Int)] W λe w'=>Bw W w'/\e=H (S (mt (K+2*m)))):=λW=>Cx (K+2*m) W qb qb
   have HU:Hd (∀W:E,Calls prog 38 #[I ((K+2*m:X)+1:Int)] W λe w'=>Bw W w'/\e=H (S (mt (K+2*m+1)))):=λW=>by
    have h:=Cx (K+2*m+1) W qb F4;rw[show((K+2*m+1:X):Int)=((K+2*m:X):Int)+1 from qb]at h;exact h
   generalize mt (K+2*m)=t at *;generalize mt (K+2*m+1)=u at *;obtain⟨c,ec⟩:=Aj (K+2*m);rw[ec]at HT HU F4 ⊢;have HE:Hd (K+2*m=c):=ec;clear ec;have D9:(m:Int)<(n:Int):=qb;go_wp2_with fail;refine(HT.o _).mono ?_;rintro e w2 ⟨ag,rfl⟩;have aq:=Ac HO.o ag;have lz:Below B w w2:=bc.trans (ag.mono qb);have L0:=aq.frozenAt;obtain⟨o1,d1⟩:=Du aq (j:=m*2) qb;have ws:Hd (w2.ownsRow B 97 2 (J (p_ g) n cap) n ys):=aq;have gg:Hd (Fm g w w2):=HK.o.bl cz ag;have ik:w.heap.size<=w2.heap.size:=zo ag.size;clear aq ag bc HO;go_wp2_with fail;refine(HU.o _).mono ?_;rintro e w3 ⟨au,rfl⟩;have fu:=Ac (ws.o.stored (m*2) (S t)).1 au;have zt:Below B w w3:=(lz.setCell (p:=⟨g,m*2,N⟩) yo _).trans (au.mono qh);have si:Hd (Fm g w w3):=(gg.o.set (m*2) _).bl qdd au;(have ou:w.heap.size<=w3.heap.size:=by have:=au.size;simp at this;omega);have hfr3:=fu.frozenAt;obtain⟨o3,d3⟩:=Du fu (j:=m*2+1) qb;have M7:Hd (w3.ownsRow B 97 2 (J (p_ g) n cap) n (ys.set (m*2) (S t))):=fu;clear fu au d1 lz L0 ws;go_wp2;go_roundw
   case rel=>exact⟨m+1,_,qb,qj,congrArg (Value.int .i64) (zo HE.o),(M7.o.stored _ _).1,mi.o,si.o.set _ _,by simpa using ou,zt.setCell (p:=⟨g,m*2+1,N⟩) yo _⟩
   case measure=>simp[intOf];omega
  ·exact qdk
theorem Su(K:X)(w:E)(h2:K<=900000000000000):Calls prog 36 #[nS,I K] w λe w'=>e=H (I (K:Int))/\w=w':=by
 go_enter func36,ntmps36;exact qff
theorem Ss(lo hi n K:X)(v:Z)(xs:L Z)(w:E)(hr:Bh w lo hi 97 2 v n xs)(hB:lo<=w.heap.size)(hn:n<=1048576)(h1:1<=K)(h2:K<=900000000000000):Calls prog 36 #[v,I K] w λe w'=>e=H (I ((K+2*n:X):Int))/\Below lo w w'/\Dl v.ownBlock w w'/\∃ys,Bh w' lo hi 97 2 v n ys/\MkS K n ys:=by
 rcases Gs hr.own with⟨rfl,rfl⟩|⟨g,cap,rfl⟩
 ·refine(Su K w h2).mono ?_
  exact qlu
 ·refine(Sv lo g n cap K xs w hr.own hB hn h1 h2).mono ?_
  exact qko
def kT(cl:X->X)(K:X):X->X
 | 0=>K
 | i+1=>kT cl K i+1+3*cl i
theorem kT_le(cl:X->X)(K:X):∀i n,i<=n->kT cl K i<=kT cl K n:=by
 intro i n h
 induction n with
 | zero=>
   (obtain rfl:i=0:=by omega);exact Nat.le_refl _
 | succ n ih=>
   rcases Nat.lt_or_ge i (n+1)with h1|h1
   ·have:=ih qb
    simp only[kT];omega
   ·obtain rfl:i=n+1:=qb
    exact Nat.le_refl _
theorem kT_bound(cl:X->X)(K:X):∀n,(∀i,i<n->cl i<=1048576)->kT cl K n<=K+n*3145729:=by
 intro n
 induction n with
 | zero=>intro _;simp[kT]
 | succ n ih=>
   intro h;have:=ih (λi hi=>h i qb);have:=h n qb;simp only[kT];rw[Nat.succ_mul];omega
theorem Eh.bl(h:Eh w lo hi v n cl xs cv)(hb:Bw w w'):Eh w' lo hi v n cl xs cv:=
 ⟨h.row.bl hb,h.sec,λi hi=>by obtain⟨ys,h1⟩:=h.code i hi;exact⟨ys,h1.bl hb⟩,h.apart⟩
theorem Eh.keepO{u:Z}(h:Eh w lo hi v n cl xs cv)(ho:w.ownsRow B e sz u m zs)(hk:Dl u.ownBlock w w')(h1:99≠e)(h2:139≠e):Eh w' lo hi v n cl xs cv:=
 ⟨h.row.same λb eb=>hk b (h.row.own.lt b eb).2 (λe'=>Ra h.row.own ho h1 b eb e'.symm),h.sec,λi hi=>by
  obtain⟨ys,k1⟩:=h.code i hi;exact⟨ys,k1.same λb eb=>hk b (k1.own.lt b eb).2 (λe'=>Ra k1.own ho h2 b eb e'.symm)⟩,h.apart⟩
theorem Eh.store(h:Eh w lo hi (J (p_ g) n cap) n cl xs cv)(m:X)(u:Z):Eh (w.setCell ⟨g,m*2,N⟩ u) lo hi (J (p_ g) n cap) n cl (xs.set (m*2) u) cv:=
 ⟨⟨(h.row.own.stored (m*2) u).1,h.row.top⟩,λi hi=>by rw[List.getElem?_set,if_neg qb];exact h.sec i hi,λi hi=>by
  obtain⟨ys,k1⟩:=h.code i hi;exact⟨ys,k1.same λb eb=>Dj w ⟨g,m*2,N⟩ u b (by show b≠g;intro e;subst e;exact Ra h.row.own k1.own qd b rfl eb)⟩,h.apart⟩
theorem Eh.mark(h:Eh w lo hi v n cl xs cv)(hm:m<n)(hk:Dl (cv m).ownBlock w w')(hn:Bh w' lo hi 139 3 (cv m) (cl m) zs):Eh w' lo hi v n cl xs cv:=by
 obtain⟨y0,k0⟩:=h.code m hm;refine⟨h.row.same λb eb=>hk b (h.row.own.lt b eb).2 (λe'=>Ra h.row.own k0.own qd b eb e'.symm),h.sec,λi hi=>?_,h.apart⟩
 by_cases hi':i=m
 ·subst hi';exact⟨zs,hn⟩
 ·obtain⟨ys,k1⟩:=h.code i hi
  exact⟨ys,k1.same λb eb=>hk b (k1.own.lt b eb).2 (λe'=>h.apart i m hi hm hi' b eb e'.symm)⟩
def Mn(w:E)(lo hi K:X)(cl:X->X)(cv:X->Z)(m:X)(ys:L Z):Prop:=∀i,i<m->ys[i*2]?=M (S (mt (kT cl K i)))/\∃zs,Bh w lo hi 139 3 (cv i) (cl i) zs/\Ya (kT cl K i+1) (cl i) zs
theorem Mn.bl{K:X}(h:Mn w lo hi K cl cv m ys)(hb:Bw w w'):Mn w' lo hi K cl cv m ys:=λi hi=>by
 obtain⟨h1,zs,h2,h3⟩:=h i hi;exact⟨h1,zs,h2.bl hb,h3⟩
theorem Mn.store{K:X}(h:Mn w lo hi K cl cv m ys)(hr:Eh w lo hi (J (p_ g) n cap) n cl ys cv)(u:Z):Mn (w.setCell ⟨g,m*2,N⟩ u) lo hi K cl cv m (ys.set (m*2) u):=λi hi=>by
 obtain⟨h1,zs,h2,h3⟩:=h i hi;exact⟨by rw[List.getElem?_set,if_neg qb];exact h1,zs,h2.same λb eb=>Dj w ⟨g,m*2,N⟩ u b (by show b≠g;intro e;subst e;exact Ra hr.row.own h2.own qd b rfl eb),h3⟩
theorem Mn.mark{K:X}(h:Mn w lo hi K cl cv m ys)(hr:Eh w lo hi v n cl ys cv)(hm:m<n)(hk:Dl (cv m).ownBlock w w')(hn:Bh w' lo hi 139 3 (cv m) (cl m) zs)(hz:Ya (kT cl K m+1) (cl m) zs)(hy:ys[m*2]?=M (S (mt (kT cl K m)))):Mn w' lo hi K cl cv (m+1) ys:=λi hi=>by
 rcases Nat.lt_or_ge i m with aj|Y4
 ·obtain⟨h1,zs',h2,h3⟩:=h i aj
  exact⟨h1,zs',h2.same λb eb=>hk b (h2.own.lt b eb).2 (λe'=>hr.apart i m qb hm qb b eb e'.symm),h3⟩
 ·obtain rfl:i=m:=qb
  exact⟨hy,zs,hn,hz⟩
def Ex(v:Z)(cv:X->Z)(n:X)(w w':E):Prop:=∀b,b<w.heap.size->v.ownBlock≠M b->(∀i,i<n->(cv i).ownBlock≠M b)->w'.heap[b]?=w.heap[b]?
theorem Ex.bl(h:Ex v cv n w w')(hs:w.heap.size<=w'.heap.size)(hb:Bw w' w2):Ex v cv n w w2:=λb hl h1 h2=>by
 rw[hb.block b qb];exact h b hl h1 h2
theorem Ex.set(h:Ex (J (p_ g) n cap) cv n w w')(u:Z):Ex (J (p_ g) n cap) cv n w (w'.setCell ⟨g,m,N⟩ u):=λb hl h1 h2=>by
 rw[Dj w' ⟨g,m,N⟩ u b (λe=>h1 (by rw[e];rfl))];exact h b hl h1 h2
theorem Ex.mark(h:Ex v cv n w w')(hs:w.heap.size<=w'.heap.size)(hm:m<n)(hk:Dl (cv m).ownBlock w' w2):Ex v cv n w w2:=λb hl h1 h2=>by
 rw[hk b qb (λe=>h2 m hm e.symm)];exact h b hl h1 h2
theorem Ex.keepR(h:Ex v cv n w w')(hr:Eh w lo hi v n cl xs cv):Dk lo hi w w':=λb hb ho=>h b hb (λe=>by have h1:=(hr.row.own.lt b e).1;have h2:=hr.row.top b e;omega) (λi hi e=>by
 obtain⟨ys,k⟩:=hr.code i hi;have h1:=(k.own.lt b e).1;have h2:=k.top b e;omega)
theorem code_slice(h:Bh w lo hi 139 3 v n ys):∃va vc,v=J va n vc:=by
 rcases Gs h.own with⟨hv,rfl⟩|⟨g',c',hv⟩
 ·exact⟨_,_,hv⟩
 ·exact⟨_,_,hv⟩
theorem Sq(lo hi g n cap K:X)(cl:X->X)(xs:L Z)(cv:X->Z)(w:E)(hr:Eh w lo hi (J (p_ g) n cap) n cl xs cv)(hB:lo<=w.heap.size)(hn:n<=1048576)(pw:∀i,i<n->cl i<=1048576)(h1:1<=K)(h2:kT cl K n<=800000000000000):Calls prog 37 #[J (p_ g) n cap,I K] w λe w'=>e=H (I ((kT cl K n:X):Int))/\Below lo w w'/\Ex (J (p_ g) n cap) cv n w w'/\∃ys,Eh w' lo hi (J (p_ g) n cap) n cl ys cv/\Mn w' lo hi K cl cv n ys:=by
 have yo:lo<=g:=(hr.row.own.lt g rfl).1;have HCL:Hd (∀i,i<n->cl i<=1048576):=pw;have HKT:Hd (∀i,i<=n->K<=kT cl K i/\kT cl K i<=800000000000000):=λi hi=>⟨kT_le cl K 0 i (Nat.zero_le _),Nat.le_trans (kT_le cl K i n hi) h2⟩;clear pw h2;go_enter func37,ntmps37;go_wp2
 go_loopw [1,5] (λk i wr=>∃(m:X)(ys:L Z),m<=n/\i=I m/\k=I ((kT cl K m:X):Int)/\Hd (Eh wr lo hi (J (p_ g) n cap) n cl ys cv)/\Hd (Mn wr lo hi K cl cv m ys)/\Hd (Ex (J (p_ g) n cap) cv n w wr)/\w.heap.size<=wr.heap.size/\Below lo w wr) (λ_ i _=>n-(intOf i).toNat)
 case atStart=>exact⟨0,xs,Nat.zero_le _,rfl,rfl,hr,(λi hi=>by omega:Mn w lo hi K cl cv 0 xs),(λb _ _ _=>rfl:Ex (J (p_ g) n cap) cv n w w),Nat.le_refl _,Below.refl _ _⟩
 case round=>
  obtain⟨m,ys,hm,rfl,rfl,HR,HM,HK,cz,bc⟩:=hrel;clear hr
  by_cases aj:m<n
  ·obtain⟨cq,io⟩:=HKT.o m hm
   have E9:=HCL.o m aj;have HS:Hd (kT cl K (m+1)=kT cl K m+1+3*cl m):=rfl;(have K5:m*2+1<ys.length:=by rw[HR.o.row.own.1];omega);obtain⟨c,ec⟩:=Aj (kT cl K m);have HT:Hd (∀W:E,Calls prog 38 #[I (c:Int)] W λe w'=>Bw W w'/\e=H (S (mt c))):=λW=>Cx c W qb qb
   have HI:Hd (∀(W:E)(zs:L Z),W.ownsRow lo 139 3 (cv m) (cl m) zs->lo<=W.heap.size->Calls prog 62 #[cv m,I ((c:Int)+1)] W λe w'=>e=H (I ((c+1+3*cl m:X):Int))/\Below lo W w'/\Dl (cv m).ownBlock W w'/\∃ys,w'.ownsRow lo 139 3 (cv m) (cl m) ys/\Ya (c+1) (cl m) ys):=λW zs h3 h4=>by
    have h:=Qa lo (cl m) (c+1) (cv m) zs W h3 h4 E9 qb qb;rw[show((c+1:X):Int)=(c:Int)+1 from qb]at h;exact h
   rw[ec]at cq io HS ⊢;have HE:Hd (kT cl K m=c):=ec;clear ec;have D9:(m:Int)<(n:Int):=qb;obtain⟨t,et⟩:=Aj (mt c);rw[et]at HT;have HET:Hd (mt c=t):=et;clear et;obtain⟨z0,bo⟩:=HR.o.code m aj;obtain⟨va,vc,ev⟩:=code_slice bo;have EV:Hd (cv m=J va (cl m) vc):=ev;clear bo ev;go_wp2_with fail;refine(HT.o _).mono ?_;rintro e w2 ⟨ag,rfl⟩;have pd:Hd (Eh w2 lo hi (J (p_ g) n cap) n cl ys cv):=HR.o.bl ag;have mi:Hd (Mn w2 lo hi K cl cv m ys):=HM.o.bl ag;have gg:Hd (Ex (J (p_ g) n cap) cv n w w2):=HK.o.bl cz ag;have lz:Below lo w w2:=bc.trans (ag.mono qb);have ik:w.heap.size<=w2.heap.size:=zo ag.size;have L0:=pd.o.row.own.frozenAt;obtain⟨o1,d1⟩:=Du pd.o.row.own (j:=m*2) qb;(have d2:w2.cell? ⟨g,m*2+1,N⟩=M (J va (cl m) vc):=by rw[pd.o.row.own.cellAt _ qb,pd.o.sec m aj,EV.o]);have it:Hd (Eh (w2.setCell ⟨g,m*2,N⟩ (S t)) lo hi (J (p_ g) n cap) n cl (ys.set (m*2) (S t)) cv):=pd.o.store m (S t);have Gt:Hd (Mn (w2.setCell ⟨g,m*2,N⟩ (S t)) lo hi K cl cv m (ys.set (m*2) (S t))):=mi.o.store pd.o (S t);have si:Hd (Ex (J (p_ g) n cap) cv n w (w2.setCell ⟨g,m*2,N⟩ (S t))):=gg.o.set _;have zt:Below lo w (w2.setCell ⟨g,m*2,N⟩ (S t)):=lz.setCell (p:=⟨g,m*2,N⟩) yo _
   have HC:Hd (Calls prog 62 #[J va (cl m) vc,I ((c:Int)+1)] (w2.setCell ⟨g,m*2,N⟩ (S t)) λe w'=>e=H (I ((c+1+3*cl m:X):Int))/\Below lo (w2.setCell ⟨g,m*2,N⟩ (S t)) w'/\Dl (cv m).ownBlock (w2.setCell ⟨g,m*2,N⟩ (S t)) w'/\∃ys,w'.ownsRow lo 139 3 (cv m) (cl m) ys/\Ya (c+1) (cl m) ys):=by
    obtain⟨zs,hzs⟩:=it.o.code m aj;have h:=HI.o _ zs hzs.own qh;rw[EV.o]at h ⊢;exact h
   clear ag bc HR HM HK HI HT pd mi gg lz;go_wp2_with fail;refine HC.o.mono ?_;rintro e w4 ⟨rfl,ce,ox,zs,ho4,hm4⟩;have ht4:Bh w4 lo hi 139 3 (cv m) (cl m) zs:=⟨ho4,λb eb=>by obtain⟨zz,hzz⟩:=it.o.code m aj;exact hzz.top b eb⟩;have mx:Hd (Eh w4 lo hi (J (p_ g) n cap) n cl (ys.set (m*2) (S t)) cv):=it.o.mark aj ox ht4;have HM4:Hd (Mn w4 lo hi K cl cv (m+1) (ys.set (m*2) (S t))):=Gt.o.mark it.o aj ox ht4 (by rw[HE.o];exact hm4) (by rw[HE.o,HET.o,List.getElem?_set,if_pos rfl,if_pos qb]);have I1:Hd (Ex (J (p_ g) n cap) cv n w w4):=si.o.mark qdd aj ox;have T9:Below lo w w4:=zt.trans ce;(have G7:w.heap.size<=w4.heap.size:=by have:=ce.size;simp at this;omega);clear ce ox ho4 hm4 ht4 it Gt si zt d1 d2 L0 HC;go_wp2;go_roundw
   case rel=>exact⟨m+1,_,qb,qj,congrArg (Value.int .i64) (by rw[HS.o];omega),mx.o,HM4.o,I1.o,G7,T9⟩
   case measure=>simp[intOf];omega
  ·exact qmf
theorem Sp(K:X)(w:E)(h2:K<=900000000000000):Calls prog 37 #[nS,I K] w λe w'=>e=H (I (K:Int))/\w=w':=by
 go_enter func37,ntmps37;exact qff
theorem Sn(lo hi n K:X)(v:Z)(cl:X->X)(xs:L Z)(cv:X->Z)(w:E)(hr:Eh w lo hi v n cl xs cv)(hB:lo<=w.heap.size)(hn:n<=1048576)(pw:∀i,i<n->cl i<=1048576)(h1:1<=K)(h2:kT cl K n<=800000000000000):Calls prog 37 #[v,I K] w λe w'=>e=H (I ((kT cl K n:X):Int))/\Below lo w w'/\Ex v cv n w w'/\∃ys,Eh w' lo hi v n cl ys cv/\Mn w' lo hi K cl cv n ys:=by
 rcases Gs hr.row.own with⟨rfl,rfl⟩|⟨g,cap,rfl⟩
 ·refine(Sp K w (by simp only[kT]at h2;omega)).mono ?_
  rintro e w' ⟨rfl,rfl⟩;exact⟨rfl,Below.refl _ _,λ_ _ _ _=>rfl,xs,hr,λi hi=>qb⟩
 ·exact Sq lo hi g n cap K cl xs cv w hr hB hn pw h1 h2
def MkSp(w:E)(lo hi K:X)(v1 v2:Z)(n1 n2:X)(cl:X->X):Prop:=(∃ys,Bh w lo hi 97 2 v1 n1 ys/\MkS K n1 ys)/\∃ys cv,Eh w lo hi v2 n2 cl ys cv/\Mn w lo hi (K+2*n1) cl cv n2 ys
theorem Wi(lo hi n1 n2 K:X)(v1 v2:Z)(cl:X->X)(xs zs:L Z)(cv:X->Z)(w:E)(h1:Bh w lo hi 97 2 v1 n1 xs)(h2:Eh w lo hi v2 n2 cl zs cv)(hB:lo<=w.heap.size)(J9:n1<=1048576)(Y0:n2<=1048576)(pw:∀i,i<n2->cl i<=1048576)(hK:1<=K)(U7:kT cl (K+2*n1) n2<=800000000000000):Calls prog 17 #[G #[v1,v2],I K] w λe w'=>e=H (I ((kT cl (K+2*n1) n2:X):Int))/\Below lo w w'/\Dk lo hi w w'/\MkSp w' lo hi K v1 v2 n1 n2 cl:=by
 have hK3:K+2*n1<=800000000000000:=Nat.le_trans (kT_le cl (K+2*n1) 0 n2 (Nat.zero_le _)) U7;obtain⟨va,vc,rfl⟩:=Cn h1;obtain⟨vb,vd,rfl⟩:=Cn h2.row;have ak:Bw w (w.alloc (O #[J va n1 vc,J vb n2 vd] 43)):=aN _ _;have k1:(w.alloc (O #[J va n1 vc,J vb n2 vd] 43)).cell? ⟨w.heap.size,1,N⟩=M (J vb n2 vd):=qk;have hw0:(w.alloc (O #[J va n1 vc,J vb n2 vd] 43)).heap.size=w.heap.size+1:=qg;have xk:Hd (Eh (w.alloc (O #[J va n1 vc,J vb n2 vd] 43)) lo hi (J vb n2 vd) n2 cl zs cv):=h2.bl ak;have h10:=h1.bl ak;have hne:(Value.slice va n1 vc).ownBlock≠M w.heap.size:=λe=>by have:=(h1.own.lt _ e).2;omega
 have HC:Hd (∀W:E,Eh W lo hi (J vb n2 vd) n2 cl zs cv->lo<=W.heap.size->Calls prog 37 #[J vb n2 vd,I ((K+2*n1:X):Int)] W λe w'=>e=H (I ((kT cl (K+2*n1) n2:X):Int))/\Below lo W w'/\Ex (J vb n2 vd) cv n2 W w'/\∃ys,Eh w' lo hi (J vb n2 vd) n2 cl ys cv/\Mn w' lo hi (K+2*n1) cl cv n2 ys):=λW h3 h4=>Sn lo hi n2 (K+2*n1) _ cl zs cv W h3 h4 Y0 pw qb U7;clear U7 h2 h1 pw;go_enter func17,ntmps17;go_wp2_with fail;refine(Ss lo hi n1 K _ xs _ h10 qb J9 hK qb).mono ?_;rintro e w1 ⟨rfl,af,cq,ys,my,we⟩;have bj:Below lo w w1:=(ak.mono hB).trans af;have fm:w.heap.size+1<=w1.heap.size:=zo af.size
 have c1:w1.cell? ⟨w.heap.size,1,N⟩=M (J vb n2 vd):=by
  exact qmv
 have je:Hd (Eh w1 lo hi (J vb n2 vd) n2 cl zs cv):=xk.o.keepO h10.own cq qd qd;have fa:Hd (Dk lo hi w w1):=(Dk.of_below ak).trans ak.size (cq.keepR λb e=>⟨(h10.own.lt b e).1,h10.top b e⟩);have ir:Hd (Bh w1 lo hi 97 2 (J va n1 vc) n1 ys):=my;have A5:Hd (MkS K n1 ys):=we;clear ak af cq my we k1 xk h10 hne hw0;go_wp2_with fail;refine(HC.o w1 je.o qb).mono ?_;rintro e w2 ⟨rfl,ag,io,ys2,nr,rm⟩;have bg:Below lo w w2:=bj.trans ag;have gg:Hd (Dk lo hi w w2):=fa.o.trans qb (io.keepR je.o);have HP:Hd (MkSp w2 lo hi K (J va n1 vc) (J vb n2 vd) n1 n2 cl):=⟨⟨ys,ir.o.same λb e=>io b (ir.o.own.lt b e).2 (λe'=>Ra je.o.row.own ir.o.own qd b e' e) (λi hi e'=>by obtain⟨zz,hz⟩:=je.o.code i hi;exact Ra hz.own ir.o.own qd b e' e),A5.o⟩,ys2,cv,nr,rm⟩;clear ag io nr rm je fa ir A5 HC c1;go_wp2;go_ret;exact⟨rfl,bg,gg.o,HP.o⟩
theorem Lm.move{sa ta sa' nk:Option Addr}(h:Lm w sa ss ta ts)(rs:Hr w' sa' ss)(rt:Hb w' nk ts):Lm w' sa' ss nk ts:=⟨rs,rt,h.ls,h.lt,h.ns,h.xs,h.nt,h.lc,h.xt⟩
theorem eqSpace_own{lo' hi':X}{v1 v2 u1 u2:Z}(h1:Hc w lo hi v1 ss)(h2:Gw w lo hi v2 ts)(k1:Hc w lo' hi' u1 ss)(k2:Gw w lo' hi' u2 ts)(hs:Ew ss ts):Calls prog 14 #[G #[v1,v2],G #[u1,u2]] w λe w'=>Bw w w'/\e=H (F true):=by
 obtain⟨a1,p1,rfl,r1⟩:=h1.sl;obtain⟨a2,p2,rfl,r2⟩:=h2.sl;obtain⟨a3,p3,rfl,r3⟩:=k1.sl;obtain⟨a4,p4,rfl,r4⟩:=k2.sl;exact Qac a1 a2 a3 a4 p1 p2 p3 p4 ss ts w r1 r2 r3 r4 hs
end Go.Proofs.YtoakjccojifagaaGreatDoor
