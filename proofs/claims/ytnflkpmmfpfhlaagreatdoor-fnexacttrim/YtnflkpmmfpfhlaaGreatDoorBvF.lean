import Derived.Test.YtnflkpmmfpfhlaaGreatDoorBvA
namespace Go.Proofs.YtnflkpmmfpfhlaaGreatDoor
open _root_.Go.Proofs.Tryz Go.RowKit Go.Deep
open Value renaming slice->J,string->S,bool->F,agg->G
open Option renaming some->M,none->N
open Obj renaming cells->O
open Go renaming Value->Z,World->E
open Ending renaming returned->H
open _root_ renaming List->L,Nat->X
set_option linter.unusedVariables false
set_option linter.unusedSimpArgs false
set_option maxRecDepth 100000
set_option maxHeartbeats 8000000
variable {k B g n cap j e sz lo hi m:X} {xs ys zs:L Z} {w w' w2:E} {v:Z} {ss:L S2} {ts:L T2} {cv:X->Z} {cl:X->X}
def Gr(g:X)(w w':E):Prop:=∀b,b<w.heap.size->b≠g->w'.heap[b]?=w.heap[b]?
theorem szIns_any(i:I3)(l:Int)(w:E)(h0:0<=l)(h1:l<=1048576)(hs:i.text.size<=9223372036854775807):Calls prog 131 #[G #[I i.op,S i.text,I i.n],I l] w λe w'=>Bw w w'/\((l-i.text.size<0/\e=H (I (-1)))\/(0<=l-i.text.size/\e=H (I (l-i.text.size)))):=by
 by_cases h:l-i.text.size<0
 ·go_enter func131,ntmps131
  go_wp2;go_ret;exact⟨aN _ _,Or.inl ⟨h,rfl⟩⟩
 ·go_enter func131,ntmps131
  go_wp2;go_ret;exact⟨aN _ _,Or.inr ⟨qg,rfl⟩⟩
theorem toIns_any(i:I3)(w:E):Calls prog 138 #[G #[I i.op,S i.text,I i.n]] w λe w'=>Bw w w'/\e=H (G #[I i.op,S i.text,I i.n]):=by
 go_enter func138,ntmps138;go_wp2;exact bR (v:=G #[I i.op,S i.text,I i.n]) (by simp[results,results138,go_sem]) rfl ⟨((aN _ _).alloc qi _).alloc qj _,rfl⟩
theorem eqIns_same(i:I3)(w:E):Calls prog 155 #[G #[I i.op,S i.text,I i.n],G #[I i.op,S i.text,I i.n]] w λe w'=>Bw w w'/\e=H (F true):=by
 go_enter func155,ntmps155;exact qfy
theorem eqInsS_same(a a':Option Addr)(cap aj:X)(is:L I3)(w:E)(hc:Cn w a is)(pa:Cn w a' is)(hl:is.length<=1048576):Calls prog 129 #[J a is.length cap,J a' is.length aj] w λe w'=>Bw w w'/\e=H (F true):=by
 go_enter func129,ntmps129;go_wp2
 go_loopw [5] (λi wr=>∃k:X,k<=is.length/\i=I k/\Bw w wr) (λi _=>is.length-(intOf i).toNat)
 case atStart=>exact⟨0,Nat.zero_le _,rfl,Below.refl _ _⟩
 case round=>
  obtain⟨k,hk,rfl,am⟩:=hrel
  by_cases ai:k<is.length
  ·obtain⟨b,off,rfl,c1,c2,c3⟩:=(hc.bl am) k ai
   obtain⟨b',bz,rfl,d1,d2,d3⟩:=(pa.bl am) k ai;generalize ix is k=i at *;clear hc pa;have fs:(k:Int)<(is.length:Int):=qg;have jn:(0:Int)<=(k:Int):=qg;go_wp2_with fail
   go_region_held3 (λw'=>(w'.cell? ⟨b,off+k*3,N⟩=M (I i.op)/\w'.cell? ⟨b,off+k*3+1,N⟩=M (S i.text)/\w'.cell? ⟨b,off+k*3+2,N⟩=M (I i.n))/\(w'.cell? ⟨b',bz+k*3,N⟩=M (I i.op)/\w'.cell? ⟨b',bz+k*3+1,N⟩=M (S i.text)/\w'.cell? ⟨b',bz+k*3+2,N⟩=M (I i.n)))
    (first|assumption|(simp[*];done)|exact⟨⟨Aa ag qu,Aa ag qu,Aa ag qu⟩,Aa ag qu,Aa ag qu,Aa ag qu⟩)
    (first|(go_at_call 155;refine(eqIns_same i _).mono ?_;rintro e w1 ⟨ag,rfl⟩))
   all_goals
    go_wp2;go_roundw
    case rel=>exact⟨k+1,qg,qm,am.trans (Below.trans (Below.drew (Below.refl _ _)) (ag.mono qda))⟩
    case measure=>simp[intOf];omega
  ·exact qbu
theorem Nr(a a':Option Addr)(cap aj:X)(is:L I3)(w:E)(hc:Cn w a is)(pa:Cn w a' is)(hl:is.length<=1048576):Calls prog 100 #[G #[J a is.length cap],G #[J a' is.length aj]] w λe w'=>Bw w w'/\e=H (F true):=by
 go_enter func100,ntmps100;go_wp2_with fail;have ak:Bw w ((w.alloc (O #[J a is.length cap] 70)).alloc (O #[J a' is.length aj] 70)):=(aN _ _).alloc qi _;refine(eqInsS_same a a' cap aj is _ (hc.bl ak) (pa.bl ak) hl).mono ?_;rintro e w1 ⟨ag,rfl⟩;go_wp2;go_ret;exact⟨ak.trans (ag.mono ak.size),rfl⟩
theorem szInsS_left(a:Option Addr)(cap:X)(is:L I3)(lft:Int)(w:E)(hf0:0<=lft)(C0:lft<=1048576)(hc:Cn w a is)(hl:is.length<=maxLen)(hs:∀i,(ix is i).text.size<=maxLen):Calls prog 102 #[J a is.length cap,I lft] w λe w'=>Bw w w'/\∃r:Int,e=H (I r)/\(r<0\/((is.length:Int)<=lft/\0<=r/\r<=lft)):=by
 unfold maxLen at hl hs
 by_cases h0:(is.length:Int)<=lft
 ·go_enter func102,ntmps102
  go_wp2
  go_loopw [1,5] (λl i wr=>∃k:X,∃q:Int,k<=is.length/\i=I k/\l=I q/\0<=q/\q<=lft/\Bw w wr) (λ_ i _=>is.length-(intOf i).toNat)
  case atStart=>exact⟨0,_,Nat.zero_le _,rfl,rfl,qg,qg,Below.refl _ _⟩
  case round=>
   obtain⟨k,q,hk,rfl,rfl,hq0,mh,bc⟩:=hrel
   by_cases ai:k<is.length
   ·obtain⟨b,off,rfl,c1,c2,c3⟩:=(hc.bl bc) k ai
    have ge:=hs k;clear hs hc;generalize ix is k=i at *;go_wp2_with fail;refine(szIns_any i _ _ qg qg ge).mono ?_;rintro e w1 ⟨ag,⟨hneg,rfl⟩|⟨hpos,rfl⟩⟩
    ·go_wp2
     go_ret;exact⟨bc.trans (ag.mono bc.size),-1,rfl,qg⟩
    ·exact qkr
   ·go_wp2
    go_ret;exact⟨bc,_,rfl,qg⟩
 ·go_enter func102,ntmps102
  go_wp2;go_ret;exact⟨Below.refl _ _,-1,rfl,qg⟩
theorem Na(a:Option Addr)(cap:X)(is:L I3)(lft:Int)(w:E)(hf0:0<=lft)(C0:lft<=1048576)(hc:Cn w a is)(hl:is.length<=maxLen)(hs:∀i,(ix is i).text.size<=maxLen):Calls prog 73 #[G #[J a is.length cap],I lft] w λe w'=>Bw w w'/\∃r:Int,e=H (I r)/\(r<0\/((is.length:Int)<=lft/\0<=r/\r<=lft)):=by
 have ak:Bw w (w.alloc (O #[J a is.length cap] 99)):=aN _ _;go_enter func73,ntmps73;go_wp2_with fail;refine(szInsS_left a cap is lft _ hf0 C0 (hc.bl ak) hl hs).mono ?_;exact qkn
theorem Zt(i:S2)(l:Int)(w:E)(h0:0<=l)(h1:l<=1048576)(hs:i.name.size<=maxLen)(ht:i.text.size<=maxLen):Calls prog 47 #[G #[S i.name,S i.text],I l] w λe w'=>Bw w w'/\∃r:Int,e=H (I r)/\(r<0\/(0<=r/\r<=l)):=by
 unfold maxLen at hs ht
 by_cases h:l-i.name.size<0
 ·exact qfr
 ·by_cases h2:l-i.name.size-i.text.size<0
  ·exact qfr
  ·exact qfr
theorem Zr(n:By)(a:Option Addr)(cap:X)(is:L I3)(l:Int)(w:E)(h0:0<=l)(h1:l<=1048576)(hn:n.size<=maxLen)(hc:Cn w a is)(hl:is.length<=maxLen)(hs:∀i,(ix is i).text.size<=maxLen):Calls prog 48 #[G #[S n,J a is.length cap],I l] w λe w'=>Bw w w'/\∃r:Int,e=H (I r)/\(r<0\/(is.length<=1048576/\0<=r/\r<=l)):=by
 have ak:Bw w (w.alloc (O #[S n,J a is.length cap] 108)):=aN _ _;unfold maxLen at hn
 by_cases h:l-n.size<0
 ·go_enter func48,ntmps48
  go_wp2;go_ret;exact⟨ak,_,rfl,qg⟩
 ·go_enter func48,ntmps48
  go_wp2_with fail;refine(Na a cap is (l-n.size) _ qg qg (hc.bl ak) hl hs).mono ?_;exact qkn
theorem szSS_any(a:Option Addr)(cap:X)(is:L S2)(lft:Int)(w:E)(hf0:0<=lft)(C0:lft<=1048576)(hc:Kn w a is)(hl:is.length<=maxLen)(hs:∀i,(sx is i).name.size<=maxLen)(ht:∀i,(sx is i).text.size<=maxLen):Calls prog 20 #[J a is.length cap,I lft] w λe w'=>Bw w w'/\∃r:Int,e=H (I r)/\(r<0\/((is.length:Int)<=lft/\0<=r/\r<=lft)):=by
 have M3:=hl;unfold maxLen at M3
 by_cases h0:(is.length:Int)<=lft
 ·go_enter func20,ntmps20
  go_wp2
  go_loopw [1,5] (λl i wr=>∃k:X,∃q:Int,k<=is.length/\i=I k/\l=I q/\0<=q/\q<=lft/\Bw w wr) (λ_ i _=>is.length-(intOf i).toNat)
  case atStart=>exact⟨0,_,Nat.zero_le _,rfl,rfl,qg,qg,Below.refl _ _⟩
  case round=>
   obtain⟨k,q,hk,rfl,rfl,hq0,mh,bc⟩:=hrel
   by_cases ai:k<is.length
   ·obtain⟨b,off,rfl,c1,c2⟩:=(hc.bl bc) k ai
    have ge:=hs k;have fk:=ht k;clear hs ht hc;generalize sx is k=i at *;go_wp2_with fail;refine(Zt i _ _ qg qg ge fk).mono ?_;rintro e w1 ⟨ag,r,rfl,hr⟩
    rcases hr with hr|hr
    ·go_wp2
     go_ret;exact⟨bc.trans (ag.mono bc.size),-1,rfl,qg⟩
    ·have yn:0<=r:=qg
     exact qkr
   ·go_wp2
    go_ret;exact⟨bc,_,rfl,qg⟩
 ·go_enter func20,ntmps20
  go_wp2;go_ret;exact⟨Below.refl _ _,-1,rfl,qg⟩
theorem szTS_any(a:Option Addr)(cap:X)(is:L T2)(lft:Int)(w:E)(hf0:0<=lft)(C0:lft<=1048576)(hc:Km w a is)(hl:is.length<=maxLen)(hs:∀i,(tx is i).name.size<=maxLen)(ht:∀i,(tx is i).code.length<=maxLen)(hu:∀i j,(ix (tx is i).code j).text.size<=maxLen):Calls prog 21 #[J a is.length cap,I lft] w λe w'=>Bw w w'/\∃r:Int,e=H (I r)/\(r<0\/((is.length:Int)<=lft/\0<=r/\r<=lft/\∀i,i<is.length->(tx is i).code.length<=1048576)):=by
 have M3:=hl;unfold maxLen at M3
 by_cases h0:(is.length:Int)<=lft
 ·go_enter func21,ntmps21
  go_wp2
  go_loopw [1,5] (λl i wr=>∃k:X,∃q:Int,k<=is.length/\i=I k/\l=I q/\0<=q/\q<=lft/\Bw w wr/\Hd (∀i,i<k->(tx is i).code.length<=1048576)) (λ_ i _=>is.length-(intOf i).toNat)
  case atStart=>exact⟨0,_,Nat.zero_le _,rfl,rfl,qg,qg,Below.refl _ _,(λi hi=>by omega:∀i,i<0->(tx is i).code.length<=1048576)⟩
  case round=>
   obtain⟨k,q,hk,rfl,rfl,hq0,mh,bc,HK⟩:=hrel
   by_cases ai:k<is.length
   ·obtain⟨b,off,rfl,c1,a',aj,c2,c3⟩:=(hc.bl bc) k ai
    have ge:=hs k;have fk:=ht k;have huk:=hu k;clear hs ht hc;obtain⟨i,ei⟩:=Aj (tx is k);rw[ei]at c1 c2 c3 ge fk huk;have EI:=Ab ei;clear ei;go_wp2_with fail;refine(Zr i.name a' aj i.code _ _ qg qg ge c3 fk huk).mono ?_;rintro e w1 ⟨ag,r,rfl,hr⟩
    rcases hr with hr|hr
    ·go_wp2
     go_ret;exact⟨bc.trans (ag.mono bc.size),-1,rfl,Or.inl qg⟩
    ·have yn:0<=r:=qg
     go_wp2;go_roundw
     case rel=>exact⟨k+1,_,qg,qm,rfl,qg,qg,bc.trans (ag.mono bc.size),Cw HK.o (by rw[EI.o];omega)⟩
     case measure=>simp[intOf];omega
   ·exact qlr
 ·go_enter func21,ntmps21
  exact qgd
theorem filledS_set{is:L S2}(h:Ok is k xs)(hx:k*2+1<xs.length):Ok is (k+1) ((xs.set (k*2) (S (sx is k).name)).set (k*2+1) (S (sx is k).text)):=by
 intro i hi
 rcases Nat.lt_or_ge i k with hl|hl
 ·obtain⟨h1,h2⟩:=h i hl
  simp only[List.getElem?_set];rw[if_neg qg,if_neg qg,if_neg qg,if_neg qg];exact⟨h1,h2⟩
 ·obtain rfl:i=k:=qg
  simp[List.getElem?_set];omega
theorem Tryz.info120:(prog.info? 120).map (λi=>(i.zero,i.size,i.bytes))=M (M (G #[S ByteArray.empty,S ByteArray.empty]),2,32):=qk
theorem Tryz.info123:(prog.info? 123).map (λi=>(i.zero,i.size,i.bytes))=M (M (G #[S ByteArray.empty,nS]),2,40):=qk
theorem Dy{T:X}(h:w.ownsRow B T 2 (J (p_ g) n cap) n xs)(hj:j<n*2):∃v,w.cell? ⟨g,j,N⟩=M v:=by
 exact qfu
theorem Zm(i:S2)(w:E):Calls prog 56 #[G #[S i.name,S i.text]] w λe w'=>Bw w w'/\e=H (G #[S i.name,S i.text]):=by
 go_enter func56,ntmps56;go_wp2;exact bR (v:=G #[S i.name,S i.text]) (by simp[results,results56,go_sem]) rfl ⟨((aN _ _).alloc qi _).alloc qj _,rfl⟩
theorem Xn(i:S2)(w:E):Calls prog 67 #[G #[S i.name,S i.text],G #[S i.name,S i.text]] w λe w'=>Bw w w'/\e=H (F true):=by
 go_enter func67,ntmps67;exact qfy
theorem Vz(a a':Option Addr)(cap aj:X)(is:L S2)(w:E)(hc:Kn w a is)(pa:Kn w a' is)(hl:is.length<=1048576):Calls prog 38 #[J a is.length cap,J a' is.length aj] w λe w'=>Bw w w'/\e=H (F true):=by
 go_enter func38,ntmps38;go_wp2
 go_loopw [5] (λi wr=>∃k:X,k<=is.length/\i=I k/\Bw w wr) (λi _=>is.length-(intOf i).toNat)
 case atStart=>exact⟨0,Nat.zero_le _,rfl,Below.refl _ _⟩
 case round=>
  obtain⟨k,hk,rfl,am⟩:=hrel
  by_cases ai:k<is.length
  ·obtain⟨b,off,rfl,c1,c2⟩:=(hc.bl am) k ai
   obtain⟨b',bz,rfl,d1,d2⟩:=(pa.bl am) k ai;generalize sx is k=i at *;clear hc pa;have fs:(k:Int)<(is.length:Int):=qg;have jn:(0:Int)<=(k:Int):=qg;go_wp2_with fail
   go_region_held3 (λw'=>(w'.cell? ⟨b,off+k*2,N⟩=M (S i.name)/\w'.cell? ⟨b,off+k*2+1,N⟩=M (S i.text))/\(w'.cell? ⟨b',bz+k*2,N⟩=M (S i.name)/\w'.cell? ⟨b',bz+k*2+1,N⟩=M (S i.text)))
    (first|assumption|(simp[*];done)|exact⟨⟨Aa ag qu,Aa ag qu⟩,Aa ag qu,Aa ag qu⟩)
    (first|(go_at_call 67;refine(Xn i _).mono ?_;rintro e w1 ⟨ag,rfl⟩))
   all_goals
    go_wp2;go_roundw
    case rel=>exact⟨k+1,qg,qm,am.trans (Below.trans (Below.drew (Below.refl _ _)) (ag.mono qda))⟩
    case measure=>simp[intOf];omega
  ·exact qbu
theorem Xm(n:By)(a a':Option Addr)(cap aj:X)(is:L I3)(w:E)(hc:Cn w a is)(pa:Cn w a' is)(hl:is.length<=1048576):Calls prog 68 #[G #[S n,J a is.length cap],G #[S n,J a' is.length aj]] w λe w'=>Bw w w'/\e=H (F true):=by
 have ak:Bw w ((w.alloc (O #[S n,J a is.length cap] 123)).alloc (O #[S n,J a' is.length aj] 123)):=(aN _ _).alloc qi _;go_enter func68,ntmps68;go_wp2_with fail;refine(Nr a a' cap aj is _ (hc.bl ak) (pa.bl ak) hl).mono ?_;rintro e w1 ⟨ag,rfl⟩;go_wp2;go_ret;exact⟨bt ak ag,rfl⟩
theorem Vy(a a':Option Addr)(cap aj:X)(is:L T2)(w:E)(hc:Km w a is)(pa:Km w a' is)(hl:is.length<=1048576)(jg:∀i,i<is.length->(tx is i).code.length<=1048576):Calls prog 39 #[J a is.length cap,J a' is.length aj] w λe w'=>Bw w w'/\e=H (F true):=by
 have HK:=Ab jg;clear jg;go_enter func39,ntmps39;go_wp2
 go_loopw [5] (λi wr=>∃k:X,k<=is.length/\i=I k/\Bw w wr) (λi _=>is.length-(intOf i).toNat)
 case atStart=>exact⟨0,Nat.zero_le _,rfl,Below.refl _ _⟩
 case round=>
  obtain⟨k,hk,rfl,am⟩:=hrel
  by_cases ai:k<is.length
  ·obtain⟨b,off,rfl,c1,x,p,c2,c3⟩:=(hc.bl am) k ai
   obtain⟨b',bz,rfl,d1,x',p',d2,d3⟩:=(pa.bl am) k ai;have C6:=HK.o k ai;generalize tx is k=i at *;clear hc pa;have C3:=Ab c3;have D3:=Ab d3;clear c3 d3;have fs:(k:Int)<(is.length:Int):=qg;have jn:(0:Int)<=(k:Int):=qg;have iz:Bw wr wr.drew:=(Below.refl _ _).drew;go_wp2_with fail
   go_region_held3 (λw'=>(w'.cell? ⟨b,off+k*2,N⟩=M (S i.name)/\w'.cell? ⟨b,off+k*2+1,N⟩=M (J x i.code.length p))/\(w'.cell? ⟨b',bz+k*2,N⟩=M (S i.name)/\w'.cell? ⟨b',bz+k*2+1,N⟩=M (J x' i.code.length p')))
    (first|assumption|(simp[*];done)|exact⟨⟨Aa ag qu,Aa ag qu⟩,Aa ag qu,Aa ag qu⟩)
    (first|(go_at_call 68;refine(Xm i.name x x' p p' i.code _ (C3.o.bl iz) (D3.o.bl iz) C6).mono ?_;rintro e w1 ⟨ag,rfl⟩))
   all_goals
    go_wp2;go_roundw
    case rel=>exact⟨k+1,qg,qm,am.trans (Below.trans (Below.drew (Below.refl _ _)) (ag.mono qda))⟩
    case measure=>simp[intOf];omega
  ·exact qbu
theorem eqSpace_same(sa ta sa' ur:Option Addr)(c1 c2 I4 A2:X)(ss:L S2)(ts:L T2)(w:E)(rs:Kn w sa ss)(rt:Km w ta ts)(rs':Kn w sa' ss)(rt':Km w ur ts)(h:Ep ss ts):Calls prog 13 #[G #[J sa ss.length c1,J ta ts.length c2],G #[J sa' ss.length I4,J ur ts.length A2]] w λe w'=>Bw w w'/\e=H (F true):=by
 obtain⟨h1,h2,h3⟩:=h;have ak:Bw w ((w.alloc (O #[J sa ss.length c1,J ta ts.length c2] 42)).alloc (O #[J sa' ss.length I4,J ur ts.length A2] 42)):=(aN _ _).alloc qi _;go_enter func13,ntmps13;go_wp2_with fail;refine(Vz sa sa' c1 I4 ss _ (rs.bl ak) (rs'.bl ak) h1).mono ?_;rintro e w1 ⟨ag,rfl⟩;have bm:=bt ak ag;have k1:w1.cell? ⟨w.heap.size,1,N⟩=M (J ta ts.length c2):=Aa ag qo;have k2:w1.cell? ⟨w.heap.size+1,1,N⟩=M (J ur ts.length A2):=Aa ag qo;clear ak ag;go_wp2_with fail;refine(Vy ta ur c2 A2 ts _ (rt.bl bm) (rt'.bl bm) h2 h3).mono ?_;rintro e w2 ⟨af,rfl⟩;go_wp2;go_ret;exact⟨bt bm af,rfl⟩
def digM(n:X):By:=⟨#[UInt8.ofNat (48+n)]⟩
theorem dig_byteM(d:X)(h:d<10):((UInt8.ofNat (48+d)).toNat:Int)=48+d:=by rw[UInt8.toNat_ofNat'];omega
theorem qconv_one(W:E)(g:X)(c:Int)(u:UInt8)(hu:(u.toNat:Int)=c)(h:W.cell? ⟨g,0,N⟩=M (.int .u8 c)):(convert 118 9 (J (p_ g) 1 1)).run prog W=.ok (S ⟨#[u]⟩) W:=by
 subst hu
 exact run_convert_bytes_back (P:=prog) W 118 9 5 ⟨g,0,N⟩ 1 [u] underlying118 underlying5 underlying9 (λt ht=>by
  (obtain rfl:t=0:=by simp at ht;omega);simpa [Addr.add] using h)
def mtL:X->X->By->ByteArray
 | 0,_,out=>out
 | f+1,k,out=>if k=0 then out else mtL f (k / 10) (digM (k % 10)++out)
theorem mtL_zero(f:X)(out:By):mtL f 0 out=out:=by cases f<;>simp[mtL]
def mt(k:X):By:=⟨#[109]⟩++mtL 16 k ⟨#[]⟩
theorem Cy(K:X)(w:E)(h1:1<=K)(h2:K<1000000000000000):Calls prog 43 #[I K] w λe w'=>Bw w w'/\e=H (S (mt K)):=by
 go_enter func43,ntmps43;go_wp2
 go_loopw [0,3] (λa v wr=>∃(f k:X)(out:By),a=I k/\v=S out/\Hd (mtL f k out=mtL 16 K ⟨#[]⟩)/\k<10 ^ f/\f<=16/\out.size+f=16/\Bw w wr) (λa _ _=>(intOf a).toNat)
 case atStart=>exact⟨16,K,⟨#[]⟩,rfl,rfl,rfl,qg,qg,rfl,Below.refl _ _⟩
 case round=>
  obtain⟨f,k,out,rfl,rfl,HM,hk,hf,ho,bc⟩:=hrel
  by_cases h0:k=0
  ·subst h0
   have HO:Hd (mt K=(⟨#[109]⟩:By)++out):=by
    show mt K=_;unfold mt;rw[<- HM.o,mtL_zero]
   have hs:((⟨#[109]⟩:By)++out).size=1+out.size:=ByteArray.size_append;go_wp2;go_ret;exact⟨bc,by rw[HO.o];rfl⟩
  ·obtain⟨g,rfl⟩:∃g,f=g+1:=by
    cases f with
    | zero=>simp at hk;omega
    | succ g=>exact⟨g,rfl⟩
   (have hk':k / 10<10 ^ g:=by rw[Nat.pow_succ]at hk;omega);obtain⟨d,ed⟩:=Aj (k % 10);have hd:d<10:=qg
   have lz:Hd (mtL g (k / 10) (digM d++out)=mtL 16 K ⟨#[]⟩):=by
    show mtL g (k / 10) (digM d++out)=_;rw[<- HM.o,<- ed];simp only[mtL,h0,if_false]
   have hu:=dig_byteM d hd;have hs:(digM d++out).size=1+out.size:=ByteArray.size_append;unfold digM at lz hs;generalize UInt8.ofNat (48+d)=u at *;have e1:(k:Int) % 10=(d:Int):=qg;obtain⟨k2,e2⟩:=Aj (k / 10);rw[e2]at lz hk';have e3:(k:Int) / 10=(k2:Int):=qg;have ai:k2<k:=qg;have fs:(0:Int)<(k:Int):=qg;have hcv:=qconv_one (wr.alloc (O #[.int .u8 (48+d)] 5)) wr.heap.size (48+d) u hu qo;have hkb:k<10000000000000000:=Nat.lt_of_lt_of_le hk (Nat.pow_le_pow_right qg hf);have HK':Hd (k2<10 ^ g):=hk';clear hu ed e2 hk hk' h0;go_wp2;go_roundw
   case rel=>exact⟨g,k2,_,qm,rfl,lz.o,HK'.o,qg,by rw[hs];omega,bc.alloc bc.size _⟩
   case measure=>simp[intOf];omega
theorem Gr.set(h:Gr g w w')(j:X)(v:Z):Gr g w (w'.setCell ⟨g,j,N⟩ v):=λb hb hne=>by
 rw[Dm w' ⟨g,j,N⟩ v b hne];exact h b hb hne
theorem Gr.bl(h:Gr g w w')(hs:w.heap.size<=w'.heap.size)(hb:Bw w' w2):Gr g w w2:=λb hl hne=>by
 rw[hb.block b qg];exact h b hl hne
def MkI(K n:X)(ys:L Z):Prop:=∀i,i<n->ys[i*3]?=M (I ((K+3*i:X):Int))/\ys[i*3+1]?=M (S (mt (K+3*i+1)))/\ys[i*3+2]?=M (I ((K+3*i+2:X):Int))
theorem mkI_set{K:X}(h:MkI K k ys)(hx:k*3+2<ys.length):MkI K (k+1) (((ys.set (k*3) (I ((K+3*k:X):Int))).set (k*3+1) (S (mt (K+3*k+1)))).set (k*3+2) (I ((K+3*k+2:X):Int))):=by
 exact qiu
theorem markInsS_any(B g n cap K:X)(xs:L Z)(w:E)(ah:w.ownsRow B 174 3 (J (p_ g) n cap) n xs)(hB:B<=w.heap.size)(hn:n<=1048576)(h1:1<=K)(h2:K<=900000000000000):Calls prog 69 #[J (p_ g) n cap,I K] w λe w'=>e=H (I ((K+3*n:X):Int))/\Below B w w'/\Gr g w w'/\∃ys,w'.ownsRow B 174 3 (J (p_ g) n cap) n ys/\MkI K n ys:=by
 have yv:B<=g:=(ah.lt g rfl).1;go_enter func69,ntmps69;go_wp2
 go_loopw [1,5] (λk i wr=>∃(m:X)(ys:L Z),m<=n/\i=I m/\k=I ((K+3*m:X):Int)/\Hd (wr.ownsRow B 174 3 (J (p_ g) n cap) n ys)/\Hd (MkI K m ys)/\Hd (Gr g w wr)/\w.heap.size<=wr.heap.size/\Below B w wr) (λ_ i _=>n-(intOf i).toNat)
 case atStart=>exact⟨0,xs,Nat.zero_le _,rfl,rfl,ah,(λi hi=>by omega:MkI K 0 xs),(λb _ _=>rfl:Gr g w w),Nat.le_refl _,Below.refl _ _⟩
 case round=>
  obtain⟨m,ys,hm,rfl,rfl,HO,HM,HK,de,bc⟩:=hrel;clear ah
  by_cases ai:m<n
  ·have L9:m*3+2<ys.length:=by rw[HO.o.1];omega
   have lz:=Ab (mkI_set HM.o L9);have F6:K+3*m+1<1000000000000000:=qg;have HT:Hd (∀W:E,Calls prog 43 #[I ((K+3*m+1:X):Int)] W λe w'=>Bw W w'/\e=H (S (mt (K+3*m+1)))):=λW=>Cy (K+3*m+1) W qg F6;generalize mt (K+3*m+1)=t at *;obtain⟨c,ec⟩:=Aj (K+3*m);rw[ec]at lz HT F6 ⊢;have HE:=Ab ec;clear ec;obtain⟨o1,d1⟩:=Br HO.o (j:=m*3) qg;have cm:=HO.o.frozenAt;have yp:=(HO.o.stored (m*3) (I (c:Int))).1;have E4:(m:Int)<(n:Int):=qg;go_wp2_with fail;refine(HT.o _).mono ?_;rintro e w2 ⟨af,rfl⟩;have aq:=Ad yp af;have lh:Below B w w2:=(bc.setCell (p:=⟨g,m*3,N⟩) yv _).trans (af.mono qj);have M6:=aq.frozenAt;obtain⟨o2,d2⟩:=Br aq (j:=m*3+1) qg;obtain⟨o3,d3⟩:=Br aq (j:=m*3+2) qg;have xr:=Ab aq;have ft:Hd (Gr g w w2):=(HK.o.set (m*3) (I (c:Int))).bl (by simpa using de) af;(have ir:w.heap.size<=w2.heap.size:=by have:=af.size;simp at this;omega);clear yp aq af cm d1 bc;go_wp2;go_roundw
   case rel=>exact⟨m+1,_,qg,qm,congrArg (Value.int .i64) (zo HE.o),((xr.o.stored _ _).1.stored _ _).1,lz.o,(ft.o.set _ _).set _ _,qdf,(lh.setCell (p:=⟨g,m*3+1,N⟩) yv _).setCell (p:=⟨g,m*3+2,N⟩) yv _⟩
   case measure=>simp[intOf];omega
  ·exact qdj
def mb(k:X):Bool:=decide (k % 3=0)
def RdG(K n:X)(w:E)(g:X):Prop:=∀i,i<n->w.cell? ⟨g,i*3,N⟩=M (S (mt (K+3*i)))/\w.cell? ⟨g,i*3+1,N⟩=M (F (mb (K+3*i+1)))/\w.cell? ⟨g,i*3+2,N⟩=M (S (mt (K+3*i+2)))
theorem RdG.bl{K:X}(h:RdG K n w g)(hb:Bw w w'):RdG K n w' g:=λi hi=>
 ⟨Aa hb (h i hi).1,Aa hb (h i hi).2.1,Aa hb (h i hi).2.2⟩
theorem Ng(h:w.ownsRow B e sz (J (p_ g) n cap) n xs){b:X}(hb:b≠g)(v:Z):(w.setCell ⟨b,j,N⟩ v).ownsRow B e sz (J (p_ g) n cap) n xs:=by
 refine⟨h.1,?_⟩
 rcases h.2 with⟨h2,_⟩|⟨g',cap,cur,hv,hg,hh,r⟩
 ·cases h2
 ·exact qli
theorem toInsS_own(a:Option Addr)(cap:X)(is:L I3)(w:E)(hc:Cn w a is)(hl:is.length<=1048576):Calls prog 115 #[J a is.length cap] w λe w'=>Bw w w'/\∃g:X,e=H (J (p_ g) is.length is.length)/\∃xs,w'.ownsRow w.heap.size 174 3 (J (p_ g) is.length is.length) is.length xs/\Cs is is.length xs:=by
 obtain⟨z0,hi,bq,bi,ci⟩:=info_parts Tryz.info174;go_enter func115,ntmps115
 go_wp2_with (first|(at_make;refine wpList_make_full _ rfl (.tmp 6) (.tmp 6) 68 rfl w.heap.size 174 z0 (G #[I 0,S ByteArray.empty,I 0]) 3 underlying68 hi bq bi .i64 .i64 _ _ is.length rfl rfl rfl rfl qaq qq (Nat.le_refl _) ?_;intro w1 ah ae))
 have fy:Bw w w1:=(Below.refl _ _).grown ae (Nat.le_refl _) qi;clear ae
 go_loopw [4] (λi wr=>∃k:X,∃xs:L Z,k<=is.length/\i=I k/\wr.ownsRow w.heap.size 174 3 (J (p_ w.heap.size) is.length is.length) is.length xs/\Cs is k xs/\Bw w wr) (λi _=>is.length-(intOf i).toNat)
 case atStart=>exact⟨0,_,Nat.zero_le _,rfl,ah,λi hi=>qg,fy⟩
 case round=>
  obtain⟨k,xs,hk,rfl,ah,V0,am⟩:=hrel
  by_cases ai:k<is.length
  ·obtain⟨b,off,rfl,c1,c2,c3⟩:=(hc.bl am) k ai
   have te:=filled3_set V0 (show k*3+2<xs.length from qdc);generalize ix is k=i at *;clear fy hc V0;go_wp2_with fail;refine(toIns_any i _).mono ?_;rintro e w2 ⟨af,rfl⟩;have aq:=Ad ah af;have lh:=am.trans (af.mono am.size);have cm:=aq.frozenAt;obtain⟨o1,d1⟩:=Kj aq (j:=k*3) qg;obtain⟨o2,d2⟩:=Kj aq (j:=k*3+1) qg;obtain⟨o3,d3⟩:=Kj aq (j:=k*3+2) qg;have HO:=Ab aq;exact qjm
  ·exact qfv
theorem Ov(a:Option Addr)(cap:X)(is:L I3)(w:E)(hc:Cn w a is)(hl:is.length<=1048576):Calls prog 84 #[G #[J a is.length cap]] w λe w'=>Bw w w'/\∃g:X,e=H (G #[J (p_ g) is.length is.length])/\∃xs,w'.ownsRow w.heap.size 174 3 (J (p_ g) is.length is.length) is.length xs/\Cs is is.length xs:=by
 go_enter func84,ntmps84;go_wp2_with fail;have ak:Bw w (((w.alloc (O #[J a is.length cap] 99)).alloc (O #[nS] 70)).alloc (O #[nS] 70)):=((aN _ _).alloc qi _).alloc qj _;refine(toInsS_own a cap is _ (hc.bl ak) hl).mono ?_;rintro e w1 ⟨ag,g,rfl,xs,hr,hf⟩;have hg:=(hr.lt g rfl).1;simp at hg;have hb:=ak.trans (ag.mono ak.size);have hz:=ag.size;simp at hz;have c1:w1.cell? ⟨w.heap.size+1,0,N⟩=M nS:=Aa ag qo;have c2:w1.cell? ⟨w.heap.size+1+1,0,N⟩=M nS:=Aa ag qo;have f1:w1.frozen? ⟨w.heap.size+1,0,N⟩=false:=by rw[ag.frozen (p:=⟨w.heap.size+1,0,N⟩) qi];simp[go_sem]
 have f2:w1.frozen? ⟨w.heap.size+1+1,0,N⟩=false:=by rw[ag.frozen (p:=⟨w.heap.size+1+1,0,N⟩) qi];simp[go_sem]
 clear ak ag;go_wp2;exact bR (v:=G #[J (p_ g) is.length is.length]) (by simp[results,results84,go_sem,c1]) rfl ⟨Oy (Oy hb qg _) qg _,g,rfl,xs,Ng (Ng (Jv hr qj) qg _) qg _,hf⟩
theorem markInsS_nil(K:X)(w:E)(h2:K<=900000000000000):Calls prog 69 #[nS,I K] w λe w'=>e=H (I (K:Int))/\w=w':=by
 go_enter func69,ntmps69;exact qfi
theorem Qm(B n K:X)(v:Z)(xs:L Z)(w:E)(ah:w.ownsRow B 174 3 v n xs)(hB:B<=w.heap.size)(hn:n<=1048576)(h1:1<=K)(h2:K<=900000000000000):Calls prog 69 #[v,I K] w λe w'=>e=H (I ((K+3*n:X):Int))/\Below B w w'/\Ej v.ownBlock w w'/\∃ys,w'.ownsRow B 174 3 v n ys/\MkI K n ys:=by
 rcases Gy ah with⟨rfl,rfl⟩|⟨g,cap,rfl⟩
 ·refine(markInsS_nil K w h2).mono ?_
  exact qmf
 ·refine(markInsS_any B g n cap K xs w ah hB hn h1 h2).mono ?_
  exact qln
theorem Jj.bl(h:Jj w lo hi v ss)(hb:Bw w w'):Jj w' lo hi v ss:=by
 obtain⟨xs,h1,h2⟩:=h;exact⟨xs,h1.bl hb,h2⟩
theorem Mr.bl(h:Mr w lo hi v ts xs cv)(hb:Bw w w'):Mr w' lo hi v ts xs cv:=
 ⟨h.row.bl hb,h.fil,λi hi=>by obtain⟨ys,h1,h2⟩:=h.code i hi;exact⟨ys,h1.bl hb,h2⟩,h.apart⟩
theorem Je.bl(h:Je w lo hi v ts)(hb:Bw w w'):Je w' lo hi v ts:=by
 obtain⟨xs,cv,h⟩:=h;exact⟨xs,cv,h.bl hb⟩
theorem Ux(u v:Z)(hj:j<k*2):((xs.set (k*2) u).set (k*2+1) v)[j]?=xs[j]?:=by
 simp only[List.getElem?_set];rw[if_neg qg,if_neg qg]
theorem set2_0(u v:Z)(hx:k*2+1<xs.length):((xs.set (k*2) u).set (k*2+1) v)[k*2]?=M u:=by
 simp only[List.getElem?_set];rw[if_neg qg,if_pos trivial,if_pos qg]
theorem set2_1(u v:Z)(hx:k*2+1<xs.length):((xs.set (k*2) u).set (k*2+1) v)[k*2+1]?=M v:=by
 simp only[List.getElem?_set];rw[if_pos trivial,if_pos qj]
/-! ### toSpace -/
theorem Wv(a:Option Addr)(cap:X)(is:L S2)(w:E)(hc:Kn w a is)(hl:is.length<=1048576):Calls prog 29 #[J a is.length cap] w λe w'=>Bw w w'/\∃g:X,e=H (J (p_ g) is.length is.length)/\∃xs,w'.ownsRow w.heap.size 120 2 (J (p_ g) is.length is.length) is.length xs/\Ok is is.length xs:=by
 obtain⟨z0,hi,bq,bi,ci⟩:=info_parts Tryz.info120;go_enter func29,ntmps29
 go_wp2_with (first|(at_make;refine wpList_make_full _ rfl (.tmp 6) (.tmp 6) 39 rfl w.heap.size 120 z0 (G #[S ByteArray.empty,S ByteArray.empty]) 2 underlying39 hi bq bi .i64 .i64 _ _ is.length rfl rfl rfl rfl qaq qq (Nat.le_refl _) ?_;intro w1 ah ae))
 have fy:Bw w w1:=(Below.refl _ _).grown ae (Nat.le_refl _) qi;clear ae
 go_loopw [4] (λi wr=>∃k:X,∃xs:L Z,k<=is.length/\i=I k/\wr.ownsRow w.heap.size 120 2 (J (p_ w.heap.size) is.length is.length) is.length xs/\Ok is k xs/\Bw w wr) (λi _=>is.length-(intOf i).toNat)
 case atStart=>exact⟨0,_,Nat.zero_le _,rfl,ah,λi hi=>qg,fy⟩
 case round=>
  obtain⟨k,xs,hk,rfl,ah,V0,am⟩:=hrel
  by_cases ai:k<is.length
  ·obtain⟨b,off,rfl,c1,c2⟩:=(hc.bl am) k ai
   have te:=filledS_set V0 (show k*2+1<xs.length from qdc);generalize sx is k=i at *;clear fy hc V0;go_wp2_with fail;refine(Zm i _).mono ?_;rintro e w2 ⟨af,rfl⟩;have aq:=Ad ah af;have lh:=am.trans (af.mono am.size);have cm:=aq.frozenAt;obtain⟨o1,d1⟩:=Dy aq (j:=k*2) qg;obtain⟨o2,d2⟩:=Dy aq (j:=k*2+1) qg;have HO:=Ab aq;clear ah aq af am;go_wp2;go_roundw
   case rel=>exact⟨k+1,_,qg,qm,((HO.o.stored _ _).1.stored _ _).1,te,(lh.setCell (Nat.le_refl _) _).setCell (Nat.le_refl _) _⟩
   case measure=>simp[intOf];omega
  ·exact qfv
theorem Zl(n:By)(a:Option Addr)(cap:X)(is:L I3)(w:E)(hc:Cn w a is)(hl:is.length<=1048576):Calls prog 57 #[G #[S n,J a is.length cap]] w λe w'=>Bw w w'/\∃g:X,e=H (G #[S n,J (p_ g) is.length is.length])/\∃xs,w'.ownsRow w.heap.size 174 3 (J (p_ g) is.length is.length) is.length xs/\Cs is is.length xs:=by
 go_enter func57,ntmps57;go_wp2_with fail;have ak:Bw w (((w.alloc (O #[S n,J a is.length cap] 108)).alloc (O #[ze,nS] 123)).alloc (O #[S n,nS] 123)):=((aN _ _).alloc qi _).alloc qj _;refine(Ov a cap is _ (hc.bl ak) hl).mono ?_;rintro e w1 ⟨ag,g,rfl,xs,hr,hf⟩;have hg:=(hr.lt g rfl).1;simp at hg;have hb:=ak.trans (ag.mono ak.size);have hz:=ag.size;simp at hz;have Oh:w1.cell? ⟨w.heap.size+1,0,N⟩=M ze:=Aa ag qo;have A3:w1.cell? ⟨w.heap.size+1,1,N⟩=M nS:=Aa ag qo;have c20:w1.cell? ⟨w.heap.size+1+1,0,N⟩=M (S n):=Aa ag qo;have c21:w1.cell? ⟨w.heap.size+1+1,1,N⟩=M nS:=Aa ag qo;have f1:∀j,w1.frozen? ⟨w.heap.size+1,j,N⟩=false:=λj=>by rw[ag.frozen (p:=⟨w.heap.size+1,j,N⟩) qi];simp[go_sem]
 have f2:∀j,w1.frozen? ⟨w.heap.size+1+1,j,N⟩=false:=λj=>by rw[ag.frozen (p:=⟨w.heap.size+1+1,j,N⟩) qi];simp[go_sem]
 clear ak ag;go_wp2;refine bR (v:=G #[S n,J (p_ g) is.length is.length]) (by simp[results,results57,go_sem,Oh,A3]) rfl ⟨?_,g,rfl,xs,?_,hf⟩
 ·exact((hb.setCell (p:=⟨w.heap.size+1+1,1,N⟩) qj _).setCell (p:=⟨w.heap.size+1,0,N⟩) qi _).setCell (p:=⟨w.heap.size+1,1,N⟩) qi _
 ·exact Ng (Ng (Ng (Jv hr qj) qg _) qg _) qg _
theorem Wu(a:Option Addr)(cap:X)(is:L T2)(w:E)(hc:Km w a is)(hl:is.length<=1048576)(hk:∀i,i<is.length->(tx is i).code.length<=1048576):Calls prog 30 #[J a is.length cap] w λe w'=>Bw w w'/\∃g:X,e=H (J (p_ g) is.length is.length)/\Je w' w.heap.size w'.heap.size (J (p_ g) is.length is.length) is:=by
 obtain⟨z0,hi,bq,bi,ci⟩:=info_parts Tryz.info123;have HK:=Ab hk;clear hk;go_enter func30,ntmps30
 go_wp2_with (first|(at_make;refine wpList_make_full _ rfl (.tmp 6) (.tmp 6) 40 rfl w.heap.size 123 z0 (G #[S ByteArray.empty,nS]) 2 underlying40 hi bq bi .i64 .i64 _ _ is.length rfl rfl rfl rfl qaq qq (Nat.le_refl _) ?_;intro w1 ah ae))
 have fy:Bw w w1:=(Below.refl _ _).grown ae (Nat.le_refl _) qi;clear ae
 go_loopw [4] (λi wr=>∃(k:X)(xs:L Z)(cv:X->Z),k<=is.length/\i=I k/\wr.ownsRow w.heap.size 123 2 (J (p_ w.heap.size) is.length is.length) is.length xs/\Hd (Jo wr (w.heap.size+1) is k xs cv)/\Bw w wr) (λi _=>is.length-(intOf i).toNat)
 case atStart=>exact⟨0,_,_,Nat.zero_le _,rfl,ah,Jo.zero _ _ _ _,fy⟩
 case round=>
  obtain⟨k,xs,cv,hk,rfl,ah,HP,am⟩:=hrel
  by_cases ai:k<is.length
  ·obtain⟨b,off,rfl,c1,a',aj,c2,c3⟩:=(hc.bl am) k ai
   have C6:=HK.o k ai;have L9:k*2+1<xs.length:=qdc;have hgl:w.heap.size<wr.heap.size:=(ah.lt _ rfl).2;have HF:Hd (∀(W:E)(c:Z)(ys:L Z),Bw wr W->W.ownsRow wr.heap.size 174 3 c (tx is k).code.length ys->Cs (tx is k).code (tx is k).code.length ys->Jo W (w.heap.size+1) is (k+1) ((xs.set (k*2) (S (tx is k).name)).set (k*2+1) c) (λi=>if i=k then c else cv i)):=λW c ys h1 h2 h3=>HP.o.add h1 hgl h2 h3 (λj hj=>Ux _ _ hj) (set2_0 _ _ L9) (set2_1 _ _ L9);generalize tx is k=i at *;clear fy hc;go_wp2_with fail;refine(Zl i.name a' aj i.code _ c3 C6).mono ?_;rintro e w2 ⟨af,g,rfl,ys,hr,zu⟩;have aq:=Ad ah af;have lh:=am.trans (af.mono am.size);have cm:=aq.frozenAt;have te:=((HF.o w2 _ ys af hr zu).set (b:=w.heap.size) (j:=k*2) (Nat.lt_succ_self _) (S i.name)).set (b:=w.heap.size) (j:=k*2+1) (Nat.lt_succ_self _) (J (p_ g) i.code.length i.code.length);obtain⟨o1,d1⟩:=Dy aq (j:=k*2) qg;obtain⟨o2,d2⟩:=Dy aq (j:=k*2+1) qg;have HO:=Ab aq;have fj:=Ab te;clear ah aq af am te HP HF hr zu;go_wp2;go_roundw
   case rel=>exact⟨k+1,_,_,qg,qm,((HO.o.stored _ _).1.stored _ _).1,fj.o,(lh.setCell (Nat.le_refl _) _).setCell (Nat.le_refl _) _⟩
   case measure=>simp[intOf];omega
  ·have ek:k=is.length:=qg
   subst ek;go_wp2;go_ret;exact⟨am,_,rfl,HP.o.own ah (Nat.le_succ _) (Nat.le_refl _)⟩
theorem Mz(sa ta:Option Addr)(c1 c2:X)(ss:L S2)(ts:L T2)(w:E)(rs:Kn w sa ss)(rt:Km w ta ts)(h:Ep ss ts):Calls prog 9 #[G #[J sa ss.length c1,J ta ts.length c2]] w λe w'=>Bw w w'/\∃v1 v2:Z,e=H (G #[v1,v2])/\Jj w' w.heap.size w'.heap.size v1 ss/\Je w' w.heap.size w'.heap.size v2 ts:=by
 obtain⟨h1,h2,h3⟩:=h;go_enter func9,ntmps9;go_wp2_with fail;have ak:Bw w (((w.alloc (O #[J sa ss.length c1,J ta ts.length c2] 29)).alloc (O #[nS,nS] 42)).alloc (O #[nS,nS] 42)):=((aN _ _).alloc qi _).alloc qj _;refine(Wv sa c1 ss _ (rs.bl ak) h1).mono ?_;rintro e w1 ⟨ag,g,rfl,xs,hr,cm⟩;have hg:=(hr.lt g rfl).1;simp at hg;have iw:Hd (Jj w1 (w.heap.size+1+1+1) w1.heap.size (J (p_ g) ss.length ss.length) ss):=⟨xs,Bu.new (Jv hr qi),cm⟩;have hb:=ak.trans (ag.mono ak.size);have hz:=ag.size;simp at hz;have c01:w1.cell? ⟨w.heap.size,1,N⟩=M (J ta ts.length c2):=Aa ag qo;have Oh:w1.cell? ⟨w.heap.size+1,0,N⟩=M nS:=Aa ag qo;have A3:w1.cell? ⟨w.heap.size+1,1,N⟩=M nS:=Aa ag qo;have c20:w1.cell? ⟨w.heap.size+1+1,0,N⟩=M nS:=Aa ag qo;have c21:w1.cell? ⟨w.heap.size+1+1,1,N⟩=M nS:=Aa ag qo;have f1:∀j,w1.frozen? ⟨w.heap.size+1,j,N⟩=false:=λj=>by rw[ag.frozen (p:=⟨w.heap.size+1,j,N⟩) qi];simp[go_sem]
 have f2:∀j,w1.frozen? ⟨w.heap.size+1+1,j,N⟩=false:=λj=>by rw[ag.frozen (p:=⟨w.heap.size+1+1,j,N⟩) qi];simp[go_sem]
 clear ak ag;go_wp2_with fail;have mr:Bw w (w1.setCell ⟨w.heap.size+1+1,0,N⟩ (J (p_ g) ss.length ss.length)):=hb.setCell (p:=⟨w.heap.size+1+1,0,N⟩) qj _;refine(Wu ta c2 ts _ (rt.bl mr) h2 h3).mono ?_;rintro e w2 ⟨af,g2,rfl,mq⟩;have au:=mr.trans (af.mono mr.size);have ct:Hd (Jj w2 (w.heap.size+1+1+1) w1.heap.size (J (p_ g) ss.length ss.length) ss):=(iw.o.set (j:=0) (show w.heap.size+1+1<w.heap.size+1+1+1 from qg) _).bl af;have ci:=af.size;simp at ci;have HT2:Hd (Je w2 (w.heap.size+1+1+1) w2.heap.size (J (p_ g2) ts.length ts.length) ts):=mq.wide qj (Nat.le_refl _);have hs12:w1.heap.size<=w2.heap.size:=by simpa using af.size
 have d10:w2.cell? ⟨w.heap.size+1,0,N⟩=M nS:=Aa af (by simp[go_sem,Oh]);have d11:w2.cell? ⟨w.heap.size+1,1,N⟩=M nS:=Aa af (by simp[go_sem,A3]);have d20:w2.cell? ⟨w.heap.size+1+1,0,N⟩=M (J (p_ g) ss.length ss.length):=Aa af (by simp[go_sem,c20]);have d21:w2.cell? ⟨w.heap.size+1+1,1,N⟩=M nS:=Aa af (by simp[go_sem,c21]);have e1:∀j,w2.frozen? ⟨w.heap.size+1,j,N⟩=false:=λj=>by rw[af.frozen (p:=⟨w.heap.size+1,j,N⟩) qj];simp[go_sem,f1]
 have e2:∀j,w2.frozen? ⟨w.heap.size+1+1,j,N⟩=false:=λj=>by rw[af.frozen (p:=⟨w.heap.size+1+1,j,N⟩) qj];simp[go_sem,f2]
 clear af mr hb c01 Oh A3 c20 c21 f1 f2 hr mq iw;go_wp2;refine bR (v:=G #[J (p_ g) ss.length ss.length,J (p_ g2) ts.length ts.length]) (by simp[results,results9,go_sem,d10,d11]) rfl ⟨?_,_,_,rfl,?_,?_⟩
 ·exact((au.setCell (p:=⟨w.heap.size+1+1,1,N⟩) qj _).setCell (p:=⟨w.heap.size+1,0,N⟩) qi _).setCell (p:=⟨w.heap.size+1,1,N⟩) qi _
 ·exact(((ct.o.set qg _).set qg _).set qg _).wide qg qj
 ·exact(((HT2.o.set qg _).set qg _).set qg _).wide qg qi
def RdX(K n:X)(w:E)(g:X):Prop:=∀i,i<n->w.cell? ⟨g,i,N⟩=M (S (mt (K+i)))
theorem RdX.bl{K:X}(h:RdX K n w g)(hb:Bw w w'):RdX K n w' g:=λi hi=>Aa hb (h i hi)
def MkS(K n:X)(ys:L Z):Prop:=∀i,i<n->ys[i*2]?=M (S (mt (K+2*i)))/\ys[i*2+1]?=M (S (mt (K+2*i+1)))
theorem mkS_set{K:X}(h:MkS K k ys)(hx:k*2+1<ys.length):MkS K (k+1) ((ys.set (k*2) (S (mt (K+2*k)))).set (k*2+1) (S (mt (K+2*k+1)))):=by
 intro i hi
 rcases Nat.lt_or_ge i k with hl|hl
 ·obtain⟨h1,h2⟩:=h i hl
  rw[Ux _ _ qg,Ux _ _ qg];exact⟨h1,h2⟩
 ·obtain rfl:i=k:=qg
  exact⟨set2_0 _ _ hx,set2_1 _ _ hx⟩
theorem Tj(B g n cap K:X)(xs:L Z)(w:E)(ah:w.ownsRow B 120 2 (J (p_ g) n cap) n xs)(hB:B<=w.heap.size)(hn:n<=1048576)(h1:1<=K)(h2:K<=900000000000000):Calls prog 41 #[J (p_ g) n cap,I K] w λe w'=>e=H (I ((K+2*n:X):Int))/\Below B w w'/\Gr g w w'/\∃ys,w'.ownsRow B 120 2 (J (p_ g) n cap) n ys/\MkS K n ys:=by
 have yv:B<=g:=(ah.lt g rfl).1;go_enter func41,ntmps41;go_wp2
 go_loopw [1,5] (λk i wr=>∃(m:X)(ys:L Z),m<=n/\i=I m/\k=I ((K+2*m:X):Int)/\Hd (wr.ownsRow B 120 2 (J (p_ g) n cap) n ys)/\Hd (MkS K m ys)/\Hd (Gr g w wr)/\w.heap.size<=wr.heap.size/\Below B w wr) (λ_ i _=>n-(intOf i).toNat)
 case atStart=>exact⟨0,xs,Nat.zero_le _,rfl,rfl,ah,(λi hi=>by omega:MkS K 0 xs),(λb _ _=>rfl:Gr g w w),Nat.le_refl _,Below.refl _ _⟩
 case round=>
  obtain⟨m,ys,hm,rfl,rfl,HO,HM,HK,de,bc⟩:=hrel;clear ah
  by_cases ai:m<n
  ·have L9:m*2+1<ys.length:=by rw[HO.o.1];omega
   have lz:=Ab (mkS_set HM.o L9);have F6:K+2*m+1<1000000000000000:=qg;have HT:Hd (∀W:E,Calls prog 43 #[I ((K+2*m:X):Int)] W λe w'=>Bw W w'/\e=H (S (mt (K+2*m)))):=λW=>Cy (K+2*m) W qg qg
   have HU:Hd (∀W:E,Calls prog 43 #[I ((K+2*m:X)+1:Int)] W λe w'=>Bw W w'/\e=H (S (mt (K+2*m+1)))):=λW=>by
    have h:=Cy (K+2*m+1) W qg F6;rw[show((K+2*m+1:X):Int)=((K+2*m:X):Int)+1 from qg]at h;exact h
   generalize mt (K+2*m)=t at *;generalize mt (K+2*m+1)=u at *;obtain⟨c,ec⟩:=Aj (K+2*m);rw[ec]at HT HU F6 ⊢;have HE:=Ab ec;clear ec;have E4:(m:Int)<(n:Int):=qg;go_wp2_with fail;refine(HT.o _).mono ?_;rintro e w2 ⟨af,rfl⟩;have aq:=Ad HO.o af;have lh:Below B w w2:=bc.trans (af.mono qg);have M6:=aq.frozenAt;obtain⟨o1,d1⟩:=Dy aq (j:=m*2) qg;have xr:=Ab aq;have ft:=Ab (HK.o.bl de af);have ir:w.heap.size<=w2.heap.size:=zo af.size;clear aq af bc HO;go_wp2_with fail;refine(HU.o _).mono ?_;rintro e w3 ⟨au,rfl⟩;have fq:=Ad (xr.o.stored (m*2) (S t)).1 au;have zw:Below B w w3:=(lh.setCell (p:=⟨g,m*2,N⟩) yv _).trans (au.mono qj);have tu:Hd (Gr g w w3):=(ft.o.set (m*2) _).bl qdf au;(have o6:w.heap.size<=w3.heap.size:=by have:=au.size;simp at this;omega);have hfr3:=fq.frozenAt;obtain⟨o3,d3⟩:=Dy fq (j:=m*2+1) qg;have A6:=Ab fq;clear fq au d1 lh M6 xr;go_wp2;go_roundw
   case rel=>exact⟨m+1,_,qg,qm,congrArg (Value.int .i64) (zo HE.o),(A6.o.stored _ _).1,lz.o,tu.o.set _ _,by simpa using o6,zw.setCell (p:=⟨g,m*2+1,N⟩) yv _⟩
   case measure=>simp[intOf];omega
  ·exact qdj
theorem Ti(K:X)(w:E)(h2:K<=900000000000000):Calls prog 41 #[nS,I K] w λe w'=>e=H (I (K:Int))/\w=w':=by
 go_enter func41,ntmps41;exact qfi
theorem Th(lo hi n K:X)(v:Z)(xs:L Z)(w:E)(hr:Bu w lo hi 120 2 v n xs)(hB:lo<=w.heap.size)(hn:n<=1048576)(h1:1<=K)(h2:K<=900000000000000):Calls prog 41 #[v,I K] w λe w'=>e=H (I ((K+2*n:X):Int))/\Below lo w w'/\Ej v.ownBlock w w'/\∃ys,Bu w' lo hi 120 2 v n ys/\MkS K n ys:=by
 rcases Gy hr.own with⟨rfl,rfl⟩|⟨g,cap,rfl⟩
 ·refine(Ti K w h2).mono ?_
  exact qmk
 ·refine(Tj lo g n cap K xs w hr.own hB hn h1 h2).mono ?_
  exact qld
def kT(cl:X->X)(K:X):X->X
 | 0=>K
 | i+1=>kT cl K i+1+3*cl i
theorem kT_le(cl:X->X)(K:X):∀i n,i<=n->kT cl K i<=kT cl K n:=by
 intro i n h
 induction n with
 | zero=>
   (obtain rfl:i=0:=by omega);exact Nat.le_refl _
 | succ n ih=>
   rcases Nat.lt_or_ge i (n+1)with h1|h1
   ·have:=ih qg
    simp only[kT];omega
   ·obtain rfl:i=n+1:=qg
    exact Nat.le_refl _
theorem kT_bound(cl:X->X)(K:X):∀n,(∀i,i<n->cl i<=1048576)->kT cl K n<=K+n*3145729:=by
 intro n
 induction n with
 | zero=>intro _;simp[kT]
 | succ n ih=>
   intro h;have:=ih (λi hi=>h i qg);have:=h n qg;simp only[kT];rw[Nat.succ_mul];omega
theorem Ey.bl(h:Ey w lo hi v n cl xs cv)(hb:Bw w w'):Ey w' lo hi v n cl xs cv:=
 ⟨h.row.bl hb,h.sec,λi hi=>by obtain⟨ys,h1⟩:=h.code i hi;exact⟨ys,h1.bl hb⟩,h.apart⟩
theorem Ey.keepO{u:Z}(h:Ey w lo hi v n cl xs cv)(ho:w.ownsRow B e sz u m zs)(hk:Ej u.ownBlock w w')(h1:123≠e)(h2:174≠e):Ey w' lo hi v n cl xs cv:=
 ⟨h.row.same λb eb=>hk b (h.row.own.lt b eb).2 (λe'=>Tc h.row.own ho h1 b eb e'.symm),h.sec,λi hi=>by
  obtain⟨ys,k1⟩:=h.code i hi;exact⟨ys,k1.same λb eb=>hk b (k1.own.lt b eb).2 (λe'=>Tc k1.own ho h2 b eb e'.symm)⟩,h.apart⟩
theorem Ey.store(h:Ey w lo hi (J (p_ g) n cap) n cl xs cv)(m:X)(u:Z):Ey (w.setCell ⟨g,m*2,N⟩ u) lo hi (J (p_ g) n cap) n cl (xs.set (m*2) u) cv:=
 ⟨⟨(h.row.own.stored (m*2) u).1,h.row.top⟩,λi hi=>by rw[List.getElem?_set,if_neg qg];exact h.sec i hi,λi hi=>by
  obtain⟨ys,k1⟩:=h.code i hi;exact⟨ys,k1.same λb eb=>Dm w ⟨g,m*2,N⟩ u b (by show b≠g;intro e;subst e;exact Tc h.row.own k1.own qh b rfl eb)⟩,h.apart⟩
theorem Ey.mark(h:Ey w lo hi v n cl xs cv)(hm:m<n)(hk:Ej (cv m).ownBlock w w')(hn:Bu w' lo hi 174 3 (cv m) (cl m) zs):Ey w' lo hi v n cl xs cv:=by
 obtain⟨y0,k0⟩:=h.code m hm;refine⟨h.row.same λb eb=>hk b (h.row.own.lt b eb).2 (λe'=>Tc h.row.own k0.own qh b eb e'.symm),h.sec,λi hi=>?_,h.apart⟩
 by_cases hi':i=m
 ·subst hi';exact⟨zs,hn⟩
 ·obtain⟨ys,k1⟩:=h.code i hi
  exact⟨ys,k1.same λb eb=>hk b (k1.own.lt b eb).2 (λe'=>h.apart i m hi hm hi' b eb e'.symm)⟩
def Oo(w:E)(lo hi K:X)(cl:X->X)(cv:X->Z)(m:X)(ys:L Z):Prop:=∀i,i<m->ys[i*2]?=M (S (mt (kT cl K i)))/\∃zs,Bu w lo hi 174 3 (cv i) (cl i) zs/\MkI (kT cl K i+1) (cl i) zs
theorem Oo.bl{K:X}(h:Oo w lo hi K cl cv m ys)(hb:Bw w w'):Oo w' lo hi K cl cv m ys:=λi hi=>by
 obtain⟨h1,zs,h2,h3⟩:=h i hi;exact⟨h1,zs,h2.bl hb,h3⟩
theorem Oo.store{K:X}(h:Oo w lo hi K cl cv m ys)(hr:Ey w lo hi (J (p_ g) n cap) n cl ys cv)(u:Z):Oo (w.setCell ⟨g,m*2,N⟩ u) lo hi K cl cv m (ys.set (m*2) u):=λi hi=>by
 obtain⟨h1,zs,h2,h3⟩:=h i hi;exact⟨by rw[List.getElem?_set,if_neg qg];exact h1,zs,h2.same λb eb=>Dm w ⟨g,m*2,N⟩ u b (by show b≠g;intro e;subst e;exact Tc hr.row.own h2.own qh b rfl eb),h3⟩
theorem Oo.mark{K:X}(h:Oo w lo hi K cl cv m ys)(hr:Ey w lo hi v n cl ys cv)(hm:m<n)(hk:Ej (cv m).ownBlock w w')(hn:Bu w' lo hi 174 3 (cv m) (cl m) zs)(hz:MkI (kT cl K m+1) (cl m) zs)(hy:ys[m*2]?=M (S (mt (kT cl K m)))):Oo w' lo hi K cl cv (m+1) ys:=λi hi=>by
 rcases Nat.lt_or_ge i m with ai|hge
 ·obtain⟨h1,zs',h2,h3⟩:=h i ai
  exact⟨h1,zs',h2.same λb eb=>hk b (h2.own.lt b eb).2 (λe'=>hr.apart i m qg hm qg b eb e'.symm),h3⟩
 ·obtain rfl:i=m:=qg
  exact⟨hy,zs,hn,hz⟩
def Fl(v:Z)(cv:X->Z)(n:X)(w w':E):Prop:=∀b,b<w.heap.size->v.ownBlock≠M b->(∀i,i<n->(cv i).ownBlock≠M b)->w'.heap[b]?=w.heap[b]?
theorem Fl.bl(h:Fl v cv n w w')(hs:w.heap.size<=w'.heap.size)(hb:Bw w' w2):Fl v cv n w w2:=λb hl h1 h2=>by
 rw[hb.block b qg];exact h b hl h1 h2
theorem Fl.set(h:Fl (J (p_ g) n cap) cv n w w')(u:Z):Fl (J (p_ g) n cap) cv n w (w'.setCell ⟨g,m,N⟩ u):=λb hl h1 h2=>by
 rw[Dm w' ⟨g,m,N⟩ u b (λe=>h1 (by rw[e];rfl))];exact h b hl h1 h2
theorem Fl.mark(h:Fl v cv n w w')(hs:w.heap.size<=w'.heap.size)(hm:m<n)(hk:Ej (cv m).ownBlock w' w2):Fl v cv n w w2:=λb hl h1 h2=>by
 rw[hk b qg (λe=>h2 m hm e.symm)];exact h b hl h1 h2
theorem Fl.keepR(h:Fl v cv n w w')(hr:Ey w lo hi v n cl xs cv):Dw lo hi w w':=λb hb ho=>h b hb (λe=>by have h1:=(hr.row.own.lt b e).1;have h2:=hr.row.top b e;omega) (λi hi e=>by
 obtain⟨ys,k⟩:=hr.code i hi;have h1:=(k.own.lt b e).1;have h2:=k.top b e;omega)
theorem code_slice(h:Bu w lo hi 174 3 v n ys):∃va vc,v=J va n vc:=by
 rcases Gy h.own with⟨hv,rfl⟩|⟨g',c',hv⟩
 ·exact⟨_,_,hv⟩
 ·exact⟨_,_,hv⟩
theorem Tf(lo hi g n cap K:X)(cl:X->X)(xs:L Z)(cv:X->Z)(w:E)(hr:Ey w lo hi (J (p_ g) n cap) n cl xs cv)(hB:lo<=w.heap.size)(hn:n<=1048576)(pz:∀i,i<n->cl i<=1048576)(h1:1<=K)(h2:kT cl K n<=800000000000000):Calls prog 42 #[J (p_ g) n cap,I K] w λe w'=>e=H (I ((kT cl K n:X):Int))/\Below lo w w'/\Fl (J (p_ g) n cap) cv n w w'/\∃ys,Ey w' lo hi (J (p_ g) n cap) n cl ys cv/\Oo w' lo hi K cl cv n ys:=by
 have yv:lo<=g:=(hr.row.own.lt g rfl).1;have HCL:=Ab pz;have HKT:Hd (∀i,i<=n->K<=kT cl K i/\kT cl K i<=800000000000000):=λi hi=>⟨kT_le cl K 0 i (Nat.zero_le _),Nat.le_trans (kT_le cl K i n hi) h2⟩;clear pz h2;go_enter func42,ntmps42;go_wp2
 go_loopw [1,5] (λk i wr=>∃(m:X)(ys:L Z),m<=n/\i=I m/\k=I ((kT cl K m:X):Int)/\Hd (Ey wr lo hi (J (p_ g) n cap) n cl ys cv)/\Hd (Oo wr lo hi K cl cv m ys)/\Hd (Fl (J (p_ g) n cap) cv n w wr)/\w.heap.size<=wr.heap.size/\Below lo w wr) (λ_ i _=>n-(intOf i).toNat)
 case atStart=>exact⟨0,xs,Nat.zero_le _,rfl,rfl,hr,(λi hi=>by omega:Oo w lo hi K cl cv 0 xs),(λb _ _ _=>rfl:Fl (J (p_ g) n cap) cv n w w),Nat.le_refl _,Below.refl _ _⟩
 case round=>
  obtain⟨m,ys,hm,rfl,rfl,HR,HM,HK,de,bc⟩:=hrel;clear hr
  by_cases ai:m<n
  ·obtain⟨cu,ib⟩:=HKT.o m hm
   have zv:=HCL.o m ai;have HS:Hd (kT cl K (m+1)=kT cl K m+1+3*cl m):=rfl;(have L9:m*2+1<ys.length:=by rw[HR.o.row.own.1];omega);obtain⟨c,ec⟩:=Aj (kT cl K m);have HT:Hd (∀W:E,Calls prog 43 #[I (c:Int)] W λe w'=>Bw W w'/\e=H (S (mt c))):=λW=>Cy c W qg qg
   have HI:Hd (∀(W:E)(zs:L Z),W.ownsRow lo 174 3 (cv m) (cl m) zs->lo<=W.heap.size->Calls prog 69 #[cv m,I ((c:Int)+1)] W λe w'=>e=H (I ((c+1+3*cl m:X):Int))/\Below lo W w'/\Ej (cv m).ownBlock W w'/\∃ys,w'.ownsRow lo 174 3 (cv m) (cl m) ys/\MkI (c+1) (cl m) ys):=λW zs h3 h4=>by
    have h:=Qm lo (cl m) (c+1) (cv m) zs W h3 h4 zv qg qg;rw[show((c+1:X):Int)=(c:Int)+1 from qg]at h;exact h
   rw[ec]at cu ib HS ⊢;have HE:=Ab ec;clear ec;have E4:(m:Int)<(n:Int):=qg;obtain⟨t,et⟩:=Aj (mt c);rw[et]at HT;have HET:=Ab et;clear et;obtain⟨z0,bq⟩:=HR.o.code m ai;obtain⟨va,vc,ev⟩:=code_slice bq;have EV:=Ab ev;clear bq ev;go_wp2_with fail;refine(HT.o _).mono ?_;rintro e w2 ⟨af,rfl⟩;have pj:=Ab (HR.o.bl af);have lz:=Ab (HM.o.bl af);have ft:=Ab (HK.o.bl de af);have lh:Below lo w w2:=bc.trans (af.mono qg);have ir:w.heap.size<=w2.heap.size:=zo af.size;have M6:=pj.o.row.own.frozenAt;obtain⟨o1,d1⟩:=Dy pj.o.row.own (j:=m*2) qg;(have d2:w2.cell? ⟨g,m*2+1,N⟩=M (J va (cl m) vc):=by rw[pj.o.row.own.cellAt _ qg,pj.o.sec m ai,EV.o]);have iy:=Ab (pj.o.store m (S t));have G5:=Ab (lz.o.store pj.o (S t));have tu:Hd (Fl (J (p_ g) n cap) cv n w (w2.setCell ⟨g,m*2,N⟩ (S t))):=ft.o.set _;have zw:Below lo w (w2.setCell ⟨g,m*2,N⟩ (S t)):=lh.setCell (p:=⟨g,m*2,N⟩) yv _
   have HC:Hd (Calls prog 69 #[J va (cl m) vc,I ((c:Int)+1)] (w2.setCell ⟨g,m*2,N⟩ (S t)) λe w'=>e=H (I ((c+1+3*cl m:X):Int))/\Below lo (w2.setCell ⟨g,m*2,N⟩ (S t)) w'/\Ej (cv m).ownBlock (w2.setCell ⟨g,m*2,N⟩ (S t)) w'/\∃ys,w'.ownsRow lo 174 3 (cv m) (cl m) ys/\MkI (c+1) (cl m) ys):=by
    obtain⟨zs,hzs⟩:=iy.o.code m ai;have h:=HI.o _ zs hzs.own qj;rw[EV.o]at h ⊢;exact h
   clear af bc HR HM HK HI HT pj lz ft lh;go_wp2_with fail;refine HC.o.mono ?_;rintro e w4 ⟨rfl,bp,uw,zs,ho4,hm4⟩;have ht4:Bu w4 lo hi 174 3 (cv m) (cl m) zs:=⟨ho4,λb eb=>by obtain⟨zz,hzz⟩:=iy.o.code m ai;exact hzz.top b eb⟩;have lp:=Ab (iy.o.mark ai uw ht4);have HM4:Hd (Oo w4 lo hi K cl cv (m+1) (ys.set (m*2) (S t))):=G5.o.mark iy.o ai uw ht4 (by rw[HE.o];exact hm4) (by rw[HE.o,HET.o,List.getElem?_set,if_pos rfl,if_pos qg]);have I9:Hd (Fl (J (p_ g) n cap) cv n w w4):=tu.o.mark qdf ai uw;have V6:=zw.trans bp;(have H8:w.heap.size<=w4.heap.size:=by have:=bp.size;simp at this;omega);clear bp uw ho4 hm4 ht4 iy G5 tu zw d1 d2 M6 HC;go_wp2;go_roundw
   case rel=>exact⟨m+1,_,qg,qm,congrArg (Value.int .i64) (by rw[HS.o];omega),lp.o,HM4.o,I9.o,H8,V6⟩
   case measure=>simp[intOf];omega
  ·exact qmv
theorem Te(K:X)(w:E)(h2:K<=900000000000000):Calls prog 42 #[nS,I K] w λe w'=>e=H (I (K:Int))/\w=w':=by
 go_enter func42,ntmps42;exact qfi
theorem Td(lo hi n K:X)(v:Z)(cl:X->X)(xs:L Z)(cv:X->Z)(w:E)(hr:Ey w lo hi v n cl xs cv)(hB:lo<=w.heap.size)(hn:n<=1048576)(pz:∀i,i<n->cl i<=1048576)(h1:1<=K)(h2:kT cl K n<=800000000000000):Calls prog 42 #[v,I K] w λe w'=>e=H (I ((kT cl K n:X):Int))/\Below lo w w'/\Fl v cv n w w'/\∃ys,Ey w' lo hi v n cl ys cv/\Oo w' lo hi K cl cv n ys:=by
 rcases Gy hr.row.own with⟨rfl,rfl⟩|⟨g,cap,rfl⟩
 ·refine(Te K w (by simp only[kT]at h2;omega)).mono ?_
  rintro e w' ⟨rfl,rfl⟩;exact⟨rfl,Below.refl _ _,λ_ _ _ _=>rfl,xs,hr,λi hi=>qg⟩
 ·exact Tf lo hi g n cap K cl xs cv w hr hB hn pz h1 h2
def MkSp(w:E)(lo hi K:X)(v1 v2:Z)(n1 n2:X)(cl:X->X):Prop:=(∃ys,Bu w lo hi 120 2 v1 n1 ys/\MkS K n1 ys)/\∃ys cv,Ey w lo hi v2 n2 cl ys cv/\Oo w lo hi (K+2*n1) cl cv n2 ys
theorem Xh(lo hi n1 n2 K:X)(v1 v2:Z)(cl:X->X)(xs zs:L Z)(cv:X->Z)(w:E)(h1:Bu w lo hi 120 2 v1 n1 xs)(h2:Ey w lo hi v2 n2 cl zs cv)(hB:lo<=w.heap.size)(L7:n1<=1048576)(hn2:n2<=1048576)(pz:∀i,i<n2->cl i<=1048576)(hK:1<=K)(hK2:kT cl (K+2*n1) n2<=800000000000000):Calls prog 16 #[G #[v1,v2],I K] w λe w'=>e=H (I ((kT cl (K+2*n1) n2:X):Int))/\Below lo w w'/\Dw lo hi w w'/\MkSp w' lo hi K v1 v2 n1 n2 cl:=by
 have hK3:K+2*n1<=800000000000000:=Nat.le_trans (kT_le cl (K+2*n1) 0 n2 (Nat.zero_le _)) hK2;obtain⟨va,vc,rfl⟩:=Fh h1;obtain⟨vb,vd,rfl⟩:=Fh h2.row;have ak:Bw w (w.alloc (O #[J va n1 vc,J vb n2 vd] 42)):=aN _ _;have k1:(w.alloc (O #[J va n1 vc,J vb n2 vd] 42)).cell? ⟨w.heap.size,1,N⟩=M (J vb n2 vd):=qo;have hw0:(w.alloc (O #[J va n1 vc,J vb n2 vd] 42)).heap.size=w.heap.size+1:=qi;have yj:=Ab (h2.bl ak);have h10:=h1.bl ak;have hne:(Value.slice va n1 vc).ownBlock≠M w.heap.size:=λe=>by have:=(h1.own.lt _ e).2;omega
 have HC:Hd (∀W:E,Ey W lo hi (J vb n2 vd) n2 cl zs cv->lo<=W.heap.size->Calls prog 42 #[J vb n2 vd,I ((K+2*n1:X):Int)] W λe w'=>e=H (I ((kT cl (K+2*n1) n2:X):Int))/\Below lo W w'/\Fl (J vb n2 vd) cv n2 W w'/\∃ys,Ey w' lo hi (J vb n2 vd) n2 cl ys cv/\Oo w' lo hi (K+2*n1) cl cv n2 ys):=λW h3 h4=>Td lo hi n2 (K+2*n1) _ cl zs cv W h3 h4 hn2 pz qg hK2;clear hK2 h2 h1 pz;go_enter func16,ntmps16;go_wp2_with fail;refine(Th lo hi n1 K _ xs _ h10 qg L7 hK qg).mono ?_;rintro e w1 ⟨rfl,ag,cu,ys,nj,sd⟩;have bm:=(ak.mono hB).trans ag;have fg:w.heap.size+1<=w1.heap.size:=zo ag.size
 have c1:w1.cell? ⟨w.heap.size,1,N⟩=M (J vb n2 vd):=by
  exact qnk
 have ja:Hd (Ey w1 lo hi (J vb n2 vd) n2 cl zs cv):=yj.o.keepO h10.own cu qh qh;have fb:Hd (Dw lo hi w w1):=(Dw.of_below ak).trans ak.size (cu.keepR λb e=>⟨(h10.own.lt b e).1,h10.top b e⟩);have iw:=Ab nj;have A9:=Ab sd;clear ak ag cu nj sd k1 yj h10 hne hw0;go_wp2_with fail;refine(HC.o w1 ja.o qg).mono ?_;rintro e w2 ⟨rfl,af,ib,ys2,mq,td⟩;have bg:=bm.trans af;have ft:Hd (Dw lo hi w w2):=fb.o.trans qg (ib.keepR ja.o);have HP:Hd (MkSp w2 lo hi K (J va n1 vc) (J vb n2 vd) n1 n2 cl):=⟨⟨ys,iw.o.same λb e=>ib b (iw.o.own.lt b e).2 (λe'=>Tc ja.o.row.own iw.o.own qh b e' e) (λi hi e'=>by obtain⟨zz,hz⟩:=ja.o.code i hi;exact Tc hz.own iw.o.own qh b e' e),A9.o⟩,ys2,cv,mq,td⟩;clear af ib mq td ja fb iw A9 HC c1;go_wp2;go_ret;exact⟨rfl,bg,ft.o,HP.o⟩
theorem Li.move{sa ta sa' ur:Option Addr}(h:Li w sa ss ta ts)(rs:Kn w' sa' ss)(rt:Km w' ur ts):Li w' sa' ss ur ts:=⟨rs,rt,h.ls,h.lt,h.ns,h.xs,h.nt,h.lc,h.xt⟩
theorem eqSpace_own{lo' hi':X}{v1 v2 u1 u2:Z}(h1:Jj w lo hi v1 ss)(h2:Je w lo hi v2 ts)(k1:Jj w lo' hi' u1 ss)(k2:Je w lo' hi' u2 ts)(hs:Ep ss ts):Calls prog 13 #[G #[v1,v2],G #[u1,u2]] w λe w'=>Bw w w'/\e=H (F true):=by
 obtain⟨a1,p1,rfl,r1⟩:=h1.sl;obtain⟨a2,p2,rfl,r2⟩:=h2.sl;obtain⟨a3,p3,rfl,r3⟩:=k1.sl;obtain⟨a4,p4,rfl,r4⟩:=k2.sl;exact eqSpace_same a1 a2 a3 a4 p1 p2 p3 p4 ss ts w r1 r2 r3 r4 hs
end Go.Proofs.YtnflkpmmfpfhlaaGreatDoor
