import Derived.Test.YtoakjccojifagaaGreatDoorTNWork2
namespace Go.Proofs.YtoakjccojifagaaGreatDoor
open _root_.Go.Proofs.Tryz Go.RowKit
open Value renaming slice->J,string->S,bool->F,agg->G,tuple->Y
open Option renaming some->M,none->N
open Obj renaming cells->O
open Go renaming World->E
open Ending renaming returned->H
open _root_ renaming List->L,Nat->X
set_option linter.unusedVariables false
set_option maxHeartbeats 8000000
set_option maxRecDepth 100000
set_option linter.unusedSimpArgs false
variable {is:L I3} {w:E} {B n cap:X} {a:Option Addr} {ss:L S2} {l:L By} {P:Prop} {ts:L T2}
theorem l2InsOk_0(o:X)(wd t:By)(n:Int)(w:E)(Hw:Hd (∀w,Calls prog 93 #[I o] w λe w'=>e=H (Y #[S wd,I 0])/\w=w'))(S8:wd.toList.isEmpty=false)(ht:t.size<=9223372036854775807):Calls prog 68 #[G #[I o,S t,I n]] w λe w'=>Bw w w'/\e=H (F (decide ((t.size:Int)<=0)&&decide (0<=n)&&decide (n<=0))):=by
 have he:=Rg t
 by_cases hz:t.size=0
 ·have he1:t.toList.isEmpty=true:=qhb;clear he;have hd0:decide ((2000:Int)<t.size)=false:=qhc
  by_cases hn:n=0
  ·have hd:(n == 0)=true:=qbc;rw[show(decide ((t.size:Int)<=0)&&decide (0<=n)&&decide (n<=0))=true from qej];clear hz;exact qjn
  ·have hd:(n == 0)=false:=qbc;exact qio
 ·have he1:t.toList.isEmpty=false:=qgy;clear he;exact qio
theorem l2InsOk_1(o:X)(wd t:By)(n:Int)(w:E)(Hw:Hd (∀w,Calls prog 93 #[I o] w λe w'=>e=H (Y #[S wd,I 1])/\w=w'))(S8:wd.toList.isEmpty=false)(ht:t.size<=9223372036854775807):Calls prog 68 #[G #[I o,S t,I n]] w λe w'=>Bw w w'/\e=H (F (decide ((t.size:Int)<=2000)&&decide (0<=n)&&decide (n<=0))):=by
 by_cases hz:t.size<=2000
 ·have hd0:decide ((2000:Int)<t.size)=false:=qh
  by_cases hn:n=0
  ·have hd:(n == 0)=true:=qbc;rw[show(decide ((t.size:Int)<=2000)&&decide (0<=n)&&decide (n<=0))=true from qej];exact qjn
  ·have hd:(n == 0)=false:=qbc;exact qip
 ·have hd0:decide ((2000:Int)<t.size)=true:=qh;exact qip
theorem l2InsOk_2(o:X)(wd t:By)(n:Int)(w:E)(Hw:Hd (∀w,Calls prog 93 #[I o] w λe w'=>e=H (Y #[S wd,I 2])/\w=w'))(S8:wd.toList.isEmpty=false)(ht:t.size<=9223372036854775807):Calls prog 68 #[G #[I o,S t,I n]] w λe w'=>Bw w w'/\e=H (F (decide ((t.size:Int)<=0)&&decide (0<=n)&&decide (n<=2000))):=by
 have he:=Rg t
 by_cases hz:t.size=0
 ·have he1:t.toList.isEmpty=true:=qhb;clear he;have hd0:decide ((2000:Int)<t.size)=false:=qhc
  by_cases hn:0<=n
  ·have hd:decide (0<=n)=true:=qbc
   by_cases hm:n<=2000
   ·(have hd2:decide (n<=2000)=true:=by simpa using hm);rw[show(decide ((t.size:Int)<=0)&&decide (0<=n)&&decide (n<=2000))=true from qej];exact qjm
   ·(have hd2:decide (n<=2000)=false:=by simpa using hm);exact qfa
  ·have hd:decide (0<=n)=false:=qbc;exact qfa
 ·have he1:t.toList.isEmpty=false:=qgy;clear he;exact qfa
theorem l2InsOk_3(o:X)(wd t:By)(n:Int)(w:E)(Hw:Hd (∀w,Calls prog 93 #[I o] w λe w'=>e=H (Y #[S wd,I 3])/\w=w'))(S8:wd.toList.isEmpty=false)(ht:t.size<=9223372036854775807):Calls prog 68 #[G #[I o,S t,I n]] w λe w'=>Bw w w'/\e=H (F (decide ((t.size:Int)<=0)&&decide (0<=n)&&decide (n<=200))):=by
 have he:=Rg t
 by_cases hz:t.size=0
 ·have he1:t.toList.isEmpty=true:=qhb;clear he;have hd0:decide ((2000:Int)<t.size)=false:=qhc
  by_cases hn:0<=n
  ·have hd:decide (0<=n)=true:=qbc
   by_cases hm:n<=200
   ·(have hd2:decide (n<=200)=true:=by simpa using hm);rw[show(decide ((t.size:Int)<=0)&&decide (0<=n)&&decide (n<=200))=true from qej];exact qjm
   ·(have hd2:decide (n<=200)=false:=by simpa using hm);exact qfb
  ·have hd:decide (0<=n)=false:=qbc;exact qfb
 ·have he1:t.toList.isEmpty=false:=qgy;clear he;exact qfb
theorem l2InsOk_in(o:X)(t:By)(n:Int)(w:E)(h1:1<=o)(h2:o<=15)(ht:t.size<=9223372036854775807):Calls prog 68 #[G #[I o,S t,I n]] w λe w'=>Bw w w'/\e=H (F (decide ((t.size:Int)<=Ko (Eo o))&&decide (0<=n)&&decide (n<=Oq (Eo o)))):=by
 have S8:=Vt o h1 h2
 have hw:=λw=>l2Word_in o w h1 h2
 rcases kind_cases o with hk|hk|hk|hk
 ·rw[hk]at hw ⊢;exact l2InsOk_0 o _ t n w hw S8 ht
 ·rw[hk]at hw ⊢;exact l2InsOk_1 o _ t n w hw S8 ht
 ·rw[hk]at hw ⊢;exact l2InsOk_2 o _ t n w hw S8 ht
 ·rw[hk]at hw ⊢;exact l2InsOk_3 o _ t n w hw S8 ht
def Ao(is:L I3):Bool:=decide (1<=is.length)&&decide (is.length<=200)&&decide (∀i,i<is.length->Gd (ix is i)=true)
theorem Xq{i:I3}(h:i.op<1\/15<i.op):Gd i=false:=by
 rw[Bool.eq_false_iff]
 simp only[Gd,ne_eq,Bool.and_eq_true,decide_eq_true_eq]
 omega
theorem insOk_in(o:X)(t:By)(n:Int)(h1:1<=o)(h2:o<=15):Gd ⟨o,t,n⟩=(decide ((t.size:Int)<=Ko (Eo o))&&decide (0<=n)&&decide (n<=Oq (Eo o))):=by
 have d1:decide (1<=(o:Int))=true:=qh
 have d2:decide ((o:Int)<=15)=true:=qh
 simp only[Gd,d1,d2,Bool.true_and]
theorem Yd(i:I3)(w:E)(hT:Kk w)(ht:i.text.size<=9223372036854775807):Calls prog 131 #[G #[I i.op,S i.text,I i.n]] w λe w'=>Bw w w'/\e=H (F (Gd i)):=by
 by_cases h:i.op<1\/15<i.op
 ·rw[Xq h];exact Yc i w h
 ·obtain⟨op,t,n⟩:=i;obtain⟨o,rfl⟩:=Int.eq_ofNat_of_zero_le (show 0<=op from qca);have h1:1<=o:=qca;have h2:o<=15:=qca;rw[insOk_in o t n h1 h2];exact Qao o t n w _ h1 h2 ht (hT o qb).2.1
theorem l2InsOk_any(i:I3)(w:E)(ht:i.text.size<=9223372036854775807):Calls prog 68 #[G #[I i.op,S i.text,I i.n]] w λe w'=>Bw w w'/\e=H (F (Gd i)):=by
 by_cases h:i.op<1\/15<i.op
 ·rw[Xq h];exact l2InsOk_out i w h
 ·obtain⟨op,t,n⟩:=i;obtain⟨o,rfl⟩:=Int.eq_ofNat_of_zero_le (show 0<=op from qca);have h1:1<=o:=qca;have h2:o<=15:=qca;rw[insOk_in o t n h1 h2];exact l2InsOk_in o t n w h1 h2 ht
theorem Uk{k:X}(hk:k<is.length)(h:Gd (ix is k)=false):Ao is=false:=by
 rw[Bool.eq_false_iff]
 simp only[Ao,ne_eq,Bool.and_eq_true,decide_eq_true_eq]
 intro hh
 have:=hh.2 k hk
 rw[h]at this;cases this
theorem Rq(h:∀i,i<is.length->Gd (ix is i)=true):Ao is=(decide (1<=is.length)&&decide (is.length<=200)):=by
 simp only[Ao,decide_eq_true h,Bool.and_true]
theorem Ip(a:Option Addr)(cap:X)(is:L I3)(w:E)(hc:Ch w a is)(hl:is.length<=1048576)(hs:∀i,(ix is i).text.size<=9223372036854775807):Calls prog 49 #[G #[J a is.length cap]] w λe w'=>Bw w w'/\e=H (F (Ao is)):=by
 have ak:Bw w (w.alloc (O #[J a is.length cap] 92)):=aN _ _
 go_enter func49,ntmps49
 go_wp2
 go_loopw [3] (λi wr=>∃k:X,k<=is.length/\i=I k/\(∀i,i<k->Gd (ix is i)=true)/\Bw w wr/\wr.cell? ⟨w.heap.size,0,N⟩=M (J a is.length cap)) (λi _=>is.length-(intOf i).toNat)
 case atStart=>exact⟨0,Nat.zero_le _,rfl,λi hi=>qb,ak,qk⟩
 case round=>
  obtain⟨k,hk,rfl,fw,bc,jh⟩:=hrel;have HK:Hd (∀i,i<k->Gd (ix is i)=true):=fw;clear fw
  by_cases aj:k<is.length
  ·obtain⟨b,off,rfl,c1,c2,c3⟩:=(hc.bl bc) k aj;have gh:=hs k;obtain⟨i,hi⟩:∃i,i=ix is k:=⟨_,rfl⟩;rw[<- hi]at c1 c2 c3 gh;have HI:Hd (i=ix is k):=hi;clear hi hs hc ak;go_wp2_with fail;refine(l2InsOk_any i _ gh).mono ?_;rintro e w1 ⟨af,rfl⟩;have lz:Bw w w1:=bc.trans (af.mono bc.size);have hcs1:=Aa af jh
   by_cases hb:Gd i=true
   ·go_wp2;go_roundw
    case rel=>
     refine⟨k+1,qb,qj,λi' hi'=>?_,lz,hcs1⟩;exact qlj
    case measure=>simp[intOf];omega
   ·(have H8:Gd i=false:=by simpa using hb);have hf:Ao is=false:=Uk aj (by rw[<- HI.o];exact H8);have HF:Hd (Ao is=false):=hf;clear hf hb;go_wp2;go_ret;exact⟨lz,qdc⟩
  ·have pn:∀i,i<is.length->Gd (ix is i)=true:=λi hi=>HK.o i qb;have HG:Hd (Ao is=(decide (1<=is.length)&&decide (is.length<=200))):=Rq pn;clear pn hs
   by_cases h1:1<=is.length
   ·have d1:decide ((1:Int)<=is.length)=true:=qh;(have d1':decide (1<=is.length)=true:=by simpa using h1);go_wp2;go_ret;exact⟨bc,by rw[HG.o,d1',Bool.true_and];show Ending.returned (F (decide ((is.length:Int)<=200)))=_;exact congrArg (λb=>Ending.returned (F b)) (by rw[Bool.eq_iff_iff,decide_eq_true_eq,decide_eq_true_eq];omega)⟩
   ·have d1:decide ((1:Int)<=is.length)=false:=qh;(have d1':decide (1<=is.length)=false:=by rw[decide_eq_false_iff_not];exact h1);go_wp2;go_ret;exact⟨bc,by rw[HG.o,d1',Bool.false_and];rfl⟩
theorem progOk_len(h:is.length<1\/200<is.length):Ao is=false:=by
 rw[Bool.eq_false_iff]
 simp only[Ao,ne_eq,Bool.and_eq_true,decide_eq_true_eq]
 omega
theorem Kz(a:Option Addr)(cap:X)(is:L I3)(w:E)(hT:Kk w)(hc:Ch w a is)(hl:is.length<=1048576)(hs:∀i,(ix is i).text.size<=9223372036854775807):Calls prog 106 #[G #[J a is.length cap]] w λe w'=>Bw w w'/\e=H (F (Ao is)):=by
 have ak:Bw w (w.alloc (O #[J a is.length cap] 92)):=aN _ _
 by_cases dr:is.length<1\/200<is.length
 ·rw[progOk_len dr]
  by_cases h1:is.length<1
  ·have d1:decide ((is.length:Int)<1)=true:=qh;go_enter func106,ntmps106;go_wp2;go_ret;exact⟨ak,rfl⟩
  ·have d1:decide ((is.length:Int)<1)=false:=qh;have d2:decide (200<(is.length:Int))=true:=qh;go_enter func106,ntmps106;go_wp2;go_ret;exact⟨ak,rfl⟩
 ·have d1:decide ((is.length:Int)<1)=false:=qh;have d2:decide (200<(is.length:Int))=false:=qh;have l1:1<=is.length:=qb;have l2:is.length<=200:=qb;clear dr;go_enter func106,ntmps106;go_wp2
  go_loopw [18] (λi wr=>∃k:X,k<=is.length/\i=I k/\(∀i,i<k->Gd (ix is i)=true)/\Bw w wr) (λi _=>is.length-(intOf i).toNat)
  case atStart=>exact⟨0,Nat.zero_le _,rfl,λi hi=>qb,ak⟩
  case round=>
   obtain⟨k,hk,rfl,fw,bc⟩:=hrel;have HK:Hd (∀i,i<k->Gd (ix is i)=true):=fw;clear fw
   by_cases aj:k<is.length
   ·obtain⟨b,off,rfl,c1,c2,c3⟩:=(hc.bl bc) k aj;have gh:=hs k;obtain⟨i,hi⟩:∃i,i=ix is k:=⟨_,rfl⟩;rw[<- hi]at c1 c2 c3 gh;have HI:Hd (i=ix is k):=hi;have hTr:=hT.bl bc;have HTr:Hd (Kk wr):=hTr;clear hi hs hc ak hT hTr;go_wp2_with fail;have fk:Bw wr (wr.alloc (O #[I i.op,S i.text,I i.n] 139)):=aN _ _;refine(Yd i _ (HTr.o.bl fk) gh).mono ?_;rintro e w1 ⟨af,rfl⟩;have lz:Bw w w1:=(bc.trans (fk.mono bc.size)).trans (af.mono (by simp;have:=bc.size;omega));clear fk af
    by_cases hb:Gd i=true
    ·go_wp2;go_roundw
     case rel=>
      refine⟨k+1,qb,qj,λi' hi'=>?_,lz⟩;exact qlj
     case measure=>simp[intOf];omega
    ·(have H8:Gd i=false:=by simpa using hb);have HF:Hd (Ao is=false):=Uk aj (by rw[<- HI.o];exact H8);clear hb;go_wp2;go_ret;exact⟨lz,qdc⟩
   ·have pn:∀i,i<is.length->Gd (ix is i)=true:=λi hi=>HK.o i qb
    have HG:Hd (Ao is=true):=by
     show Ao is=true;rw[Rq pn,decide_eq_true l1,decide_eq_true l2];rfl
    clear pn hs;go_wp2;go_ret;exact⟨bc,by rw[HG.o];rfl⟩
def Oc(is:L S2)(k:X)(xs:L Value):Prop:=
 ∀i,i<k->xs[i*2]?=M (S (sx is i).name)/\xs[i*2+1]?=M (S (sx is i).text)
theorem rowS_own{g:X}{is:L S2}{xs:L Value}(hn:n=is.length)(h:w.ownsRow B 97 2 (J (p_ g) n cap) n xs)(hf:Oc is n xs):Hr w (p_ g) is:=by
 subst hn
 intro i hi
 obtain⟨h1,h2⟩:=hf i hi
 refine⟨g,0,rfl,?_,?_⟩
 ·rw[Nat.zero_add,h.cellAt _ qb];exact h1
 ·rw[Nat.zero_add,h.cellAt _ qb];exact h2
def Ca(w:E)(a:Option Addr)(ss:L By):Prop:=
 ∀i,i<ss.length->∃b off,a=M ⟨b,off,N⟩/\w.cell? ⟨b,off+i,N⟩=M (S (ss.getD i ByteArray.empty))
theorem Ca.bl{w':E}{ss:L By}(h:Ca w a ss)(hb:Bw w w'):Ca w' a ss:=by
 intro i hi
 obtain⟨b,off,ha,hc⟩:=h i hi
 exact⟨b,off,ha,(hb.cell (p:=⟨b,off+i,N⟩) (World.block_lt_of_cell? w _ hc)).trans hc⟩
def Au(a b:By):Bool:=Op.bytesLess a.toList b.toList
theorem Kq{a b c:By}(h:Au a b=true)(k:Au b c=true):Au a c=true:=by
 unfold Au at *
 rw[bytesLess_eq]at *
 simp only[decide_eq_true_eq]at *
 exact List.lt_trans h k
theorem Et(a:By):Au a a=false:=by
 unfold Au
 rw[bytesLess_eq]
 simp only[decide_eq_false_iff_not]
 exact List.lt_irrefl _
def nx(l:L By)(i:X):By:=l.getD i ByteArray.empty
def Fu(l:L By):Prop:=∀i,1<=i->i<l.length->Au (nx l (i-1)) (nx l i)=true
theorem Fu.lt{l:L By}(h:Fu l):∀(d i:X),i+d+1<l.length->Au (nx l i) (nx l (i+d+1))=true
 | 0,i,hi=>by have:=h (i+0+1) qb hi;simpa using this
 | d+1,i,hi=>by
  have h1:=Fu.lt h d i qb;have h2:=h (i+(d+1)+1) qb hi;exact Kq h1 (by have:=h2;rw[Nat.add_sub_cancel]at this;exact this)
theorem Fu.pair(h:Fu l){i j:X}(t7:i<j)(hj:j<l.length):Au (nx l i) (nx l j)=true:=by
 have:=h.lt (j-i-1) i qb
 rwa [show i+(j-i-1)+1=j from qb]at this
theorem Ed(h:¬ P):(false=true↔P):=⟨λk=>absurd k qd,λk=>absurd k h⟩
theorem Gp(h:P):(true=true↔P):=⟨λ_=>h,λ_=>rfl⟩
theorem Nl{m:X}(h:∀j,1<=j->j<m+1->Au (nx l (j-1)) (nx l j)=true)(hk:Au (nx l m) (nx l (m+1))=true):∀j,1<=j->j<m+1+1->Au (nx l (j-1)) (nx l j)=true:=by
 intro j h1 h2
 rcases Nat.lt_or_ge j (m+1)with h3|h3
 ·exact h j h1 h3
 ·obtain rfl:j=m+1:=qb;simpa using hk
theorem Ox(a:Option Addr)(cap:X)(l:L By)(w:E)(hc:Ca w a l)(hl:l.length<=1048576):Calls prog 77 #[J a l.length cap] w λe w'=>Bw w w'/\∃b:Bool,e=H (F b)/\(b=true↔Fu l):=by
 go_enter func77,ntmps77
 go_wp2
 go_loopw [3] (λi wr=>∃m:X,(m=0\/m+1<=l.length)/\i=I (m+1)/\Hd (∀j,1<=j->j<m+1->Au (nx l (j-1)) (nx l j)=true)/\Bw w wr) (λi _=>l.length+1-(intOf i).toNat)
 case atStart=>exact⟨0,Or.inl rfl,rfl,(λj h1 h2=>by omega:∀j,1<=j->j<0+1->Au (nx l (j-1)) (nx l j)=true),Below.refl _ _⟩
 case round=>
  obtain⟨m,hm,rfl,HA,am⟩:=hrel
  by_cases aj:m+1<l.length
  ·obtain⟨b,off,rfl,c1⟩:=(hc.bl am) m qb;obtain⟨b',br,e',c2⟩:=(hc.bl am) (m+1) aj;simp only[Option.some.injEq,Addr.mk.injEq,and_true]at e';obtain⟨rfl,rfl⟩:=e';replace c1:wr.cell? ⟨b,off+m,N⟩=M (S (nx l m)):=c1;replace c2:wr.cell? ⟨b,off+(m+1),N⟩=M (S (nx l (m+1))):=c2;obtain⟨v,hv⟩:=Aj (Au (nx l m) (nx l (m+1)));have HV:Hd (Au (nx l m) (nx l (m+1))=v):=hv;unfold Au at hv;clear hc;generalize nx l m=s at c1 hv;generalize nx l (m+1)=s' at c2 hv;have hltI:(m:Int)+1<(l.length:Int):=qb;cases v
   ·go_wp2;go_region
    all_goals
     go_wp2;go_ret;exact⟨by repeat (first|exact am|apply Below.drew),false,rfl,Ed (λh=>by have:=h (m+1) qb aj;rw[Nat.add_sub_cancel,HV.o]at this;cases this)⟩
   ·go_wp2;go_region
    all_goals
     go_wp2;go_roundw
     case rel=>exact⟨m+1,qb,qj,Nl HA.o HV.o,by repeat (first|exact am|apply Below.drew)⟩
     case measure=>simp[intOf];omega
  ·go_wp2;go_ret;exact⟨am,true,rfl,Gp (λj h1 h2=>HA.o j h1 qb)⟩
theorem Ca.nx{ss:L By}(h:Ca w a ss)(i:X)(hi:i<ss.length):∃b off,a=M ⟨b,off,N⟩/\w.cell? ⟨b,off+i,N⟩=M (S (nx ss i)):=h i hi
def Hf(l:L By):Prop:=∀i,i<l.length->Ez (nx l i)=true
def Eg(l:L By)(n:By):Prop:=∃j,j<l.length/\nx l j=n
def Nn(l m:L By):Prop:=∃i,i<l.length/\Eg m (nx l i)
def Am(ss:L S2):L By:=ss.map (·.name)
def Ak(ts:L T2):L By:=ts.map (·.name)
theorem Cb(ss:L S2):(Am ss).length=ss.length:=by simp[Am]
theorem Bs(ts:L T2):(Ak ts).length=ts.length:=by simp[Ak]
theorem Dy(ss:L S2)(i:X):nx (Am ss) i=(sx ss i).name:=by
 unfold nx Am sx
 rw[gG,gG,List.getElem?_map]
 cases ss[i]?<;>rfl
theorem Dr(ts:L T2)(i:X):nx (Ak ts) i=(tx ts i).name:=by
 unfold nx Ak tx
 rw[gG,gG,List.getElem?_map]
 cases ts[i]?<;>rfl
def Js(ss:L S2):Prop:=∀i,i<ss.length->(sx ss i).text.size<=2000
def Vn(ts:L T2):Prop:=∀i,i<ts.length->Ao (tx ts i).code=true
open Classical in
noncomputable def Gu (ss:L S2) (ts:L T2):Int:=
 if 200<ss.length+ts.length then 1 else if ¬ (Hf (Am ss)/\Hf (Ak ts)) then 2 else if ¬ Fu (Am ss) then 3 else if ¬ Fu (Ak ts) then 4
 else if Nn (Am ss) (Ak ts) then 5 else if ¬ Js ss then 6 else if ¬ Vn ts then 7 else 0
theorem chk1(h:200<ss.length+ts.length):Gu ss ts=1:=by simp[Gu,h]
theorem chk2(h:¬ 200<ss.length+ts.length)(h2:¬ (Hf (Am ss)/\Hf (Ak ts))):Gu ss ts=2:=by unfold Gu;rw[if_neg h,if_pos h2]
theorem chk3(h:¬ 200<ss.length+ts.length)(h2:Hf (Am ss)/\Hf (Ak ts))(h3:¬ Fu (Am ss)):Gu ss ts=3:=by unfold Gu;rw[if_neg h,if_neg (λk=>k h2),if_pos h3]
theorem chk4(h:¬ 200<ss.length+ts.length)(h2:Hf (Am ss)/\Hf (Ak ts))(h3:Fu (Am ss))(h4:¬ Fu (Ak ts)):Gu ss ts=4:=by unfold Gu;rw[if_neg h,if_neg (λk=>k h2),if_neg (λk=>k h3),if_pos h4]
theorem chk5(h:¬ 200<ss.length+ts.length)(h2:Hf (Am ss)/\Hf (Ak ts))(h3:Fu (Am ss))(h4:Fu (Ak ts))(h5:Nn (Am ss) (Ak ts)):Gu ss ts=5:=by unfold Gu;rw[if_neg h,if_neg (λk=>k h2),if_neg (λk=>k h3),if_neg (λk=>k h4),if_pos h5]
theorem chk6(h:¬ 200<ss.length+ts.length)(h2:Hf (Am ss)/\Hf (Ak ts))(h3:Fu (Am ss))(h4:Fu (Ak ts))(h5:¬ Nn (Am ss) (Ak ts))(h6:¬ Js ss):Gu ss ts=6:=by unfold Gu;rw[if_neg h,if_neg (λk=>k h2),if_neg (λk=>k h3),if_neg (λk=>k h4),if_neg h5,if_pos h6]
theorem chk7(h:¬ 200<ss.length+ts.length)(h2:Hf (Am ss)/\Hf (Ak ts))(h3:Fu (Am ss))(h4:Fu (Ak ts))(h5:¬ Nn (Am ss) (Ak ts))(h6:Js ss)(h7:¬ Vn ts):Gu ss ts=7:=by unfold Gu;rw[if_neg h,if_neg (λk=>k h2),if_neg (λk=>k h3),if_neg (λk=>k h4),if_neg h5,if_neg (λk=>k h6),if_pos h7]
theorem chk0(h:¬ 200<ss.length+ts.length)(h2:Hf (Am ss)/\Hf (Ak ts))(h3:Fu (Am ss))(h4:Fu (Ak ts))(h5:¬ Nn (Am ss) (Ak ts))(h6:Js ss)(h7:Vn ts):Gu ss ts=0:=by unfold Gu;rw[if_neg h,if_neg (λk=>k h2),if_neg (λk=>k h3),if_neg (λk=>k h4),if_neg h5,if_neg (λk=>k h6),if_neg (λk=>k h7)]
theorem Pp{ss:L By}(hn:n=ss.length)(h:w.ownsRow B 9 1 (J a n cap) n (Av ss)):Ca w a ss:=by
 subst hn
 intro i hi
 rcases h.2 with⟨_,h0⟩|⟨g,ai,cur,hv,_⟩
 ·omega
 ·obtain⟨rfl,_,rfl⟩:a=p_ g/\True/\cap=ai:=by simpa using hv
  refine⟨g,0,rfl,?_⟩;rw[Nat.zero_add,h.cellAt i qb];simp[Av,gG,Jr hi]
theorem Xa(l:L By)(k:X)(h:k<l.length):Av (l.take k)++[S (nx l k)]=Av (l.take (k+1)):=by
 rw[List.take_succ_eq_append_getElem h]
 simp only[Av,List.map_append,List.map_cons,List.map_nil,nx,gG,Jr h,Option.getD_some]
theorem Mg(a ta:Option Addr)(cap tn tc:X)(is:L S2)(w:E)(hc:Hr w a is)(hl:is.length<=1048576):Calls prog 74 #[G #[J a is.length cap,J ta tn tc]] w λe w'=>Bw w w'/\∃(a':Option Addr)(ai:X),e=H (J a' is.length ai)/\Ca w' a' (Am is):=by
 obtain⟨i0,hi,bo,bm,cm⟩:=info_parts Tryz.info9b
 have hnl:=Cb is
 have ak:Bw w (w.alloc (O #[J a is.length cap,J ta tn tc] 43)):=aN _ _
 go_enter func74,ntmps74
 go_wp2
 go_loopw [3,9] (λo i wr=>∃(k:X)(ao:Option Addr)(cp:X),k<=is.length/\i=I k/\o=J ao k cp/\wr.ownsRow w.heap.size 9 1 (J ao k cp) k (Av ((Am is).take k))/\Bw w wr) (λ_ i _=>is.length-(intOf i).toNat)
 case atStart=>exact⟨0,N,0,Nat.zero_le _,rfl,rfl,⟨qah,Or.inl ⟨rfl,rfl⟩⟩,ak⟩
 case round=>
  obtain⟨k,ao,cp,hk,rfl,rfl,ah,am⟩:=hrel;have hlt0:w.heap.size<=wr.heap.size:=am.size
  by_cases aj:k<is.length
  ·obtain⟨b,off,rfl,c1,c2⟩:=(hc.bl am) k aj;have mn:=Xa (Am is) k qb;rw[Dy]at mn;generalize sx is k=i at *;have HS:Hd (Av ((Am is).take k)++[S i.name]=Av ((Am is).take (k+1))):=mn;clear mn hc;have yl:=(ah.alloc (O #[S i.name,S i.text] 97)).alloc (O #[S i.name] 9)
   go_wp2_with (first|(at_builtin;refine wpList_append_own _ rfl (.tmp 13) (.tmp 16) 22 rfl w.heap.size 9 i0 ze 1 16 underlying22 hi bo bm cm rfl qd _ _ _ rfl yl ⟨wr.heap.size+1,0,N⟩ 1 1 [S i.name] rfl rfl ?_ qaf qm qb qh ?_;(focus(have:=cell_one_new (wr.alloc (O #[S i.name,S i.text] 97)) (S i.name) 9;simpa using this));intro v' w2 ba ae dp))
   have fs:Bw w w2:=((am.alloc qb _).alloc qh _).grown ae qh (λk hk=>(ah.lt k hk).1);exact qiv
  ·exact qkf
theorem Mf(a ta:Option Addr)(cap tn tc:X)(is:L T2)(w:E)(hc:Hb w a is)(hl:is.length<=1048576):Calls prog 75 #[G #[J ta tn tc,J a is.length cap]] w λe w'=>Bw w w'/\∃(a':Option Addr)(ai:X),e=H (J a' is.length ai)/\Ca w' a' (Ak is):=by
 obtain⟨i0,hi,bo,bm,cm⟩:=info_parts Tryz.info9b
 have hnl:=Bs is
 have ak:Bw w (w.alloc (O #[J ta tn tc,J a is.length cap] 43)):=aN _ _
 go_enter func75,ntmps75
 go_wp2
 go_loopw [3,9] (λo i wr=>∃(k:X)(ao:Option Addr)(cp:X),k<=is.length/\i=I k/\o=J ao k cp/\wr.ownsRow w.heap.size 9 1 (J ao k cp) k (Av ((Ak is).take k))/\Bw w wr) (λ_ i _=>is.length-(intOf i).toNat)
 case atStart=>exact⟨0,N,0,Nat.zero_le _,rfl,rfl,⟨qah,Or.inl ⟨rfl,rfl⟩⟩,ak⟩
 case round=>
  obtain⟨k,ao,cp,hk,rfl,rfl,ah,am⟩:=hrel;have hlt0:w.heap.size<=wr.heap.size:=am.size
  by_cases aj:k<is.length
  ·obtain⟨b,off,rfl,c1,x,p,c2,c3⟩:=(hc.bl am) k aj;have mn:=Xa (Ak is) k qb;rw[Dr]at mn;generalize tx is k=i at *;have HS:Hd (Av ((Ak is).take k)++[S i.name]=Av ((Ak is).take (k+1))):=mn;clear mn hc;have yl:=(ah.alloc (O #[S i.name,J x i.code.length p] 99)).alloc (O #[S i.name] 9)
   go_wp2_with (first|(at_builtin;refine wpList_append_own _ rfl (.tmp 13) (.tmp 16) 22 rfl w.heap.size 9 i0 ze 1 16 underlying22 hi bo bm cm rfl qd _ _ _ rfl yl ⟨wr.heap.size+1,0,N⟩ 1 1 [S i.name] rfl rfl ?_ qaf qm qb qh ?_;(focus(have:=cell_one_new (wr.alloc (O #[S i.name,J x i.code.length p] 99)) (S i.name) 9;simpa using this));intro v' w2 ba ae dp))
   have fs:Bw w w2:=((am.alloc qb _).alloc qh _).grown ae qh (λk hk=>(ah.lt k hk).1);exact qiv
  ·exact qkf
theorem Ty(a:Option Addr)(cap:X)(l:L By)(w:E)(hc:Ca w a l)(hl:l.length<=1048576)(hs:∀i,(nx l i).size<=maxLen):Calls prog 76 #[J a l.length cap] w λe w'=>w=w'/\∃b:Bool,e=H (F b)/\(b=true↔Hf l):=by
 go_enter func76,ntmps76
 go_wp2
 go_loopw [7] (λi wr=>∃k:X,k<=l.length/\i=I k/\Hd (∀j,j<k->Ez (nx l j)=true)/\w=wr) (λi _=>l.length-(intOf i).toNat)
 case atStart=>exact⟨0,Nat.zero_le _,rfl,(λj hj=>by omega:∀j,j<0->Ez (nx l j)=true),rfl⟩
 case round=>
  obtain⟨k,hk,rfl,HA,rfl⟩:=hrel
  by_cases aj:k<l.length
  ·obtain⟨b,off,rfl,c1⟩:=hc.nx k aj;have gh:=hs k;unfold maxLen at gh;obtain⟨v,hv⟩:=Aj (Ez (nx l k));have HV:Hd (Ez (nx l k)=v):=hv;have HN:Hd (∀W:E,Calls prog 83 #[S (nx l k)] W λe w'=>e=H (F v)/\W=w'):=λW=>by rw[<- hv];exact Dm _ W gh
   clear hc hs hv;generalize nx l k=s at c1 HN gh;cases v
   ·go_wp2_with (go_at_call 83;refine(HN.o _).mono ?_;rintro e w' ⟨rfl,rfl⟩)
    go_ret;exact⟨rfl,false,rfl,Ed (λh=>by have:=h k aj;rw[HV.o]at this;cases this)⟩
   ·go_wp2_with (go_at_call 83;refine(HN.o _).mono ?_;rintro e w' ⟨rfl,rfl⟩)
    go_roundw
    case rel=>exact⟨k+1,qb,qj,Cw HA.o HV.o,trivial⟩
    case measure=>simp[intOf];omega
  ·go_wp2;go_ret;exact⟨rfl,true,rfl,Gp (λj hj=>HA.o j qb)⟩
end Go.Proofs.YtoakjccojifagaaGreatDoor
