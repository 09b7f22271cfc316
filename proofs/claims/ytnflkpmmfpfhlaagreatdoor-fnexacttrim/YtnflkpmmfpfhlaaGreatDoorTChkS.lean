import Derived.Test.YtnflkpmmfpfhlaaGreatDoorTNWork2
namespace Go.Proofs.YtnflkpmmfpfhlaaGreatDoor
open _root_.Go.Proofs.Tryz Go.RowKit
open Value renaming slice->J,string->S,bool->F,agg->G,tuple->Y
open Option renaming some->M,none->N
open Obj renaming cells->O
open Go renaming Value->Z,World->E
open Ending renaming returned->H
open _root_ renaming List->L,Nat->X
set_option linter.unusedVariables false
set_option maxHeartbeats 8000000
set_option maxRecDepth 100000
set_option linter.unusedSimpArgs false
variable {i k B n cap m:X} {is:L I3} {w w':E} {a:Option Addr} {ss:L S2} {l:L By} {P:Prop} {ts:L T2} {t:By} {v:Int}
theorem l2InsOk_0(o:X)(wd t:By)(n:Int)(w:E)(Hw:Hd (∀w,Calls prog 132 #[I o] w λe w'=>e=H (Y #[S wd,I 0])/\w=w'))(T9:wd.toList.isEmpty=false)(ht:t.size<=9223372036854775807):Calls prog 105 #[G #[I o,S t,I n]] w λe w'=>Bw w w'/\e=H (F (decide ((t.size:Int)<=0)&&decide (0<=n)&&decide (n<=0))):=by
 have he:=Rs t
 by_cases hz:t.size=0
 ·have he1:t.toList.isEmpty=true:=qhi;clear he;have hd0:decide ((2000:Int)<t.size)=false:=qhj
  by_cases hn:n=0
  ·have hd:(n == 0)=true:=qbg;rw[show(decide ((t.size:Int)<=0)&&decide (0<=n)&&decide (n<=0))=true from qej];clear hz;exact qjy
  ·have hd:(n == 0)=false:=qbg;exact qiz
 ·have he1:t.toList.isEmpty=false:=qhe;clear he;exact qiz
theorem l2InsOk_1(o:X)(wd t:By)(n:Int)(w:E)(Hw:Hd (∀w,Calls prog 132 #[I o] w λe w'=>e=H (Y #[S wd,I 1])/\w=w'))(T9:wd.toList.isEmpty=false)(ht:t.size<=9223372036854775807):Calls prog 105 #[G #[I o,S t,I n]] w λe w'=>Bw w w'/\e=H (F (decide ((t.size:Int)<=2000)&&decide (0<=n)&&decide (n<=0))):=by
 by_cases hz:t.size<=2000
 ·have hd0:decide ((2000:Int)<t.size)=false:=qj
  by_cases hn:n=0
  ·have hd:(n == 0)=true:=qbg;rw[show(decide ((t.size:Int)<=2000)&&decide (0<=n)&&decide (n<=0))=true from qej];exact qjy
  ·have hd:(n == 0)=false:=qbg;exact qjc
 ·have hd0:decide ((2000:Int)<t.size)=true:=qj;exact qjc
theorem l2InsOk_2(o:X)(wd t:By)(n:Int)(w:E)(Hw:Hd (∀w,Calls prog 132 #[I o] w λe w'=>e=H (Y #[S wd,I 2])/\w=w'))(T9:wd.toList.isEmpty=false)(ht:t.size<=9223372036854775807):Calls prog 105 #[G #[I o,S t,I n]] w λe w'=>Bw w w'/\e=H (F (decide ((t.size:Int)<=0)&&decide (0<=n)&&decide (n<=2000))):=by
 have he:=Rs t
 by_cases hz:t.size=0
 ·have he1:t.toList.isEmpty=true:=qhi;clear he;have hd0:decide ((2000:Int)<t.size)=false:=qhj
  by_cases hn:0<=n
  ·have hd:decide (0<=n)=true:=qbg
   by_cases hm:n<=2000
   ·(have hd2:decide (n<=2000)=true:=by simpa using hm);rw[show(decide ((t.size:Int)<=0)&&decide (0<=n)&&decide (n<=2000))=true from qej];exact qjx
   ·(have hd2:decide (n<=2000)=false:=by simpa using hm);exact qfd
  ·have hd:decide (0<=n)=false:=qbg;exact qfd
 ·have he1:t.toList.isEmpty=false:=qhe;clear he;exact qfd
theorem l2InsOk_3(o:X)(wd t:By)(n:Int)(w:E)(Hw:Hd (∀w,Calls prog 132 #[I o] w λe w'=>e=H (Y #[S wd,I 3])/\w=w'))(T9:wd.toList.isEmpty=false)(ht:t.size<=9223372036854775807):Calls prog 105 #[G #[I o,S t,I n]] w λe w'=>Bw w w'/\e=H (F (decide ((t.size:Int)<=0)&&decide (0<=n)&&decide (n<=200))):=by
 have he:=Rs t
 by_cases hz:t.size=0
 ·have he1:t.toList.isEmpty=true:=qhi;clear he;have hd0:decide ((2000:Int)<t.size)=false:=qhj
  by_cases hn:0<=n
  ·have hd:decide (0<=n)=true:=qbg
   by_cases hm:n<=200
   ·(have hd2:decide (n<=200)=true:=by simpa using hm);rw[show(decide ((t.size:Int)<=0)&&decide (0<=n)&&decide (n<=200))=true from qej];exact qjx
   ·(have hd2:decide (n<=200)=false:=by simpa using hm);exact qfe
  ·have hd:decide (0<=n)=false:=qbg;exact qfe
 ·have he1:t.toList.isEmpty=false:=qhe;clear he;exact qfe
theorem l2InsOk_in(o:X)(t:By)(n:Int)(w:E)(h1:1<=o)(h2:o<=15)(ht:t.size<=9223372036854775807):Calls prog 105 #[G #[I o,S t,I n]] w λe w'=>Bw w w'/\e=H (F (decide ((t.size:Int)<=Kt (Er o))&&decide (0<=n)&&decide (n<=Pa (Er o)))):=by
 have T9:=Wr o h1 h2
 have hw:=λw=>l2Word_in o w h1 h2
 rcases kind_cases o with hk|hk|hk|hk
 ·rw[hk]at hw ⊢;exact l2InsOk_0 o _ t n w hw T9 ht
 ·rw[hk]at hw ⊢;exact l2InsOk_1 o _ t n w hw T9 ht
 ·rw[hk]at hw ⊢;exact l2InsOk_2 o _ t n w hw T9 ht
 ·rw[hk]at hw ⊢;exact l2InsOk_3 o _ t n w hw T9 ht
def Av(is:L I3):Bool:=decide (1<=is.length)&&decide (is.length<=200)&&decide (∀i,i<is.length->Hk (ix is i)=true)
theorem Yw{i:I3}(h:i.op<1\/15<i.op):Hk i=false:=by
 rw[Bool.eq_false_iff]
 simp only[Hk,ne_eq,Bool.and_eq_true,decide_eq_true_eq]
 omega
theorem insOk_in(o:X)(t:By)(n:Int)(h1:1<=o)(h2:o<=15):Hk ⟨o,t,n⟩=(decide ((t.size:Int)<=Kt (Er o))&&decide (0<=n)&&decide (n<=Pa (Er o))):=by
 have d1:decide (1<=(o:Int))=true:=qj
 have d2:decide ((o:Int)<=15)=true:=qj
 simp only[Hk,d1,d2,Bool.true_and]
theorem Zi(i:I3)(w:E)(hT:Mv w)(ht:i.text.size<=9223372036854775807):Calls prog 142 #[G #[I i.op,S i.text,I i.n]] w λe w'=>Bw w w'/\e=H (F (Hk i)):=by
 by_cases h:i.op<1\/15<i.op
 ·rw[Yw h];exact Zh i w h
 ·obtain⟨op,t,n⟩:=i;obtain⟨o,rfl⟩:=Int.eq_ofNat_of_zero_le (show 0<=op from qcf);have h1:1<=o:=qcf;have h2:o<=15:=qcf;rw[insOk_in o t n h1 h2];exact validIns_in o t n w _ h1 h2 ht (hT o qg).2.1
theorem l2InsOk_any(i:I3)(w:E)(ht:i.text.size<=9223372036854775807):Calls prog 105 #[G #[I i.op,S i.text,I i.n]] w λe w'=>Bw w w'/\e=H (F (Hk i)):=by
 by_cases h:i.op<1\/15<i.op
 ·rw[Yw h];exact l2InsOk_out i w h
 ·obtain⟨op,t,n⟩:=i;obtain⟨o,rfl⟩:=Int.eq_ofNat_of_zero_le (show 0<=op from qcf);have h1:1<=o:=qcf;have h2:o<=15:=qcf;rw[insOk_in o t n h1 h2];exact l2InsOk_in o t n w h1 h2 ht
theorem Ve(hk:k<is.length)(h:Hk (ix is k)=false):Av is=false:=by
 rw[Bool.eq_false_iff]
 simp only[Av,ne_eq,Bool.and_eq_true,decide_eq_true_eq]
 intro hh
 have:=hh.2 k hk
 rw[h]at this;cases this
theorem Sg(h:∀i,i<is.length->Hk (ix is i)=true):Av is=(decide (1<=is.length)&&decide (is.length<=200)):=by
 simp only[Av,decide_eq_true h,Bool.and_true]
theorem Ik(a:Option Addr)(cap:X)(is:L I3)(w:E)(hc:Cn w a is)(hl:is.length<=1048576)(hs:∀i,(ix is i).text.size<=9223372036854775807):Calls prog 78 #[G #[J a is.length cap]] w λe w'=>Bw w w'/\e=H (F (Av is)):=by
 have ak:Bw w (w.alloc (O #[J a is.length cap] 70)):=aN _ _
 go_enter func78,ntmps78
 go_wp2
 go_loopw [3] (λi wr=>∃k:X,k<=is.length/\i=I k/\(∀i,i<k->Hk (ix is i)=true)/\Bw w wr/\wr.cell? ⟨w.heap.size,0,N⟩=M (J a is.length cap)) (λi _=>is.length-(intOf i).toNat)
 case atStart=>exact⟨0,Nat.zero_le _,rfl,λi hi=>qg,ak,qo⟩
 case round=>
  obtain⟨k,hk,rfl,fw,bc,jd⟩:=hrel;have HK:=Ab fw;clear fw
  by_cases ai:k<is.length
  ·obtain⟨b,off,rfl,c1,c2,c3⟩:=(hc.bl bc) k ai;have ge:=hs k;obtain⟨i,hi⟩:∃i,i=ix is k:=⟨_,rfl⟩;rw[<- hi]at c1 c2 c3 ge;have HI:=Ab hi;clear hi hs hc ak;go_wp2_with fail;refine(l2InsOk_any i _ ge).mono ?_;rintro e w1 ⟨ag,rfl⟩;have lh:=bc.trans (ag.mono bc.size);have hcs1:=Aa ag jd
   by_cases hb:Hk i=true
   ·go_wp2;go_roundw
    case rel=>
     refine⟨k+1,qg,qm,λi' hi'=>?_,lh,hcs1⟩;exact qly
    case measure=>simp[intOf];omega
   ·(have Io:Hk i=false:=by simpa using hb);have hf:Av is=false:=Ve ai (by rw[<- HI.o];exact Io);have HF:=Ab hf;clear hf hb;go_wp2;go_ret;exact⟨lh,qde⟩
  ·have ik:∀i,i<is.length->Hk (ix is i)=true:=λi hi=>HK.o i qg;have HG:=Ab (Sg ik);clear ik hs
   by_cases h1:1<=is.length
   ·have d1:decide ((1:Int)<=is.length)=true:=qj;(have d1':decide (1<=is.length)=true:=by simpa using h1);go_wp2;go_ret;exact⟨bc,by rw[HG.o,d1',Bool.true_and];show Ending.returned (F (decide ((is.length:Int)<=200)))=_;exact congrArg (λb=>Ending.returned (F b)) (by rw[Bool.eq_iff_iff,decide_eq_true_eq,decide_eq_true_eq];omega)⟩
   ·have d1:decide ((1:Int)<=is.length)=false:=qj;(have d1':decide (1<=is.length)=false:=by rw[decide_eq_false_iff_not];exact h1);go_wp2;go_ret;exact⟨bc,by rw[HG.o,d1',Bool.false_and];rfl⟩
theorem progOk_len(h:is.length<1\/200<is.length):Av is=false:=by
 rw[Bool.eq_false_iff]
 simp only[Av,ne_eq,Bool.and_eq_true,decide_eq_true_eq]
 omega
theorem Ld(a:Option Addr)(cap:X)(is:L I3)(w:E)(hT:Mv w)(hc:Cn w a is)(hl:is.length<=1048576)(hs:∀i,(ix is i).text.size<=9223372036854775807):Calls prog 121 #[G #[J a is.length cap]] w λe w'=>Bw w w'/\e=H (F (Av is)):=by
 have ak:Bw w (w.alloc (O #[J a is.length cap] 70)):=aN _ _
 by_cases dm:is.length<1\/200<is.length
 ·rw[progOk_len dm]
  by_cases h1:is.length<1
  ·have d1:decide ((is.length:Int)<1)=true:=qj;go_enter func121,ntmps121;go_wp2;go_ret;exact⟨ak,rfl⟩
  ·have d1:decide ((is.length:Int)<1)=false:=qj;have d2:decide (200<(is.length:Int))=true:=qj;go_enter func121,ntmps121;go_wp2;go_ret;exact⟨ak,rfl⟩
 ·have d1:decide ((is.length:Int)<1)=false:=qj;have d2:decide (200<(is.length:Int))=false:=qj;have l1:1<=is.length:=qg;have l2:is.length<=200:=qg;clear dm;go_enter func121,ntmps121;go_wp2
  go_loopw [18] (λi wr=>∃k:X,k<=is.length/\i=I k/\(∀i,i<k->Hk (ix is i)=true)/\Bw w wr) (λi _=>is.length-(intOf i).toNat)
  case atStart=>exact⟨0,Nat.zero_le _,rfl,λi hi=>qg,ak⟩
  case round=>
   obtain⟨k,hk,rfl,fw,bc⟩:=hrel;have HK:=Ab fw;clear fw
   by_cases ai:k<is.length
   ·obtain⟨b,off,rfl,c1,c2,c3⟩:=(hc.bl bc) k ai;have ge:=hs k;obtain⟨i,hi⟩:∃i,i=ix is k:=⟨_,rfl⟩;rw[<- hi]at c1 c2 c3 ge;have HI:=Ab hi;have hTr:=hT.bl bc;have HTr:=Ab hTr;clear hi hs hc ak hT hTr;go_wp2_with fail;have fh:Bw wr (wr.alloc (O #[I i.op,S i.text,I i.n] 174)):=aN _ _;refine(Zi i _ (HTr.o.bl fh) ge).mono ?_;rintro e w1 ⟨ag,rfl⟩;have lh:Bw w w1:=(bc.trans (fh.mono bc.size)).trans (ag.mono (by simp;have:=bc.size;omega));clear fh ag
    by_cases hb:Hk i=true
    ·go_wp2;go_roundw
     case rel=>
      refine⟨k+1,qg,qm,λi' hi'=>?_,lh⟩;exact qly
     case measure=>simp[intOf];omega
    ·(have Io:Hk i=false:=by simpa using hb);have HF:Hd (Av is=false):=Ve ai (by rw[<- HI.o];exact Io);clear hb;go_wp2;go_ret;exact⟨lh,qde⟩
   ·have ik:∀i,i<is.length->Hk (ix is i)=true:=λi hi=>HK.o i qg
    have HG:Hd (Av is=true):=by
     show Av is=true;rw[Sg ik,decide_eq_true l1,decide_eq_true l2];rfl
    clear ik hs;go_wp2;go_ret;exact⟨bc,by rw[HG.o];rfl⟩
def Ok(is:L S2)(k:X)(xs:L Z):Prop:=
 ∀i,i<k->xs[i*2]?=M (S (sx is i).name)/\xs[i*2+1]?=M (S (sx is i).text)
theorem rowS_own{g:X}{is:L S2}{xs:L Z}(hn:n=is.length)(h:w.ownsRow B 120 2 (J (p_ g) n cap) n xs)(hf:Ok is n xs):Kn w (p_ g) is:=by
 subst hn
 intro i hi
 obtain⟨h1,h2⟩:=hf i hi
 refine⟨g,0,rfl,?_,?_⟩
 ·rw[Nat.zero_add,h.cellAt _ qg];exact h1
 ·rw[Nat.zero_add,h.cellAt _ qg];exact h2
def Cu(w:E)(a:Option Addr)(ss:L By):Prop:=
 ∀i,i<ss.length->∃b off,a=M ⟨b,off,N⟩/\w.cell? ⟨b,off+i,N⟩=M (S (ss.getD i ByteArray.empty))
theorem Cu.bl{ss:L By}(h:Cu w a ss)(hb:Bw w w'):Cu w' a ss:=by
 intro i hi
 obtain⟨b,off,ha,hc⟩:=h i hi
 exact⟨b,off,ha,(hb.cell (p:=⟨b,off+i,N⟩) (World.block_lt_of_cell? w _ hc)).trans hc⟩
def Ax(a b:By):Bool:=Op.bytesLess a.toList b.toList
theorem Ku{a b c:By}(h:Ax a b=true)(k:Ax b c=true):Ax a c=true:=by
 unfold Ax at *
 rw[bytesLess_eq]at *
 simp only[decide_eq_true_eq]at *
 exact List.lt_trans h k
theorem Fc(a:By):Ax a a=false:=by
 unfold Ax
 rw[bytesLess_eq]
 simp only[decide_eq_false_iff_not]
 exact List.lt_irrefl _
def nx(l:L By)(i:X):By:=l.getD i ByteArray.empty
def Hf(l:L By):Prop:=∀i,1<=i->i<l.length->Ax (nx l (i-1)) (nx l i)=true
theorem Hf.lt{l:L By}(h:Hf l):∀(d i:X),i+d+1<l.length->Ax (nx l i) (nx l (i+d+1))=true
 | 0,i,hi=>by have:=h (i+0+1) qg hi;simpa using this
 | d+1,i,hi=>by
  have h1:=Hf.lt h d i qg;have h2:=h (i+(d+1)+1) qg hi;exact Ku h1 (by have:=h2;rw[Nat.add_sub_cancel]at this;exact this)
theorem Hf.pair(h:Hf l){j:X}(n9:i<j)(hj:j<l.length):Ax (nx l i) (nx l j)=true:=by
 have:=h.lt (j-i-1) i qg
 rwa [show i+(j-i-1)+1=j from qg]at this
theorem Eh(h:¬ P):(false=true↔P):=⟨λk=>absurd k qh,λk=>absurd k h⟩
theorem Gv(h:P):(true=true↔P):=⟨λ_=>h,λ_=>rfl⟩
theorem Nt(h:∀j,1<=j->j<m+1->Ax (nx l (j-1)) (nx l j)=true)(hk:Ax (nx l m) (nx l (m+1))=true):∀j,1<=j->j<m+1+1->Ax (nx l (j-1)) (nx l j)=true:=by
 intro j h1 h2
 rcases Nat.lt_or_ge j (m+1)with h3|h3
 ·exact h j h1 h3
 ·obtain rfl:j=m+1:=qg;simpa using hk
theorem Pe(a:Option Addr)(cap:X)(l:L By)(w:E)(hc:Cu w a l)(hl:l.length<=1048576):Calls prog 90 #[J a l.length cap] w λe w'=>Bw w w'/\∃b:Bool,e=H (F b)/\(b=true↔Hf l):=by
 go_enter func90,ntmps90
 go_wp2
 go_loopw [3] (λi wr=>∃m:X,(m=0\/m+1<=l.length)/\i=I (m+1)/\Hd (∀j,1<=j->j<m+1->Ax (nx l (j-1)) (nx l j)=true)/\Bw w wr) (λi _=>l.length+1-(intOf i).toNat)
 case atStart=>exact⟨0,Or.inl rfl,rfl,(λj h1 h2=>by omega:∀j,1<=j->j<0+1->Ax (nx l (j-1)) (nx l j)=true),Below.refl _ _⟩
 case round=>
  obtain⟨m,hm,rfl,HA,am⟩:=hrel
  by_cases ai:m+1<l.length
  ·obtain⟨b,off,rfl,c1⟩:=(hc.bl am) m qg;obtain⟨b',bz,e',c2⟩:=(hc.bl am) (m+1) ai;simp only[Option.some.injEq,Addr.mk.injEq,and_true]at e';obtain⟨rfl,rfl⟩:=e';replace c1:wr.cell? ⟨b,off+m,N⟩=M (S (nx l m)):=c1;replace c2:wr.cell? ⟨b,off+(m+1),N⟩=M (S (nx l (m+1))):=c2;obtain⟨v,hv⟩:=Aj (Ax (nx l m) (nx l (m+1)));have HV:Hd (Ax (nx l m) (nx l (m+1))=v):=hv;unfold Ax at hv;clear hc;generalize nx l m=s at c1 hv;generalize nx l (m+1)=s' at c2 hv;have hltI:(m:Int)+1<(l.length:Int):=qg;cases v
   ·go_wp2;go_region
    all_goals
     go_wp2;go_ret;exact⟨by repeat (first|exact am|apply Below.drew),false,rfl,Eh (λh=>by have:=h (m+1) qg ai;rw[Nat.add_sub_cancel,HV.o]at this;cases this)⟩
   ·go_wp2;go_region
    all_goals
     go_wp2;go_roundw
     case rel=>exact⟨m+1,qg,qm,Nt HA.o HV.o,by repeat (first|exact am|apply Below.drew)⟩
     case measure=>simp[intOf];omega
  ·go_wp2;go_ret;exact⟨am,true,rfl,Gv (λj h1 h2=>HA.o j h1 qg)⟩
theorem Cu.nx{ss:L By}(h:Cu w a ss)(i:X)(hi:i<ss.length):∃b off,a=M ⟨b,off,N⟩/\w.cell? ⟨b,off+i,N⟩=M (S (nx ss i)):=h i hi
def Hs(l:L By):Prop:=∀i,i<l.length->Gg (nx l i)=true
def El(l:L By)(n:By):Prop:=∃j,j<l.length/\nx l j=n
def Pf(l m:L By):Prop:=∃i,i<l.length/\El m (nx l i)
def Au(ss:L S2):L By:=ss.map (·.name)
def Aq(ts:L T2):L By:=ts.map (·.name)
theorem Cd(ss:L S2):(Au ss).length=ss.length:=by simp[Au]
theorem Ca(ts:L T2):(Aq ts).length=ts.length:=by simp[Aq]
theorem Ed(ss:L S2)(i:X):nx (Au ss) i=(sx ss i).name:=by
 unfold nx Au sx
 rw[gG,gG,List.getElem?_map]
 cases ss[i]?<;>rfl
theorem Dt(ts:L T2)(i:X):nx (Aq ts) i=(tx ts i).name:=by
 unfold nx Aq tx
 rw[gG,gG,List.getElem?_map]
 cases ts[i]?<;>rfl
def Ky(ss:L S2):Prop:=∀i,i<ss.length->(sx ss i).text.size<=2000
def ActsOk(ts:L T2):Prop:=∀i,i<ts.length->Av (tx ts i).code=true
open Classical in
noncomputable def Fx (ss:L S2) (ts:L T2):Int:=
 if 200<ss.length+ts.length then 1 else if ¬ (Hs (Au ss)/\Hs (Aq ts)) then 2 else if ¬ Hf (Au ss) then 3 else if ¬ Hf (Aq ts) then 4
 else if Pf (Au ss) (Aq ts) then 5 else if ¬ Ky ss then 6 else if ¬ ActsOk ts then 7 else 0
theorem chk1(h:200<ss.length+ts.length):Fx ss ts=1:=by simp[Fx,h]
theorem chk2(h:¬ 200<ss.length+ts.length)(h2:¬ (Hs (Au ss)/\Hs (Aq ts))):Fx ss ts=2:=by unfold Fx;rw[if_neg h,if_pos h2]
theorem chk3(h:¬ 200<ss.length+ts.length)(h2:Hs (Au ss)/\Hs (Aq ts))(h3:¬ Hf (Au ss)):Fx ss ts=3:=by unfold Fx;rw[if_neg h,if_neg (λk=>k h2),if_pos h3]
theorem chk4(h:¬ 200<ss.length+ts.length)(h2:Hs (Au ss)/\Hs (Aq ts))(h3:Hf (Au ss))(h4:¬ Hf (Aq ts)):Fx ss ts=4:=by unfold Fx;rw[if_neg h,if_neg (λk=>k h2),if_neg (λk=>k h3),if_pos h4]
theorem chk5(h:¬ 200<ss.length+ts.length)(h2:Hs (Au ss)/\Hs (Aq ts))(h3:Hf (Au ss))(h4:Hf (Aq ts))(h5:Pf (Au ss) (Aq ts)):Fx ss ts=5:=by unfold Fx;rw[if_neg h,if_neg (λk=>k h2),if_neg (λk=>k h3),if_neg (λk=>k h4),if_pos h5]
theorem chk6(h:¬ 200<ss.length+ts.length)(h2:Hs (Au ss)/\Hs (Aq ts))(h3:Hf (Au ss))(h4:Hf (Aq ts))(h5:¬ Pf (Au ss) (Aq ts))(h6:¬ Ky ss):Fx ss ts=6:=by unfold Fx;rw[if_neg h,if_neg (λk=>k h2),if_neg (λk=>k h3),if_neg (λk=>k h4),if_neg h5,if_pos h6]
theorem chk7(h:¬ 200<ss.length+ts.length)(h2:Hs (Au ss)/\Hs (Aq ts))(h3:Hf (Au ss))(h4:Hf (Aq ts))(h5:¬ Pf (Au ss) (Aq ts))(h6:Ky ss)(h7:¬ ActsOk ts):Fx ss ts=7:=by unfold Fx;rw[if_neg h,if_neg (λk=>k h2),if_neg (λk=>k h3),if_neg (λk=>k h4),if_neg h5,if_neg (λk=>k h6),if_pos h7]
theorem chk0(h:¬ 200<ss.length+ts.length)(h2:Hs (Au ss)/\Hs (Aq ts))(h3:Hf (Au ss))(h4:Hf (Aq ts))(h5:¬ Pf (Au ss) (Aq ts))(h6:Ky ss)(h7:ActsOk ts):Fx ss ts=0:=by unfold Fx;rw[if_neg h,if_neg (λk=>k h2),if_neg (λk=>k h3),if_neg (λk=>k h4),if_neg h5,if_neg (λk=>k h6),if_neg (λk=>k h7)]
theorem Qb{ss:L By}(hn:n=ss.length)(h:w.ownsRow B 9 1 (J a n cap) n (Ar ss)):Cu w a ss:=by
 subst hn
 intro i hi
 rcases h.2 with⟨_,h0⟩|⟨g,aj,cur,hv,_⟩
 ·omega
 ·obtain⟨rfl,_,rfl⟩:a=p_ g/\True/\cap=aj:=by simpa using hv
  refine⟨g,0,rfl,?_⟩;rw[Nat.zero_add,h.cellAt i qg];simp[Ar,gG,Hq hi]
theorem Yb(l:L By)(k:X)(h:k<l.length):Ar (l.take k)++[S (nx l k)]=Ar (l.take (k+1)):=by
 rw[List.take_succ_eq_append_getElem h]
 simp only[Ar,List.map_append,List.map_cons,List.map_nil,nx,gG,Hq h,Option.getD_some]
theorem Mo(a ta:Option Addr)(cap tn tc:X)(is:L S2)(w:E)(hc:Kn w a is)(hl:is.length<=1048576):Calls prog 87 #[G #[J a is.length cap,J ta tn tc]] w λe w'=>Bw w w'/\∃(a':Option Addr)(aj:X),e=H (J a' is.length aj)/\Cu w' a' (Au is):=by
 obtain⟨i0,hi,bq,bi,ci⟩:=info_parts Tryz.info9b
 have hnl:=Cd is
 have ak:Bw w (w.alloc (O #[J a is.length cap,J ta tn tc] 42)):=aN _ _
 go_enter func87,ntmps87
 go_wp2
 go_loopw [3,9] (λo i wr=>∃(k:X)(ao:Option Addr)(cp:X),k<=is.length/\i=I k/\o=J ao k cp/\wr.ownsRow w.heap.size 9 1 (J ao k cp) k (Ar ((Au is).take k))/\Bw w wr) (λ_ i _=>is.length-(intOf i).toNat)
 case atStart=>exact⟨0,N,0,Nat.zero_le _,rfl,rfl,⟨qal,Or.inl ⟨rfl,rfl⟩⟩,ak⟩
 case round=>
  obtain⟨k,ao,cp,hk,rfl,rfl,ah,am⟩:=hrel;have hlt0:=am.size
  by_cases ai:k<is.length
  ·obtain⟨b,off,rfl,c1,c2⟩:=(hc.bl am) k ai;have mo:=Yb (Au is) k qg;rw[Ed]at mo;generalize sx is k=i at *;have HS:=Ab mo;clear mo hc;have yp:=(ah.alloc (O #[S i.name,S i.text] 120)).alloc (O #[S i.name] 9)
   go_wp2_with (first|(at_builtin;refine wpList_append_own _ rfl (.tmp 13) (.tmp 16) 22 rfl w.heap.size 9 i0 ze 1 16 underlying22 hi bq bi ci rfl qh _ _ _ rfl yp ⟨wr.heap.size+1,0,N⟩ 1 1 [S i.name] rfl rfl ?_ qak qq qg qj ?_;(focus(have:=cell_one_new (wr.alloc (O #[S i.name,S i.text] 120)) (S i.name) 9;simpa using this));intro v' w2 aw ae dj))
   have gy:Bw w w2:=((am.alloc qg _).alloc qj _).grown ae qj (λk hk=>(ah.lt k hk).1);exact qji
  ·exact qks
theorem Mn(a ta:Option Addr)(cap tn tc:X)(is:L T2)(w:E)(hc:Km w a is)(hl:is.length<=1048576):Calls prog 88 #[G #[J ta tn tc,J a is.length cap]] w λe w'=>Bw w w'/\∃(a':Option Addr)(aj:X),e=H (J a' is.length aj)/\Cu w' a' (Aq is):=by
 obtain⟨i0,hi,bq,bi,ci⟩:=info_parts Tryz.info9b
 have hnl:=Ca is
 have ak:Bw w (w.alloc (O #[J ta tn tc,J a is.length cap] 42)):=aN _ _
 go_enter func88,ntmps88
 go_wp2
 go_loopw [3,9] (λo i wr=>∃(k:X)(ao:Option Addr)(cp:X),k<=is.length/\i=I k/\o=J ao k cp/\wr.ownsRow w.heap.size 9 1 (J ao k cp) k (Ar ((Aq is).take k))/\Bw w wr) (λ_ i _=>is.length-(intOf i).toNat)
 case atStart=>exact⟨0,N,0,Nat.zero_le _,rfl,rfl,⟨qal,Or.inl ⟨rfl,rfl⟩⟩,ak⟩
 case round=>
  obtain⟨k,ao,cp,hk,rfl,rfl,ah,am⟩:=hrel;have hlt0:=am.size
  by_cases ai:k<is.length
  ·obtain⟨b,off,rfl,c1,x,p,c2,c3⟩:=(hc.bl am) k ai;have mo:=Yb (Aq is) k qg;rw[Dt]at mo;generalize tx is k=i at *;have HS:=Ab mo;clear mo hc;have yp:=(ah.alloc (O #[S i.name,J x i.code.length p] 123)).alloc (O #[S i.name] 9)
   go_wp2_with (first|(at_builtin;refine wpList_append_own _ rfl (.tmp 13) (.tmp 16) 22 rfl w.heap.size 9 i0 ze 1 16 underlying22 hi bq bi ci rfl qh _ _ _ rfl yp ⟨wr.heap.size+1,0,N⟩ 1 1 [S i.name] rfl rfl ?_ qak qq qg qj ?_;(focus(have:=cell_one_new (wr.alloc (O #[S i.name,J x i.code.length p] 123)) (S i.name) 9;simpa using this));intro v' w2 aw ae dj))
   have gy:Bw w w2:=((am.alloc qg _).alloc qj _).grown ae qj (λk hk=>(ah.lt k hk).1);exact qji
  ·exact qks
theorem Uo(a:Option Addr)(cap:X)(l:L By)(w:E)(hc:Cu w a l)(hl:l.length<=1048576)(hs:∀i,(nx l i).size<=maxLen):Calls prog 89 #[J a l.length cap] w λe w'=>w=w'/\∃b:Bool,e=H (F b)/\(b=true↔Hs l):=by
 go_enter func89,ntmps89
 go_wp2
 go_loopw [7] (λi wr=>∃k:X,k<=l.length/\i=I k/\Hd (∀j,j<k->Gg (nx l j)=true)/\w=wr) (λi _=>l.length-(intOf i).toNat)
 case atStart=>exact⟨0,Nat.zero_le _,rfl,(λj hj=>by omega:∀j,j<0->Gg (nx l j)=true),rfl⟩
 case round=>
  obtain⟨k,hk,rfl,HA,rfl⟩:=hrel
  by_cases ai:k<l.length
  ·obtain⟨b,off,rfl,c1⟩:=hc.nx k ai;have ge:=hs k;unfold maxLen at ge;obtain⟨v,hv⟩:=Aj (Gg (nx l k));have HV:=Ab hv;have HN:Hd (∀W:E,Calls prog 96 #[S (nx l k)] W λe w'=>e=H (F v)/\W=w'):=λW=>by rw[<- hv];exact Dq _ W ge
   clear hc hs hv;generalize nx l k=s at c1 HN ge;cases v
   ·go_wp2_with (go_at_call 96;refine(HN.o _).mono ?_;rintro e w' ⟨rfl,rfl⟩)
    go_ret;exact⟨rfl,false,rfl,Eh (λh=>by have:=h k ai;rw[HV.o]at this;cases this)⟩
   ·go_wp2_with (go_at_call 96;refine(HN.o _).mono ?_;rintro e w' ⟨rfl,rfl⟩)
    go_roundw
    case rel=>exact⟨k+1,qg,qm,Cw HA.o HV.o,trivial⟩
    case measure=>simp[intOf];omega
  ·go_wp2;go_ret;exact⟨rfl,true,rfl,Gv (λj hj=>HA.o j qg)⟩
theorem Su(s t:By)(w:E):Calls prog 140 #[S s,S t] w λe w'=>e=H (F (Ax s t))/\w=w':=by
 unfold Ax
 go_enter func140,ntmps140
 exact qam
theorem lo_step(h:Hf l)(hm:m<l.length)(hv:Ax (nx l m) t=true):∀j,j<m+1->Ax (nx l j) t=true:=by
 intro j hj
 rcases Nat.lt_or_ge j m with h1|h1
 ·exact Ku (h.pair h1 hm) hv
 ·obtain rfl:j=m:=qg;exact hv
theorem Uk(h:Hf l)(hv:Ax (nx l m) t=false):∀j,m<=j->j<l.length->Ax (nx l j) t=false:=by
 intro j hj hl
 rcases Nat.lt_or_ge m j with h1|h1
 ·rw[Bool.eq_false_iff];intro h2;have:=Ku (h.pair h1 hl) h2;rw[hv]at this;cases this
 ·obtain rfl:j=m:=qg;exact hv
theorem Nk(h:Hf l)(h1:∀j,j<i->Ax (nx l j) t=true)(h2:∀j,i<=j->j<l.length->Ax (nx l j) t=false)(k:El l t):i<l.length/\nx l i=t:=by
 obtain⟨j,hj,e⟩:=k
 rcases Nat.lt_trichotomy j i with hji|hji|hji
 ·have:=h1 j hji;rw[e,Fc]at this;cases this
 ·subst hji;exact⟨hj,e⟩
 ·have:=h.pair hji hj;rw[e,h2 i (Nat.le_refl _) qg]at this;cases this
theorem Rw(a:Option Addr)(cap:X)(l:L By)(t:By)(w:E)(hc:Cu w a l)(hl:l.length<=1048576)(fc:Hf l):Calls prog 120 #[J a l.length cap,S t] w λe w'=>w=w'/\∃(r:Int)(b:Bool),e=H (Y #[I r,F b])/\(b=true↔El l t):=by
 have jt:=Ab fc
 clear fc
 go_enter func120,ntmps120
 go_wp2
 go_loopw [7,8] (λi j wr=>∃lo hi:X,i=I lo/\j=I hi/\lo<=hi/\hi<=l.length/\Hd (∀j,j<lo->Ax (nx l j) t=true)/\Hd (∀j,hi<=j->j<l.length->Ax (nx l j) t=false)/\w=wr) (λi j _=>(intOf j).toNat-(intOf i).toNat)
 case atStart=>exact⟨0,l.length,rfl,rfl,Nat.zero_le _,Nat.le_refl _,(λj hj=>by omega:∀j,j<0->Ax (nx l j) t=true),(λj h1 h2=>by omega:∀j,l.length<=j->j<l.length->Ax (nx l j) t=false),rfl⟩
 case round=>
  obtain⟨lo,hi,rfl,rfl,h1,h2,HL,HH,rfl⟩:=hrel
  by_cases ai:lo<hi
  ·obtain⟨m,e1,sd,td⟩:∃m:X,((lo:Int)+(hi:Int)) / 2=(m:Int)/\lo<=m/\m<hi:=⟨(lo+hi) / 2,qg,qg,qg⟩;obtain⟨b,off,rfl,c1⟩:=hc.nx m qg;obtain⟨v,hv⟩:=Aj (Ax (nx l m) t);have HV:=Ab hv;have HN:Hd (∀W:E,Calls prog 140 #[S (nx l m),S t] W λe w'=>e=H (F v)/\W=w'):=λW=>by rw[<- hv];exact Su _ _ W
   clear hc hv;generalize nx l m=s at c1 HN;have E4:(m:Int)<(l.length:Int):=qg;cases v
   ·go_wp2_with (go_at_call 140;refine(HN.o _).mono ?_;rintro e w' ⟨rfl,rfl⟩)
    go_roundw
    case rel=>exact⟨lo,m,rfl,rfl,sd,qg,HL.o,Uk jt.o HV.o,trivial⟩
    case measure=>simp[intOf];omega
   ·go_wp2_with (go_at_call 140;refine(HN.o _).mono ?_;rintro e w' ⟨rfl,rfl⟩)
    go_roundw
    case rel=>exact⟨m+1,hi,qm,rfl,qg,qg,lo_step jt.o qg HV.o,HH.o,trivial⟩
    case measure=>simp[intOf];omega
  ·obtain rfl:lo=hi:=qg
   by_cases yq:lo<l.length
   ·obtain⟨b,off,rfl,c1⟩:=hc.nx lo yq;have hlI:(lo:Int)<(l.length:Int):=qg
    by_cases he:nx l lo=t
    ·have jh:=Fk he;have HE:=Ab he;clear hc he;generalize nx l lo=s at c1 jh;go_wp2
     go_ret2
     exact⟨rfl,_,true,rfl,Gv ⟨lo,yq,HE.o⟩⟩
    ·have jh:=Hi he;have HE:=Ab he;clear hc he;have hss:=Fk (rfl:nx l lo=nx l lo);generalize nx l lo=s at c1 jh hss;go_wp2
     go_ret2
     exact⟨rfl,_,false,rfl,Eh (λh=>HE.o (Nk jt.o HL.o HH.o h).2)⟩
   ·have hlI:¬ (lo:Int)<(l.length:Int):=qg;have G6:=Ab yq;go_wp2
    go_ret2
    exact⟨rfl,_,Or.inl ⟨rfl,λh=>G6.o (Nk jt.o HL.o HH.o h).1⟩⟩
theorem Xe(a a':Option Addr)(cap aj:X)(l m:L By)(w:E)(hc:Cu w a l)(pa:Cu w a' m)(hl:l.length<=1048576)(M3:m.length<=1048576)(fc:Hf m):Calls prog 91 #[J a l.length cap,J a' m.length aj] w λe w'=>w=w'/\∃b:Bool,e=H (F b)/\(b=true↔Pf l m):=by
 have HB:Hd (∀t:By,Calls prog 120 #[J a' m.length aj,S t] w λe w'=>w=w'/\∃(r:Int)(b:Bool),e=H (Y #[I r,F b])/\(b=true↔El m t)):=λt=>Rw a' aj m t w pa M3 fc
 clear pa fc
 go_enter func91,ntmps91
 go_wp2
 go_loopw [11] (λi wr=>∃k:X,k<=l.length/\i=I k/\Hd (∀j,j<k->¬ El m (nx l j))/\w=wr) (λi _=>l.length-(intOf i).toNat)
 case atStart=>exact⟨0,Nat.zero_le _,rfl,(λj hj=>by omega:∀j,j<0->¬ El m (nx l j)),rfl⟩
 case round=>
  obtain⟨k,hk,rfl,HA,rfl⟩:=hrel
  by_cases ai:k<l.length
  ·obtain⟨b,off,rfl,c1⟩:=hc.nx k ai;clear hc;obtain⟨s,es⟩:=Aj (nx l k);have ES:=Ab es;rw[es]at c1;clear es;go_wp2_with fail;refine(HB.o s).mono ?_;rintro e w' ⟨rfl,r,b,rfl,hb⟩;cases b
   ·(have HNo:Hd (¬ El m s):=λh=>by have:=hb.mpr h;cases this);clear hb;go_wp2;go_roundw
    case rel=>exact⟨k+1,qg,qm,Cw HA.o (by rw[ES.o];exact HNo.o),trivial⟩
    case measure=>simp[intOf];omega
   ·have HYes:Hd (El m s):=hb.mp rfl;clear hb;go_wp2;go_ret;exact⟨rfl,true,rfl,Gv ⟨k,ai,by rw[ES.o];exact HYes.o⟩⟩
  ·go_wp2;go_ret;exact⟨rfl,false,rfl,Eh (λ⟨j,hj,h⟩=>HA.o j qg h)⟩
theorem Un(a:Option Addr)(cap:X)(is:L S2)(w:E)(hc:Kn w a is)(hl:is.length<=1048576)(hs:∀i,(sx is i).text.size<=maxLen):Calls prog 92 #[J a is.length cap] w λe w'=>Bw w w'/\∃b:Bool,e=H (F b)/\(b=true↔Ky is):=by
 go_enter func92,ntmps92
 go_wp2
 go_loopw [7] (λi wr=>∃k:X,k<=is.length/\i=I k/\Hd (∀j,j<k->(sx is j).text.size<=2000)/\Bw w wr) (λi _=>is.length-(intOf i).toNat)
 case atStart=>exact⟨0,Nat.zero_le _,rfl,(λj hj=>by omega:∀j,j<0->(sx is j).text.size<=2000),Below.refl _ _⟩
 case round=>
  obtain⟨k,hk,rfl,HA,am⟩:=hrel
  by_cases ai:k<is.length
  ·obtain⟨b,off,rfl,c1,c2⟩:=(hc.bl am) k ai;have ge:=hs k;unfold maxLen at ge;obtain⟨i,ei⟩:=Aj (sx is k);have EI:=Ab ei;rw[ei]at c1 c2 ge;clear hc hs ei;have fs:(k:Int)<(is.length:Int):=qg
   by_cases ht:i.text.size<=2000
   ·go_wp2;go_roundw
    case rel=>exact⟨k+1,qg,qm,Cw HA.o (by rw[EI.o];exact ht),am.alloc am.size _⟩
    case measure=>simp[intOf];omega
   ·go_wp2;go_ret;exact⟨am.alloc am.size _,false,rfl,Eh (λh=>by have:=h k ai;rw[EI.o]at this;omega)⟩
  ·go_wp2;go_ret;exact⟨am,true,rfl,Gv (λj hj=>HA.o j qg)⟩
theorem Re(a:Option Addr)(cap:X)(is:L T2)(w:E)(hT:Mv w)(hc:Km w a is)(hl:is.length<=1048576)(hk:∀i,i<is.length->(tx is i).code.length<=1048576)(hs:∀i j,(ix (tx is i).code j).text.size<=maxLen):Calls prog 93 #[J a is.length cap] w λe w'=>Bw w w'/\∃b:Bool,e=H (F b)/\(b=true↔ActsOk is):=by
 have HK:=Ab hk
 have HX:=Ab hs
 clear hk hs
 go_enter func93,ntmps93
 go_wp2
 go_loopw [7] (λi wr=>∃k:X,k<=is.length/\i=I k/\Hd (∀j,j<k->Av (tx is j).code=true)/\Bw w wr) (λi _=>is.length-(intOf i).toNat)
 case atStart=>exact⟨0,Nat.zero_le _,rfl,(λj hj=>by omega:∀j,j<0->Av (tx is j).code=true),Below.refl _ _⟩
 case round=>
  obtain⟨k,hk,rfl,HA,am⟩:=hrel
  by_cases ai:k<is.length
  ·obtain⟨b,off,rfl,c1,x,p,c2,c3⟩:=(hc.bl am) k ai;have C6:=HK.o k ai;have L0:=HX.o k;obtain⟨i,ei⟩:=Aj (tx is k);have EI:=Ab ei;rw[ei]at c1 c2 c3 C6 L0;clear hc ei;have fs:(k:Int)<(is.length:Int):=qg;have fh:Bw wr (wr.alloc (O #[S i.name,J x i.code.length p] 123)):=aN _ _;have HN:Hd (Calls prog 121 #[G #[J x i.code.length p]] (wr.alloc (O #[S i.name,J x i.code.length p] 123)) λe w'=>Below (wr.alloc (O #[S i.name,J x i.code.length p] 123)).heap.size (wr.alloc (O #[S i.name,J x i.code.length p] 123)) w'/\e=H (F (Av i.code))):=Ld x p i.code _ ((hT.bl am).bl fh) (c3.bl fh) C6 L0;have HB:=Ab fh;clear fh L0 c3 hT;obtain⟨v,hv⟩:=Aj (Av i.code);rw[hv]at HN;have HV:=Ab hv;clear hv;cases v
   ·go_wp2_with (go_at_call 121;refine HN.o.mono ?_;rintro e w1 ⟨ag,rfl⟩)
    go_ret;exact⟨bt (bt am HB.o) ag,false,rfl,Eh (λh=>by have:=h k ai;rw[EI.o,HV.o]at this;cases this)⟩
   ·go_wp2_with (go_at_call 121;refine HN.o.mono ?_;rintro e w1 ⟨ag,rfl⟩)
    go_roundw
    case rel=>exact⟨k+1,qg,qm,Cw HA.o (by rw[EI.o];exact HV.o),bt (bt am HB.o) ag⟩
    case measure=>simp[intOf];omega
  ·go_wp2;go_ret;exact⟨am,true,rfl,Gv (λj hj=>HA.o j qg)⟩
theorem Pw(n:X)(a:Option Addr)(cap:X)(l:L By)(w:E)(hn:n=l.length)(hc:Cu w a l)(hl:n<=1048576)(hs:∀i,(nx l i).size<=maxLen):Calls prog 89 #[J a n cap] w λe w'=>w=w'/\∃b:Bool,e=H (F b)/\(b=true↔Hs l):=by
 subst hn;exact Uo a cap l w hc hl hs
theorem Sx(n:X)(a:Option Addr)(cap:X)(l:L By)(w:E)(hn:n=l.length)(hc:Cu w a l)(hl:n<=1048576):Calls prog 90 #[J a n cap] w λe w'=>Bw w w'/\∃b:Bool,e=H (F b)/\(b=true↔Hf l):=by
 subst hn;exact Pe a cap l w hc hl
theorem shareName_n(n n':X)(a a':Option Addr)(cap aj:X)(l m:L By)(w:E)(hn:n=l.length)(hn':n'=m.length)(hc:Cu w a l)(pa:Cu w a' m)(hl:n<=1048576)(M3:n'<=1048576)(fc:Hf m):Calls prog 91 #[J a n cap,J a' n' aj] w λe w'=>w=w'/\∃b:Bool,e=H (F b)/\(b=true↔Pf l m):=by
 subst hn;subst hn';exact Xe a a' cap aj l m w hc pa hl M3 fc
theorem Ie{b:Bool}(h:b=true↔P)(hb:b=false):¬ P:=λk=>by rw[h.mpr k]at hb;cases hb
theorem Pd(sa ta:Option Addr)(c1 c2:X)(ss:L S2)(ts:L T2)(w:E)(hT:Mv w)(h:Li w sa ss ta ts)(ku:Ep ss ts):Calls prog 59 #[G #[J sa ss.length c1,J ta ts.length c2]] w λe w'=>Bw w w'/\e=H (I (Fx ss ts)):=by
 have ak:Bw w (w.alloc (O #[J sa ss.length c1,J ta ts.length c2] 42)):=aN _ _
 obtain⟨rs,rt,ls,lt,ns,xs,nt,lc,xt⟩:=h
 obtain⟨l1,l2,l3⟩:=ku
 by_cases zx:200<ss.length+ts.length
 ·have HC:Hd (Fx ss ts=1):=chk1 zx;clear rs rt ns xs nt lc xt l3;go_enter func59,ntmps59;go_wp2;go_ret;exact⟨ak,qai⟩
 ·have n6:Hd (¬ 200<ss.length+ts.length):=zx;have RS:=Ab rs;have RT:=Ab rt;have NS:Hd (∀i,(nx (Au ss) i).size<=maxLen):=λi=>by rw[Ed];exact ns i
  have NT:Hd (∀i,(nx (Aq ts) i).size<=maxLen):=λi=>by rw[Dt];exact nt i
  have XS:=Ab xs;have XT:=Ab xt;have L3:=Ab l3;have HT:=Ab hT;clear rs rt ns xs nt lc xt l3 hT;have hb0d:=ak.drew;have py:=Ab hb0d;clear ak hb0d;have HE1:=Cd ss;have HE2:=Ca ts;have E1:=Ab HE1.symm;have E2:=Ab HE2.symm;clear HE1 HE2;go_enter func59,ntmps59;go_wp2_with fail
  go_region_held3 (λw'=>w'.cell? ⟨w.heap.size,0,N⟩=M (J sa ss.length c1)/\w'.cell? ⟨w.heap.size,1,N⟩=M (J ta ts.length c2))
   (first|assumption|(simp[go_sem];done)|exact⟨Aa gy B9.1,Aa gy B9.2⟩|exact⟨Aa cq qo,Aa cq qo⟩)
   (first
    | (go_at_call 88;refine(Mn ta sa c2 ss.length c1 ts _ (RT.o.bl (bt py.o cq)) l2).mono ?_;rintro e wB ⟨gy,a2,p2,rfl,hn2⟩;have L7:=hnA.out.bl gy)
    | (go_at_call 87;refine(Mo sa ta c1 ts.length c2 ss _ (RS.o.bl (bt py.o cq)) l1).mono ?_;rintro e wB ⟨gy,a1,p1,rfl,L7⟩;have hn2:=hnA.out.bl gy)
    | (go_at_call 87;refine(Mo sa ta c1 ts.length c2 ss _ (RS.o.bl py.o) l1).mono ?_;rintro e wA ⟨cq,a1,p1,rfl,hnA0⟩;have hnA:Hd (Cu wA a1 (Au ss)):=hnA0;clear hnA0;have B9:wA.cell? ⟨w.heap.size,0,N⟩=M (J sa ss.length c1)/\wA.cell? ⟨w.heap.size,1,N⟩=M (J ta ts.length c2):=⟨Aa cq qo,Aa cq qo⟩)
    | (go_at_call 88;refine(Mn ta sa c2 ss.length c1 ts _ (RT.o.bl py.o) l2).mono ?_;rintro e wA ⟨cq,a2,p2,rfl,hnA0⟩;have hnA:Hd (Cu wA a2 (Aq ts)):=hnA0;clear hnA0;have B9:wA.cell? ⟨w.heap.size,0,N⟩=M (J sa ss.length c1)/\wA.cell? ⟨w.heap.size,1,N⟩=M (J ta ts.length c2):=⟨Aa cq qo,Aa cq qo⟩))
  have hkB:wB.cell? ⟨w.heap.size,0,N⟩=M (J sa ss.length c1)/\wB.cell? ⟨w.heap.size,1,N⟩=M (J ta ts.length c2):=by assumption
  obtain⟨k0,k1⟩:=hkB;have I2:=bt (bt py.o cq) gy;have N1:=Ab L7;have N2:=Ab hn2;clear cq gy B9 hnA L7 hn2;go_wp2_with fail;refine(Pw ss.length a1 p1 (Au ss) _ E1.o N1.o l1 NS.o).mono ?_;rintro e w' ⟨rfl,b1,rfl,ag⟩;have d6:=Ab ag;clear ag;cases b1
  ·have HC:Hd (Fx ss ts=2):=chk2 n6.o (λh=>Ie d6.o rfl h.1);go_wp2_with fail;go_ret;exact⟨I2,qai⟩
  ·have H1:Hd (Hs (Au ss)):=d6.o.mp rfl;clear d6;go_wp2_with fail;refine(Pw ts.length a2 p2 (Aq ts) _ E2.o N2.o l2 NT.o).mono ?_;rintro e w' ⟨rfl,b2,rfl,af⟩;have dy:=Ab af;clear af;cases b2
   ·have HC:Hd (Fx ss ts=2):=chk2 n6.o (λh=>Ie dy.o rfl h.2);go_wp2_with fail;go_ret;exact⟨I2,qai⟩
   ·have H2:Hd (Hs (Au ss)/\Hs (Aq ts)):=⟨H1.o,dy.o.mp rfl⟩;clear H1 dy;go_wp2_with fail;refine(Sx ss.length a1 p1 (Au ss) _ E1.o N1.o l1).mono ?_;rintro e w3 ⟨au,b3,rfl,hb3'⟩;have ia:=Ab hb3';have ig:=bt I2 au;have N13:=Ab (N1.o.bl au);have N23:=Ab (N2.o.bl au);have k03:=Aa au k0;have k13:=Aa au k1;clear hb3' au I2 N1 N2 k0 k1;cases b3
    ·have HC:Hd (Fx ss ts=3):=chk3 n6.o H2.o (Ie ia.o rfl);go_wp2_with fail;go_ret;exact⟨ig,qai⟩
    ·have H3:Hd (Hf (Au ss)):=ia.o.mp rfl;clear ia;go_wp2_with fail;refine(Sx ts.length a2 p2 (Aq ts) _ E2.o N23.o l2).mono ?_;rintro e w4 ⟨bp,b4,rfl,hb4'⟩;have ox:=Ab hb4';have jj:=bt ig bp;have N14:=Ab (N13.o.bl bp);have N24:=Ab (N23.o.bl bp);have k04:=Aa bp k03;have k14:=Aa bp k13;clear hb4' bp ig N13 N23 k03 k13;cases b4
     ·have HC:Hd (Fx ss ts=4):=chk4 n6.o H2.o H3.o (Ie ox.o rfl);go_wp2_with fail;go_ret;exact⟨jj,qai⟩
     ·have H4:Hd (Hf (Aq ts)):=ox.o.mp rfl;clear ox;go_wp2_with fail;refine(shareName_n ss.length ts.length a1 a2 p1 p2 (Au ss) (Aq ts) _ E1.o E2.o N14.o N24.o l1 l2 H4.o).mono ?_;rintro e w' ⟨rfl,b5,rfl,co⟩;have ko:=Ab co;clear co;cases b5
      ·have H5:Hd (¬ Pf (Au ss) (Aq ts)):=Ie ko.o rfl;clear ko;go_wp2_with fail;refine(Un sa c1 ss _ (RS.o.bl jj) l1 XS.o).mono ?_;rintro e w6 ⟨bj,b6,rfl,hb6'⟩;have ni:=Ab hb6';have R5:=bt jj bj;have k16:=Aa bj k14;clear hb6' bj jj k04 k14 N14 N24;cases b6
       ·have HC:Hd (Fx ss ts=6):=chk6 n6.o H2.o H3.o H4.o H5.o (Ie ni.o rfl);go_wp2_with fail;go_ret;exact⟨R5,qai⟩
       ·have H6:Hd (Ky ss):=ni.o.mp rfl;clear ni;go_wp2_with fail;refine(Re ta c2 ts _ (HT.o.bl R5) (RT.o.bl R5) l2 L3.o XT.o).mono ?_;rintro e w7 ⟨bo,b7,rfl,hb7'⟩;have t8:=Ab hb7';have xj:=bt R5 bo;clear hb7' bo R5 k16;cases b7
        ·have HC:Hd (Fx ss ts=7):=chk7 n6.o H2.o H3.o H4.o H5.o H6.o (Ie t8.o rfl);go_wp2_with fail;go_ret;exact⟨xj,qai⟩
        ·have HC:Hd (Fx ss ts=0):=chk0 n6.o H2.o H3.o H4.o H5.o H6.o (t8.o.mp rfl);go_wp2_with fail;go_ret;exact⟨xj,qai⟩
      ·have HC:Hd (Fx ss ts=5):=chk5 n6.o H2.o H3.o H4.o (ko.o.mp rfl);go_wp2_with fail;go_ret;exact⟨jj,qai⟩
theorem l3Target_any(sa ta:Option Addr)(n1 c1 c2:X)(ts:L T2)(s:By)(w:E)(hc:Km w ta ts)(hl:ts.length<=1048576):Calls prog 77 #[G #[J sa n1 c1,J ta ts.length c2],S s] w λe w'=>Bw w w'/\∃r:Int,e=H (I r)/\((0<=r/\El (Aq ts) s)\/(r<0/\¬ El (Aq ts) s)):=by
 have ak:Bw w (w.alloc (O #[J sa n1 c1,J ta ts.length c2] 42)):=aN _ _
 have k1:(w.alloc (O #[J sa n1 c1,J ta ts.length c2] 42)).cell? ⟨w.heap.size,1,N⟩=M (J ta ts.length c2):=qo
 have HC:=Ab (hc.bl ak)
 clear hc
 go_enter func77,ntmps77
 go_wp2
 go_loopw [5] (λi wr=>∃k:X,k<=ts.length/\i=I k/\Hd (∀j,j<k->(tx ts j).name≠s)/\(w.alloc (O #[J sa n1 c1,J ta ts.length c2] 42))=wr) (λi _=>ts.length-(intOf i).toNat)
 case atStart=>exact⟨0,Nat.zero_le _,rfl,(λj hj=>by omega:∀j,j<0->(tx ts j).name≠s),rfl⟩
 case round=>
  obtain⟨k,hk,rfl,HA,rfl⟩:=hrel
  by_cases ai:k<ts.length
  ·obtain⟨b,off,rfl,I4,x,p,A2,c3'⟩:=HC.o k ai;have fs:(k:Int)<(ts.length:Int):=qg;obtain⟨nm,en⟩:=Aj ((tx ts k).name);have EN:=Ab en;rw[en]at I4;clear en A2 c3'
   by_cases he:nm=s
   ·have jh:=Fk he;have HE:=Ab he;clear he;go_wp2;go_ret;exact⟨ak,_,rfl,Or.inl ⟨qg,k,by rw[Ca];exact ai,by rw[Dt,EN.o];exact HE.o⟩⟩
   ·have jh:=Hi he;have HE:=Ab he;clear he;go_wp2;go_roundw
    case rel=>exact⟨k+1,qg,qm,Cw HA.o (by rw[EN.o];exact HE.o),trivial⟩
    case measure=>simp[intOf];omega
  ·go_wp2;go_ret;exact⟨ak,_,rfl,Or.inr ⟨qg,λ⟨j,hj,e⟩=>by rw[Ca]at hj;rw[Dt]at e;exact HA.o j qg e⟩⟩
def Kp(w:E)(v1 v2:Z)(wr:E):Prop:=Bw w wr/\wr.cell? ⟨w.heap.size,0,N⟩=M v1/\wr.cell? ⟨w.heap.size,1,N⟩=M v2
theorem Kp.bl{wr:E}{v1 v2:Z}(h:Kp w v1 v2 wr)(hb:Bw wr w'):Kp w v1 v2 w':=⟨bt h.1 hb,Aa hb h.2.1,Aa hb h.2.2⟩
theorem allN_bad_s(hk:k<ss.length)(h:Gg (sx ss k).name=false):¬ Hs (Au ss):=λhh=>by
 have:=hh k (by rw[Cd];exact hk)
 rw[Ed,h]at this;cases this
theorem allN_bad_t{ss:L T2}(hk:k<ss.length)(h:Gg (tx ss k).name=false):¬ Hs (Aq ss):=λhh=>by
 have:=hh k (by rw[Ca];exact hk)
 rw[Dt,h]at this;cases this
theorem acts_step(h:(v=0/\∀j,j<k->Av (tx ts j).code=true)\/(v=7/\∃j,j<k/\Av (tx ts j).code=false))(hk:Av (tx ts k).code=true):(v=0/\∀j,j<k+1->Av (tx ts j).code=true)\/(v=7/\∃j,j<k+1/\Av (tx ts j).code=false):=by
 rcases h with⟨rfl,h⟩|⟨rfl,j,hj,h⟩
 ·exact Or.inl ⟨rfl,Cw h hk⟩
 ·exact Or.inr ⟨rfl,j,qg,h⟩
theorem acts_end(h1:¬ 200<ss.length+ts.length)(h2:Hs (Au ss)/\Hs (Aq ts))(h3:Hf (Au ss))(h4:Hf (Aq ts))(h5:¬ Pf (Au ss) (Aq ts))(h6:Ky ss)(hk:k=ts.length)(h:(v=0/\∀j,j<k->Av (tx ts j).code=true)\/(v=7/\∃j,j<k/\Av (tx ts j).code=false)):Fx ss ts=v:=by
 subst hk
 rcases h with⟨rfl,h⟩|⟨rfl,j,hj,h⟩
 ·exact chk0 h1 h2 h3 h4 h5 h6 h
 ·exact chk7 h1 h2 h3 h4 h5 h6 (λhh=>by rw[hh j hj]at h;cases h)
theorem La(sa ta:Option Addr)(c1 c2:X)(ss:L S2)(ts:L T2)(w:E)(h:Li w sa ss ta ts)(ku:Ep ss ts):Calls prog 50 #[G #[J sa ss.length c1,J ta ts.length c2]] w λe w'=>Bw w w'/\e=H (I (Fx ss ts)):=by
 have ak:Bw w (w.alloc (O #[J sa ss.length c1,J ta ts.length c2] 42)):=aN _ _
 obtain⟨rs,rt,ls,lt,ns,xs,nt,lc,xt⟩:=h
 obtain⟨l1,l2,l3⟩:=ku
 have Q7:Kp w (J sa ss.length c1) (J ta ts.length c2) (w.alloc (O #[J sa ss.length c1,J ta ts.length c2] 42)):=⟨ak,qo,qo⟩
 by_cases zx:200<ss.length+ts.length
 ·have HC:Hd (Fx ss ts=1):=chk1 zx;clear rs rt ns xs nt lc xt l3;go_enter func50,ntmps50;go_wp2;go_ret;exact⟨ak,qai⟩
 ·have n6:Hd (¬ 200<ss.length+ts.length):=zx;have RS:=Ab rs;have RT:=Ab rt;have NS:=Ab ns;have NT:=Ab nt;have XS:=Ab xs;have XT:=Ab xt;have L3:=Ab l3;clear rs rt ns xs nt lc xt l3 ak;go_enter func50,ntmps50;go_wp2
  go_loopw [5] (λi wr=>∃k:X,k<=ss.length/\i=I k/\Hd (∀j,j<k->Gg (sx ss j).name=true)/\Hd (Kp w (J sa ss.length c1) (J ta ts.length c2) wr)) (λi _=>ss.length-(intOf i).toNat)
  case atStart=>exact⟨0,Nat.zero_le _,rfl,(λj hj=>by omega:∀j,j<0->Gg (sx ss j).name=true),Q7⟩
  case round=>
   obtain⟨k,hk,rfl,HA,HK⟩:=hrel;obtain⟨am,k0,k1⟩:=HK.o
   by_cases ai:k<ss.length
   ·obtain⟨b,off,rfl,d1,d2⟩:=(RS.o.bl am) k ai;have ge:=NS.o k;have fs:(k:Int)<(ss.length:Int):=qg;obtain⟨v,hv⟩:=Aj (Gg (sx ss k).name);have HV:=Ab hv;(have HN:Hd (∀W:E,Calls prog 76 #[S (sx ss k).name] W λe w'=>e=H (F v)/\W=w'):=λW=>by rw[<- hv];exact Cf _ W ge);clear hv d2 ge;generalize (sx ss k).name=s at d1 HN;cases v
    ·have HC:Hd (Fx ss ts=2):=chk2 n6.o (λh=>allN_bad_s ai HV.o h.1);exact qlo
    ·go_wp2_with (go_at_call 76;refine(HN.o _).mono ?_;rintro e w' ⟨rfl,rfl⟩)
     go_roundw
     case rel=>exact⟨k+1,qg,qm,Cw HA.o HV.o,HK.o⟩
     case measure=>simp[intOf];omega
   ·(have HA1:Hd (Hs (Au ss)):=λj hj=>by rw[Ed];rw[Cd]at hj;exact HA.o j qg);clear HA;go_wp2
    go_loopw [6] (λi wr=>∃k:X,k<=ts.length/\i=I k/\Hd (∀j,j<k->Gg (tx ts j).name=true)/\Hd (Kp w (J sa ss.length c1) (J ta ts.length c2) wr)) (λi _=>ts.length-(intOf i).toNat)
    case atStart=>exact⟨0,Nat.zero_le _,rfl,(λj hj=>by omega:∀j,j<0->Gg (tx ts j).name=true),HK.o⟩
    case round=>
     clear HK am k0 k1;obtain⟨k',hk',rfl,HA,HK⟩:=hrel;obtain⟨am,k0,k1⟩:=HK.o
     by_cases ai:k'<ts.length
     ·obtain⟨b,off,rfl,d1,x,p,d2,d3⟩:=(RT.o.bl am) k' ai;have ge:=NT.o k';have fs:(k':Int)<(ts.length:Int):=qg;obtain⟨v,hv⟩:=Aj (Gg (tx ts k').name);have HV:=Ab hv;(have HN:Hd (∀W:E,Calls prog 76 #[S (tx ts k').name] W λe w'=>e=H (F v)/\W=w'):=λW=>by rw[<- hv];exact Cf _ W ge);clear hv d2 d3 ge;generalize (tx ts k').name=s at d1 HN;cases v
      ·have HC:Hd (Fx ss ts=2):=chk2 n6.o (λh=>allN_bad_t ai HV.o h.2);exact qlo
      ·go_wp2_with (go_at_call 76;refine(HN.o _).mono ?_;rintro e w' ⟨rfl,rfl⟩)
       go_roundw
       case rel=>exact⟨k'+1,qg,qm,Cw HA.o HV.o,HK.o⟩
       case measure=>simp[intOf];omega
     ·have H2:Hd (Hs (Au ss)/\Hs (Aq ts)):=⟨HA1.o,λj hj=>by rw[Dt];rw[Ca]at hj;exact HA.o j qg⟩;clear HA HA1;go_wp2
      go_loopw [7] (λi wr=>∃m:X,(m=0\/m+1<=ss.length)/\i=I (m+1)/\Hd (∀j,1<=j->j<m+1->Ax (nx (Au ss) (j-1)) (nx (Au ss) j)=true)/\Hd (Kp w (J sa ss.length c1) (J ta ts.length c2) wr)) (λi _=>ss.length+1-(intOf i).toNat)
      case atStart=>exact⟨0,Or.inl rfl,rfl,(λj h1 h2=>by omega:∀j,1<=j->j<0+1->Ax (nx (Au ss) (j-1)) (nx (Au ss) j)=true),HK.o⟩
      case round=>
       clear HK am k0 k1;obtain⟨m,hm,rfl,HA,HK⟩:=hrel;obtain⟨am,k0,k1⟩:=HK.o
       by_cases ai:m+1<ss.length
       ·obtain⟨b,off,rfl,d1,q1⟩:=(RS.o.bl am) m qg;obtain⟨b',bz,e',d2,q2⟩:=(RS.o.bl am) (m+1) ai;simp only[Option.some.injEq,Addr.mk.injEq,and_true]at e';obtain⟨rfl,rfl⟩:=e';rw[<- Ed]at d1 d2;clear q1 q2;obtain⟨v,hv⟩:=Aj (Ax (nx (Au ss) m) (nx (Au ss) (m+1)));have HV:=Ab hv;unfold Ax at hv;generalize nx (Au ss) m=s at d1 hv;generalize nx (Au ss) (m+1)=s' at d2 hv;have hltI:(m:Int)+1<(ss.length:Int):=qg;cases v
        ·have HC:Hd (Fx ss ts=3):=chk3 n6.o H2.o (λh=>by have:=h (m+1) qg (by rw[Cd];exact ai);rw[Nat.add_sub_cancel,HV.o]at this;cases this);exact qlp
        ·exact qjs
       ·(have H3:Hd (Hf (Au ss)):=λj h1 h2=>by rw[Cd]at h2;exact HA.o j h1 qg);clear HA;go_wp2
        go_loopw [8] (λi wr=>∃m:X,(m=0\/m+1<=ts.length)/\i=I (m+1)/\Hd (∀j,1<=j->j<m+1->Ax (nx (Aq ts) (j-1)) (nx (Aq ts) j)=true)/\Hd (Kp w (J sa ss.length c1) (J ta ts.length c2) wr)) (λi _=>ts.length+1-(intOf i).toNat)
        case atStart=>exact⟨0,Or.inl rfl,rfl,(λj h1 h2=>by omega:∀j,1<=j->j<0+1->Ax (nx (Aq ts) (j-1)) (nx (Aq ts) j)=true),HK.o⟩
        case round=>
         clear HK am k0 k1;obtain⟨m,hm,rfl,HA,HK⟩:=hrel;obtain⟨am,k0,k1⟩:=HK.o
         by_cases ai:m+1<ts.length
         ·obtain⟨b,off,rfl,d1,x1,p1,q1,r1⟩:=(RT.o.bl am) m qg;obtain⟨b',bz,e',d2,x2,p2,q2,r2⟩:=(RT.o.bl am) (m+1) ai;simp only[Option.some.injEq,Addr.mk.injEq,and_true]at e';obtain⟨rfl,rfl⟩:=e';rw[<- Dt]at d1 d2;clear q1 r1 q2 r2;obtain⟨v,hv⟩:=Aj (Ax (nx (Aq ts) m) (nx (Aq ts) (m+1)));have HV:=Ab hv;unfold Ax at hv;generalize nx (Aq ts) m=s at d1 hv;generalize nx (Aq ts) (m+1)=s' at d2 hv;have hltI:(m:Int)+1<(ts.length:Int):=qg;cases v
          ·have HC:Hd (Fx ss ts=4):=chk4 n6.o H2.o H3.o (λh=>by have:=h (m+1) qg (by rw[Ca];exact ai);rw[Nat.add_sub_cancel,HV.o]at this;cases this);exact qlp
          ·exact qjs
         ·(have H4:Hd (Hf (Aq ts)):=λj h1 h2=>by rw[Ca]at h2;exact HA.o j h1 qg);clear HA;go_wp2
          go_loopw [9] (λi wr=>∃k:X,k<=ss.length/\i=I k/\Hd (∀j,j<k->¬ El (Aq ts) (sx ss j).name)/\Hd (Kp w (J sa ss.length c1) (J ta ts.length c2) wr)) (λi _=>ss.length-(intOf i).toNat)
          case atStart=>exact⟨0,Nat.zero_le _,rfl,(λj hj=>by omega:∀j,j<0->¬ El (Aq ts) (sx ss j).name),HK.o⟩
          case round=>
           clear HK am k0 k1;obtain⟨k5,jm,rfl,HA,HK⟩:=hrel;obtain⟨am,k0,k1⟩:=HK.o
           by_cases ai:k5<ss.length
           ·obtain⟨b,off,rfl,d1,d2⟩:=(RS.o.bl am) k5 ai;have fs:(k5:Int)<(ss.length:Int):=qg;obtain⟨s,es⟩:=Aj ((sx ss k5).name);have ES:=Ab es;rw[es]at d1;clear es d2;have iz:Bw wr wr.drew:=(Below.refl _ _).drew;have RTd:=Ab ((RT.o.bl am).bl iz);clear iz;go_wp2_with fail
            go_region_held3 (λw'=>w'.cell? ⟨w.heap.size,0,N⟩=M (J (M ⟨b,off,N⟩) ss.length c1)/\w'.cell? ⟨w.heap.size,1,N⟩=M (J ta ts.length c2)/\w'.cell? ⟨b,off+k5*2,N⟩=M (S s))
             (first|assumption|(simp[*];done)|exact⟨Aa ag qu,Aa ag qu,Aa ag qu⟩)
             (first|(go_at_call 77;refine(l3Target_any (M ⟨b,off,N⟩) ta ss.length c1 c2 ts s _ RTd.o l2).mono ?_;rintro e w1 ⟨ag,r,rfl,hr⟩))
            all_goals
             have HD:Hd (Kp w (J (M ⟨b,off,N⟩) ss.length c1) (J ta ts.length c2) w1):=(HK.o.bl (Below.refl _ _).drew).bl ag
             rcases hr with⟨hr,hh⟩|⟨hr,hh⟩
             ·have HC:Hd (Fx ss ts=5):=chk5 n6.o H2.o H3.o H4.o ⟨k5,by rw[Cd];exact ai,by rw[Ed,ES.o];exact hh⟩;clear hh;go_wp2;go_ret;exact⟨HD.o.1,qai⟩
             ·have HNo:Hd (¬ El (Aq ts) s):=hh;clear hh;go_wp2;go_roundw
              case rel=>exact⟨k5+1,qg,qm,Cw HA.o (by rw[ES.o];exact HNo.o),HD.o⟩
              case measure=>simp[intOf];omega
           ·(have H5:Hd (¬ Pf (Au ss) (Aq ts)):=λ⟨j,hj,hh⟩=>by rw[Cd]at hj;rw[Ed]at hh;exact HA.o j qg hh);clear HA;go_wp2
            go_loopw [10] (λi wr=>∃k:X,k<=ss.length/\i=I k/\Hd (∀j,j<k->(sx ss j).text.size<=2000)/\Hd (Kp w (J sa ss.length c1) (J ta ts.length c2) wr)) (λi _=>ss.length-(intOf i).toNat)
            case atStart=>exact⟨0,Nat.zero_le _,rfl,(λj hj=>by omega:∀j,j<0->(sx ss j).text.size<=2000),HK.o⟩
            case round=>
             clear HK am k0 k1;obtain⟨k6,it,rfl,HA,HK⟩:=hrel;obtain⟨am,k0,k1⟩:=HK.o
             by_cases ai:k6<ss.length
             ·obtain⟨b,off,rfl,d1,d2⟩:=(RS.o.bl am) k6 ai;have fs:(k6:Int)<(ss.length:Int):=qg;have ge:=XS.o k6;obtain⟨s,es⟩:=Aj ((sx ss k6).text);have ES:=Ab es;rw[es]at d2 ge;clear es d1
              by_cases U0:s.size<=2000
              ·go_wp2;go_roundw
               case rel=>exact⟨k6+1,qg,qm,Cw HA.o (by rw[ES.o];exact U0),HK.o⟩
               case measure=>simp[intOf];omega
              ·have HC:Hd (Fx ss ts=6):=chk6 n6.o H2.o H3.o H4.o H5.o (λh=>by have:=h k6 ai;rw[ES.o]at this;omega);go_wp2;go_ret;exact⟨am,qai⟩
             ·have H6:Hd (Ky ss):=λj hj=>HA.o j qg;clear HA;go_wp2
              go_loopw [4,11] (λx i wr=>∃k:X,∃v:Int,k<=ts.length/\x=I v/\i=I k/\Hd ((v=0/\∀j,j<k->Av (tx ts j).code=true)\/(v=7/\∃j,j<k/\Av (tx ts j).code=false))/\Hd (Kp w (J sa ss.length c1) (J ta ts.length c2) wr)) (λ_ i _=>ts.length-(intOf i).toNat)
              case atStart=>exact⟨0,0,Nat.zero_le _,rfl,rfl,(Or.inl ⟨rfl,λj hj=>qg⟩:((0:Int)=0/\∀j,j<0->Av (tx ts j).code=true)\/((0:Int)=7/\∃j,j<0/\Av (tx ts j).code=false)),HK.o⟩
              case round=>
               clear HK am k0 k1;obtain⟨k7,v7,hk7,rfl,rfl,HA,HK⟩:=hrel;obtain⟨am,k0,k1⟩:=HK.o
               by_cases ai:k7<ts.length
               ·obtain⟨b,off,rfl,d1,x,p,d2,d3⟩:=(RT.o.bl am) k7 ai;have fs:(k7:Int)<(ts.length:Int):=qg;have C6:=L3.o k7 ai;have L0:=XT.o k7;obtain⟨i,ei⟩:=Aj ((tx ts k7).code);have EI:=Ab ei;rw[ei]at d2 d3 C6 L0;clear ei d1;obtain⟨v,hv⟩:=Aj (Av i);have HV:=Ab hv;(have HN:Hd (Calls prog 78 #[G #[J x i.length p]] wr λe w'=>Bw wr w'/\e=H (F v)):=by rw[<- hv];exact Ik x p i wr d3 C6 L0);clear hv d3 L0;cases v
                ·go_wp2_with (go_at_call 78;refine HN.o.mono ?_;rintro e w1 ⟨ag,rfl⟩)
                 go_roundw
                 case rel=>exact⟨k7+1,7,qg,rfl,qm,Or.inr ⟨rfl,k7,qg,by rw[EI.o];exact HV.o⟩,HK.o.bl ag⟩
                 case measure=>simp[intOf];omega
                ·go_wp2_with (go_at_call 78;refine HN.o.mono ?_;rintro e w1 ⟨ag,rfl⟩)
                 go_roundw
                 case rel=>exact⟨k7+1,v7,qg,rfl,qm,acts_step HA.o (by rw[EI.o];exact HV.o),HK.o.bl ag⟩
                 case measure=>simp[intOf];omega
               ·have HC:Hd (Fx ss ts=v7):=acts_end n6.o H2.o H3.o H4.o H5.o H6.o qg HA.o;clear HA;go_wp2;go_ret;exact⟨am,qai⟩
end Go.Proofs.YtnflkpmmfpfhlaaGreatDoor
