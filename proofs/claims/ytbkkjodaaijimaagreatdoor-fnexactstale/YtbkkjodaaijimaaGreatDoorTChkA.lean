import Derived.Test.YtbkkjodaaijimaaGreatDoorTNWork2
namespace Go.Proofs.YtbkkjodaaijimaaGreatDoor
open _root_.Go.Proofs.Tryz Go.RowKit
open Value renaming slice->J,string->S,bool->F,agg->G,tuple->Y
open Option renaming some->M,none->N
open Obj renaming cells->O
open Go renaming World->E
open Ending renaming returned->H
open _root_ renaming List->L,Nat->X
set_option linter.unusedVariables false
set_option maxHeartbeats 8000000
set_option maxRecDepth 100000
set_option linter.unusedSimpArgs false
variable {is:L I3} {w:E} {B n:X} {a:Option Addr} {ss:L S2} {l:L By} {P:Prop} {ts:L T2}
theorem l2InsOk_0(o:X)(wd t:By)(n:Int)(w:E)(Hw:Hd (∀w,Calls prog 105 #[I o] w λe w'=>e=H (Y #[S wd,I 0])/\w=w'))(L7:wd.toList.isEmpty=false)(ht:t.size<=9223372036854775807):Calls prog 83 #[G #[I o,S t,I n]] w λe w'=>Bw w w'/\e=H (F (decide ((t.size:Int)<=0)&&decide (0<=n)&&decide (n<=0))):=by
 have he:=Qp t
 by_cases hz:t.size=0
 ·have he1:t.toList.isEmpty=true:=qgi;clear he;have hd0:decide ((2000:Int)<t.size)=false:=qgj
  by_cases hn:n=0
  ·have hd:(n == 0)=true:=qbc;rw[show(decide ((t.size:Int)<=0)&&decide (0<=n)&&decide (n<=0))=true from qdt];clear hz;exact qiw
  ·have hd:(n == 0)=false:=qbc;exact qhy
 ·have he1:t.toList.isEmpty=false:=qgf;clear he;exact qhy
theorem l2InsOk_1(o:X)(wd t:By)(n:Int)(w:E)(Hw:Hd (∀w,Calls prog 105 #[I o] w λe w'=>e=H (Y #[S wd,I 1])/\w=w'))(L7:wd.toList.isEmpty=false)(ht:t.size<=9223372036854775807):Calls prog 83 #[G #[I o,S t,I n]] w λe w'=>Bw w w'/\e=H (F (decide ((t.size:Int)<=2000)&&decide (0<=n)&&decide (n<=0))):=by
 by_cases hz:t.size<=2000
 ·have hd0:decide ((2000:Int)<t.size)=false:=qh
  by_cases hn:n=0
  ·have hd:(n == 0)=true:=qbc;rw[show(decide ((t.size:Int)<=2000)&&decide (0<=n)&&decide (n<=0))=true from qdt];exact qiw
  ·have hd:(n == 0)=false:=qbc;exact qhz
 ·have hd0:decide ((2000:Int)<t.size)=true:=qh;exact qhz
theorem l2InsOk_2(o:X)(wd t:By)(n:Int)(w:E)(Hw:Hd (∀w,Calls prog 105 #[I o] w λe w'=>e=H (Y #[S wd,I 2])/\w=w'))(L7:wd.toList.isEmpty=false)(ht:t.size<=9223372036854775807):Calls prog 83 #[G #[I o,S t,I n]] w λe w'=>Bw w w'/\e=H (F (decide ((t.size:Int)<=0)&&decide (0<=n)&&decide (n<=2000))):=by
 have he:=Qp t
 by_cases hz:t.size=0
 ·have he1:t.toList.isEmpty=true:=qgi;clear he;have hd0:decide ((2000:Int)<t.size)=false:=qgj
  by_cases hn:0<=n
  ·have hd:decide (0<=n)=true:=qbc
   by_cases hm:n<=2000
   ·(have hd2:decide (n<=2000)=true:=by simpa using hm);rw[show(decide ((t.size:Int)<=0)&&decide (0<=n)&&decide (n<=2000))=true from qdt];exact qiv
   ·(have hd2:decide (n<=2000)=false:=by simpa using hm);exact qeg
  ·have hd:decide (0<=n)=false:=qbc;exact qeg
 ·have he1:t.toList.isEmpty=false:=qgf;clear he;exact qeg
theorem l2InsOk_3(o:X)(wd t:By)(n:Int)(w:E)(Hw:Hd (∀w,Calls prog 105 #[I o] w λe w'=>e=H (Y #[S wd,I 3])/\w=w'))(L7:wd.toList.isEmpty=false)(ht:t.size<=9223372036854775807):Calls prog 83 #[G #[I o,S t,I n]] w λe w'=>Bw w w'/\e=H (F (decide ((t.size:Int)<=0)&&decide (0<=n)&&decide (n<=200))):=by
 have he:=Qp t
 by_cases hz:t.size=0
 ·have he1:t.toList.isEmpty=true:=qgi;clear he;have hd0:decide ((2000:Int)<t.size)=false:=qgj
  by_cases hn:0<=n
  ·have hd:decide (0<=n)=true:=qbc
   by_cases hm:n<=200
   ·(have hd2:decide (n<=200)=true:=by simpa using hm);rw[show(decide ((t.size:Int)<=0)&&decide (0<=n)&&decide (n<=200))=true from qdt];exact qiv
   ·(have hd2:decide (n<=200)=false:=by simpa using hm);exact qeh
  ·have hd:decide (0<=n)=false:=qbc;exact qeh
 ·have he1:t.toList.isEmpty=false:=qgf;clear he;exact qeh
theorem l2InsOk_in(o:X)(t:By)(n:Int)(w:E)(h1:1<=o)(h2:o<=15)(ht:t.size<=9223372036854775807):Calls prog 83 #[G #[I o,S t,I n]] w λe w'=>Bw w w'/\e=H (F (decide ((t.size:Int)<=Ma (Es o))&&decide (0<=n)&&decide (n<=Oe (Es o)))):=by
 have L7:=Uw o h1 h2
 have hw:=λw=>l2Word_in o w h1 h2
 rcases kind_cases o with hk|hk|hk|hk
 ·rw[hk]at hw ⊢;exact l2InsOk_0 o _ t n w hw L7 ht
 ·rw[hk]at hw ⊢;exact l2InsOk_1 o _ t n w hw L7 ht
 ·rw[hk]at hw ⊢;exact l2InsOk_2 o _ t n w hw L7 ht
 ·rw[hk]at hw ⊢;exact l2InsOk_3 o _ t n w hw L7 ht
def Au(is:L I3):Bool:=decide (1<=is.length)&&decide (is.length<=200)&&decide (∀i,i<is.length->Gq (ix is i)=true)
theorem Wx{i:I3}(h:i.op<1\/15<i.op):Gq i=false:=by
 rw[Bool.eq_false_iff]
 simp only[Gq,ne_eq,Bool.and_eq_true,decide_eq_true_eq]
 omega
theorem insOk_in(o:X)(t:By)(n:Int)(h1:1<=o)(h2:o<=15):Gq ⟨o,t,n⟩=(decide ((t.size:Int)<=Ma (Es o))&&decide (0<=n)&&decide (n<=Oe (Es o))):=by
 have d1:decide (1<=(o:Int))=true:=qh
 have d2:decide ((o:Int)<=15)=true:=qh
 simp only[Gq,d1,d2,Bool.true_and]
theorem Xj(i:I3)(w:E)(hT:Kd w)(ht:i.text.size<=9223372036854775807):Calls prog 158 #[G #[I i.op,S i.text,I i.n]] w λe w'=>Bw w w'/\e=H (F (Gq i)):=by
 by_cases h:i.op<1\/15<i.op
 ·rw[Wx h];exact Xi i w h
 ·obtain⟨op,t,n⟩:=i;obtain⟨o,rfl⟩:=Int.eq_ofNat_of_zero_le (show 0<=op from qcb);have h1:1<=o:=qcb;have h2:o<=15:=qcb;rw[insOk_in o t n h1 h2];exact Zw o t n w _ h1 h2 ht (hT o qb).2.1
theorem l2InsOk_any(i:I3)(w:E)(ht:i.text.size<=9223372036854775807):Calls prog 83 #[G #[I i.op,S i.text,I i.n]] w λe w'=>Bw w w'/\e=H (F (Gq i)):=by
 by_cases h:i.op<1\/15<i.op
 ·rw[Wx h];exact l2InsOk_out i w h
 ·obtain⟨op,t,n⟩:=i;obtain⟨o,rfl⟩:=Int.eq_ofNat_of_zero_le (show 0<=op from qcb);have h1:1<=o:=qcb;have h2:o<=15:=qcb;rw[insOk_in o t n h1 h2];exact l2InsOk_in o t n w h1 h2 ht
theorem Tn{k:X}(hk:k<is.length)(h:Gq (ix is k)=false):Au is=false:=by
 rw[Bool.eq_false_iff]
 simp only[Au,ne_eq,Bool.and_eq_true,decide_eq_true_eq]
 intro hh
 have:=hh.2 k hk
 rw[h]at this;cases this
theorem Qz(h:∀i,i<is.length->Gq (ix is i)=true):Au is=(decide (1<=is.length)&&decide (is.length<=200)):=by
 simp only[Au,decide_eq_true h,Bool.and_true]
theorem Ih(a:Option Addr)(cap:X)(is:L I3)(w:E)(hc:Bu w a is)(hl:is.length<=1048576)(hs:∀i,(ix is i).text.size<=9223372036854775807):Calls prog 61 #[G #[J a is.length cap]] w λe w'=>Bw w w'/\e=H (F (Au is)):=by
 have ak:Bw w (w.alloc (O #[J a is.length cap] 91)):=aN _ _
 go_enter func61,ntmps61
 go_wp2
 go_loopw [3] (λi wr=>∃k:X,k<=is.length/\i=I k/\(∀i,i<k->Gq (ix is i)=true)/\Bw w wr/\wr.cell? ⟨w.heap.size,0,N⟩=M (J a is.length cap)) (λi _=>is.length-(intOf i).toNat)
 case atStart=>exact⟨0,Nat.zero_le _,rfl,λi hi=>qb,ak,qk⟩
 case round=>
  obtain⟨k,hk,rfl,ft,bc,ir⟩:=hrel;have HK:Hd (∀i,i<k->Gq (ix is i)=true):=ft;clear ft
  by_cases aj:k<is.length
  ·obtain⟨b,off,rfl,c1,c2,c3⟩:=(hc.bl bc) k aj;have fx:=hs k;obtain⟨i,hi⟩:∃i,i=ix is k:=⟨_,rfl⟩;rw[<- hi]at c1 c2 c3 fx;have HI:Hd (i=ix is k):=hi;clear hi hs hc ak;go_wp2_with fail;refine(l2InsOk_any i _ fx).mono ?_;rintro e w1 ⟨af,rfl⟩;have ke:Bw w w1:=bc.trans (af.mono bc.size);have hcs1:=Aa af ir
   by_cases hb:Gq i=true
   ·go_wp2;go_roundw
    case rel=>
     refine⟨k+1,qb,qj,λi' hi'=>?_,ke,hcs1⟩;exact qkx
    case measure=>simp[intOf];omega
   ·(have As:Gq i=false:=by simpa using hb);have hf:Au is=false:=Tn aj (by rw[<- HI.o];exact As);have HF:Hd (Au is=false):=hf;clear hf hb;go_wp2;go_ret;exact⟨ke,qcx⟩
  ·have n7:∀i,i<is.length->Gq (ix is i)=true:=λi hi=>HK.o i qb;have HG:Hd (Au is=(decide (1<=is.length)&&decide (is.length<=200))):=Qz n7;clear n7 hs
   by_cases h1:1<=is.length
   ·have d1:decide ((1:Int)<=is.length)=true:=qh;(have d1':decide (1<=is.length)=true:=by simpa using h1);go_wp2;go_ret;exact⟨bc,by rw[HG.o,d1',Bool.true_and];show Ending.returned (F (decide ((is.length:Int)<=200)))=_;exact congrArg (λb=>Ending.returned (F b)) (by rw[Bool.eq_iff_iff,decide_eq_true_eq,decide_eq_true_eq];omega)⟩
   ·have d1:decide ((1:Int)<=is.length)=false:=qh;(have d1':decide (1<=is.length)=false:=by rw[decide_eq_false_iff_not];exact h1);go_wp2;go_ret;exact⟨bc,by rw[HG.o,d1',Bool.false_and];rfl⟩
theorem progOk_len(h:is.length<1\/200<is.length):Au is=false:=by
 rw[Bool.eq_false_iff]
 simp only[Au,ne_eq,Bool.and_eq_true,decide_eq_true_eq]
 omega
theorem Kt(a:Option Addr)(cap:X)(is:L I3)(w:E)(hT:Kd w)(hc:Bu w a is)(hl:is.length<=1048576)(hs:∀i,(ix is i).text.size<=9223372036854775807):Calls prog 142 #[G #[J a is.length cap]] w λe w'=>Bw w w'/\e=H (F (Au is)):=by
 have ak:Bw w (w.alloc (O #[J a is.length cap] 91)):=aN _ _
 by_cases dh:is.length<1\/200<is.length
 ·rw[progOk_len dh]
  by_cases h1:is.length<1
  ·have d1:decide ((is.length:Int)<1)=true:=qh;go_enter func142,ntmps142;go_wp2;go_ret;exact⟨ak,rfl⟩
  ·have d1:decide ((is.length:Int)<1)=false:=qh;have d2:decide (200<(is.length:Int))=true:=qh;go_enter func142,ntmps142;go_wp2;go_ret;exact⟨ak,rfl⟩
 ·have d1:decide ((is.length:Int)<1)=false:=qh;have d2:decide (200<(is.length:Int))=false:=qh;have l1:1<=is.length:=qb;have l2:is.length<=200:=qb;clear dh;go_enter func142,ntmps142;go_wp2
  go_loopw [18] (λi wr=>∃k:X,k<=is.length/\i=I k/\(∀i,i<k->Gq (ix is i)=true)/\Bw w wr) (λi _=>is.length-(intOf i).toNat)
  case atStart=>exact⟨0,Nat.zero_le _,rfl,λi hi=>qb,ak⟩
  case round=>
   obtain⟨k,hk,rfl,ft,bc⟩:=hrel;have HK:Hd (∀i,i<k->Gq (ix is i)=true):=ft;clear ft
   by_cases aj:k<is.length
   ·obtain⟨b,off,rfl,c1,c2,c3⟩:=(hc.bl bc) k aj;have fx:=hs k;obtain⟨i,hi⟩:∃i,i=ix is k:=⟨_,rfl⟩;rw[<- hi]at c1 c2 c3 fx;have HI:Hd (i=ix is k):=hi;have hTr:=hT.bl bc;have HTr:Hd (Kd wr):=hTr;clear hi hs hc ak hT hTr;go_wp2_with fail;have fc:Bw wr (wr.alloc (O #[I i.op,S i.text,I i.n] 143)):=aN _ _;refine(Xj i _ (HTr.o.bl fc) fx).mono ?_;rintro e w1 ⟨af,rfl⟩;have ke:Bw w w1:=(bc.trans (fc.mono bc.size)).trans (af.mono (by simp;have:=bc.size;omega));clear fc af
    by_cases hb:Gq i=true
    ·go_wp2;go_roundw
     case rel=>
      refine⟨k+1,qb,qj,λi' hi'=>?_,ke⟩;exact qkx
     case measure=>simp[intOf];omega
    ·(have As:Gq i=false:=by simpa using hb);have HF:Hd (Au is=false):=Tn aj (by rw[<- HI.o];exact As);clear hb;go_wp2;go_ret;exact⟨ke,qcx⟩
   ·have n7:∀i,i<is.length->Gq (ix is i)=true:=λi hi=>HK.o i qb
    have HG:Hd (Au is=true):=by
     show Au is=true;rw[Qz n7,decide_eq_true l1,decide_eq_true l2];rfl
    clear n7 hs;go_wp2;go_ret;exact⟨bc,by rw[HG.o];rfl⟩
def Kq(is:L S2)(k:X)(xs:L Value):Prop:=
 ∀i,i<k->xs[i*2]?=M (S (sx is i).name)/\xs[i*2+1]?=M (S (sx is i).text)
theorem rowS_own{g cap:X}{is:L S2}{xs:L Value}(hn:n=is.length)(h:w.ownsRow B 96 2 (J (p_ g) n cap) n xs)(hf:Kq is n xs):Ho w (p_ g) is:=by
 subst hn
 intro i hi
 obtain⟨h1,h2⟩:=hf i hi
 refine⟨g,0,rfl,?_,?_⟩
 ·rw[Nat.zero_add,h.cellAt _ qb];exact h1
 ·rw[Nat.zero_add,h.cellAt _ qb];exact h2
def Cc(w:E)(a:Option Addr)(ss:L By):Prop:=
 ∀i,i<ss.length->∃b off,a=M ⟨b,off,N⟩/\w.cell? ⟨b,off+i,N⟩=M (S (ss.getD i ByteArray.empty))
theorem Cc.bl{w':E}{ss:L By}(h:Cc w a ss)(hb:Bw w w'):Cc w' a ss:=by
 intro i hi
 obtain⟨b,off,ha,hc⟩:=h i hi
 exact⟨b,off,ha,(hb.cell (p:=⟨b,off+i,N⟩) (World.block_lt_of_cell? w _ hc)).trans hc⟩
def Ap(a b:By):Bool:=Op.bytesLess a.toList b.toList
theorem Kj{a b c:By}(h:Ap a b=true)(k:Ap b c=true):Ap a c=true:=by
 unfold Ap at *
 rw[bytesLess_eq]at *
 simp only[decide_eq_true_eq]at *
 exact List.lt_trans h k
theorem Eh(a:By):Ap a a=false:=by
 unfold Ap
 rw[bytesLess_eq]
 simp only[decide_eq_false_iff_not]
 exact List.lt_irrefl _
def nx(l:L By)(i:X):By:=l.getD i ByteArray.empty
def Fs(l:L By):Prop:=∀i,1<=i->i<l.length->Ap (nx l (i-1)) (nx l i)=true
theorem Fs.lt{l:L By}(h:Fs l):∀(d i:X),i+d+1<l.length->Ap (nx l i) (nx l (i+d+1))=true
 | 0,i,hi=>by have:=h (i+0+1) qb hi;simpa using this
 | d+1,i,hi=>by
  have h1:=Fs.lt h d i qb;have h2:=h (i+(d+1)+1) qb hi;exact Kj h1 (by have:=h2;rw[Nat.add_sub_cancel]at this;exact this)
theorem Fs.pair(h:Fs l){i j:X}(rh:i<j)(hj:j<l.length):Ap (nx l i) (nx l j)=true:=by
 have:=h.lt (j-i-1) i qb
 rwa [show i+(j-i-1)+1=j from qb]at this
theorem Ea(h:¬ P):(false=true↔P):=⟨λk=>absurd k qd,λk=>absurd k h⟩
theorem Gi(h:P):(true=true↔P):=⟨λ_=>h,λ_=>rfl⟩
theorem Nk{m:X}(h:∀j,1<=j->j<m+1->Ap (nx l (j-1)) (nx l j)=true)(hk:Ap (nx l m) (nx l (m+1))=true):∀j,1<=j->j<m+1+1->Ap (nx l (j-1)) (nx l j)=true:=by
 intro j h1 h2
 rcases Nat.lt_or_ge j (m+1)with h3|h3
 ·exact h j h1 h3
 ·obtain rfl:j=m+1:=qb;simpa using hk
theorem Oi(a:Option Addr)(cap:X)(l:L By)(w:E)(hc:Cc w a l)(hl:l.length<=1048576):Calls prog 120 #[J a l.length cap] w λe w'=>Bw w w'/\∃b:Bool,e=H (F b)/\(b=true↔Fs l):=by
 go_enter func120,ntmps120
 go_wp2
 go_loopw [3] (λi wr=>∃m:X,(m=0\/m+1<=l.length)/\i=I (m+1)/\Hd (∀j,1<=j->j<m+1->Ap (nx l (j-1)) (nx l j)=true)/\Bw w wr) (λi _=>l.length+1-(intOf i).toNat)
 case atStart=>exact⟨0,Or.inl rfl,rfl,(λj h1 h2=>by omega:∀j,1<=j->j<0+1->Ap (nx l (j-1)) (nx l j)=true),Below.refl _ _⟩
 case round=>
  obtain⟨m,hm,rfl,HA,am⟩:=hrel
  by_cases aj:m+1<l.length
  ·obtain⟨b,off,rfl,c1⟩:=(hc.bl am) m qb;obtain⟨b',bp,e',c2⟩:=(hc.bl am) (m+1) aj;simp only[Option.some.injEq,Addr.mk.injEq,and_true]at e';obtain⟨rfl,rfl⟩:=e';replace c1:wr.cell? ⟨b,off+m,N⟩=M (S (nx l m)):=c1;replace c2:wr.cell? ⟨b,off+(m+1),N⟩=M (S (nx l (m+1))):=c2;obtain⟨v,hv⟩:=Aj (Ap (nx l m) (nx l (m+1)));have HV:Hd (Ap (nx l m) (nx l (m+1))=v):=hv;unfold Ap at hv;clear hc;generalize nx l m=s at c1 hv;generalize nx l (m+1)=s' at c2 hv;have hltI:(m:Int)+1<(l.length:Int):=qb;cases v
   ·go_wp2;go_region
    all_goals
     go_wp2;go_ret;exact⟨by repeat (first|exact am|apply Below.drew),false,rfl,Ea (λh=>by have:=h (m+1) qb aj;rw[Nat.add_sub_cancel,HV.o]at this;cases this)⟩
   ·go_wp2;go_region
    all_goals
     go_wp2;go_roundw
     case rel=>exact⟨m+1,qb,qj,Nk HA.o HV.o,by repeat (first|exact am|apply Below.drew)⟩
     case measure=>simp[intOf];omega
  ·go_wp2;go_ret;exact⟨am,true,rfl,Gi (λj h1 h2=>HA.o j h1 qb)⟩
theorem Cc.nx{ss:L By}(h:Cc w a ss)(i:X)(hi:i<ss.length):∃b off,a=M ⟨b,off,N⟩/\w.cell? ⟨b,off+i,N⟩=M (S (nx ss i)):=h i hi
def Gw(l:L By):Prop:=∀i,i<l.length->Ew (nx l i)=true
def Ed(l:L By)(n:By):Prop:=∃j,j<l.length/\nx l j=n
def Nn(l m:L By):Prop:=∃i,i<l.length/\Ed m (nx l i)
def Am(ss:L S2):L By:=ss.map (·.name)
def Ak(ts:L T2):L By:=ts.map (·.name)
theorem Bs(ss:L S2):(Am ss).length=ss.length:=by simp[Am]
theorem Bp(ts:L T2):(Ak ts).length=ts.length:=by simp[Ak]
theorem Dv(ss:L S2)(i:X):nx (Am ss) i=(sx ss i).name:=by
 unfold nx Am sx
 rw[gG,gG,List.getElem?_map]
 cases ss[i]?<;>rfl
theorem Dk(ts:L T2)(i:X):nx (Ak ts) i=(tx ts i).name:=by
 unfold nx Ak tx
 rw[gG,gG,List.getElem?_map]
 cases ts[i]?<;>rfl
def Jf(ss:L S2):Prop:=∀i,i<ss.length->(sx ss i).text.size<=2000
def Ur(ts:L T2):Prop:=∀i,i<ts.length->Au (tx ts i).code=true
open Classical in
noncomputable def Ic (ss:L S2) (ts:L T2):Int:=
 if 200<ss.length+ts.length then 1 else if ¬ (Gw (Am ss)/\Gw (Ak ts)) then 2 else if ¬ Fs (Am ss) then 3 else if ¬ Fs (Ak ts) then 4
 else if Nn (Am ss) (Ak ts) then 5 else if ¬ Jf ss then 6 else if ¬ Ur ts then 7 else 0
theorem chk1(h:200<ss.length+ts.length):Ic ss ts=1:=by simp[Ic,h]
theorem chk2(h:¬ 200<ss.length+ts.length)(h2:¬ (Gw (Am ss)/\Gw (Ak ts))):Ic ss ts=2:=by unfold Ic;rw[if_neg h,if_pos h2]
theorem chk3(h:¬ 200<ss.length+ts.length)(h2:Gw (Am ss)/\Gw (Ak ts))(h3:¬ Fs (Am ss)):Ic ss ts=3:=by unfold Ic;rw[if_neg h,if_neg (λk=>k h2),if_pos h3]
theorem chk4(h:¬ 200<ss.length+ts.length)(h2:Gw (Am ss)/\Gw (Ak ts))(h3:Fs (Am ss))(h4:¬ Fs (Ak ts)):Ic ss ts=4:=by unfold Ic;rw[if_neg h,if_neg (λk=>k h2),if_neg (λk=>k h3),if_pos h4]
theorem chk5(h:¬ 200<ss.length+ts.length)(h2:Gw (Am ss)/\Gw (Ak ts))(h3:Fs (Am ss))(h4:Fs (Ak ts))(h5:Nn (Am ss) (Ak ts)):Ic ss ts=5:=by unfold Ic;rw[if_neg h,if_neg (λk=>k h2),if_neg (λk=>k h3),if_neg (λk=>k h4),if_pos h5]
theorem chk6(h:¬ 200<ss.length+ts.length)(h2:Gw (Am ss)/\Gw (Ak ts))(h3:Fs (Am ss))(h4:Fs (Ak ts))(h5:¬ Nn (Am ss) (Ak ts))(h6:¬ Jf ss):Ic ss ts=6:=by unfold Ic;rw[if_neg h,if_neg (λk=>k h2),if_neg (λk=>k h3),if_neg (λk=>k h4),if_neg h5,if_pos h6]
theorem chk7(h:¬ 200<ss.length+ts.length)(h2:Gw (Am ss)/\Gw (Ak ts))(h3:Fs (Am ss))(h4:Fs (Ak ts))(h5:¬ Nn (Am ss) (Ak ts))(h6:Jf ss)(h7:¬ Ur ts):Ic ss ts=7:=by unfold Ic;rw[if_neg h,if_neg (λk=>k h2),if_neg (λk=>k h3),if_neg (λk=>k h4),if_neg h5,if_neg (λk=>k h6),if_pos h7]
theorem chk0(h:¬ 200<ss.length+ts.length)(h2:Gw (Am ss)/\Gw (Ak ts))(h3:Fs (Am ss))(h4:Fs (Ak ts))(h5:¬ Nn (Am ss) (Ak ts))(h6:Jf ss)(h7:Ur ts):Ic ss ts=0:=by unfold Ic;rw[if_neg h,if_neg (λk=>k h2),if_neg (λk=>k h3),if_neg (λk=>k h4),if_neg h5,if_neg (λk=>k h6),if_neg (λk=>k h7)]
theorem strs_own{cap:X}{ss:L By}(hn:n=ss.length)(h:w.ownsRow B 9 1 (J a n cap) n (Aq ss)):Cc w a ss:=by
 subst hn
 intro i hi
 rcases h.2 with⟨_,h0⟩|⟨g,ai,cur,hv,_⟩
 ·omega
 ·obtain⟨rfl,_,rfl⟩:a=p_ g/\True/\cap=ai:=by simpa using hv
  refine⟨g,0,rfl,?_⟩;rw[Nat.zero_add,h.cellAt i qb];simp[Aq,gG,Ix hi]
theorem Wg(l:L By)(k:X)(h:k<l.length):Aq (l.take k)++[S (nx l k)]=Aq (l.take (k+1)):=by
 rw[List.take_succ_eq_append_getElem h]
 simp only[Aq,List.map_append,List.map_cons,List.map_nil,nx,gG,Ix h,Option.getD_some]
theorem Ly(a ta:Option Addr)(cap tn tc:X)(is:L S2)(w:E)(hc:Ho w a is)(hl:is.length<=1048576):Calls prog 117 #[G #[J a is.length cap,J ta tn tc]] w λe w'=>Bw w w'/\∃(a':Option Addr)(ai:X),e=H (J a' is.length ai)/\Cc w' a' (Am is):=by
 obtain⟨i0,hi,bq,bg,bv⟩:=info_parts Tryz.info9b
 have hnl:=Bs is
 have ak:Bw w (w.alloc (O #[J a is.length cap,J ta tn tc] 40)):=aN _ _
 go_enter func117,ntmps117
 go_wp2
 go_loopw [3,9] (λo i wr=>∃(k:X)(ao:Option Addr)(cp:X),k<=is.length/\i=I k/\o=J ao k cp/\wr.ownsRow w.heap.size 9 1 (J ao k cp) k (Aq ((Am is).take k))/\Bw w wr) (λ_ i _=>is.length-(intOf i).toNat)
 case atStart=>exact⟨0,N,0,Nat.zero_le _,rfl,rfl,⟨qai,Or.inl ⟨rfl,rfl⟩⟩,ak⟩
 case round=>
  obtain⟨k,ao,cp,hk,rfl,rfl,ah,am⟩:=hrel;have hlt0:w.heap.size<=wr.heap.size:=am.size
  by_cases aj:k<is.length
  ·obtain⟨b,off,rfl,c1,c2⟩:=(hc.bl am) k aj;have kw:=Wg (Am is) k qb;rw[Dv]at kw;generalize sx is k=i at *;have HS:Hd (Aq ((Am is).take k)++[S i.name]=Aq ((Am is).take (k+1))):=kw;clear kw hc;have vr:=(ah.alloc (O #[S i.name,S i.text] 96)).alloc (O #[S i.name] 9)
   go_wp2_with (first|(at_builtin;refine wpList_append_own _ rfl (.tmp 13) (.tmp 16) 22 rfl w.heap.size 9 i0 ze 1 16 underlying22 hi bq bg bv rfl qd _ _ _ rfl vr ⟨wr.heap.size+1,0,N⟩ 1 1 [S i.name] rfl rfl ?_ qae qm qb qh ?_;(focus(have:=cell_one_new (wr.alloc (O #[S i.name,S i.text] 96)) (S i.name) 9;simpa using this));intro v' w2 au ae cu))
   have gh:Bw w w2:=((am.alloc qb _).alloc qh _).grown ae qh (λk hk=>(ah.lt k hk).1);exact qif
  ·exact qjp
theorem Lx(a ta:Option Addr)(cap tn tc:X)(is:L T2)(w:E)(hc:Gu w a is)(hl:is.length<=1048576):Calls prog 118 #[G #[J ta tn tc,J a is.length cap]] w λe w'=>Bw w w'/\∃(a':Option Addr)(ai:X),e=H (J a' is.length ai)/\Cc w' a' (Ak is):=by
 obtain⟨i0,hi,bq,bg,bv⟩:=info_parts Tryz.info9b
 have hnl:=Bp is
 have ak:Bw w (w.alloc (O #[J ta tn tc,J a is.length cap] 40)):=aN _ _
 go_enter func118,ntmps118
 go_wp2
 go_loopw [3,9] (λo i wr=>∃(k:X)(ao:Option Addr)(cp:X),k<=is.length/\i=I k/\o=J ao k cp/\wr.ownsRow w.heap.size 9 1 (J ao k cp) k (Aq ((Ak is).take k))/\Bw w wr) (λ_ i _=>is.length-(intOf i).toNat)
 case atStart=>exact⟨0,N,0,Nat.zero_le _,rfl,rfl,⟨qai,Or.inl ⟨rfl,rfl⟩⟩,ak⟩
 case round=>
  obtain⟨k,ao,cp,hk,rfl,rfl,ah,am⟩:=hrel;have hlt0:w.heap.size<=wr.heap.size:=am.size
  by_cases aj:k<is.length
  ·obtain⟨b,off,rfl,c1,x,p,c2,c3⟩:=(hc.bl am) k aj;have kw:=Wg (Ak is) k qb;rw[Dk]at kw;generalize tx is k=i at *;have HS:Hd (Aq ((Ak is).take k)++[S i.name]=Aq ((Ak is).take (k+1))):=kw;clear kw hc;have vr:=(ah.alloc (O #[S i.name,J x i.code.length p] 99)).alloc (O #[S i.name] 9)
   go_wp2_with (first|(at_builtin;refine wpList_append_own _ rfl (.tmp 13) (.tmp 16) 22 rfl w.heap.size 9 i0 ze 1 16 underlying22 hi bq bg bv rfl qd _ _ _ rfl vr ⟨wr.heap.size+1,0,N⟩ 1 1 [S i.name] rfl rfl ?_ qae qm qb qh ?_;(focus(have:=cell_one_new (wr.alloc (O #[S i.name,J x i.code.length p] 99)) (S i.name) 9;simpa using this));intro v' w2 au ae cu))
   have gh:Bw w w2:=((am.alloc qb _).alloc qh _).grown ae qh (λk hk=>(ah.lt k hk).1);exact qif
  ·exact qjp
theorem Tb(a:Option Addr)(cap:X)(l:L By)(w:E)(hc:Cc w a l)(hl:l.length<=1048576)(hs:∀i,(nx l i).size<=maxLen):Calls prog 119 #[J a l.length cap] w λe w'=>w=w'/\∃b:Bool,e=H (F b)/\(b=true↔Gw l):=by
 go_enter func119,ntmps119
 go_wp2
 go_loopw [7] (λi wr=>∃k:X,k<=l.length/\i=I k/\Hd (∀j,j<k->Ew (nx l j)=true)/\w=wr) (λi _=>l.length-(intOf i).toNat)
 case atStart=>exact⟨0,Nat.zero_le _,rfl,(λj hj=>by omega:∀j,j<0->Ew (nx l j)=true),rfl⟩
 case round=>
  obtain⟨k,hk,rfl,HA,rfl⟩:=hrel
  by_cases aj:k<l.length
  ·obtain⟨b,off,rfl,c1⟩:=hc.nx k aj;have fx:=hs k;unfold maxLen at fx;obtain⟨v,hv⟩:=Aj (Ew (nx l k));have HV:Hd (Ew (nx l k)=v):=hv;have HN:Hd (∀W:E,Calls prog 126 #[S (nx l k)] W λe w'=>e=H (F v)/\W=w'):=λW=>by rw[<- hv];exact Df _ W fx
   clear hc hs hv;generalize nx l k=s at c1 HN fx;cases v
   ·go_wp2_with (go_at_call 126;refine(HN.o _).mono ?_;rintro e w' ⟨rfl,rfl⟩)
    go_ret;exact⟨rfl,false,rfl,Ea (λh=>by have:=h k aj;rw[HV.o]at this;cases this)⟩
   ·go_wp2_with (go_at_call 126;refine(HN.o _).mono ?_;rintro e w' ⟨rfl,rfl⟩)
    go_roundw
    case rel=>exact⟨k+1,qb,qj,Co HA.o HV.o,trivial⟩
    case measure=>simp[intOf];omega
  ·go_wp2;go_ret;exact⟨rfl,true,rfl,Gi (λj hj=>HA.o j qb)⟩
end Go.Proofs.YtbkkjodaaijimaaGreatDoor
