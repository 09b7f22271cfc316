import Derived.Test.YtoihflimijabjaaGreatDoorTValid
namespace Go.Proofs.YtoihflimijabjaaGreatDoor
open _root_.Go.Proofs.Tryz Go.RowKit
open Value renaming slice->J,string->S,bool->F,agg->G,tuple->Y
open Obj renaming cells->O
open Go renaming World->E
open Ending renaming returned->H
open _root_ renaming Nat->X
set_option linter.unusedVariables false
set_option maxHeartbeats 8000000
set_option maxRecDepth 100000
set_option linter.unusedSimpArgs false
variable {is:List I3}
theorem l2InsOk_0(o:X)(wd t:By)(n:Int)(w:E)(Hw:Hd (∀w,Calls prog 77 #[I o] w λe w'=>e=H (Y #[S wd,I 0])/\w=w'))(C9:wd.toList.isEmpty=false)(ht:t.size<=9223372036854775807):Calls prog 58 #[G #[I o,S t,I n]] w λe w'=>Bw w w'/\e=H (F (decide ((t.size:Int)<=0)&&decide (0<=n)&&decide (n<=0))):=by
 have he:=Pc t
 by_cases hz:t.size=0
 ·have he1:t.toList.isEmpty=true:=qfu;clear he;have hd0:decide ((2000:Int)<t.size)=false:=qfw
  by_cases hn:n=0
  ·have hd:(n == 0)=true:=qbk;rw[show(decide ((t.size:Int)<=0)&&decide (0<=n)&&decide (n<=0))=true from qdg];clear hz;exact qja
  ·have hd:(n == 0)=false:=qbk;exact qid
 ·have he1:t.toList.isEmpty=false:=qfr;clear he;exact qid
theorem l2InsOk_1(o:X)(wd t:By)(n:Int)(w:E)(Hw:Hd (∀w,Calls prog 77 #[I o] w λe w'=>e=H (Y #[S wd,I 1])/\w=w'))(C9:wd.toList.isEmpty=false)(ht:t.size<=9223372036854775807):Calls prog 58 #[G #[I o,S t,I n]] w λe w'=>Bw w w'/\e=H (F (decide ((t.size:Int)<=2000)&&decide (0<=n)&&decide (n<=0))):=by
 by_cases hz:t.size<=2000
 ·have hd0:decide ((2000:Int)<t.size)=false:=qj
  by_cases hn:n=0
  ·have hd:(n == 0)=true:=qbk;rw[show(decide ((t.size:Int)<=2000)&&decide (0<=n)&&decide (n<=0))=true from qdg];exact qja
  ·have hd:(n == 0)=false:=qbk;exact qie
 ·have hd0:decide ((2000:Int)<t.size)=true:=qj;exact qie
theorem l2InsOk_2(o:X)(wd t:By)(n:Int)(w:E)(Hw:Hd (∀w,Calls prog 77 #[I o] w λe w'=>e=H (Y #[S wd,I 2])/\w=w'))(C9:wd.toList.isEmpty=false)(ht:t.size<=9223372036854775807):Calls prog 58 #[G #[I o,S t,I n]] w λe w'=>Bw w w'/\e=H (F (decide ((t.size:Int)<=0)&&decide (0<=n)&&decide (n<=2000))):=by
 have he:=Pc t
 by_cases hz:t.size=0
 ·have he1:t.toList.isEmpty=true:=qfu;clear he;have hd0:decide ((2000:Int)<t.size)=false:=qfw
  by_cases hn:0<=n
  ·have hd:decide (0<=n)=true:=qbk
   by_cases hm:n<=2000
   ·(have hd2:decide (n<=2000)=true:=by simpa using hm);rw[show(decide ((t.size:Int)<=0)&&decide (0<=n)&&decide (n<=2000))=true from qdg];exact qiz
   ·(have hd2:decide (n<=2000)=false:=by simpa using hm);exact qdx
  ·have hd:decide (0<=n)=false:=qbk;exact qdx
 ·have he1:t.toList.isEmpty=false:=qfr;clear he;exact qdx
theorem l2InsOk_3(o:X)(wd t:By)(n:Int)(w:E)(Hw:Hd (∀w,Calls prog 77 #[I o] w λe w'=>e=H (Y #[S wd,I 3])/\w=w'))(C9:wd.toList.isEmpty=false)(ht:t.size<=9223372036854775807):Calls prog 58 #[G #[I o,S t,I n]] w λe w'=>Bw w w'/\e=H (F (decide ((t.size:Int)<=0)&&decide (0<=n)&&decide (n<=200))):=by
 have he:=Pc t
 by_cases hz:t.size=0
 ·have he1:t.toList.isEmpty=true:=qfu;clear he;have hd0:decide ((2000:Int)<t.size)=false:=qfw
  by_cases hn:0<=n
  ·have hd:decide (0<=n)=true:=qbk
   by_cases hm:n<=200
   ·(have hd2:decide (n<=200)=true:=by simpa using hm);rw[show(decide ((t.size:Int)<=0)&&decide (0<=n)&&decide (n<=200))=true from qdg];exact qiz
   ·(have hd2:decide (n<=200)=false:=by simpa using hm);exact qdy
  ·have hd:decide (0<=n)=false:=qbk;exact qdy
 ·have he1:t.toList.isEmpty=false:=qfr;clear he;exact qdy
theorem Qaj(o:X)(t:By)(n:Int)(w:E)(h1:1<=o)(h2:o<=15)(ht:t.size<=9223372036854775807):Calls prog 58 #[G #[I o,S t,I n]] w λe w'=>Bw w w'/\e=H (F (decide ((t.size:Int)<=Ie (Dv o))&&decide (0<=n)&&decide (n<=Mg (Dv o)))):=by
 have C9:=Sr o h1 h2
 have hw:=λw=>l2Word_in o w h1 h2
 rcases Qan o with hk|hk|hk|hk
 ·rw[hk]at hw ⊢;exact l2InsOk_0 o _ t n w hw C9 ht
 ·rw[hk]at hw ⊢;exact l2InsOk_1 o _ t n w hw C9 ht
 ·rw[hk]at hw ⊢;exact l2InsOk_2 o _ t n w hw C9 ht
 ·rw[hk]at hw ⊢;exact l2InsOk_3 o _ t n w hw C9 ht
def Aq(is:List I3):Bool:=decide (1<=is.length)&&decide (is.length<=200)&&decide (∀i,i<is.length->Ev (ix is i)=true)
theorem Tv{i:I3}(h:i.op<1\/15<i.op):Ev i=false:=by
 rw[Bool.eq_false_iff]
 simp only[Ev,ne_eq,Bool.and_eq_true,decide_eq_true_eq]
 omega
theorem Xn(o:X)(t:By)(n:Int)(h1:1<=o)(h2:o<=15):Ev ⟨o,t,n⟩=(decide ((t.size:Int)<=Ie (Dv o))&&decide (0<=n)&&decide (n<=Mg (Dv o))):=by
 have d1:decide (1<=(o:Int))=true:=qj
 have d2:decide ((o:Int)<=15)=true:=qj
 simp only[Ev,d1,d2,Bool.true_and]
theorem Uk(i:I3)(w:E)(hT:Tf w)(ht:i.text.size<=9223372036854775807):Calls prog 92 #[G #[I i.op,S i.text,I i.n]] w λe w'=>Bw w w'/\e=H (F (Ev i)):=by
 by_cases h:i.op<1\/15<i.op
 ·rw[Tv h];exact Uj i w h
 ·obtain⟨op,t,n⟩:=i;obtain⟨o,rfl⟩:=Int.eq_ofNat_of_zero_le (show 0<=op from qcj);have h1:1<=o:=qcj;have h2:o<=15:=qcj;rw[Xn o t n h1 h2];exact Wb o t n w _ h1 h2 ht (hT o qg).2.1
theorem Xh(i:I3)(w:E)(ht:i.text.size<=9223372036854775807):Calls prog 58 #[G #[I i.op,S i.text,I i.n]] w λe w'=>Bw w w'/\e=H (F (Ev i)):=by
 by_cases h:i.op<1\/15<i.op
 ·rw[Tv h];exact Xg i w h
 ·obtain⟨op,t,n⟩:=i;obtain⟨o,rfl⟩:=Int.eq_ofNat_of_zero_le (show 0<=op from qcj);have h1:1<=o:=qcj;have h2:o<=15:=qcj;rw[Xn o t n h1 h2];exact Qaj o t n w h1 h2 ht
theorem Rj{k:X}(hk:k<is.length)(h:Ev (ix is k)=false):Aq is=false:=by
 rw[Bool.eq_false_iff]
 simp only[Aq,ne_eq,Bool.and_eq_true,decide_eq_true_eq]
 intro hh
 have:=hh.2 k hk
 rw[h]at this;cases this
theorem Po(h:∀i,i<is.length->Ev (ix is i)=true):Aq is=(decide (1<=is.length)&&decide (is.length<=200)):=by
 simp only[Aq,decide_eq_true h,Bool.and_true]
theorem Ci(a:Option Addr)(cap:X)(is:List I3)(w:E)(hc:Dl w a is)(hl:is.length<=1048576)(hs:∀i,(ix is i).text.size<=9223372036854775807):Calls prog 35 #[G #[J a is.length cap]] w λe w'=>Bw w w'/\e=H (F (Aq is)):=by
 have ba:Bw w (w.alloc (O #[J a is.length cap] 53)):=aN _ _
 go_enter func35,ntmps35
 go_wp2
 go_loopw [3] (λi wr=>∃k:X,k<=is.length/\i=I k/\(∀i,i<k->Ev (ix is i)=true)/\Bw w wr/\wr.cell? ⟨w.heap.size,0,none⟩=some (J a is.length cap)) (λi _=>is.length-(intOf i).toNat)
 case atStart=>exact⟨0,Nat.zero_le _,rfl,λi hi=>qg,ba,qr⟩
 case round=>
  obtain⟨k,hk,rfl,cm,bu,hcs⟩:=hrel;have HK:Hd (∀i,i<k->Ev (ix is i)=true):=cm;clear cm
  by_cases au:k<is.length
  ·obtain⟨b,off,rfl,c1,c2,c3⟩:=(hc.bl bu) k au;have jb:=hs k;obtain⟨i,hi⟩:∃i,i=ix is k:=⟨_,rfl⟩;rw[<- hi]at c1 c2 c3 jb;have HI:Hd (i=ix is k):=hi;clear hi hs hc ba;go_wp2_with fail;refine(Xh i _ jb).mono ?_;rintro e w1 ⟨ah,rfl⟩;have mi:Bw w w1:=bu.trans (ah.mono bu.size);have hcs1:=Aa ah hcs
   by_cases hb:Ev i=true
   ·go_wp2;go_roundw
    case rel=>
     refine⟨k+1,qg,qp,λi' hi'=>?_,mi,hcs1⟩;exact qkg
    case measure=>simp[intOf];omega
   ·(have nk:Ev i=false:=by simpa using hb);have hf:Aq is=false:=Rj au (by rw[<- HI.o];exact nk);have HF:Hd (Aq is=false):=hf;clear hf hb;go_wp2;go_ret;exact⟨mi,qcw⟩
  ·have zg:∀i,i<is.length->Ev (ix is i)=true:=λi hi=>HK.o i qg;have HG:Hd (Aq is=(decide (1<=is.length)&&decide (is.length<=200))):=Po zg;clear zg hs
   by_cases h1:1<=is.length
   ·have d1:decide ((1:Int)<=is.length)=true:=qj;(have d1':decide (1<=is.length)=true:=by simpa using h1);go_wp2;go_ret;exact⟨bu,by rw[HG.o,d1',Bool.true_and];show Ending.returned (F (decide ((is.length:Int)<=200)))=_;exact congrArg (λb=>Ending.returned (F b)) (by rw[Bool.eq_iff_iff,decide_eq_true_eq,decide_eq_true_eq];omega)⟩
   ·have d1:decide ((1:Int)<=is.length)=false:=qj;(have d1':decide (1<=is.length)=false:=by rw[decide_eq_false_iff_not];exact h1);go_wp2;go_ret;exact⟨bu,by rw[HG.o,d1',Bool.false_and];rfl⟩
theorem Zr(h:is.length<1\/200<is.length):Aq is=false:=by
 rw[Bool.eq_false_iff]
 simp only[Aq,ne_eq,Bool.and_eq_true,decide_eq_true_eq]
 omega
theorem Tc(a:Option Addr)(cap:X)(is:List I3)(w:E)(hT:Tf w)(hc:Dl w a is)(hl:is.length<=1048576)(hs:∀i,(ix is i).text.size<=9223372036854775807):Calls prog 82 #[G #[J a is.length cap]] w λe w'=>Bw w w'/\e=H (F (Aq is)):=by
 have ba:Bw w (w.alloc (O #[J a is.length cap] 53)):=aN _ _
 by_cases mq:is.length<1\/200<is.length
 ·rw[Zr mq]
  by_cases h1:is.length<1
  ·have d1:decide ((is.length:Int)<1)=true:=qj;go_enter func82,ntmps82;go_wp2;go_ret;exact⟨ba,rfl⟩
  ·have d1:decide ((is.length:Int)<1)=false:=qj;have d2:decide (200<(is.length:Int))=true:=qj;go_enter func82,ntmps82;go_wp2;go_ret;exact⟨ba,rfl⟩
 ·have d1:decide ((is.length:Int)<1)=false:=qj;have d2:decide (200<(is.length:Int))=false:=qj;have l1:1<=is.length:=qg;have l2:is.length<=200:=qg;clear mq;go_enter func82,ntmps82;go_wp2
  go_loopw [18] (λi wr=>∃k:X,k<=is.length/\i=I k/\(∀i,i<k->Ev (ix is i)=true)/\Bw w wr) (λi _=>is.length-(intOf i).toNat)
  case atStart=>exact⟨0,Nat.zero_le _,rfl,λi hi=>qg,ba⟩
  case round=>
   obtain⟨k,hk,rfl,cm,bu⟩:=hrel;have HK:Hd (∀i,i<k->Ev (ix is i)=true):=cm;clear cm
   by_cases au:k<is.length
   ·obtain⟨b,off,rfl,c1,c2,c3⟩:=(hc.bl bu) k au;have jb:=hs k;obtain⟨i,hi⟩:∃i,i=ix is k:=⟨_,rfl⟩;rw[<- hi]at c1 c2 c3 jb;have HI:Hd (i=ix is k):=hi;have hTr:=hT.bl bu;have HTr:Hd (Tf wr):=hTr;clear hi hs hc ba hT hTr;go_wp2_with fail;have hba:Bw wr (wr.alloc (O #[I i.op,S i.text,I i.n] 103)):=aN _ _;refine(Uk i _ (HTr.o.bl hba) jb).mono ?_;rintro e w1 ⟨ah,rfl⟩;have mi:Bw w w1:=(bu.trans (hba.mono bu.size)).trans (ah.mono (by simp;have:=bu.size;omega));clear hba ah
    by_cases hb:Ev i=true
    ·go_wp2;go_roundw
     case rel=>
      refine⟨k+1,qg,qp,λi' hi'=>?_,mi⟩;exact qkg
     case measure=>simp[intOf];omega
    ·(have nk:Ev i=false:=by simpa using hb);have HF:Hd (Aq is=false):=Rj au (by rw[<- HI.o];exact nk);clear hb;go_wp2;go_ret;exact⟨mi,qcw⟩
   ·have zg:∀i,i<is.length->Ev (ix is i)=true:=λi hi=>HK.o i qg
    have HG:Hd (Aq is=true):=by
     show Aq is=true;rw[Po zg,decide_eq_true l1,decide_eq_true l2];rfl
    clear zg hs;go_wp2;go_ret;exact⟨bu,by rw[HG.o];rfl⟩
end Go.Proofs.YtoihflimijabjaaGreatDoor
