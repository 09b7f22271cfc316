import Derived.Test.YtjlnkepkkdefdaaGreatDoorTValid
namespace Go.Proofs.YtjlnkepkkdefdaaGreatDoor
open Go.RowKit
set_option linter.unusedVariables false
set_option maxHeartbeats 8000000
set_option maxRecDepth 100000
set_option linter.unusedSimpArgs false
theorem l2InsOk_0 (o:Nat) (wd t:ByteArray) (n:Int) (w:World) (Hw:Hd (∀ w,Calls Tryz.prog 105 #[.int .i64 o] w fun e w'=>e=.returned (.tuple #[.string wd,.int .i64 0])/\w=w')) (hwe:wd.toList.isEmpty=false) (ht:t.size<=9223372036854775807) :
  Calls Tryz.prog 76 #[.agg #[.int .i64 o,.string t,.int .i64 n]] w fun e w'=>Below w.heap.size w w'/\e=.returned (.bool (decide ((t.size:Int)<=0) && decide (0<=n) && decide (n<=0))):=by
 have he:=Qi t
 by_cases hz:t.size=0
 ·have he1:t.toList.isEmpty=true:=by rw[he,decide_eq_true_eq];exact hz
  clear he;have hd0:decide ((2000:Int)<t.size)=false:=by rw[decide_eq_false_iff_not];omega
  by_cases hn:n=0
  ·have hd:(n == 0)=true:=by simpa using hn
   rw[show (decide ((t.size:Int)<=0) && decide (0<=n) && decide (n<=0))=true from by simp only[Bool.and_eq_true,decide_eq_true_eq];omega];clear hz;clear hn;go_enter Tryz.func76,Tryz.ntmps76
   go_wp2_with (first|(go_at_call 105;refine((Hw.o) _).mono ?_;rintro e w' ⟨rfl,rfl⟩))
   go_ret;exact⟨aN _ _,rfl⟩
  ·have hd:(n == 0)=false:=by simpa using hn
   rw[show (decide ((t.size:Int)<=0) && decide (0<=n) && decide (n<=0))=false from by rw[Bool.eq_false_iff];simp only[ne_eq,Bool.and_eq_true,decide_eq_true_eq];omega];clear hz;go_enter Tryz.func76,Tryz.ntmps76
   go_wp2_with (first|(go_at_call 105;refine((Hw.o) _).mono ?_;rintro e w' ⟨rfl,rfl⟩))
   go_ret;exact⟨aN _ _,rfl⟩
 ·have he1:t.toList.isEmpty=false:=by rw[he,decide_eq_false_iff_not];exact hz
  clear he;rw[show (decide ((t.size:Int)<=0) && decide (0<=n) && decide (n<=0))=false from by rw[Bool.eq_false_iff];simp only[ne_eq,Bool.and_eq_true,decide_eq_true_eq];omega];clear hz;go_enter Tryz.func76,Tryz.ntmps76
  go_wp2_with (first|(go_at_call 105;refine((Hw.o) _).mono ?_;rintro e w' ⟨rfl,rfl⟩))
  go_ret;exact⟨aN _ _,rfl⟩
theorem l2InsOk_1 (o:Nat) (wd t:ByteArray) (n:Int) (w:World) (Hw:Hd (∀ w,Calls Tryz.prog 105 #[.int .i64 o] w fun e w'=>e=.returned (.tuple #[.string wd,.int .i64 1])/\w=w')) (hwe:wd.toList.isEmpty=false) (ht:t.size<=9223372036854775807) :
  Calls Tryz.prog 76 #[.agg #[.int .i64 o,.string t,.int .i64 n]] w fun e w'=>Below w.heap.size w w'/\e=.returned (.bool (decide ((t.size:Int)<=2000) && decide (0<=n) && decide (n<=0))):=by
 by_cases hz:t.size<=2000
 ·have hd0:decide ((2000:Int)<t.size)=false:=by simp;omega
  by_cases hn:n=0
  ·have hd:(n == 0)=true:=by simpa using hn
   rw[show (decide ((t.size:Int)<=2000) && decide (0<=n) && decide (n<=0))=true from by simp only[Bool.and_eq_true,decide_eq_true_eq];omega];clear hn;go_enter Tryz.func76,Tryz.ntmps76
   go_wp2_with (first|(go_at_call 105;refine((Hw.o) _).mono ?_;rintro e w' ⟨rfl,rfl⟩))
   go_ret;exact⟨aN _ _,rfl⟩
  ·have hd:(n == 0)=false:=by simpa using hn
   rw[show (decide ((t.size:Int)<=2000) && decide (0<=n) && decide (n<=0))=false from by rw[Bool.eq_false_iff];simp only[ne_eq,Bool.and_eq_true,decide_eq_true_eq];omega];go_enter Tryz.func76,Tryz.ntmps76
   go_wp2_with (first|(go_at_call 105;refine((Hw.o) _).mono ?_;rintro e w' ⟨rfl,rfl⟩))
   go_ret;exact⟨aN _ _,rfl⟩
 ·have hd0:decide ((2000:Int)<t.size)=true:=by simp;omega
  rw[show (decide ((t.size:Int)<=2000) && decide (0<=n) && decide (n<=0))=false from by rw[Bool.eq_false_iff];simp only[ne_eq,Bool.and_eq_true,decide_eq_true_eq];omega];go_enter Tryz.func76,Tryz.ntmps76
  go_wp2_with (first|(go_at_call 105;refine((Hw.o) _).mono ?_;rintro e w' ⟨rfl,rfl⟩))
  go_ret;exact⟨aN _ _,rfl⟩
theorem l2InsOk_2 (o:Nat) (wd t:ByteArray) (n:Int) (w:World) (Hw:Hd (∀ w,Calls Tryz.prog 105 #[.int .i64 o] w fun e w'=>e=.returned (.tuple #[.string wd,.int .i64 2])/\w=w')) (hwe:wd.toList.isEmpty=false) (ht:t.size<=9223372036854775807) :
  Calls Tryz.prog 76 #[.agg #[.int .i64 o,.string t,.int .i64 n]] w fun e w'=>Below w.heap.size w w'/\e=.returned (.bool (decide ((t.size:Int)<=0) && decide (0<=n) && decide (n<=2000))):=by
 have he:=Qi t
 by_cases hz:t.size=0
 ·have he1:t.toList.isEmpty=true:=by rw[he,decide_eq_true_eq];exact hz
  clear he;have hd0:decide ((2000:Int)<t.size)=false:=by rw[decide_eq_false_iff_not];omega
  by_cases hn:0<=n
  ·have hd:decide (0<=n)=true:=by simpa using hn
   by_cases hm:n<=2000
   ·(have hd2:decide (n<=2000)=true:=by simpa using hm);rw[show (decide ((t.size:Int)<=0) && decide (0<=n) && decide (n<=2000))=true from by simp only[Bool.and_eq_true,decide_eq_true_eq];omega];clear hz;go_enter Tryz.func76,Tryz.ntmps76
    go_wp2_with (first|(go_at_call 105;refine((Hw.o) _).mono ?_;rintro e w' ⟨rfl,rfl⟩))
    go_ret;exact⟨aN _ _,rfl⟩
   ·(have hd2:decide (n<=2000)=false:=by simpa using hm);rw[show (decide ((t.size:Int)<=0) && decide (0<=n) && decide (n<=2000))=false from by rw[Bool.eq_false_iff];simp only[ne_eq,Bool.and_eq_true,decide_eq_true_eq];omega];clear hz;go_enter Tryz.func76,Tryz.ntmps76
    go_wp2_with (first|(go_at_call 105;refine((Hw.o) _).mono ?_;rintro e w' ⟨rfl,rfl⟩))
    go_ret;exact⟨aN _ _,rfl⟩
  ·have hd:decide (0<=n)=false:=by simpa using hn
   rw[show (decide ((t.size:Int)<=0) && decide (0<=n) && decide (n<=2000))=false from by rw[Bool.eq_false_iff];simp only[ne_eq,Bool.and_eq_true,decide_eq_true_eq];omega];clear hz;go_enter Tryz.func76,Tryz.ntmps76
   go_wp2_with (first|(go_at_call 105;refine((Hw.o) _).mono ?_;rintro e w' ⟨rfl,rfl⟩))
   go_ret;exact⟨aN _ _,rfl⟩
 ·have he1:t.toList.isEmpty=false:=by rw[he,decide_eq_false_iff_not];exact hz
  clear he;rw[show (decide ((t.size:Int)<=0) && decide (0<=n) && decide (n<=2000))=false from by rw[Bool.eq_false_iff];simp only[ne_eq,Bool.and_eq_true,decide_eq_true_eq];omega];clear hz;go_enter Tryz.func76,Tryz.ntmps76
  go_wp2_with (first|(go_at_call 105;refine((Hw.o) _).mono ?_;rintro e w' ⟨rfl,rfl⟩))
  go_ret;exact⟨aN _ _,rfl⟩
theorem l2InsOk_3 (o:Nat) (wd t:ByteArray) (n:Int) (w:World) (Hw:Hd (∀ w,Calls Tryz.prog 105 #[.int .i64 o] w fun e w'=>e=.returned (.tuple #[.string wd,.int .i64 3])/\w=w')) (hwe:wd.toList.isEmpty=false) (ht:t.size<=9223372036854775807) :
  Calls Tryz.prog 76 #[.agg #[.int .i64 o,.string t,.int .i64 n]] w fun e w'=>Below w.heap.size w w'/\e=.returned (.bool (decide ((t.size:Int)<=0) && decide (0<=n) && decide (n<=200))):=by
 have he:=Qi t
 by_cases hz:t.size=0
 ·have he1:t.toList.isEmpty=true:=by rw[he,decide_eq_true_eq];exact hz
  clear he;have hd0:decide ((2000:Int)<t.size)=false:=by rw[decide_eq_false_iff_not];omega
  by_cases hn:0<=n
  ·have hd:decide (0<=n)=true:=by simpa using hn
   by_cases hm:n<=200
   ·(have hd2:decide (n<=200)=true:=by simpa using hm);rw[show (decide ((t.size:Int)<=0) && decide (0<=n) && decide (n<=200))=true from by simp only[Bool.and_eq_true,decide_eq_true_eq];omega];clear hz;go_enter Tryz.func76,Tryz.ntmps76
    go_wp2_with (first|(go_at_call 105;refine((Hw.o) _).mono ?_;rintro e w' ⟨rfl,rfl⟩))
    go_ret;exact⟨aN _ _,rfl⟩
   ·(have hd2:decide (n<=200)=false:=by simpa using hm);rw[show (decide ((t.size:Int)<=0) && decide (0<=n) && decide (n<=200))=false from by rw[Bool.eq_false_iff];simp only[ne_eq,Bool.and_eq_true,decide_eq_true_eq];omega];clear hz;go_enter Tryz.func76,Tryz.ntmps76
    go_wp2_with (first|(go_at_call 105;refine((Hw.o) _).mono ?_;rintro e w' ⟨rfl,rfl⟩))
    go_ret;exact⟨aN _ _,rfl⟩
  ·have hd:decide (0<=n)=false:=by simpa using hn
   rw[show (decide ((t.size:Int)<=0) && decide (0<=n) && decide (n<=200))=false from by rw[Bool.eq_false_iff];simp only[ne_eq,Bool.and_eq_true,decide_eq_true_eq];omega];clear hz;go_enter Tryz.func76,Tryz.ntmps76
   go_wp2_with (first|(go_at_call 105;refine((Hw.o) _).mono ?_;rintro e w' ⟨rfl,rfl⟩))
   go_ret;exact⟨aN _ _,rfl⟩
 ·have he1:t.toList.isEmpty=false:=by rw[he,decide_eq_false_iff_not];exact hz
  clear he;rw[show (decide ((t.size:Int)<=0) && decide (0<=n) && decide (n<=200))=false from by rw[Bool.eq_false_iff];simp only[ne_eq,Bool.and_eq_true,decide_eq_true_eq];omega];clear hz;go_enter Tryz.func76,Tryz.ntmps76
  go_wp2_with (first|(go_at_call 105;refine((Hw.o) _).mono ?_;rintro e w' ⟨rfl,rfl⟩))
  go_ret;exact⟨aN _ _,rfl⟩
theorem l2InsOk_in (o:Nat) (t:ByteArray) (n:Int) (w:World) (h1:1<=o) (h2:o<=15) (ht:t.size<=9223372036854775807) :
  Calls Tryz.prog 76 #[.agg #[.int .i64 o,.string t,.int .i64 n]] w fun e w'=>Below w.heap.size w w'/\e=.returned (.bool (decide ((t.size:Int)<=Lj (Ga o)) && decide (0<=n) && decide (n<=Nc (Ga o)))):=by
 have hwe:=Tu o h1 h2
 have hw:=fun w=>l2Word_in o w h1 h2
 rcases kind_cases o with hk|hk|hk|hk
 ·rw[hk] at hw ⊢;exact l2InsOk_0 o _ t n w hw hwe ht
 ·rw[hk] at hw ⊢;exact l2InsOk_1 o _ t n w hw hwe ht
 ·rw[hk] at hw ⊢;exact l2InsOk_2 o _ t n w hw hwe ht
 ·rw[hk] at hw ⊢;exact l2InsOk_3 o _ t n w hw hwe ht
def Ah (is:List I3):Bool:=decide (1<=is.length) && decide (is.length<=200) && decide (∀ i,i<is.length->Gu (ix is i)=true)
theorem Uz {i:I3} (h:i.op<1\/15<i.op):Gu i=false:=by
 rw[Bool.eq_false_iff]
 simp only[Gu,ne_eq,Bool.and_eq_true,decide_eq_true_eq]
 omega
theorem Zi (o:Nat) (t:ByteArray) (n:Int) (h1:1<=o) (h2:o<=15):Gu ⟨o,t,n⟩=(decide ((t.size:Int)<=Lj (Ga o)) && decide (0<=n) && decide (n<=Nc (Ga o))):=by
 have d1:decide (1<=(o:Int))=true:=by simp;omega
 have d2:decide ((o:Int)<=15)=true:=by simp;omega
 simp only[Gu,d1,d2,Bool.true_and]
theorem Vk (i:I3) (w:World) (hT:Jr w) (ht:i.text.size<=9223372036854775807) :
  Calls Tryz.prog 49 #[.agg #[.int .i64 i.op,.string i.text,.int .i64 i.n]] w fun e w'=>Below w.heap.size w w'/\e=.returned (.bool (Gu i)):=by
 by_cases h:i.op<1\/15<i.op
 ·rw[Uz h];exact Vj i w h
 ·obtain⟨op,t,n⟩:=i;obtain⟨o,rfl⟩:=Int.eq_ofNat_of_zero_le (show 0<=op by simp at h;omega);have h1:1<=o:=by simp at h;omega
  have h2:o<=15:=by simp at h;omega
  rw[Zi o t n h1 h2];exact Wz o t n w _ h1 h2 ht (hT o (by omega)).2.1
theorem Zb (i:I3) (w:World) (ht:i.text.size<=9223372036854775807) :
  Calls Tryz.prog 76 #[.agg #[.int .i64 i.op,.string i.text,.int .i64 i.n]] w fun e w'=>Below w.heap.size w w'/\e=.returned (.bool (Gu i)):=by
 by_cases h:i.op<1\/15<i.op
 ·rw[Uz h];exact Za i w h
 ·obtain⟨op,t,n⟩:=i;obtain⟨o,rfl⟩:=Int.eq_ofNat_of_zero_le (show 0<=op by simp at h;omega);have h1:1<=o:=by simp at h;omega
  have h2:o<=15:=by simp at h;omega
  rw[Zi o t n h1 h2];exact l2InsOk_in o t n w h1 h2 ht
theorem Ru {is:List I3} {k:Nat} (hk:k<is.length) (h:Gu (ix is k)=false):Ah is=false:=by
 rw[Bool.eq_false_iff]
 simp only[Ah,ne_eq,Bool.and_eq_true,decide_eq_true_eq]
 intro hh
 have:=hh.2 k hk
 rw[h] at this;cases this
theorem Qs {is:List I3} (h:∀ i,i<is.length->Gu (ix is i)=true):Ah is=(decide (1<=is.length) && decide (is.length<=200)):=by
 simp only[Ah,decide_eq_true h,Bool.and_true]
theorem Cs (a:Option Addr) (cap:Nat) (is:List I3) (w:World) (hc:Dr w a is) (hl:is.length<=1048576) (hs:∀ i,(ix is i).text.size<=9223372036854775807) :
  Calls Tryz.prog 44 #[.agg #[.slice a is.length cap]] w fun e w'=>Below w.heap.size w w'/\e=.returned (.bool (Ah is)):=by
 have hb0:Below w.heap.size w (w.alloc (.cells #[.slice a is.length cap] 37)):=aN _ _
 go_enter Tryz.func44,Tryz.ntmps44
 go_wp2
 go_loopw [3] (fun i wr=>∃ k:Nat,k<=is.length/\i=.int .i64 k/\(∀ i,i<k->Gu (ix is i)=true)/\Below w.heap.size w wr/\wr.cell? ⟨w.heap.size,0,none⟩=some (.slice a is.length cap)) (fun i _=>is.length-(intOf i).toNat)
 case atStart=>exact⟨0,Nat.zero_le _,rfl,fun i hi=>by omega,hb0,by simp[go_sem]⟩
 case round=>
  obtain⟨k,hk,rfl,hok,hbr,hcs⟩:=hrel;have HK:Hd (∀ i,i<k->Gu (ix is i)=true):=hok;clear hok
  by_cases hlt:k<is.length
  ·obtain⟨b,off,rfl,c1,c2,c3⟩:=(hc.bl hbr) k hlt;have hsk:=hs k;obtain⟨i,hi⟩:∃ i,i=ix is k:=⟨_,rfl⟩;rw[<- hi] at c1 c2 c3 hsk;have HI:Hd (i=ix is k):=hi;clear hi hs hc hb0;go_wp2_with fail;refine(Zb i _ hsk).mono ?_;rintro e w1 ⟨hb1,rfl⟩;have hbw:Below w.heap.size w w1:=hbr.trans (hb1.mono hbr.size);have hcs1:=Ab hb1 hcs
   by_cases hb:Gu i=true
   ·go_wp2;go_roundw
    case rel=>
     refine⟨k+1,by omega,by go_num,fun i' hi'=>?_,hbw,hcs1⟩
     rcases Nat.lt_or_ge i' k with h|h
     ·exact HK.o i' h
     ·(obtain rfl:i'=k:=by omega);rw[<- HI.o];exact hb
    case measure=>simp[intOf];omega
   ·(have hb':Gu i=false:=by simpa using hb);have hf:Ah is=false:=Ru hlt (by rw[<- HI.o];exact hb');have HF:Hd (Ah is=false):=hf;clear hf hb;go_wp2;go_ret;exact⟨hbw,by rw[HF.o];rfl⟩
  ·have hall:∀ i,i<is.length->Gu (ix is i)=true:=fun i hi=>HK.o i (by omega);have HG:Hd (Ah is=(decide (1<=is.length) && decide (is.length<=200))):=Qs hall;clear hall hs
   by_cases h1:1<=is.length
   ·(have d1:decide ((1:Int)<=is.length)=true:=by simp;omega);(have d1':decide (1<=is.length)=true:=by simpa using h1);go_wp2;go_ret;exact⟨hbr,by rw[HG.o,d1',Bool.true_and];show Ending.returned (.bool (decide ((is.length:Int)<=200)))=_;exact congrArg (fun b=>Ending.returned (.bool b)) (by rw[Bool.eq_iff_iff,decide_eq_true_eq,decide_eq_true_eq];omega)⟩
   ·(have d1:decide ((1:Int)<=is.length)=false:=by simp;omega);(have d1':decide (1<=is.length)=false:=by rw[decide_eq_false_iff_not];exact h1);go_wp2;go_ret;exact⟨hbr,by rw[HG.o,d1',Bool.false_and];rfl⟩
theorem progOk_len {is:List I3} (h:is.length<1\/200<is.length):Ah is=false:=by
 rw[Bool.eq_false_iff]
 simp only[Ah,ne_eq,Bool.and_eq_true,decide_eq_true_eq]
 omega
theorem Hx (a:Option Addr) (cap:Nat) (is:List I3) (w:World) (hT:Jr w) (hc:Dr w a is) (hl:is.length<=1048576) (hs:∀ i,(ix is i).text.size<=9223372036854775807) :
  Calls Tryz.prog 26 #[.agg #[.slice a is.length cap]] w fun e w'=>Below w.heap.size w w'/\e=.returned (.bool (Ah is)):=by
 have hb0:Below w.heap.size w (w.alloc (.cells #[.slice a is.length cap] 37)):=aN _ _
 by_cases hlen:is.length<1\/200<is.length
 ·rw[progOk_len hlen]
  by_cases h1:is.length<1
  ·have d1:decide ((is.length:Int)<1)=true:=by simp;omega
   go_enter Tryz.func26,Tryz.ntmps26;go_wp2;go_ret;exact⟨hb0,rfl⟩
  ·have d1:decide ((is.length:Int)<1)=false:=by simp;omega
   have d2:decide (200<(is.length:Int))=true:=by simp;omega
   go_enter Tryz.func26,Tryz.ntmps26;go_wp2;go_ret;exact⟨hb0,rfl⟩
 ·have d1:decide ((is.length:Int)<1)=false:=by simp;omega
  have d2:decide (200<(is.length:Int))=false:=by simp;omega
  have l1:1<=is.length:=by omega
  have l2:is.length<=200:=by omega
  clear hlen;go_enter Tryz.func26,Tryz.ntmps26;go_wp2
  go_loopw [18] (fun i wr=>∃ k:Nat,k<=is.length/\i=.int .i64 k/\(∀ i,i<k->Gu (ix is i)=true)/\Below w.heap.size w wr) (fun i _=>is.length-(intOf i).toNat)
  case atStart=>exact⟨0,Nat.zero_le _,rfl,fun i hi=>by omega,hb0⟩
  case round=>
   obtain⟨k,hk,rfl,hok,hbr⟩:=hrel;have HK:Hd (∀ i,i<k->Gu (ix is i)=true):=hok;clear hok
   by_cases hlt:k<is.length
   ·obtain⟨b,off,rfl,c1,c2,c3⟩:=(hc.bl hbr) k hlt;have hsk:=hs k;obtain⟨i,hi⟩:∃ i,i=ix is k:=⟨_,rfl⟩;rw[<- hi] at c1 c2 c3 hsk;have HI:Hd (i=ix is k):=hi;have hTr:=hT.bl hbr;have HTr:Hd (Jr wr):=hTr;clear hi hs hc hb0 hT hTr;go_wp2_with fail;have hba:Below wr.heap.size wr (wr.alloc (.cells #[.int .i64 i.op,.string i.text,.int .i64 i.n] 106)):=aN _ _;refine(Vk i _ (HTr.o.bl hba) hsk).mono ?_;rintro e w1 ⟨hb1,rfl⟩;have hbw:Below w.heap.size w w1:=(hbr.trans (hba.mono hbr.size)).trans (hb1.mono (by simp;have:=hbr.size;omega));clear hba hb1
    by_cases hb:Gu i=true
    ·go_wp2;go_roundw
     case rel=>
      refine⟨k+1,by omega,by go_num,fun i' hi'=>?_,hbw⟩
      rcases Nat.lt_or_ge i' k with h|h
      ·exact HK.o i' h
      ·(obtain rfl:i'=k:=by omega);rw[<- HI.o];exact hb
     case measure=>simp[intOf];omega
    ·(have hb':Gu i=false:=by simpa using hb);have HF:Hd (Ah is=false):=Ru hlt (by rw[<- HI.o];exact hb');clear hb;go_wp2;go_ret;exact⟨hbw,by rw[HF.o];rfl⟩
   ·have hall:∀ i,i<is.length->Gu (ix is i)=true:=fun i hi=>HK.o i (by omega)
    have HG:Hd (Ah is=true):=by
     show Ah is=true;rw[Qs hall,decide_eq_true l1,decide_eq_true l2];rfl
    clear hall hs;go_wp2;go_ret;exact⟨hbr,by rw[HG.o];rfl⟩
end Go.Proofs.YtjlnkepkkdefdaaGreatDoor
