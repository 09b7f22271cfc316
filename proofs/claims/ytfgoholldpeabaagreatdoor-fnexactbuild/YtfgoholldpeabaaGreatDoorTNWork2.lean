import Derived.Test.YtfgoholldpeabaaGreatDoorRows
import Derived.Test.YtfgoholldpeabaaGreatDoorTValid
namespace Go.Proofs.YtfgoholldpeabaaGreatDoor
open _root_.Go.Proofs.Tryz Go.RowKit
set_option linter.unusedVariables false
set_option maxHeartbeats 8000000
set_option maxRecDepth 100000
set_option linter.unusedSimpArgs false
variable {i k b m B g n cap:Nat} {is:List I3} {w w':World} {s:By} {a:Option Addr} {cd v:Value} {pl st:Int} {xs:List Value} {ss:List By}
theorem l2InsOk_0 (o:Nat) (wd t:By) (n:Int) (w:World) (Hw:Hd (∀ w,Calls prog 84 #[I o] w fun e w'=>e=.returned (.tuple #[.string wd,I 0])/\w=w')) (Q2:wd.toList.isEmpty=false) (ht:t.size<=9223372036854775807) :
  Calls prog 65 #[.agg #[I o,.string t,I n]] w fun e w'=>Bw w w'/\e=.returned (.bool (decide ((t.size:Int)<=0) && decide (0<=n) && decide (n<=0))):=by
 have he:=Qp t
 by_cases hz:t.size=0
 ·have he1:t.toList.isEmpty=true:=qgo;clear he;have hd0:decide ((2000:Int)<t.size)=false:=qgp
  by_cases hn:n=0
  ·have hd:(n == 0)=true:=qbb;rw[show (decide ((t.size:Int)<=0) && decide (0<=n) && decide (n<=0))=true from qdx];clear hz;exact qjc
  ·have hd:(n == 0)=false:=qbb;exact qic
 ·have he1:t.toList.isEmpty=false:=qgl;clear he;exact qic
theorem l2InsOk_1 (o:Nat) (wd t:By) (n:Int) (w:World) (Hw:Hd (∀ w,Calls prog 84 #[I o] w fun e w'=>e=.returned (.tuple #[.string wd,I 1])/\w=w')) (Q2:wd.toList.isEmpty=false) (ht:t.size<=9223372036854775807) :
  Calls prog 65 #[.agg #[I o,.string t,I n]] w fun e w'=>Bw w w'/\e=.returned (.bool (decide ((t.size:Int)<=2000) && decide (0<=n) && decide (n<=0))):=by
 by_cases hz:t.size<=2000
 ·have hd0:decide ((2000:Int)<t.size)=false:=qh
  by_cases hn:n=0
  ·have hd:(n == 0)=true:=qbb;rw[show (decide ((t.size:Int)<=2000) && decide (0<=n) && decide (n<=0))=true from qdx];exact qjc
  ·have hd:(n == 0)=false:=qbb;exact qid
 ·have hd0:decide ((2000:Int)<t.size)=true:=qh;exact qid
theorem l2InsOk_2 (o:Nat) (wd t:By) (n:Int) (w:World) (Hw:Hd (∀ w,Calls prog 84 #[I o] w fun e w'=>e=.returned (.tuple #[.string wd,I 2])/\w=w')) (Q2:wd.toList.isEmpty=false) (ht:t.size<=9223372036854775807) :
  Calls prog 65 #[.agg #[I o,.string t,I n]] w fun e w'=>Bw w w'/\e=.returned (.bool (decide ((t.size:Int)<=0) && decide (0<=n) && decide (n<=2000))):=by
 have he:=Qp t
 by_cases hz:t.size=0
 ·have he1:t.toList.isEmpty=true:=qgo;clear he;have hd0:decide ((2000:Int)<t.size)=false:=qgp
  by_cases hn:0<=n
  ·have hd:decide (0<=n)=true:=qbb
   by_cases hm:n<=2000
   ·(have hd2:decide (n<=2000)=true:=by simpa using hm);rw[show (decide ((t.size:Int)<=0) && decide (0<=n) && decide (n<=2000))=true from qdx];exact qjb
   ·(have hd2:decide (n<=2000)=false:=by simpa using hm);exact qep
  ·have hd:decide (0<=n)=false:=qbb;exact qep
 ·have he1:t.toList.isEmpty=false:=qgl;clear he;exact qep
theorem l2InsOk_3 (o:Nat) (wd t:By) (n:Int) (w:World) (Hw:Hd (∀ w,Calls prog 84 #[I o] w fun e w'=>e=.returned (.tuple #[.string wd,I 3])/\w=w')) (Q2:wd.toList.isEmpty=false) (ht:t.size<=9223372036854775807) :
  Calls prog 65 #[.agg #[I o,.string t,I n]] w fun e w'=>Bw w w'/\e=.returned (.bool (decide ((t.size:Int)<=0) && decide (0<=n) && decide (n<=200))):=by
 have he:=Qp t
 by_cases hz:t.size=0
 ·have he1:t.toList.isEmpty=true:=qgo;clear he;have hd0:decide ((2000:Int)<t.size)=false:=qgp
  by_cases hn:0<=n
  ·have hd:decide (0<=n)=true:=qbb
   by_cases hm:n<=200
   ·(have hd2:decide (n<=200)=true:=by simpa using hm);rw[show (decide ((t.size:Int)<=0) && decide (0<=n) && decide (n<=200))=true from qdx];exact qjb
   ·(have hd2:decide (n<=200)=false:=by simpa using hm);exact qeq
  ·have hd:decide (0<=n)=false:=qbb;exact qeq
 ·have he1:t.toList.isEmpty=false:=qgl;clear he;exact qeq
theorem l2InsOk_in (o:Nat) (t:By) (n:Int) (w:World) (h1:1<=o) (h2:o<=15) (ht:t.size<=9223372036854775807) :
  Calls prog 65 #[.agg #[I o,.string t,I n]] w fun e w'=>Bw w w'/\e=.returned (.bool (decide ((t.size:Int)<=Lq (Ek o)) && decide (0<=n) && decide (n<=Nx (Ek o)))):=by
 have Q2:=Uz o h1 h2
 have hw:=fun w=>l2Word_in o w h1 h2
 rcases kind_cases o with hk|hk|hk|hk
 ·rw[hk] at hw ⊢;exact l2InsOk_0 o _ t n w hw Q2 ht
 ·rw[hk] at hw ⊢;exact l2InsOk_1 o _ t n w hw Q2 ht
 ·rw[hk] at hw ⊢;exact l2InsOk_2 o _ t n w hw Q2 ht
 ·rw[hk] at hw ⊢;exact l2InsOk_3 o _ t n w hw Q2 ht
def Au (is:List I3):Bool:=decide (1<=is.length) && decide (is.length<=200) && decide (∀ i,i<is.length->Hc (ix is i)=true)
theorem Xc {i:I3} (h:i.op<1\/15<i.op):Hc i=false:=by
 rw[Bool.eq_false_iff]
 simp only[Hc,ne_eq,Bool.and_eq_true,decide_eq_true_eq]
 omega
theorem Qbn (o:Nat) (t:By) (n:Int) (h1:1<=o) (h2:o<=15):Hc ⟨o,t,n⟩=(decide ((t.size:Int)<=Lq (Ek o)) && decide (0<=n) && decide (n<=Nx (Ek o))):=by
 have d1:decide (1<=(o:Int))=true:=qh
 have d2:decide ((o:Int)<=15)=true:=qh
 simp only[Hc,d1,d2,Bool.true_and]
theorem Xn (i:I3) (w:World) (hT:Lr w) (ht:i.text.size<=9223372036854775807) :
  Calls prog 142 #[.agg #[I i.op,.string i.text,I i.n]] w fun e w'=>Bw w w'/\e=.returned (.bool (Hc i)):=by
 by_cases h:i.op<1\/15<i.op
 ·rw[Xc h];exact Xm i w h
 ·obtain⟨op,t,n⟩:=i;obtain⟨o,rfl⟩:=Int.eq_ofNat_of_zero_le (show 0<=op from qcc);have h1:1<=o:=qcc;have h2:o<=15:=qcc;rw[Qbn o t n h1 h2];exact Qae o t n w _ h1 h2 ht (hT o qb).2.1
theorem Qbj (i:I3) (w:World) (ht:i.text.size<=9223372036854775807) :
  Calls prog 65 #[.agg #[I i.op,.string i.text,I i.n]] w fun e w'=>Bw w w'/\e=.returned (.bool (Hc i)):=by
 by_cases h:i.op<1\/15<i.op
 ·rw[Xc h];exact Qbi i w h
 ·obtain⟨op,t,n⟩:=i;obtain⟨o,rfl⟩:=Int.eq_ofNat_of_zero_le (show 0<=op from qcc);have h1:1<=o:=qcc;have h2:o<=15:=qcc;rw[Qbn o t n h1 h2];exact l2InsOk_in o t n w h1 h2 ht
theorem Ts (hk:k<is.length) (h:Hc (ix is k)=false):Au is=false:=by
 rw[Bool.eq_false_iff]
 simp only[Au,ne_eq,Bool.and_eq_true,decide_eq_true_eq]
 intro hh
 have:=hh.2 k hk
 rw[h] at this;cases this
theorem Qz (h:∀ i,i<is.length->Hc (ix is i)=true):Au is=(decide (1<=is.length) && decide (is.length<=200)):=by
 simp only[Au,decide_eq_true h,Bool.and_true]
theorem Ht (a:Option Addr) (cap:Nat) (is:List I3) (w:World) (hc:Cj w a is) (hl:is.length<=1048576) (hs:∀ i,(ix is i).text.size<=9223372036854775807) :
  Calls prog 48 #[.agg #[.slice a is.length cap]] w fun e w'=>Bw w w'/\e=.returned (.bool (Au is)):=by
 have ak:Bw w (w.alloc (.cells #[.slice a is.length cap] 94)):=aN _ _
 go_enter func48,ntmps48
 go_wp2
 go_loopw [3] (fun i wr=>∃ k:Nat,k<=is.length/\i=I k/\(∀ i,i<k->Hc (ix is i)=true)/\Bw w wr/\wr.cell? ⟨w.heap.size,0,none⟩=some (.slice a is.length cap)) (fun i _=>is.length-(intOf i).toNat)
 case atStart=>exact⟨0,Nat.zero_le _,rfl,fun i hi=>qb,ak,qk⟩
 case round=>
  obtain⟨k,hk,rfl,ft,bc,iu⟩:=hrel;have HK:=hid ft;clear ft
  by_cases aj:k<is.length
  ·obtain⟨b,off,rfl,c1,c2,c3⟩:=(hc.bl bc) k aj;have fx:=hs k;obtain⟨i,hi⟩:∃ i,i=ix is k:=⟨_,rfl⟩;rw[<- hi] at c1 c2 c3 fx;have HI:=hid hi;clear hi hs hc ak;go_wp2_with fail;refine(Qbj i _ fx).mono ?_;rintro e w1 ⟨af,rfl⟩;have kw:=bc.trans (af.mono bc.size);have hcs1:=Aa af iu
   by_cases hb:Hc i=true
   ·go_wp2;go_roundw
    case rel=>
     refine⟨k+1,qb,qj,fun i' hi'=>?_,kw,hcs1⟩;exact qlj
    case measure=>simp[intOf];omega
   ·(have F3:Hc i=false:=by simpa using hb);have hf:Au is=false:=Ts aj (by rw[<- HI.o];exact F3);have HF:=hid hf;clear hf hb;go_wp2;go_ret;exact⟨kw,qcy⟩
  ·have o8:∀ i,i<is.length->Hc (ix is i)=true:=fun i hi=>HK.o i qb;have HG:=hid (Qz o8);clear o8 hs
   by_cases h1:1<=is.length
   ·have d1:decide ((1:Int)<=is.length)=true:=qh;(have d1':decide (1<=is.length)=true:=by simpa using h1);go_wp2;go_ret;exact⟨bc,by rw[HG.o,d1',Bool.true_and];show Ending.returned (.bool (decide ((is.length:Int)<=200)))=_;exact congrArg (fun b=>Ending.returned (.bool b)) (by rw[Bool.eq_iff_iff,decide_eq_true_eq,decide_eq_true_eq];omega)⟩
   ·have d1:decide ((1:Int)<=is.length)=false:=qh;(have d1':decide (1<=is.length)=false:=by rw[decide_eq_false_iff_not];exact h1);go_wp2;go_ret;exact⟨bc,by rw[HG.o,d1',Bool.false_and];rfl⟩
theorem progOk_len (h:is.length<1\/200<is.length):Au is=false:=by
 rw[Bool.eq_false_iff]
 simp only[Au,ne_eq,Bool.and_eq_true,decide_eq_true_eq]
 omega
theorem Kg (a:Option Addr) (cap:Nat) (is:List I3) (w:World) (hT:Lr w) (hc:Cj w a is) (hl:is.length<=1048576) (hs:∀ i,(ix is i).text.size<=9223372036854775807) :
  Calls prog 124 #[.agg #[.slice a is.length cap]] w fun e w'=>Bw w w'/\e=.returned (.bool (Au is)):=by
 have ak:Bw w (w.alloc (.cells #[.slice a is.length cap] 94)):=aN _ _
 by_cases dh:is.length<1\/200<is.length
 ·rw[progOk_len dh]
  by_cases h1:is.length<1
  ·have d1:decide ((is.length:Int)<1)=true:=qh;go_enter func124,ntmps124;go_wp2;go_ret;exact⟨ak,rfl⟩
  ·have d1:decide ((is.length:Int)<1)=false:=qh;have d2:decide (200<(is.length:Int))=true:=qh;go_enter func124,ntmps124;go_wp2;go_ret;exact⟨ak,rfl⟩
 ·have d1:decide ((is.length:Int)<1)=false:=qh;have d2:decide (200<(is.length:Int))=false:=qh;have l1:1<=is.length:=qb;have l2:is.length<=200:=qb;clear dh;go_enter func124,ntmps124;go_wp2
  go_loopw [18] (fun i wr=>∃ k:Nat,k<=is.length/\i=I k/\(∀ i,i<k->Hc (ix is i)=true)/\Bw w wr) (fun i _=>is.length-(intOf i).toNat)
  case atStart=>exact⟨0,Nat.zero_le _,rfl,fun i hi=>qb,ak⟩
  case round=>
   obtain⟨k,hk,rfl,ft,bc⟩:=hrel;have HK:=hid ft;clear ft
   by_cases aj:k<is.length
   ·obtain⟨b,off,rfl,c1,c2,c3⟩:=(hc.bl bc) k aj;have fx:=hs k;obtain⟨i,hi⟩:∃ i,i=ix is k:=⟨_,rfl⟩;rw[<- hi] at c1 c2 c3 fx;have HI:=hid hi;have hTr:=hT.bl bc;have HTr:=hid hTr;clear hi hs hc ak hT hTr;go_wp2_with fail;have fe:Bw wr (wr.alloc (.cells #[I i.op,.string i.text,I i.n] 128)):=aN _ _;refine(Xn i _ (HTr.o.bl fe) fx).mono ?_;rintro e w1 ⟨af,rfl⟩;have kw:Bw w w1:=(bc.trans (fe.mono bc.size)).trans (af.mono (by simp;have:=bc.size;omega));clear fe af
    by_cases hb:Hc i=true
    ·go_wp2;go_roundw
     case rel=>
      refine⟨k+1,qb,qj,fun i' hi'=>?_,kw⟩;exact qlj
     case measure=>simp[intOf];omega
    ·(have F3:Hc i=false:=by simpa using hb);have HF:Hd (Au is=false):=Ts aj (by rw[<- HI.o];exact F3);clear hb;go_wp2;go_ret;exact⟨kw,qcy⟩
   ·have o8:∀ i,i<is.length->Hc (ix is i)=true:=fun i hi=>HK.o i qb
    have HG:Hd (Au is=true):=by
     show Au is=true;rw[Qz o8,decide_eq_true l1,decide_eq_true l2];rfl
    clear o8 hs;go_wp2;go_ret;exact⟨bc,by rw[HG.o];rfl⟩
theorem Ok:∀(k n:Nat),n<10 ^ (k+1)->(Lib.decDigits n).length<=k+1
 | 0,n,h=>by rw[Lib.decDigits,dif_pos qas];simp
 | k+1,n,h=>by
  rw[Lib.decDigits];split
  ·simp
  ·have:=Ok k (n / 10) (by rw[Nat.pow_succ] at h;omega);simp;omega
theorem Um (W:World) (g:Nat) (c:Int) (u:UInt8) (hu:(u.toNat:Int)=c) (h:W.cell? ⟨g,0,none⟩=some (.int .u8 c)):(convert 122 9 (.slice (p_ g) 1 1)).run prog W=.ok (.string ⟨#[u]⟩) W:=by
 subst hu
 exact run_convert_bytes_back (P:=prog) W 122 9 5 ⟨g,0,none⟩ 1 [u] underlying122 underlying5 underlying9 (fun t ht=>by
  obtain rfl:t=0:=by simp at ht;omega
  simpa [Addr.add] using h)
theorem Ul (d:Nat) (h:d<10):((UInt8.ofNat (48+d)).toNat:Int)=48+d:=by rw[UInt8.toNat_ofNat'];omega
theorem str_snoc (l:List UInt8) (u:UInt8):(⟨l.toArray⟩:By)++(⟨#[u]⟩:By)=⟨(l++[u]).toArray⟩:=by
 apply WideShapes.bytes_inj
 simp[ByteArray.data_append]
theorem l2Dec_any:∀(n:Nat) (w:World),n<=1000000->Calls prog 117 #[I n] w fun e w'=>e=.returned (.string ⟨(Lib.decDigits n).toArray⟩)/\Bw w w':=by
 intro n
 induction n using Nat.strongRecOn with
 | _ n ih=>
  intro w hn
  by_cases h:n<10
  ·have hdd:Lib.decDigits n=[UInt8.ofNat (48+n)]:=by rw[Lib.decDigits,dif_pos h]
   have hu:=Ul n h;rw[hdd];generalize UInt8.ofNat (48+n)=u at *;have hcv:=Um (w.alloc (.cells #[.int .u8 (48+n)] 5)) w.heap.size (48+n) u hu qk;clear hdd ih hu;exact qlu
  ·have hdd:Lib.decDigits n=Lib.decDigits (n / 10)++[UInt8.ofNat (48+n % 10)]:=by rw[Lib.decDigits,dif_neg h]
   rw[hdd,<- str_snoc];have hl:=Ok 6 (n / 10) qb
   have hq:(⟨(Lib.decDigits (n / 10)).toArray⟩:By).size<=10:=by
    show (Lib.decDigits (n / 10)).toArray.size<=10;rw[List.size_toArray];omega
   have IH:Hd (∀ W:World,Calls prog 117 #[I ((n / 10:Nat):Int)] W fun e w'=>e=.returned (.string ⟨(Lib.decDigits (n / 10)).toArray⟩)/\Bw W w'):=fun W=>ih (n / 10) qb W qb;clear ih hdd hl;generalize (⟨(Lib.decDigits (n / 10)).toArray⟩:By)=q at *;obtain⟨m,e1,em⟩:∃ m:Nat,(n:Int) / 10=(m:Int)/\n / 10=m:=⟨n / 10,qb,rfl⟩;rw[em] at IH;clear em;have hdb:=Ul (n % 10) qb;have hmod:(n:Int).tmod 10=((n % 10:Nat):Int):=by rw[Int.tmod_eq_emod_of_nonneg qb];omega
   obtain⟨c,e3,hu⟩:∃ c:Int,IntKind.u8.wrap (IntKind.i64.wrap (48+(n:Int).tmod 10))=c/\((UInt8.ofNat (48+n % 10)).toNat:Int)=c:=by
    refine⟨_,rfl,?_⟩;rw[hdb,hmod,IntWalk.i64_in _ ⟨qb,qb⟩];(have:IntKind.u8.wrap (48+((n % 10:Nat):Int))=(48+((n % 10:Nat):Int)) % 256:=by simp[IntKind.wrap,IntKind.bits,IntKind.signed]);rw[this];omega
   generalize UInt8.ofNat (48+n % 10)=u at *;clear hdb hmod;have hcv:=fun (W:World) (g:Nat)=>Um W g c u hu;have IH2:Hd (∀ W:World,W.cell? ⟨w.heap.size,0,none⟩=some (.int .u8 c)->Calls prog 117 #[I (m:Int)] W fun e w'=>e=.returned (.string q)/\Bw W w'/\w'.cell? ⟨w.heap.size,0,none⟩=some (.int .u8 c)):=fun W hW=>(IH.o W).mono fun e w' ⟨he,hb⟩=>⟨he,hb,Aa hb hW⟩;clear hu;go_enter func117,ntmps117;go_wp2
   go_region_with (first|(go_at_call 117;rw[show IntKind.i64.wrap (m:Int)=(m:Int) from IntWalk.i64_in _ ⟨qb,qb⟩];refine(IH2.o _ ?_).mono ?_;(focus (simp[go_sem];done));rintro e w1 ⟨rfl,af,hcc⟩)|(go_at_call 117;rw[show IntKind.i64.wrap (m:Int)=(m:Int) from IntWalk.i64_in _ ⟨qb,qb⟩];refine(IH.o _).mono ?_;rintro e w1 ⟨rfl,af⟩))
   all_goals go_wp2
   all_goals go_ret
   ·exact⟨rfl,((Below.refl _ _).drew.trans af).alloc (by have:=af.size;simpa using this) _⟩
   ·exact qmv
   ·exact qmv
def Mb (w:World):Prop:=Lib.TabIs prog w "internal/strconv.uint64pow10" .u64 Lib.pow10Tab
theorem Mb.bl (h:Mb w) (hb:Bw w w'):Mb w':=Lib.tabBelow_of_tabIs h w' hb
def Am (s:By):Prop:=1<=s.size/\s.size<=60/\∀ j,(h:j<s.size)->33<=s[j].toNat/\s[j].toNat<=126
noncomputable def Fk (s:By):Bool:=@decide (Am s) (Classical.propDecidable _)
theorem Cu (h:Am s):Fk s=true:=by simp[Fk,h]
theorem Ck (h:¬ Am s):Fk s=false:=by simp[Fk,h]
def Co (b:Bool):By:=if b then ⟨#[49]⟩ else ⟨#[48]⟩
theorem Bx (s:By) (w:World) (hs:s.size<=9223372036854775807):Calls prog 23 #[.string s] w fun e w'=>e=.returned (.bool (Fk s))/\w=w':=by
 by_cases h1:s.size<1
 ·rw[Ck (fun h=>by have:=h.1;omega)];have d1:decide ((s.size:Int)<1)=true:=qh;go_enter func23,ntmps23;exact qah
 ·have d1:decide ((s.size:Int)<1)=false:=qh
  by_cases h2:60<s.size
  ·rw[Ck (fun h=>by have:=h.2.1;omega)];have d2:decide ((60:Int)<s.size)=true:=qh;go_enter func23,ntmps23;exact qah
  ·have d2:decide ((60:Int)<s.size)=false:=qh;go_enter func23,ntmps23;go_wp2
   go_loopw [3] (fun i wr=>∃ k:Nat,k<=s.size/\i=I k/\Hd (∀ j,(h:j<s.size)->j<k->33<=s[j].toNat/\s[j].toNat<=126)/\w=wr) (fun i _=>s.size-(intOf i).toNat)
   case atStart=>exact⟨0,Nat.zero_le _,rfl,fun j _ hj=>qb,rfl⟩
   case round=>
    exact qhb
theorem Dg (s:By) (w:World) (hs:s.size<=9223372036854775807):Calls prog 106 #[.string s] w fun e w'=>e=.returned (.bool (Fk s))/\w=w':=by
 by_cases h1:s.size<1
 ·rw[Ck (fun h=>by have:=h.1;omega)];have d1:decide ((s.size:Int)<1)=true:=qh;go_enter func106,ntmps106;exact qah
 ·have d1:decide ((s.size:Int)<1)=false:=qh
  by_cases h2:60<s.size
  ·rw[Ck (fun h=>by have:=h.2.1;omega)];have d2:decide ((60:Int)<s.size)=true:=qh;go_enter func106,ntmps106;exact qah
  ·have d2:decide ((60:Int)<s.size)=false:=qh;go_enter func106,ntmps106;go_wp2
   go_loopw [14] (fun i wr=>∃ k:Nat,k<=s.size/\i=I k/\Hd (∀ j,(h:j<s.size)->j<k->33<=s[j].toNat/\s[j].toNat<=126)/\w=wr) (fun i _=>s.size-(intOf i).toNat)
   case atStart=>exact⟨0,Nat.zero_le _,rfl,fun j _ hj=>qb,rfl⟩
   case round=>
    exact qhb
theorem Lc (b:Bool) (w:World):Calls prog 92 #[.bool b] w fun e w'=>e=.returned (.string (Co b))/\w=w':=by
 cases b
 all_goals
  go_enter func92,ntmps92;exact qah
theorem Qj (b:Bool) (w:World):Calls prog 164 #[.bool b] w fun e w'=>e=.returned (.string (Co b))/\w=w':=by
 cases b
 all_goals
  go_enter func164,ntmps164;exact qah
def putsOf:List Int:=[0,1,1,1,1,1,1,2,2,0,0,0,1,1,0,0]
theorem l2Takes_1 (w:World):Calls prog 134 #[I 1] w fun e w'=>e=.returned (.tuple #[I 0,I 1])/\w=w':=by
 exact qac
theorem l2Takes_2 (w:World):Calls prog 134 #[I 2] w fun e w'=>e=.returned (.tuple #[I 2,I 1])/\w=w':=by
 exact qac
theorem l2Takes_3 (w:World):Calls prog 134 #[I 3] w fun e w'=>e=.returned (.tuple #[I 1,I 1])/\w=w':=by
 exact qac
theorem l2Takes_4 (w:World):Calls prog 134 #[I 4] w fun e w'=>e=.returned (.tuple #[I 1,I 1])/\w=w':=by
 exact qac
theorem l2Takes_5 (w:World):Calls prog 134 #[I 5] w fun e w'=>e=.returned (.tuple #[I 1,I 1])/\w=w':=by
 exact qac
theorem l2Takes_6 (w:World):Calls prog 134 #[I 6] w fun e w'=>e=.returned (.tuple #[I 2,I 1])/\w=w':=by
 exact qac
theorem l2Takes_7 (w:World):Calls prog 134 #[I 7] w fun e w'=>e=.returned (.tuple #[I 1,I 2])/\w=w':=by
 exact qac
theorem l2Takes_8 (w:World):Calls prog 134 #[I 8] w fun e w'=>e=.returned (.tuple #[I 2,I 2])/\w=w':=by
 exact qac
theorem l2Takes_9 (w:World):Calls prog 134 #[I 9] w fun e w'=>e=.returned (.tuple #[I 1,I 0])/\w=w':=by
 exact qac
theorem l2Takes_10 (w:World):Calls prog 134 #[I 10] w fun e w'=>e=.returned (.tuple #[I 0,I 0])/\w=w':=by
 exact qac
theorem l2Takes_11 (w:World):Calls prog 134 #[I 11] w fun e w'=>e=.returned (.tuple #[I 1,I 0])/\w=w':=by
 exact qac
theorem l2Takes_12 (w:World):Calls prog 134 #[I 12] w fun e w'=>e=.returned (.tuple #[I 1,I 1])/\w=w':=by
 exact qac
theorem l2Takes_13 (w:World):Calls prog 134 #[I 13] w fun e w'=>e=.returned (.tuple #[I 1,I 1])/\w=w':=by
 exact qac
theorem l2Takes_14 (w:World):Calls prog 134 #[I 14] w fun e w'=>e=.returned (.tuple #[I 1,I 0])/\w=w':=by
 exact qac
theorem l2Takes_15 (w:World):Calls prog 134 #[I 15] w fun e w'=>e=.returned (.tuple #[I 1,I 0])/\w=w':=by
 exact qac
theorem l2Takes_in (o:Nat) (w:World) (h1:1<=o) (h2:o<=15):Calls prog 134 #[I o] w fun e w'=>e=.returned (.tuple #[I (La.getD o 0),I (putsOf.getD o 0)])/\w=w':=by
 rcases (show o=1\/o=2\/o=3\/o=4\/o=5\/o=6\/o=7\/o=8\/o=9\/o=10\/o=11\/o=12\/o=13\/o=14\/o=15 from qb) with rfl|rfl|rfl|rfl|rfl|rfl|rfl|rfl|rfl|rfl|rfl|rfl|rfl|rfl|rfl
 ·exact l2Takes_1 w
 ·exact l2Takes_2 w
 ·exact l2Takes_3 w
 ·exact l2Takes_4 w
 ·exact l2Takes_5 w
 ·exact l2Takes_6 w
 ·exact l2Takes_7 w
 ·exact l2Takes_8 w
 ·exact l2Takes_9 w
 ·exact l2Takes_10 w
 ·exact l2Takes_11 w
 ·exact l2Takes_12 w
 ·exact l2Takes_13 w
 ·exact l2Takes_14 w
 ·exact l2Takes_15 w
def Dt (pl:Int) (sk:Value) (st lk:Int):Value:=.agg #[I pl,sk,I st,I lk,.bool false,I 0,ze,.bool false,ze,.bool false]
def Dx (pl:Int) (sk:Value) (st lk c:Int) (t:By):Value:=.agg #[I pl,sk,I st,I lk,.bool true,I c,.string t,.bool false,ze,.bool false]
def waitV (pl:Int) (sk:Value) (st lk:Int) (ask:Bool) (nm:By):Value:=.agg #[I pl,sk,I st,I lk,.bool false,I 0,ze,.bool ask,.string nm,.bool true]
def Az (ov:Bool) (c:Int) (t:By) (ask:Bool) (nm:By) (st:Int):Value:=.agg #[.bool ov,I c,.string t,.bool ask,.string nm,I st]
theorem Eo (pl:Int) (a:Option Addr) (n cap:Nat) (st lk c:Int) (t:By) (w:World) :
  Calls prog 133 #[Dt pl (.slice a n cap) st lk,I c,.string t] w fun e w'=>e=.returned (Dx pl (.slice a n cap) st lk c t)/\Bw w w':=by
 unfold Dt
 go_enter func133,ntmps133
 go_wp2
 exact bR (v:=Dx pl (.slice a n cap) st lk c t) (by simp[results,results133,go_sem,Dx]) rfl ⟨rfl,(aN _ _).alloc qg _⟩
section
open Go.ChangeShapes Go.WideShapes Go.ChangeAt Go.Deep
section
variable {H:Type} {enc:TypeId × Value->H} {W:World} {base:Nat} {spare:Nat->Bool} {held:Bool}
end
end
structure G3 where
 name:By
 ask:Bool
 sum:By
def g00:G3:=⟨ByteArray.empty,false,ByteArray.empty⟩
def gx (is:List G3) (i:Nat):G3:=is.getD i g00
def Hr (w:World) (a:Option Addr) (is:List G3):Prop:=
 ∀ i,i<is.length->∃ b off,a=some ⟨b,off,none⟩/\w.cell? ⟨b,off+i*3,none⟩=some (.string (gx is i).name)/\w.cell? ⟨b,off+i*3+1,none⟩=some (.bool (gx is i).ask)/\w.cell? ⟨b,off+i*3+2,none⟩=some (.string (gx is i).sum)
theorem Hr.bl {is:List G3} (h:Hr w a is) (hb:Bw w w'):Hr w' a is:=by
 exact qey
def Bo (is:List G3) (k:Nat) (xs:List Value):Prop:=
 ∀ i,i<k->xs[i*3]?=some (.string (gx is i).name)/\xs[i*3+1]?=some (.bool (gx is i).ask)/\xs[i*3+2]?=some (.string (gx is i).sum)
theorem Cp {P:Nat->Prop} (h:∀ i,i<k->P i) (hk:P k):∀ i,i<k+1->P i:=by
 intro i hi
 rcases Nat.lt_or_ge i k with h1|h1
 ·exact h i h1
 ·obtain rfl:i=k:=qb;exact hk
theorem bt {a b:World} (h:Bw w a) (k:Bw a b):Bw w b:=h.trans (k.mono h.size)
theorem Tryz.info172:(prog.info? 172).map (fun i=>(i.zero,i.size,i.bytes))=some (some (.agg #[.string ByteArray.empty,.bool false,.string ByteArray.empty]),3,40):=qi
structure S2 where
 name:By
 text:By
def sx (is:List S2) (i:Nat):S2:=is.getD i ⟨ByteArray.empty,ByteArray.empty⟩
structure T2 where
 name:By
 code:List I3
def tx (is:List T2) (i:Nat):T2:=is.getD i ⟨ByteArray.empty,[]⟩
def Jv (w:World) (a:Option Addr) (is:List S2):Prop:=
 ∀ i,i<is.length->∃ b off,a=some ⟨b,off,none⟩/\w.cell? ⟨b,off+i*2,none⟩=some (.string (sx is i).name)/\w.cell? ⟨b,off+i*2+1,none⟩=some (.string (sx is i).text)
def Ju (w:World) (a:Option Addr) (is:List T2):Prop:=
 ∀ i,i<is.length->∃ b off,a=some ⟨b,off,none⟩/\w.cell? ⟨b,off+i*2,none⟩=some (.string (tx is i).name)/\∃ a' ai,w.cell? ⟨b,off+i*2+1,none⟩=some (.slice a' (tx is i).code.length ai)/\Cj w a' (tx is i).code
theorem Jv.bl {is:List S2} (h:Jv w a is) (hb:Bw w w'):Jv w' a is:=by
 intro i hi
 obtain⟨b,off,ha,h1,h2⟩:=h i hi
 exact⟨b,off,ha,Aa hb h1,Aa hb h2⟩
theorem Ju.bl {is:List T2} (h:Ju w a is) (hb:Bw w w'):Ju w' a is:=by
 intro i hi
 obtain⟨b,off,ha,h1,a',ai,h2,h3⟩:=h i hi
 exact⟨b,off,ha,Aa hb h1,a',ai,Aa hb h2,h3.bl hb⟩
structure Ll (w:World) (sa:Option Addr) (ss:List S2) (ta:Option Addr) (ts:List T2):Prop where
 rs:Jv w sa ss
 rt:Ju w ta ts
 ls:ss.length<=maxLen
 lt:ts.length<=maxLen
 ns:∀ i,(sx ss i).name.size<=maxLen
 xs:∀ i,(sx ss i).text.size<=maxLen
 nt:∀ i,(tx ts i).name.size<=maxLen
 lc:∀ i,(tx ts i).code.length<=maxLen
 xt:∀ i j,(ix (tx ts i).code j).text.size<=maxLen
structure Fb (ss:List S2) (ts:List T2):Prop where
 ls:ss.length<=1048576
 lt:ts.length<=1048576
 lc:∀ i,i<ts.length->(tx ts i).code.length<=1048576
def Fj (w:World) (m:Nat) (tx cd:Value) (pl st lk:Int):Prop:=w.heap[m]?=some (.cells #[tx,cd,I pl,I st,I lk] 243 (0,0))
def Ax (ss:List By):List Value:=ss.map .string
def Cd (B:Nat) (w:World) (m:Nat) (ss:List By) (cd:Value) (pl st lk:Int):Prop:=
 B<=m/\∃ v,Fj w m v cd pl st lk/\w.ownsRow B 9 1 v ss.length (Ax ss)
theorem Be (w:World) (o:Obj):(w.alloc o).heap[w.heap.size]?=some o:=qei
theorem Fj.lt {tx:Value} {lk:Int} (h:Fj w m tx cd pl st lk):m<w.heap.size:=by
 rcases Nat.lt_or_ge m w.heap.size with h'|h'
 ·exact h'
 ·unfold Fj at h;rw[Array.getElem?_eq_none h'] at h;cases h
theorem Fj.ne {tx:Value} {lk:Int} (h:Fj w m tx cd pl st lk) (ho:w.ownsRow B 9 1 (.slice (p_ g) n cap) n xs):m≠g:=by
 rintro rfl
 rcases ho.2 with ⟨h0,_⟩|⟨g',ai,cur,hv,hg,hh,_⟩
 ·simp at h0
 ·simp only[Value.slice.injEq,Option.some.injEq,Addr.mk.injEq,and_true,true_and] at hv;rw[<- hv.1] at hh;unfold Fj at h;rw[h] at hh;simp at hh
theorem Cd.bl {lk:Int} (h:Cd B w m ss cd pl st lk) (hb:Bw w w'):Cd B w' m ss cd pl st lk:=by
 obtain⟨hB,v,hm,ho⟩:=h
 exact⟨hB,v,by have:=hm.lt;unfold Fj at *;rw[hb.block m this];exact hm,Ac ho hb⟩
theorem Fj.cell {tx:Value} {lk:Int} (h:Fj w m tx cd pl st lk):(∀ x,(w.alloc x).cell? ⟨m,0,none⟩=some tx)/\(∀ x,(w.alloc x).cell? ⟨m,2,none⟩=some (I pl))/\(∀ x,(w.alloc x).cell? ⟨m,3,none⟩=some (I st))/\(∀ x,(w.alloc x).cell? ⟨m,4,none⟩=some (I lk)):=by
 have hl:=h.lt
 have e:∀ j x,(w.alloc x).cell? ⟨m,j,none⟩=w.cell? ⟨m,j,none⟩:=fun j x=>World.cell?_alloc_lt _ _ _ hl
 exact⟨fun x=>qed,fun x=>qed,fun x=>qed,fun x=>qed⟩
theorem Jl (m:Nat) (tx cd:Value) (pl st lk c:Int) (t:By) (w:World) (hM:Fj w m tx cd pl st lk) :
  Calls prog 170 #[.pointer (p_ m),I c,.string t] w fun e w'=>e=.returned (Az true c t false ⟨#[]⟩ st)/\Bw w w':=by
 have c3:=hM.cell.2.2.1
 clear hM
 go_enter func170,ntmps170
 go_wp2
 exact bR (v:=Az true c t false ⟨#[]⟩ st) (by simp[results,results170,go_sem,Az]) rfl ⟨rfl,aN _ _⟩
theorem Nc (m:Nat) (tx cd:Value) (pl st lk:Int) (w:World) (hM:Fj w m tx cd pl st lk) (hP:Mb w) (h0:0<=pl) (h1:pl<=2000) :
  Calls Tryz.prog 171 #[.pointer (some ⟨m,0,none⟩)] w fun e w'=>e=.returned (Az true 2 ⟨(Lib.decDigits pl.toNat).toArray⟩ false ⟨#[]⟩ st)/\Below w.heap.size w w':=by
 have c2:=hM.cell.2.1
 have hi:Lib.itoa pl=Lib.decDigits pl.toNat:=by unfold Lib.itoa;rw[if_neg (by omega)]
 rw[<- hi]
 clear hi
 generalize hq:(⟨(Lib.itoa pl).toArray⟩:ByteArray)=q
 have HQ:Hd ((⟨(Lib.itoa pl).toArray⟩:ByteArray)=q):=hq
 clear hq
 go_enter Tryz.func171,Tryz.ntmps171
 go_wp2_with fail
 have ak:Below w.heap.size w (w.alloc (.cells #[.bool false,.int .i64 0,.string ⟨#[]⟩,.bool false,.string ⟨#[]⟩,.int .i64 0] 165)):=aN _ _
 refine(Tryz.strconv_Itoa pl (by omega) (by omega) _ (hP.bl ak)).mono ?_
 rintro e w1 ⟨rfl,k',os',G7⟩
 have af:=Lib.below_grow _ (w.alloc (.cells #[.bool false,.int .i64 0,.string ⟨#[]⟩,.bool false,.string ⟨#[]⟩,.int .i64 0] 165)) (Nat.le_refl _) k' os'
 rw[<- G7] at af
 clear G7
 rw[HQ.o]
 have bg:Below w.heap.size w w1:=ak.trans (af.mono ak.size)
 have fb:Fj w1 m tx cd pl st lk:=by have:=hM.lt;unfold Fj at *;rw[bg.block m this];exact hM
 go_wp2_with fail
 refine(Jl m tx cd pl st lk 2 q w1 fb).mono ?_
 rintro e w2 ⟨rfl,ag⟩
 have be:Below w.heap.size w w2:=bg.trans (ag.mono bg.size)
 unfold Az
 have eg:w.heap.size<w1.heap.size:=by have:=af.size;simp at this;omega
 have au:w2.heap[w.heap.size]?=some (.cells #[.bool false,.int .i64 0,.string ⟨#[]⟩,.bool false,.string ⟨#[]⟩,.int .i64 0] 165 (0,0)):=by
  rw[ag.block _ eg,af.block _ (by simp),Be]
 have k0:=cH au 0
 have k1:=cH au 1
 have k2:=cH au 2
 have k3:=cH au 3
 have k4:=cH au 4
 have k5:=cH au 5
 simp only[List.getElem?_toArray,List.getElem?_cons_zero,List.getElem?_cons_succ] at k0 k1 k2 k3 k4 k5
 have f0:∀ j,w2.frozen? ⟨w.heap.size,j,none⟩=false:=fun j=>fH au j
 clear ak af bg hM fb ag hP au
 go_wp2
 exact bR (v:=Az true 2 q false ⟨#[]⟩ st) (by simp[results,Tryz.results171,go_sem,Az,k0,k1,k2,k3,k4,k5]) rfl ⟨rfl,(((((be.setCell (Nat.le_refl _) _).setCell (Nat.le_refl _) _).setCell (Nat.le_refl _) _).setCell (Nat.le_refl _) _).setCell (Nat.le_refl _) _).setCell (Nat.le_refl _) _⟩
theorem Tryz.info9b:(prog.info? 9).map (fun i=>(i.zero,i.size,i.bytes))=some (some ze,1,16):=qi
theorem Lb (h:w.ownsRow B 9 1 v n xs):∀ k,v.ownBlock=some k->B<=k/\k<w.heap.size:=fun k hk=>h.lt k hk
theorem Fj.ne' {tx:Value} {lk:Int} (h:Fj w m tx cd pl st lk) (ho:w.ownsRow B 9 1 v n xs):some m≠v.ownBlock:=by
 intro e
 rcases ho.2 with ⟨rfl,_⟩|⟨g,cap,cur,rfl,_⟩
 ·simp[Value.ownBlock] at e
 ·simp[Value.ownBlock] at e;exact h.ne ho e
theorem Cd.put {tx:Value} {lk:Int} (hB:B<=m) (hm:Fj w m tx cd pl st lk) (ho:w.ownsRow B 9 1 v ss.length (Ax ss)):Cd B (w.setCell ⟨m,0,none⟩ v) m ss cd pl st lk:=by
 refine⟨hB,v,?_,?_⟩
 ·exact qdl
 ·have hne:=hm.ne' ho;refine⟨ho.1,?_⟩
  rcases ho.2 with h0|⟨g,cap,cur,hv,hg,hh,r⟩
  ·exact Or.inl h0
  ·refine Or.inr ⟨g,cap,cur,hv,hg,?_,r⟩;rw[hC w ⟨m,0,none⟩ v g qcl];exact hh
theorem put_no (B m:Nat) (ss:List By) (cd:Value) (pl st lk:Int) (t:By) (w:World) (hM:Cd B w m ss cd pl st lk) (hs:t.size<=9223372036854775807) (h2:ss.length<=50) (h:2000<t.size\/ss.length=50) :
  Calls prog 175 #[.pointer (p_ m),.string t] w fun e w'=>e=.returned (.bool false)/\w=w':=by
 obtain⟨jr,v,hm,ah⟩:=hM
 obtain⟨ao,cap,rfl⟩:∃ ao cap,v=.slice ao ss.length cap:=by
  exact qlh
 have c0:=cK hm 0
 by_cases h1:2000<t.size
 ·have d1:decide ((2000:Int)<t.size)=true:=qh;clear h;go_enter func175,ntmps175;exact qah
 ·have d1:decide ((2000:Int)<t.size)=false:=qh;have d2:((ss.length:Int) == 50)=true:=qh;clear h;go_enter func175,ntmps175;exact qah
theorem Tu {x:By} (h:w.ownsRow B 9 1 (.slice (p_ g) (ss.length+1) cap) (ss.length+1) (Ax (ss++[x]))):w.ownsRow B 9 1 (.slice (p_ g) ss.length cap) ss.length (Ax ss):=by
 refine⟨qai,?_⟩
 rcases h.2 with ⟨h0,_⟩|⟨g',ai,cur,hv,hg,hh,h1,h2,h3,h4⟩
 ·simp at h0
 ·simp only[Value.slice.injEq,Option.some.injEq,Addr.mk.injEq,and_true,true_and] at hv;obtain⟨rfl,rfl⟩:=hv;refine Or.inr ⟨g,cap,cur,rfl,hg,hh,qb,h2,h3,?_⟩;have:=congrArg (List.take ss.length) h4;rw[List.take_take,Nat.mul_one] at this;rw[Nat.mul_one];rw[show min ss.length (ss.length+1)=ss.length from qb] at this;rw[this];simp[Ax]
def Qo (u:UInt8):Bool:=u.toNat == 32 || u.toNat == 10
def Bj (s:By) (n st i:Nat):By:=
 if h:i<s.size then
  if Qo s[i] then
   if st<i then (if n=0 then s.extract st i else Bj s (n-1) (i+1) (i+1)) else Bj s n (i+1) (i+1)
  else Bj s n st (i+1)
 else if n=0 then s.extract st s.size else ⟨#[]⟩
termination_by s.size-i
def Ke (s:By) (n:Nat):By:=Bj s n 0 0
theorem Yp {st:Nat} (h:i<s.size) (hg:Qo s[i]=true) (cz:st<i):Bj s 0 st i=s.extract st i:=by rw[Bj,dif_pos h,if_pos hg,if_pos cz,if_pos rfl]
theorem Yo {st:Nat} (h:i<s.size) (hg:Qo s[i]=true) (cz:st<i) (hn:n≠0):Bj s n st i=Bj s (n-1) (i+1) (i+1):=by rw[Bj,dif_pos h,if_pos hg,if_pos cz,if_neg hn]
theorem Yn {st:Nat} (h:i<s.size) (hg:Qo s[i]=true) (cz:¬ st<i):Bj s n st i=Bj s n (i+1) (i+1):=by rw[Bj,dif_pos h,if_pos hg,if_neg cz]
theorem pf_in {st:Nat} (h:i<s.size) (hg:Qo s[i]=false):Bj s n st i=Bj s n st (i+1):=by rw[Bj,dif_pos h,if_neg (by simp[hg])]
theorem Yq {st:Nat} (h:¬ i<s.size):Bj s n st i=if n=0 then s.extract st s.size else ⟨#[]⟩:=by rw[Bj,dif_neg h]
theorem gap_cases (u:UInt8):(Qo u=true/\((u.toNat:Int) != 32)=false)\/(Qo u=true/\((u.toNat:Int) != 32)=true/\((u.toNat:Int) != 10)=false)\/(Qo u=false/\((u.toNat:Int) != 32)=true/\((u.toNat:Int) != 10)=true):=by
 exact qlp
theorem wordAt_any (s:By) (n:Nat) (w:World) (hs:s.size<=2000) (hn:n<=2000):Calls prog 183 #[.string s,I n] w fun e w'=>e=.returned (.string (Ke s n))/\w=w':=by
 generalize hq:Ke s n=q
 have HQ:=hid hq
 clear hq
 go_enter func183,ntmps183
 go_wp2
 go_loopw [1,5,9] (fun nv sv iv wr=>∃ n' st k:Nat,k<=s.size/\st<=k/\n'<=2000/\nv=I n'/\sv=I st/\iv=I k/\Hd (Bj s n' st k=q)/\w=wr) (fun _ _ i _=>s.size-(intOf i).toNat)
 case atStart=>exact⟨n,0,0,Nat.zero_le _,Nat.le_refl _,hn,rfl,rfl,rfl,HQ,rfl⟩
 case round=>
  clear HQ hn;obtain⟨n',st,k,hk,cz,hn',rfl,rfl,rfl,HI,rfl⟩:=hrel
  by_cases aj:k<s.size
  ·rcases gap_cases s[k] with ⟨hg,d1⟩|⟨hg,d1,d2⟩|⟨hg,d1,d2⟩
   ·exact qhg
   ·exact qhg
   ·(have HR:Hd (Bj s n' st (k+1)=q):=by show _=_;rw[<- pf_in aj hg];exact HI.o);clear hg HI;go_wp2;go_roundw
    case rel=>exact⟨n',st,k+1,qb,qb,qb,qj,qj,qj,HR,by first|trivial|rfl⟩
    case measure=>simp[intOf];omega
  ·have ek:k=s.size:=qb;have he:=Yq (n:=n') (st:=st) aj
   by_cases c2:n'=0
   ·subst c2;rw[if_pos rfl] at he;have HR:=hid (he.symm.trans HI.o);subst ek;exact qfm
   ·rw[if_neg c2] at he;have HR:=hid (he.symm.trans HI.o);subst ek;exact qfm
theorem gap_cases2 (u:UInt8):(Qo u=true/\((u.toNat:Int) == 32)=true)\/(Qo u=true/\((u.toNat:Int) == 32)=false/\((u.toNat:Int) == 10)=true)\/(Qo u=false/\((u.toNat:Int) == 32)=false/\((u.toNat:Int) == 10)=false):=by
 exact qlp
theorem Qbh (s:By) (n:Nat) (w:World) (hs:s.size<=2000) (hn:n<=2000):Calls prog 155 #[.string s,I n] w fun e w'=>e=.returned (.string (Ke s n))/\w=w':=by
 generalize hq:Ke s n=q
 have HQ:=hid hq
 clear hq
 go_enter func155,ntmps155
 go_wp2
 go_loopw [1,5,6] (fun nv sv iv wr=>(∃ n' st k:Nat,k<=s.size/\n'<=2000/\st<=k/\nv=I n'/\sv=I (if st<k then (st:Int) else -1)/\iv=I k/\Hd (Bj s n' st k=q)/\w=wr)\/(nv=nv/\iv=I (s.size+1:Nat)/\Hd ((⟨#[]⟩:By)=q)/\w=wr/\(∃ z,nv=I z)/\∃ z,sv=I z)) (fun _ _ i _=>s.size+1-(intOf i).toNat)
 case atStart=>exact Or.inl ⟨n,0,0,Nat.zero_le _,hn,Nat.le_refl _,rfl,rfl,rfl,HQ,rfl⟩
 case round=>
  clear HQ hn
  rcases hrel with ⟨n',st,k,hk,hn',cz,rfl,rfl,rfl,HI,rfl⟩|⟨_,rfl,HR,rfl,⟨z1,rfl⟩,⟨z2,rfl⟩⟩
  ·by_cases aj:k<s.size
   ·have hne:((k:Int) == s.size)=false:=qh
    rcases gap_cases2 s[k] with ⟨hg,d1⟩|⟨hg,d1,d2⟩|⟨hg,d1,d2⟩
    ·exact qhd
    ·exact qhd
    ·(have HR:Hd (Bj s n' st (k+1)=q):=by show _=_;rw[<- pf_in aj hg];exact HI.o);clear hg HI
     by_cases c1:st<k
     ·rw[if_pos c1];go_wp2;go_roundw
      case rel=>exact Or.inl ⟨n',st,k+1,qb,qb,qb,qj,by rw[if_pos qb],qj,HR,by first|trivial|rfl⟩
      case measure=>simp[intOf];omega
     ·rw[if_neg c1];obtain rfl:st=k:=qb;go_wp2;go_roundw
      case rel=>exact Or.inl ⟨n',st,st+1,qb,qb,qb,qj,by rw[if_pos qb],qj,HR,by first|trivial|rfl⟩
      case measure=>simp[intOf];omega
   ·have ek:k=s.size:=qb;have he:=Yq (n:=n') (st:=st) aj;have oy:((k:Int) == s.size)=true:=qh
    by_cases c1:st<k
    ·rw[if_pos c1]
     by_cases c2:n'=0
     ·subst c2;rw[if_pos rfl] at he;have HR:=hid (he.symm.trans HI.o);exact qfm
     ·rw[if_neg c2] at he;have HR:=hid (he.symm.trans HI.o);exact qiq
    ·rw[if_neg c1]
     have HR:Hd ((⟨#[]⟩:By)=q):=by
      show _=_;rw[<- HI.o,he];split
      ·apply WideShapes.bytes_inj;rw[show st=s.size from qb];simp
      ·rfl
     exact qiq
  ·go_wp2;go_ret;exact⟨by rw[<- HR.o];rfl,rfl⟩
structure R3 where
 has:Bool
 code:Int
 text:By
def rr0:R3:=⟨false,0,ByteArray.empty⟩
def rx (is:List R3) (i:Nat):R3:=is.getD i rr0
def Qu (w:World) (a:Option Addr) (is:List R3):Prop:=
 ∀ i,i<is.length->∃ b off,a=some ⟨b,off,none⟩/\w.cell? ⟨b,off+i*3,none⟩=some (.bool (rx is i).has)/\w.cell? ⟨b,off+i*3+1,none⟩=some (I (rx is i).code)/\w.cell? ⟨b,off+i*3+2,none⟩=some (.string (rx is i).text)
theorem Qu.bl {is:List R3} (h:Qu w a is) (hb:Bw w w'):Qu w' a is:=by
 exact qey
def Kn (r:R3):Bool:=decide (r.text.size<=2000) && decide (0<=r.code) && decide (r.code<=7)
def Og (rs:List R3):Bool:=decide (rs.length<=200) && decide (∀ i,i<rs.length->Kn (rx rs i)=true)
structure St where
 pl:Nat
 stack:List By
 steps:Nat
 looks:Nat
inductive Out where
 | go (s:St)
 | over (c:Int) (t:By) (n:Nat)
 | look (ask:Bool) (nm:By) (s:St)
def Er (n:Nat):By:=⟨(Lib.decDigits n).toArray⟩
def Lj (a:By):Bool:=a.toList.isEmpty || a.toList == [48]
def Ct (o:Nat) (t:By) (n:Nat) (a b:By):List By:=
 match o with
 | 1=>[t]
 | 2=>[b++a]
 | 3=>[a.extract 0 (min n a.size)]
 | 4=>[a.extract (min n a.size) a.size]
 | 5=>[Ke a n]
 | 6=>[Co (b.toList == a.toList)]
 | 7=>[a,a]
 | 8=>[a,b]
 | _=>[]
def Ex (o n pl:Nat) (a:By):Nat:=if o=10 then n else if o=11/\Lj a=true then n else pl+1
def Av (o:Nat):Nat:=(La.getD o 0).toNat
def Bp (l:List By):By:=l.getD (l.length-1) ByteArray.empty
def Ij (l:List By):By:=l.getD (l.length-2) ByteArray.empty
def Bh (l:List By) (k:Nat):List By:=l.take (l.length-k)
open Classical in
noncomputable def Kv (i:I3) (s:St):Out:=
 let o:=i.op.toNat
 let n:=i.n.toNat
 let a:=Bp s.stack
 let b:=Ij s.stack
 let r:=Bh s.stack (Av o)
 if s.stack.length<Av o then .over 2 (Er s.pl) (s.steps+1)
 else if o=15 then .over 0 a (s.steps+1)
 else if o=14 then .over 1 a (s.steps+1)
 else if o=12\/o=13 then
  (if ¬ Am a then .over 2 (Er s.pl) (s.steps+1)
   else if s.looks=200 then .over 3 ⟨#[]⟩ (s.steps+1)
   else .look (o == 12) a ⟨s.pl,r,s.steps+1,s.looks+1⟩)
 else if 50<r.length+(Ct o i.text n a b).length\/∃ x∈Ct o i.text n a b,2000<x.size then .over 2 (Er s.pl) (s.steps+1)
 else .go ⟨Ex o n s.pl a,r++Ct o i.text n a b,s.steps+1,s.looks⟩
noncomputable def Ca (is:List I3) (s:St):Out:=
 if is.length<=s.pl then .over 2 (Er s.pl) s.steps
 else if s.steps=2000 then .over 3 ⟨#[]⟩ s.steps
 else Kv (ix is s.pl) s
structure Eb (is:List I3) (s:St):Prop where
 pl:s.pl<=200
 len:s.stack.length<=50
 size:∀ x∈s.stack,x.size<=2000
 steps:s.steps<=2000
 looks:s.looks<=200
inductive Nq (is:List I3):St->Out->Prop
 | over {s c t n}:Ca is s=.over c t n->Nq is s (.over c t n)
 | look {s ask nm s'}:Ca is s=.look ask nm s'->Nq is s (.look ask nm s')
 | go {s s' o}:Ca is s=.go s'->Nq is s' o->Nq is s o
def Em (ask:Bool) (nm:By) (y:R3) (s:St):Out:=
 if ask=false then .go ⟨s.pl+1,s.stack++[Co y.has],s.steps,s.looks⟩
 else if y.has=false then .over 4 nm s.steps
 else if y.code≠0 then .over 5 nm s.steps
 else .go ⟨s.pl+1,s.stack++[y.text],s.steps,s.looks⟩
inductive Res where
 | over (c:Int) (t:By) (n:Nat)
 | wait (ask:Bool) (nm:By) (n:Nat)
inductive Ce (is:List I3) (ys:List R3):St->Res->Prop
 | over {s c t n}:Ca is s=.over c t n->Ce is ys s (.over c t n)
 | go {s s' r}:Ca is s=.go s'->Ce is ys s' r->Ce is ys s r
 | wait {s ask nm s'}:Ca is s=.look ask nm s'->ys.length<=s.looks->Ce is ys s (.wait ask nm s'.steps)
 | ans {s ask nm s' s'' r}:Ca is s=.look ask nm s'->s.looks<ys.length->Em ask nm (rx ys s.looks) s'=.go s''->Ce is ys s'' r->Ce is ys s r
 | end {s ask nm s' c t n}:Ca is s=.look ask nm s'->s.looks<ys.length->Em ask nm (rx ys s.looks) s'=.over c t n->Ce is ys s (.over c t n)
theorem Ce.unique {ys:List R3} {s:St} {o o':Res} (h:Ce is ys s o) (h':Ce is ys s o'):o=o':=by
 induction h with
 | over h1=>cases h' with
  | over h2=>rw[h1] at h2;cases h2;rfl
  | go h2 _=>rw[h1] at h2;cases h2
  | wait h2 _=>rw[h1] at h2;cases h2
  | ans h2 _ _ _=>rw[h1] at h2;cases h2
  | «end» h2 _ _=>rw[h1] at h2;cases h2
 | go h1 _ ih=>cases h' with
  | over h2=>rw[h1] at h2;cases h2
  | go h2 h3=>rw[h1] at h2;cases h2;exact ih h3
  | wait h2 _=>rw[h1] at h2;cases h2
  | ans h2 _ _ _=>rw[h1] at h2;cases h2
  | «end» h2 _ _=>rw[h1] at h2;cases h2
 | wait h1 k1=>cases h' with
  | over h2=>rw[h1] at h2;cases h2
  | go h2 h3=>rw[h1] at h2;cases h2
  | wait h2 _=>rw[h1] at h2;cases h2;rfl
  | ans h2 k2 _ _=>omega
  | «end» h2 k2 _=>omega
 | ans h1 k1 a1 _ ih=>cases h' with
  | over h2=>rw[h1] at h2;cases h2
  | go h2 h3=>rw[h1] at h2;cases h2
  | wait h2 k2=>omega
  | ans h2 k2 a2 h3=>rw[h1] at h2;cases h2;rw[a1] at a2;cases a2;exact ih h3
  | «end» h2 k2 a2=>rw[h1] at h2;cases h2;rw[a1] at a2;cases a2
 | «end» h1 k1 a1=>cases h' with
  | over h2=>rw[h1] at h2;cases h2
  | go h2 h3=>rw[h1] at h2;cases h2
  | wait h2 k2=>omega
  | ans h2 k2 a2 h3=>rw[h1] at h2;cases h2;rw[a1] at a2;cases a2
  | «end» h2 k2 a2=>rw[h1] at h2;cases h2;rw[a1] at a2;cases a2;rfl
theorem Hf {s s':St} {ask:Bool} {nm:By} (h:Ca is s=.look ask nm s'):s'.looks=s.looks+1/\s'.pl=s.pl/\s'.steps=s.steps+1/\s.looks≠200/\s.pl<is.length/\1<=s.stack.length/\s'.stack=Bh s.stack 1/\nm=Bp s.stack:=by
 unfold Ca at h
 split at h
 ·cases h
 ·split at h
  ·cases h
  ·rename_i h1 h2
   simp only[Kv] at h
   split at h
   ·cases h
   ·split at h
    ·cases h
    ·split at h
     ·cases h
     ·split at h
      ·rename_i h3 h4 h5 h6
       split at h
       ·cases h
       ·split at h
        ·cases h
        ·rename_i h7 h8
         cases h;(have ht:Av (ix is s.pl).op.toNat=1:=by rcases h6 with h6|h6<;>rw[h6]<;>rfl);rw[ht] at h3 ⊢;exact⟨rfl,rfl,rfl,h8,qb,qb,rfl,rfl⟩
      ·split at h
       ·cases h
       ·cases h
theorem Af {o:Obj} (h:w.heap[b]?=some o):b<w.heap.size:=by
 exact qlz
theorem Oo {o:Obj} (hb:Bw w w') (h:w.heap[b]?=some o):w'.heap[b]?=some o:=by
 rw[hb.block _ (Af h)];exact h
abbrev zR:Obj:=.cells #[I 0,nS,I 0,I 0,.bool false,I 0,ze,.bool false,ze,.bool false] 195 (0,0)
theorem Pz (h:Below B w w') (hb:B<=b) {v0 v1 v2 v3 v4 v5 v6 v7 v8 v9:Value}:Below B w (((((((((((w').setCell ⟨b,0,none⟩ v0).setCell ⟨b,1,none⟩ v1).setCell ⟨b,2,none⟩ v2).setCell ⟨b,3,none⟩ v3).setCell ⟨b,4,none⟩ v4).setCell ⟨b,5,none⟩ v5).setCell ⟨b,6,none⟩ v6).setCell ⟨b,7,none⟩ v7).setCell ⟨b,8,none⟩ v8).setCell ⟨b,9,none⟩ v9):=((((((((((h).setCell (p:=⟨b,0,none⟩) hb _).setCell (p:=⟨b,1,none⟩) hb _).setCell (p:=⟨b,2,none⟩) hb _).setCell (p:=⟨b,3,none⟩) hb _).setCell (p:=⟨b,4,none⟩) hb _).setCell (p:=⟨b,5,none⟩) hb _).setCell (p:=⟨b,6,none⟩) hb _).setCell (p:=⟨b,7,none⟩) hb _).setCell (p:=⟨b,8,none⟩) hb _).setCell (p:=⟨b,9,none⟩) hb _
theorem gA {α:Type} {l:List α}:l.toArray[i]?=l[i]?:=List.getElem?_toArray
theorem gB {α:Type} {a:α} {l:List α}:(a :: l)[0]?=some a:=List.getElem?_cons_zero
theorem gC {α:Type} {a:α} {l:List α}:(a :: l)[i+1]?=l[i]?:=List.getElem?_cons_succ
theorem gD {α:Type} {l:List α} {a:α}:l.toArray.setIfInBounds i a=(l.set i a).toArray:=qg
theorem gE {α:Type} {a b:α} {l:List α}:(a :: l).set 0 b=b :: l:=rfl
theorem alK (W1:World):∀(p:Addr) (v:Value) (x:Obj),W1.cell? p=some v->(W1.alloc x).cell? p=some v:=fun p v x h=>qfx
theorem Gv {T:Nat} {cs:Array Value} (hT:T≠9) (h:w.heap[b]?=some (.cells cs T (0,0))) (ho:w.ownsRow B 9 1 v n xs):some b≠v.ownBlock:=by
 intro e
 rcases ho.2 with ⟨rfl,_⟩|⟨g,cap,cur,rfl,hg,hh,_⟩
 ·simp[Value.ownBlock] at e
 ·simp[Value.ownBlock] at e;subst e;rw[h] at hh;injection hh with hh;injection hh with _ h2;exact hT h2
def Fg (w:World) (m b:Nat):Prop:=∀ v,w.cell? ⟨m,0,none⟩=some v->some b≠v.ownBlock
structure KB (B m:Nat) (w w':World):Prop where
 bl:Below B w w'
 keep:∀ b cs T,T≠9->b≠m->w.heap[b]?=some (.cells cs T (0,0))->w'.heap[b]?=some (.cells cs T (0,0))
 own:m<w.heap.size->∀ b cs T,b≠m->Fg w m b->w.heap[b]?=some (.cells cs T (0,0))->w'.heap[b]?=some (.cells cs T (0,0))/\Fg w' m b
theorem KB.size (h:KB B m w w'):w.heap.size<=w'.heap.size:=h.bl.size
theorem KB.refl (B m:Nat) (w:World):KB B m w w:=⟨Below.refl _ _,fun _ _ _ _ _ h=>h,fun _ _ _ _ _ h2 h3=>⟨h3,h2⟩⟩
theorem KB.trans {w'':World} (h:KB B m w w') (k:KB B m w' w''):KB B m w w'':=⟨h.bl.trans k.bl,fun b cs T h1 h2 h3=>k.keep b cs T h1 h2 (h.keep b cs T h1 h2 h3),fun hm b cs T h1 h2 h3=>k.own (Nat.lt_of_lt_of_le hm h.bl.size) b cs T h1 (h.own hm b cs T h1 h2 h3).2 (h.own hm b cs T h1 h2 h3).1⟩
theorem KB.drew (h:KB B m w w'):KB B m w w'.drew:=⟨h.bl.drew,h.keep,h.own⟩
theorem KB.old (h:Bw w w') (hB:B<=w.heap.size):KB B m w w':=⟨h.mono hB,fun b cs T h1 h2 h3=>by rw[h.block b (Af h3)];exact h3,fun hm b cs T h1 h2 h3=>⟨by rw[h.block b (Af h3)];exact h3,fun v hv=>h2 v ((h.cell (p:=⟨m,0,none⟩) hm).symm.trans hv)⟩⟩
theorem KB.setM (h:KB B m w w') (j:Nat) (hB:B<=m) (v:Value) (hj:j≠0:=by decide):KB B m w (w'.setCell ⟨m,j,none⟩ v):=⟨h.bl.setCell (p:=⟨m,j,none⟩) hB _,fun b cs T h1 h2 h3=>by rw[hC w' ⟨m,j,none⟩ _ b h2];exact h.keep b cs T h1 h2 h3,fun hm b cs T h1 h2 h3=>⟨by rw[hC w' ⟨m,j,none⟩ _ b h1];exact(h.own hm b cs T h1 h2 h3).1,fun u hu=>(h.own hm b cs T h1 h2 h3).2 u (by rw[World.cell?_setCell_other (w:=w') (a:=⟨m,j,none⟩) (b:=⟨m,0,none⟩) (v:=v) qg] at hu;exact hu)⟩⟩
theorem KB.setN (h:KB B m w w') (j:Nat) (hB:B<=w.heap.size) (v:Value):KB B m w (w'.setCell ⟨w.heap.size,j,none⟩ v):=⟨h.bl.setCell (p:=⟨w.heap.size,j,none⟩) hB _,fun b cs T h1 h2 h3=>by rw[hC w' ⟨w.heap.size,j,none⟩ _ b (by have:=Af h3;simp;omega)];exact h.keep b cs T h1 h2 h3,fun hm b cs T h1 h2 h3=>⟨by rw[hC w' ⟨w.heap.size,j,none⟩ _ b (by have:=Af h3;simp;omega)];exact(h.own hm b cs T h1 h2 h3).1,fun u hu=>(h.own hm b cs T h1 h2 h3).2 u (by rw[World.cell?_setCell_far _ _ _ _ qh] at hu;exact hu)⟩⟩
theorem Ff {w2:World} {o:Obj} {ob:Option Nat} (ae:(w.alloc o).grownBy w2 ob) (HO:∀(b:Nat) (cs:Array Value) (T:Nat),T≠9->w.heap[b]?=some (.cells cs T (0,0))->some b≠ob):∀(b:Nat) (cs:Array Value) (T:Nat),T≠9->w.heap[b]?=some (.cells cs T (0,0))->w2.heap[b]?=some (.cells cs T (0,0)):=by
 intro b cs T hT hb
 have hl:=Af hb
 rw[ae.block b qh (HO b cs T hT hb),Lib.alloc_old w _ b hl]
 exact hb
theorem Fw (B m:Nat) (ss:List By) (cd:Value) (pl st lk:Int) (t:By) (w:World) (hM:Cd B w m ss cd pl st lk) (hB:B<=w.heap.size) (h1:t.size<=2000) (h2:ss.length<50) :
  Calls prog 175 #[.pointer (p_ m),.string t] w fun e w'=>e=.returned (.bool true)/\KB B m w w'/\Cd B w' m (ss++[t]) cd pl st lk:=by
 obtain⟨jr,v,hm,ah⟩:=hM
 obtain⟨ao,cap,rfl⟩:∃ ao cap,v=.slice ao ss.length cap:=by
  exact qlh
 have c0:=cK hm 0
 have aj:=hm.lt
 have HO:Hd (∀(b:Nat) (cs:Array Value) (T:Nat),T≠9->w.heap[b]?=some (.cells cs T (0,0))->some b≠(Value.slice ao ss.length cap).ownBlock):=fun b cs T hT hb=>Gv hT hb ah
 have d1:decide ((2000:Int)<t.size)=false:=qh
 have d2:((ss.length:Int) == 50)=false:=qh
 obtain⟨i0,hi,bp,bh,bv⟩:=info_parts Tryz.info9b
 go_enter func175,ntmps175
 go_wp2_with (first|(at_builtin;refine wpList_append_lies _ rfl (.tmp 20) (.tmp 22) 22 rfl B 9 i0 ze 1 16 underlying22 hi bp bh bv rfl qd _ _ _ rfl (ah.alloc _) ⟨w.heap.size,0,none⟩ 1 1 [.string t] rfl rfl (cell_one_new _ _ _) qaf qb qm qb qh _ rfl ?_;intro g' nr w2 ba ae ct Z6;have S6:Hd (∀(b:Nat) (cs:Array Value) (T:Nat),T≠9->w.heap[b]?=some (.cells cs T (0,0))->w2.heap[b]?=some (.cells cs T (0,0))):=Ff ae HO.o;have sw:Fj w2 m (.slice ao ss.length cap) cd pl st lk:=(by have hne:=hm.ne' ah;unfold Fj at *;rw[ae.block m qh hne,Lib.alloc_old w _ m aj];exact hm);have e0:w2.cell? ⟨m,0,none⟩=some (.slice ao ss.length cap):=(by rw[cH sw];rfl);have f0:w2.frozen? ⟨m,0,none⟩=false:=fH sw 0;have fg:Below B w w2:=((Below.refl _ _).alloc qb _).grown ae qh (fun k hk=>(Lb ah k hk).1);have HLIE:Hd ((Value.slice ao ss.length cap).ownBlock=some g'\/w.heap.size<=g'):=(by rcases ct with h|h;exact Or.inl h;exact Or.inr (by rw[h];simp));have HGR:Hd (∀ b cs T,some b≠(Value.slice ao ss.length cap).ownBlock->w.heap[b]?=some (.cells cs T (0,0))->w2.heap[b]?=some (.cells cs T (0,0))):=(fun b cs T h1 h2=>by have hl:=Af h2;rw[ae.block b qh h1,Lib.alloc_old w _ b hl];exact h2)))
 go_ret
 exact⟨rfl,⟨fg.setCell (p:=⟨m,0,none⟩) jr _,fun b cs T hT vv hb=>by rw[hC _ ⟨m,0,none⟩ _ b vv];exact S6.out b cs T hT hb,fun _ b cs T vv gk hb=>⟨by rw[hC _ ⟨m,0,none⟩ _ b vv];exact HGR.o b cs T (gk _ c0) hb,fun u hu=>by
  rw[World.cell?_setCell_same (h:=e0)] at hu;cases hu;have hl:=Af hb;intro oy
  rcases HLIE.o with h|h
  ·exact gk _ c0 (oy.trans h.symm)
  ·simp[Value.ownBlock] at oy;omega⟩⟩,Cd.put jr sw (by simpa [Ax] using ba)⟩
theorem Cg (B m:Nat) (ss:List By) (x:By) (cd:Value) (pl st lk:Int) (w:World) (hM:Cd B w m (ss++[x]) cd pl st lk) (hB:B<=w.heap.size) (h2:ss.length<50) :
  Calls prog 173 #[.pointer (p_ m)] w fun e w'=>e=.returned (.string x)/\KB B m w w'/\Cd B w' m ss cd pl st lk/\∀ b,b≠m->w'.heap[b]?=w.heap[b]?:=by
 obtain⟨jr,v,hm,ah⟩:=hM
 rw[List.length_append,List.length_singleton] at ah
 obtain⟨g,cap,rfl⟩:∃ g cap,v=.slice (p_ g) (ss.length+1) cap:=by
  rcases ah.2 with ⟨_,h0⟩|⟨g,cap,cur,hv,_⟩
  ·omega
  ·exact⟨_,_,hv⟩
 have c0:=cK hm 0
 have f0:=fH hm 0
 have cx:w.cell? ⟨g,ss.length,none⟩=some (.string x):=by rw[ah.cellAt ss.length qb];simp[Ax]
 have S0:ss.length+1<=cap:=by
  rcases ah.2 with ⟨h0,_⟩|⟨g',ai,cur,hv,hg,hh,h1,_⟩
  ·simp at h0
  ·simp only[Value.slice.injEq,Option.some.injEq,Addr.mk.injEq,and_true,true_and] at hv;omega
 have HS:=hid (Cd.put jr hm (Tu ah))
 clear ah hm
 go_enter func173,ntmps173
 go_wp2
 go_ret
 exact⟨rfl,⟨(Below.refl _ _).setCell (p:=⟨m,0,none⟩) jr _,fun b cs T hT vv hb=>by rw[hC w ⟨m,0,none⟩ _ b vv];exact hb,fun _ b cs T vv gk hb=>⟨by rw[hC w ⟨m,0,none⟩ _ b vv];exact hb,fun u hu=>by
  rw[World.cell?_setCell_same (h:=c0)] at hu;cases hu;have hno2:=gk _ c0;simpa [Value.ownBlock] using hno2⟩⟩,HS.o,fun b hb=>hC w ⟨m,0,none⟩ _ b hb⟩
theorem Cd.place {lk:Int} (h:Cd B w m ss cd pl st lk) (p:Int):Cd B (w.setCell ⟨m,2,none⟩ (I p)) m ss cd p st lk:=by
 obtain⟨hB,v,hm,ho⟩:=h
 refine⟨hB,v,?_,?_⟩
 ·exact qdl
 ·have hne:=hm.ne' ho;refine⟨ho.1,?_⟩
  rcases ho.2 with h0|⟨g,cap,cur,hv,hg,hh,r⟩
  ·exact Or.inl h0
  ·refine Or.inr ⟨g,cap,cur,hv,hg,?_,r⟩;rw[hC w ⟨m,2,none⟩ _ g qcl];exact hh
theorem Cd.cell2 {lk:Int} (h:Cd B w m ss cd pl st lk):w.cell? ⟨m,2,none⟩=some (I pl)/\w.frozen? ⟨m,2,none⟩=false/\m<w.heap.size/\B<=m:=by
 obtain⟨hB,v,hm,ho⟩:=h
 exact⟨qba,fH hm 2,hm.lt,hB⟩
theorem Zw (B m:Nat) (ss:List By) (cd:Value) (pl st lk:Int) (t:By) (n:Int) (w:World) (hM:Cd B w m ss cd pl st lk) (hB:B<=w.heap.size) (h1:t.size<=2000) (h2:ss.length<50) (ws:0<=pl) (jd:pl<=2000) :
  Calls prog 174 #[.pointer (p_ m),.agg #[I 1,.string t,I n]] w fun e w'=>e=.returned (.bool true)/\KB B m w w'/\Cd B w' m (ss++[t]) cd (pl+1) st lk:=by
 have fe:Bw w (w.alloc (.cells #[I 1,.string t,I n] 128)):=aN _ _
 have fb:=hM.bl fe
 obtain⟨c2,f2,wu,jr⟩:=fb.cell2
 go_enter func174,ntmps174
 go_wp2_with fail
 go_region_with (first|(go_at_call 175;refine(Fw B m ss cd pl st lk t _ ?_ ?_ h1 h2).mono ?_;(focus (exact fb));(focus (simp;omega));rintro e w1 ⟨rfl,af,jv⟩))
 all_goals
  obtain⟨d2,e2,_,_⟩:=jv.cell2;have HM:=hid jv;clear jv hM fb;go_wp2;go_ret;exact⟨rfl,(((KB.old fe hB).drew).trans af).setM 2 jr _,HM.o.place _⟩
theorem Zx (B m:Nat) (ss:List By) (cd:Value) (pl st lk:Int) (t:By) (n:Nat) (w:World) (hM:Cd B w m (ss) cd pl st lk) (hB:B<=w.heap.size) (ws:0<=pl) (jd:pl<=2000) (hn:n<=2000) (h1:t.size<=2000) (h2:ss.length=50) :
  Calls prog 174 #[.pointer (p_ m),.agg #[I 1,.string t,I n]] w fun e w'=>e=.returned (.bool false)/\KB B m w w'/\Cd B w' m (ss) cd pl st lk:=by
 have fe:Bw w (w.alloc (.cells #[I 1,.string t,I n] 128)):=aN _ _
 have ue:=hM.cell2.2.2.1
 have fb:=hM.bl fe
 obtain⟨c2,f2,wu,jr⟩:=fb.cell2
 have eg:B<=(w.alloc (.cells #[I 1,.string t,I n] 128)).heap.size:=qh
 go_enter func174,ntmps174
 go_wp2_with fail
 go_region_with (first|(go_at_call 175;refine(put_no B m (ss) cd pl st lk (t) _ ?_ ?_ ?_ ?_).mono ?_;(focus (exact fb));(focus (first|omega|(simp;omega)));(focus (first|omega|(simp;omega)));(focus (exact Or.inr h2));rintro e w1 ⟨rfl,rfl⟩))
 all_goals
  go_wp2;go_ret;exact⟨rfl,(KB.old fe hB).drew,fb⟩
theorem work_jump (B m:Nat) (ss:List By) (cd:Value) (pl st lk:Int) (t:By) (n:Nat) (w:World) (hM:Cd B w m (ss) cd pl st lk) (hB:B<=w.heap.size) (ws:0<=pl) (jd:pl<=2000) (hn:n<=2000)  :
  Calls prog 174 #[.pointer (p_ m),.agg #[I 10,.string t,I n]] w fun e w'=>e=.returned (.bool true)/\KB B m w w'/\Cd B w' m (ss) cd n st lk:=by
 have fe:Bw w (w.alloc (.cells #[I 10,.string t,I n] 128)):=aN _ _
 have fb:=hM.bl fe
 obtain⟨c2,f2,wu,jr⟩:=fb.cell2
 have eg:B<=(w.alloc (.cells #[I 10,.string t,I n] 128)).heap.size:=qh
 go_enter func174,ntmps174
 go_wp2
 go_ret
 exact⟨rfl,(KB.old fe hB).setM 2 jr _,fb.place _⟩
theorem work_drop (B m:Nat) (r:List By) (x:By) (cd:Value) (pl st lk:Int) (t:By) (n:Nat) (w:World) (hM:Cd B w m (r++[x]) cd pl st lk) (hB:B<=w.heap.size) (ws:0<=pl) (jd:pl<=2000) (hn:n<=2000) (h2:r.length<50) :
  Calls prog 174 #[.pointer (p_ m),.agg #[I 9,.string t,I n]] w fun e w'=>e=.returned (.bool true)/\KB B m w w'/\Cd B w' m (r) cd (pl+1) st lk:=by
 have fe:Bw w (w.alloc (.cells #[I 9,.string t,I n] 128)):=aN _ _
 have ue:=hM.cell2.2.2.1
 have fb:=hM.bl fe
 obtain⟨c2,f2,wu,jr⟩:=fb.cell2
 have eg:B<=(w.alloc (.cells #[I 9,.string t,I n] 128)).heap.size:=qh
 go_enter func174,ntmps174
 go_wp2_with (first|(go_at_call 173;refine(Cg B m (r) x cd pl st lk _ ?_ ?_ ?_).mono ?_;(focus (exact fb));(focus (exact eg));(focus (first|omega|(simp;omega)));rintro e w1 ⟨rfl,af,jv,ce⟩;have gp:B<=w1.heap.size:=(Nat.le_trans eg af.size);obtain⟨dd1,ee1,_,_⟩:=jv.cell2;clear ce))
 go_ret
 exact⟨rfl,((KB.old fe hB).trans af).setM 2 jr _,jv.place _⟩
theorem Uy (B m:Nat) (r:List By) (x:By) (cd:Value) (pl st lk:Int) (t:By) (n:Nat) (w:World) (hM:Cd B w m (r++[x]) cd pl st lk) (hB:B<=w.heap.size) (ws:0<=pl) (jd:pl<=2000) (hn:n<=2000) (h2:r.length<50) (hx:x.toList.isEmpty=true) :
  Calls prog 174 #[.pointer (p_ m),.agg #[I 11,.string t,I n]] w fun e w'=>e=.returned (.bool true)/\KB B m w w'/\Cd B w' m (r) cd n st lk:=by
 exact qen
theorem Ux (B m:Nat) (r:List By) (x:By) (cd:Value) (pl st lk:Int) (t:By) (n:Nat) (w:World) (hM:Cd B w m (r++[x]) cd pl st lk) (hB:B<=w.heap.size) (ws:0<=pl) (jd:pl<=2000) (hn:n<=2000) (h2:r.length<50) (hx:x.toList.isEmpty=false) (hx2:(x.toList == [48])=true) :
  Calls prog 174 #[.pointer (p_ m),.agg #[I 11,.string t,I n]] w fun e w'=>e=.returned (.bool true)/\KB B m w w'/\Cd B w' m (r) cd n st lk:=by
 exact qen
theorem Uw (B m:Nat) (r:List By) (x:By) (cd:Value) (pl st lk:Int) (t:By) (n:Nat) (w:World) (hM:Cd B w m (r++[x]) cd pl st lk) (hB:B<=w.heap.size) (ws:0<=pl) (jd:pl<=2000) (hn:n<=2000) (h2:r.length<50) (hx:x.toList.isEmpty=false) (hx2:(x.toList == [48])=false) :
  Calls prog 174 #[.pointer (p_ m),.agg #[I 11,.string t,I n]] w fun e w'=>e=.returned (.bool true)/\KB B m w w'/\Cd B w' m (r) cd (pl+1) st lk:=by
 exact qen
theorem Qaa (B m:Nat) (r:List By) (x y:By) (cd:Value) (pl st lk:Int) (t:By) (n:Nat) (w:World) (hM:Cd B w m (r++[x]++[y]) cd pl st lk) (hB:B<=w.heap.size) (ws:0<=pl) (jd:pl<=2000) (hn:n<=2000) (h2:r.length+2<=50) (hx:x.size<=2000) (hy:y.size<=2000) (hxy:(x++y).size<=2000) :
  Calls prog 174 #[.pointer (p_ m),.agg #[I 2,.string t,I n]] w fun e w'=>e=.returned (.bool true)/\KB B m w w'/\Cd B w' m (r++[x++y]) cd (pl+1) st lk:=by
 have fe:Bw w (w.alloc (.cells #[I 2,.string t,I n] 128)):=aN _ _
 have ue:=hM.cell2.2.2.1
 have fb:=hM.bl fe
 obtain⟨c2,f2,wu,jr⟩:=fb.cell2
 have eg:B<=(w.alloc (.cells #[I 2,.string t,I n] 128)).heap.size:=qh
 go_enter func174,ntmps174
 go_wp2_with fail
 go_region_with (first|(go_at_call 173;refine(Cg B m (r) x cd pl st lk _ ?_ ?_ ?_).mono ?_;(focus (exact jv));(focus (exact gp));(focus (first|omega|(simp;omega)));rintro e w2 ⟨rfl,ag,jq,gw⟩;have oa:B<=w2.heap.size:=(Nat.le_trans gp ag.size);obtain⟨dd2,ee2,_,_⟩:=jq.cell2;clear gw)|(go_at_call 173;refine(Cg B m (r++[x]) y cd pl st lk _ ?_ ?_ ?_).mono ?_;(focus (exact fb));(focus (exact eg));(focus (first|omega|(simp;omega)));rintro e w1 ⟨rfl,af,jv,ce⟩;have gp:B<=w1.heap.size:=(Nat.le_trans eg af.size);obtain⟨dd1,ee1,_,_⟩:=jv.cell2;clear ce))
 all_goals
  go_wp2_with (first|(go_at_call 175;refine(Fw B m (r) cd pl st lk (x++y) _ ?_ ?_ hxy ?_).mono ?_;(focus (exact jq));(focus (exact oa));(focus (first|omega|(simp;omega)));rintro e w3 ⟨rfl,aw,hM4⟩;have A3:B<=w3.heap.size:=(Nat.le_trans oa aw.size);obtain⟨dd3,ee3,_,_⟩:=hM4.cell2))
  go_ret;exact⟨rfl,(((KB.old fe hB).drew.trans af).trans (ag.trans aw)).setM 2 jr _,hM4.place _⟩
theorem Qab (B m:Nat) (r:List By) (x y:By) (cd:Value) (pl st lk:Int) (t:By) (n:Nat) (w:World) (hM:Cd B w m (r++[x]++[y]) cd pl st lk) (hB:B<=w.heap.size) (ws:0<=pl) (jd:pl<=2000) (hn:n<=2000) (h2:r.length+2<=50) (hx:x.size<=2000) (hy:y.size<=2000) (hxy:2000<(x++y).size) (hxy2:(x++y).size<=4000) :
  Calls prog 174 #[.pointer (p_ m),.agg #[I 2,.string t,I n]] w fun e w'=>e=.returned (.bool false)/\KB B m w w'/\Cd B w' m (r) cd pl st lk:=by
 have fe:Bw w (w.alloc (.cells #[I 2,.string t,I n] 128)):=aN _ _
 have ue:=hM.cell2.2.2.1
 have fb:=hM.bl fe
 obtain⟨c2,f2,wu,jr⟩:=fb.cell2
 have eg:B<=(w.alloc (.cells #[I 2,.string t,I n] 128)).heap.size:=qh
 go_enter func174,ntmps174
 go_wp2_with fail
 go_region_with (first|(go_at_call 173;refine(Cg B m (r) x cd pl st lk _ ?_ ?_ ?_).mono ?_;(focus (exact jv));(focus (exact gp));(focus (first|omega|(simp;omega)));rintro e w2 ⟨rfl,ag,jq,gw⟩;have oa:B<=w2.heap.size:=(Nat.le_trans gp ag.size);obtain⟨dd2,ee2,_,_⟩:=jq.cell2;clear gw)|(go_at_call 173;refine(Cg B m (r++[x]) y cd pl st lk _ ?_ ?_ ?_).mono ?_;(focus (exact fb));(focus (exact eg));(focus (first|omega|(simp;omega)));rintro e w1 ⟨rfl,af,jv,ce⟩;have gp:B<=w1.heap.size:=(Nat.le_trans eg af.size);obtain⟨dd1,ee1,_,_⟩:=jv.cell2;clear ce))
 all_goals
  go_wp2_with (first|(go_at_call 175;refine(put_no B m (r) cd pl st lk (x++y) _ ?_ ?_ ?_ ?_).mono ?_;(focus (exact jq));(focus (first|omega|(simp;omega)));(focus (first|omega|(simp;omega)));(focus (exact Or.inl hxy));rintro e w3 ⟨rfl,rfl⟩))
  go_ret;exact⟨rfl,((KB.old fe hB).drew.trans af).trans ag,jq⟩
end Go.Proofs.YtfgoholldpeabaaGreatDoor
