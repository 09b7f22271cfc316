import Derived.Test.YtjlnkepkkdefdaaGreatDoorTChkS
import Derived.Test.YtjlnkepkkdefdaaGreatDoorTNSmall
namespace Go.Proofs.YtjlnkepkkdefdaaGreatDoor
open Go.RowKit
set_option linter.unusedVariables false
set_option maxHeartbeats 8000000
set_option maxRecDepth 100000
set_option linter.unusedSimpArgs false
theorem cmp_lt:∀(a b:List UInt8),Lib.compareBytes a b<0↔Op.bytesLess a b=true
 | [],[]=>by simp[Lib.compareBytes,Op.bytesLess]
 | [],_ :: _=>by simp[Lib.compareBytes,Op.bytesLess]
 | _ :: _,[]=>by simp[Lib.compareBytes,Op.bytesLess]
 | a :: ar,b :: bs=>by
  have ih:=cmp_lt ar bs
  by_cases h1:a<b
  ·simp[Lib.compareBytes,Op.bytesLess,h1]
  ·by_cases h2:b<a
   ·(have hne:¬ a=b:=by intro e;subst e;exact absurd h2 (by simp));simp[Lib.compareBytes,Op.bytesLess,h1,h2,hne]
   ·have he:a=b:=UInt8.le_antisymm (UInt8.not_lt.mp h2) (UInt8.not_lt.mp h1);subst he;simp[Lib.compareBytes,Op.bytesLess,ih]
theorem Zy:∀(a b:List UInt8),Lib.compareBytes a b=0↔a=b
 | [],[]=>by simp[Lib.compareBytes]
 | [],_ :: _=>by simp[Lib.compareBytes]
 | _ :: _,[]=>by simp[Lib.compareBytes]
 | a :: ar,b :: bs=>by
  have ih:=Zy ar bs
  by_cases h1:a<b
  ·have hne:¬ a=b:=by intro e;subst e;exact absurd h1 (by simp)
   simp[Lib.compareBytes,h1,hne]
  ·by_cases h2:b<a
   ·(have hne:¬ a=b:=by intro e;subst e;exact absurd h2 (by simp));simp[Lib.compareBytes,h1,h2,hne]
   ·have he:a=b:=UInt8.le_antisymm (UInt8.not_lt.mp h2) (UInt8.not_lt.mp h1);subst he;simp[Lib.compareBytes,ih]
def Lq (a b:ByteArray):Int:=Lib.compareBytes a.data.toList b.data.toList
theorem cmpB_lt {a b:ByteArray} {v:Bool} (h:Aw a b=v):decide (Lq a b<0)=v:=by
 unfold Aw at h
 rw[ByteArray.toList_eq,ByteArray.toList_eq] at h
 unfold Lq
 cases v
 ·rw[decide_eq_false_iff_not,cmp_lt,h];simp
 ·rw[decide_eq_true_eq,cmp_lt];exact h
theorem Mr (a b:ByteArray):Lq a b=0↔a=b:=by
 unfold Lq
 rw[Zy]
 exact⟨fun h=>WideShapes.bytes_inj h,fun h=>by rw[h]⟩
structure At (l:List ByteArray) (t:ByteArray) (r:Nat) (b:Bool):Prop where
 le:r<=l.length
 lo:∀ j,j<r->Aw (nx l j) t=true
 hi:∀ j,r<=j->j<l.length->Aw (nx l j) t=false
 has:b=true↔Fi l t
theorem Kf (s u t:ByteArray) (w:World) :
  Calls Tryz.prog 138 #[.agg #[.string s,.string u],.string t] w fun e w'=>Below w.heap.size w w'/\e=.returned (.int .i64 (Lq s t)):=by
 go_enter Tryz.func138,Tryz.ntmps138
 go_wp2_with fail
 refine(Tryz.strings_Compare _ t _).mono ?_
 rintro e w2 ⟨rfl,rfl⟩
 go_wp2
 go_ret
 exact⟨aN _ _,rfl⟩
theorem Pw (a:Option Addr) (cap:Nat) (ss:List S2) (t:ByteArray) (w:World) (hc:Iz w a ss) (hl:ss.length<=1048576) (hasc:Ey (Ai ss)) :
  Calls Tryz.prog 137 #[.slice a ss.length cap,.string t,.func (.func 138) #[] #[]] w fun e w'=>Below w.heap.size w w'/\∃(r:Nat) (b:Bool),e=.returned (.tuple #[.int .i64 r,.bool b])/\At (Ai ss) t r b:=by
 have HLL:Hd ((Ai ss).length=ss.length):=Ca ss
 have HNX:Hd (∀ i,nx (Ai ss) i=(sx ss i).name):=Eb ss
 obtain⟨l,el⟩:∃ l,Ai ss=l:=⟨_,rfl⟩
 rw[el] at hasc HLL HNX ⊢
 have HASC:Hd (Ey l):=hasc
 have HC:Hd (Iz w a ss):=hc
 clear hasc el hc
 go_enter Tryz.func137,Tryz.ntmps137
 go_wp2
 go_loopw [9,10] (fun i j wr=>∃ lo hi:Nat,i=.int .i64 lo/\j=.int .i64 hi/\lo<=hi/\hi<=ss.length/\Hd (∀ j,j<lo->Aw (nx l j) t=true)/\Hd (∀ j,hi<=j->j<l.length->Aw (nx l j) t=false)/\Below w.heap.size w wr) (fun i j _=>(intOf j).toNat-(intOf i).toNat)
 case atStart=>exact⟨0,ss.length,rfl,rfl,Nat.zero_le _,Nat.le_refl _,(fun j hj=>by omega:∀ j,j<0->Aw (nx l j) t=true),(fun j h1 h2=>by have:=HLL.o;omega:∀ j,ss.length<=j->j<l.length->Aw (nx l j) t=false),Below.refl _ _⟩
 case round=>
  obtain⟨lo,hi,rfl,rfl,g1,g2,HL,HH,hbr⟩:=hrel
  by_cases hlt:lo<hi
  ·obtain⟨m,e1,hm1,hm2⟩:∃ m:Nat,((lo:Int)+(hi:Int)) / 2=(m:Int)/\lo<=m/\m<hi:=⟨(lo+hi) / 2,by omega,by omega,by omega⟩;obtain⟨b,off,rfl,c1,c2⟩:=(HC.o.bl hbr) m (by omega);obtain⟨v,hv⟩:∃ v,Aw (nx l m) t=v:=⟨_,rfl⟩;have HV:Hd (Aw (nx l m) t=v):=hv;have dv:decide (Lq (sx ss m).name t<0)=v:=by rw[<- HNX.o m];exact cmpB_lt hv
   clear hv;generalize sx ss m=s at c1 c2 dv;obtain⟨q,eq⟩:∃ q,Lq s.name t=q:=⟨_,rfl⟩;rw[eq] at dv;have HN:Hd (∀ W:World,Calls Tryz.prog 138 #[.agg #[.string s.name,.string s.text],.string t] W fun e w'=>Below W.heap.size W w'/\e=.returned (.int .i64 q)):=fun W=>by rw[<- eq];exact Kf s.name s.text t W
   clear eq;have hmI:(m:Int)<(ss.length:Int):=by omega
   cases v
   ·go_wp2_with fail;refine(HN.o _).mono ?_;rintro e w2 ⟨hb2,rfl⟩;go_wp2_with fail;go_roundw
    case rel=>exact⟨lo,m,rfl,rfl,hm1,by omega,HL.o,Pe HASC.o HV.o,bt hbr hb2⟩
    case measure=>simp[intOf];omega
   ·go_wp2_with fail;refine(HN.o _).mono ?_;rintro e w2 ⟨hb2,rfl⟩;go_wp2_with fail;go_roundw
    case rel=>exact⟨m+1,hi,by go_num,rfl,by omega,by omega,Oz HASC.o (by have:=HLL.o;omega) HV.o,HH.o,bt hbr hb2⟩
    case measure=>simp[intOf];omega
  ·obtain rfl:lo=hi:=by omega
   have hle:lo<=l.length:=by have:=HLL.o;omega
   by_cases hll:lo<ss.length
   ·obtain⟨b,off,rfl,c1,c2⟩:=(HC.o.bl hbr) lo hll;(have hlI:(lo:Int)<(ss.length:Int):=by omega);have HE0:Hd (nx l lo=(sx ss lo).name):=HNX.o lo
    by_cases he:(sx ss lo).name=t
    ·have HE:Hd (Fi l t):=⟨lo,by have:=HLL.o;omega,by rw[HE0.o];exact he⟩;(have dz:(Lq (sx ss lo).name t == 0)=true:=by rw[beq_iff_eq,Mr];exact he);clear he HE0;generalize sx ss lo=s at c1 c2 dz;obtain⟨q,eq⟩:∃ q,Lq s.name t=q:=⟨_,rfl⟩;rw[eq] at dz;(have HN:Hd (∀ W:World,Calls Tryz.prog 138 #[.agg #[.string s.name,.string s.text],.string t] W fun e w'=>Below W.heap.size W w'/\e=.returned (.int .i64 q)):=fun W=>by rw[<- eq];exact Kf s.name s.text t W);clear eq;go_wp2_with fail;refine(HN.o _).mono ?_;rintro e w2 ⟨hb2,rfl⟩;go_wp2_with fail
     go_ret2
     exact⟨bt hbr hb2,lo,true,rfl,hle,HL.o,HH.o,Hf HE.o⟩
    ·have HE:Hd (¬ Fi l t):=fun h=>he (by rw[<- HE0.o];exact(Me HASC.o HL.o HH.o h).2);(have dz:(Lq (sx ss lo).name t == 0)=false:=by rw[beq_eq_false_iff_ne];exact fun h=>he ((Mr _ _).mp h));clear he HE0;generalize sx ss lo=s at c1 c2 dz;obtain⟨q,eq⟩:∃ q,Lq s.name t=q:=⟨_,rfl⟩;rw[eq] at dz;(have HN:Hd (∀ W:World,Calls Tryz.prog 138 #[.agg #[.string s.name,.string s.text],.string t] W fun e w'=>Below W.heap.size W w'/\e=.returned (.int .i64 q)):=fun W=>by rw[<- eq];exact Kf s.name s.text t W);clear eq;go_wp2_with fail;refine(HN.o _).mono ?_;rintro e w2 ⟨hb2,rfl⟩;go_wp2_with fail
     go_ret2
     exact⟨bt hbr hb2,lo,false,rfl,hle,HL.o,HH.o,Fb HE.o⟩
   ·(have hlI:¬ (lo:Int)<(ss.length:Int):=by omega);have HE:Hd (¬ Fi l t):=fun h=>hll (by have:=(Me HASC.o HL.o HH.o h).1;have:=HLL.o;omega);clear hll;go_wp2_with fail
    go_ret2
    exact⟨hbr,lo,Or.inl ⟨rfl,hle,HL.o,HH.o,Fb HE.o⟩⟩
theorem Mg (sa ta:Option Addr) (n1 n2 c1 c2:Nat) (ss:List S2) (t:ByteArray) (w:World) (hc:Iz w sa ss) (hl:ss.length<=1048576) (hasc:Ey (Ai ss)) (hn:n1=ss.length) :
  Calls Tryz.prog 125 #[.agg #[.slice sa n1 c1,.slice ta n2 c2],.string t] w fun e w'=>Below w.heap.size w w'/\∃(r:Nat) (b:Bool),e=.returned (.tuple #[.int .i64 r,.bool b])/\At (Ai ss) t r b:=by
 subst hn
 have hb0:Below w.heap.size w (w.alloc (.cells #[.slice sa ss.length c1,.slice ta n2 c2] 26)):=aN _ _
 go_enter Tryz.func125,Tryz.ntmps125
 go_wp2_with fail
 refine(Pw sa c1 ss t _ (hc.bl hb0) hl hasc).mono ?_
 rintro e w2 ⟨hb2,r,b,rfl,hr⟩
 have HR:Hd (At (Ai ss) t r b):=hr
 have hB2:=bt hb0 hb2
 clear hr hb0 hb2
 go_wp2
 go_ret2
 exact⟨hB2,r,b,rfl,HR.o⟩
theorem Ke (s t:ByteArray) (u:Option Addr) (un uc:Nat) (w:World) :
  Calls Tryz.prog 141 #[.agg #[.string s,.slice u un uc],.string t] w fun e w'=>Below w.heap.size w w'/\e=.returned (.int .i64 (Lq s t)):=by
 go_enter Tryz.func141,Tryz.ntmps141
 go_wp2_with fail
 refine(Tryz.strings_Compare _ t _).mono ?_
 rintro e w2 ⟨rfl,rfl⟩
 go_wp2
 go_ret
 exact⟨aN _ _,rfl⟩
theorem Pv (a:Option Addr) (cap:Nat) (ss:List T2) (t:ByteArray) (w:World) (hc:Iy w a ss) (hl:ss.length<=1048576) (hasc:Ey (Ae ss)) :
  Calls Tryz.prog 140 #[.slice a ss.length cap,.string t,.func (.func 141) #[] #[]] w fun e w'=>Below w.heap.size w w'/\∃(r:Nat) (b:Bool),e=.returned (.tuple #[.int .i64 r,.bool b])/\At (Ae ss) t r b:=by
 have HLL:Hd ((Ae ss).length=ss.length):=Bj ss
 have HNX:Hd (∀ i,nx (Ae ss) i=(tx ss i).name):=Df ss
 obtain⟨l,el⟩:∃ l,Ae ss=l:=⟨_,rfl⟩
 rw[el] at hasc HLL HNX ⊢
 have HASC:Hd (Ey l):=hasc
 have HC:Hd (Iy w a ss):=hc
 clear hasc el hc
 go_enter Tryz.func140,Tryz.ntmps140
 go_wp2
 go_loopw [9,10] (fun i j wr=>∃ lo hi:Nat,i=.int .i64 lo/\j=.int .i64 hi/\lo<=hi/\hi<=ss.length/\Hd (∀ j,j<lo->Aw (nx l j) t=true)/\Hd (∀ j,hi<=j->j<l.length->Aw (nx l j) t=false)/\Below w.heap.size w wr) (fun i j _=>(intOf j).toNat-(intOf i).toNat)
 case atStart=>exact⟨0,ss.length,rfl,rfl,Nat.zero_le _,Nat.le_refl _,(fun j hj=>by omega:∀ j,j<0->Aw (nx l j) t=true),(fun j h1 h2=>by have:=HLL.o;omega:∀ j,ss.length<=j->j<l.length->Aw (nx l j) t=false),Below.refl _ _⟩
 case round=>
  obtain⟨lo,hi,rfl,rfl,g1,g2,HL,HH,hbr⟩:=hrel
  by_cases hlt:lo<hi
  ·obtain⟨m,e1,hm1,hm2⟩:∃ m:Nat,((lo:Int)+(hi:Int)) / 2=(m:Int)/\lo<=m/\m<hi:=⟨(lo+hi) / 2,by omega,by omega,by omega⟩;obtain⟨b,off,rfl,c1,y,p,c2,c3⟩:=(HC.o.bl hbr) m (by omega);obtain⟨v,hv⟩:∃ v,Aw (nx l m) t=v:=⟨_,rfl⟩;have HV:Hd (Aw (nx l m) t=v):=hv;have dv:decide (Lq (tx ss m).name t<0)=v:=by rw[<- HNX.o m];exact cmpB_lt hv
   clear hv;generalize tx ss m=s at c1 c2 c3 dv;obtain⟨q,eq⟩:∃ q,Lq s.name t=q:=⟨_,rfl⟩;rw[eq] at dv;have HN:Hd (∀ W:World,Calls Tryz.prog 141 #[.agg #[.string s.name,.slice y s.code.length p],.string t] W fun e w'=>Below W.heap.size W w'/\e=.returned (.int .i64 q)):=fun W=>by rw[<- eq];exact Ke s.name t y s.code.length p W
   clear eq c3;have hmI:(m:Int)<(ss.length:Int):=by omega
   cases v
   ·go_wp2_with fail;refine(HN.o _).mono ?_;rintro e w2 ⟨hb2,rfl⟩;go_wp2_with fail;go_roundw
    case rel=>exact⟨lo,m,rfl,rfl,hm1,by omega,HL.o,Pe HASC.o HV.o,bt hbr hb2⟩
    case measure=>simp[intOf];omega
   ·go_wp2_with fail;refine(HN.o _).mono ?_;rintro e w2 ⟨hb2,rfl⟩;go_wp2_with fail;go_roundw
    case rel=>exact⟨m+1,hi,by go_num,rfl,by omega,by omega,Oz HASC.o (by have:=HLL.o;omega) HV.o,HH.o,bt hbr hb2⟩
    case measure=>simp[intOf];omega
  ·obtain rfl:lo=hi:=by omega
   have hle:lo<=l.length:=by have:=HLL.o;omega
   by_cases hll:lo<ss.length
   ·obtain⟨b,off,rfl,c1,y,p,c2,c3⟩:=(HC.o.bl hbr) lo hll;(have hlI:(lo:Int)<(ss.length:Int):=by omega);have HE0:Hd (nx l lo=(tx ss lo).name):=HNX.o lo
    by_cases he:(tx ss lo).name=t
    ·have HE:Hd (Fi l t):=⟨lo,by have:=HLL.o;omega,by rw[HE0.o];exact he⟩;(have dz:(Lq (tx ss lo).name t == 0)=true:=by rw[beq_iff_eq,Mr];exact he);clear he HE0;generalize tx ss lo=s at c1 c2 c3 dz;obtain⟨q,eq⟩:∃ q,Lq s.name t=q:=⟨_,rfl⟩;rw[eq] at dz;(have HN:Hd (∀ W:World,Calls Tryz.prog 141 #[.agg #[.string s.name,.slice y s.code.length p],.string t] W fun e w'=>Below W.heap.size W w'/\e=.returned (.int .i64 q)):=fun W=>by rw[<- eq];exact Ke s.name t y s.code.length p W);clear eq c3;go_wp2_with fail;refine(HN.o _).mono ?_;rintro e w2 ⟨hb2,rfl⟩;go_wp2_with fail
     go_ret2
     exact⟨bt hbr hb2,lo,true,rfl,hle,HL.o,HH.o,Hf HE.o⟩
    ·have HE:Hd (¬ Fi l t):=fun h=>he (by rw[<- HE0.o];exact(Me HASC.o HL.o HH.o h).2);(have dz:(Lq (tx ss lo).name t == 0)=false:=by rw[beq_eq_false_iff_ne];exact fun h=>he ((Mr _ _).mp h));clear he HE0;generalize tx ss lo=s at c1 c2 c3 dz;obtain⟨q,eq⟩:∃ q,Lq s.name t=q:=⟨_,rfl⟩;rw[eq] at dz;(have HN:Hd (∀ W:World,Calls Tryz.prog 141 #[.agg #[.string s.name,.slice y s.code.length p],.string t] W fun e w'=>Below W.heap.size W w'/\e=.returned (.int .i64 q)):=fun W=>by rw[<- eq];exact Ke s.name t y s.code.length p W);clear eq c3;go_wp2_with fail;refine(HN.o _).mono ?_;rintro e w2 ⟨hb2,rfl⟩;go_wp2_with fail
     go_ret2
     exact⟨bt hbr hb2,lo,false,rfl,hle,HL.o,HH.o,Fb HE.o⟩
   ·(have hlI:¬ (lo:Int)<(ss.length:Int):=by omega);have HE:Hd (¬ Fi l t):=fun h=>hll (by have:=(Me HASC.o HL.o HH.o h).1;have:=HLL.o;omega);clear hll;go_wp2_with fail
    go_ret2
    exact⟨hbr,lo,Or.inl ⟨rfl,hle,HL.o,HH.o,Fb HE.o⟩⟩
theorem Mf (sa ta:Option Addr) (n1 n2 c1 c2:Nat) (ss:List T2) (t:ByteArray) (w:World) (hc:Iy w ta ss) (hl:ss.length<=1048576) (hasc:Ey (Ae ss)) (hn:n2=ss.length) :
  Calls Tryz.prog 126 #[.agg #[.slice sa n1 c1,.slice ta n2 c2],.string t] w fun e w'=>Below w.heap.size w w'/\∃(r:Nat) (b:Bool),e=.returned (.tuple #[.int .i64 r,.bool b])/\At (Ae ss) t r b:=by
 subst hn
 have hb0:Below w.heap.size w (w.alloc (.cells #[.slice sa n1 c1,.slice ta ss.length c2] 26)):=aN _ _
 go_enter Tryz.func126,Tryz.ntmps126
 go_wp2_with fail
 refine(Pv ta c2 ss t _ (hc.bl hb0) hl hasc).mono ?_
 rintro e w2 ⟨hb2,r,b,rfl,hr⟩
 have HR:Hd (At (Ae ss) t r b):=hr
 have hB2:=bt hb0 hb2
 clear hr hb0 hb2
 go_wp2
 go_ret2
 exact⟨hB2,r,b,rfl,HR.o⟩
theorem Ze (sa ta:Option Addr) (c1 c2:Nat) (ss:List S2) (ts:List T2) (t:ByteArray) (w:World) (rs:Iz w sa ss) (rt:Iy w ta ts) (h1:ss.length<=1048576) (h2:ts.length<=1048576) (a1:Ey (Ai ss)) (a2:Ey (Ae ts)) :
  Calls Tryz.prog 124 #[.agg #[.slice sa ss.length c1,.slice ta ts.length c2],.string t] w fun e w'=>Below w.heap.size w w'/\∃ b:Bool,e=.returned (.bool b)/\(b=true↔(Fi (Ai ss) t\/Fi (Ae ts) t)):=by
 have hb0:Below w.heap.size w (w.alloc (.cells #[.slice sa ss.length c1,.slice ta ts.length c2] 26)):=aN _ _
 have k0:(w.alloc (.cells #[.slice sa ss.length c1,.slice ta ts.length c2] 26)).cell? ⟨w.heap.size,0,none⟩=some (.slice sa ss.length c1):=by simp[go_sem]
 have k1:(w.alloc (.cells #[.slice sa ss.length c1,.slice ta ts.length c2] 26)).cell? ⟨w.heap.size,1,none⟩=some (.slice ta ts.length c2):=by simp[go_sem]
 have HT:Hd (∀ W:World,Below w.heap.size w W->Calls Tryz.prog 126 #[.agg #[.slice sa ss.length c1,.slice ta ts.length c2],.string t] W fun e w'=>Below W.heap.size W w'/\∃(r:Nat) (b:Bool),e=.returned (.tuple #[.int .i64 r,.bool b])/\At (Ae ts) t r b):=fun W hW=>Mf sa ta ss.length ts.length c1 c2 ts t W (rt.bl hW) h2 a2 rfl
 clear rt a2
 go_enter Tryz.func124,Tryz.ntmps124
 go_wp2_with fail
 refine(Mg sa ta ss.length ts.length c1 c2 ss t _ (rs.bl hb0) h1 a1 rfl).mono ?_
 rintro e w1 ⟨hb1,r1,b1,rfl,q1⟩
 have hB1:=bt hb0 hb1
 have x0:=Ab hb1 k0
 have x1:=Ab hb1 k1
 have HQ1:Hd (b1=true↔Fi (Ai ss) t):=q1.has
 clear hb0 hb1 k0 k1 q1 rs a1
 go_wp2_with fail
 refine(HT.o w1 hB1).mono ?_
 rintro e w2 ⟨hb2,r2,b2,rfl,q2⟩
 have hB2:=bt hB1 hb2
 have HQ2:Hd (b2=true↔Fi (Ae ts) t):=q2.has
 clear hb2 q2 HT x0 x1 hB1
 have HZ:Hd ((b1 || b2)=true↔(Fi (Ai ss) t\/Fi (Ae ts) t)):=by
  show (b1 || b2)=true↔_;rw[Bool.or_eq_true,HQ1.o,HQ2.o]
 clear HQ1 HQ2
 cases b1
 ·go_wp2;go_ret;exact⟨hB2,b2,rfl,by simpa using HZ.o⟩
 ·go_wp2;go_ret;exact⟨hB2,true,rfl,by simpa using HZ.o⟩
end Go.Proofs.YtjlnkepkkdefdaaGreatDoor
