import Derived.Test.YtoihflimijabjaaGreatDoorRows
import Derived.Test.YtoihflimijabjaaGreatDoorTValid
namespace Go.Proofs.YtoihflimijabjaaGreatDoor
open Option renaming some->M,none->N
open Value renaming string->S
open Go renaming World->E
open _root_ renaming List->L,Nat->X
set_option maxHeartbeats 8000000
set_option maxRecDepth 100000
open _root_.Go.Proofs.Tryz Go.RowKit Go.Deep
set_option linter.unusedVariables false
set_option linter.unusedSimpArgs false
variable {w':E} {a:Option Addr} {s:By} {i n:X}
section
open Go.ChangeShapes Go.WideShapes Go.ChangeAt Go.Deep
section
variable {AJ:Type} {enc:TypeId×Value->AJ} {W:E} {base:X} {spare:X->Bool} {held:Bool}
end
end
structure G3 where
 name:By
 ask:Bool
 sum:By
def g00:G3:=⟨ByteArray.empty,false,ByteArray.empty⟩
def gx(is:L G3)(i:X):G3:=is.getD i g00
def Kb(w:E)(a:Option Addr)(is:L G3):Prop:=
 ∀i,i<is.length->∃b off,a=M ⟨b,off,N⟩/\w.cell? ⟨b,off+i*3,N⟩=M (S (gx is i).name)/\w.cell? ⟨b,off+i*3+1,N⟩=M (.bool (gx is i).ask)/\w.cell? ⟨b,off+i*3+2,N⟩=M (S (gx is i).sum)
theorem Kb.bl{w:E}{is:L G3}(h:Kb w a is)(hb:Bw w w'):Kb w' a is:=by
 exact qeg
def Be(is:L G3)(k:X)(xs:L Value):Prop:=
 ∀i,i<k->xs[i*3]?=M (S (gx is i).name)/\xs[i*3+1]?=M (.bool (gx is i).ask)/\xs[i*3+2]?=M (S (gx is i).sum)
theorem Ds{P:X->Prop}{k:X}(h:∀i,i<k->P i)(hk:P k):∀i,i<k+1->P i:=by
 intro i hi
 rcases Nat.lt_or_ge i k with h1|h1
 ·exact h i h1
 ·obtain rfl:i=k:=qg;exact hk
theorem bt{w a b:E}(h:Bw w a)(k:Bw a b):Bw w b:=h.trans (k.mono h.size)
structure S2 where
 name:By
 text:By
def sx(is:L S2)(i:X):S2:=is.getD i ⟨ByteArray.empty,ByteArray.empty⟩
structure T2 where
 name:By
 code:L I3
def tx(is:L T2)(i:X):T2:=is.getD i ⟨ByteArray.empty,[]⟩
def Hz(w:E)(a:Option Addr)(is:L S2):Prop:=
 ∀i,i<is.length->∃b off,a=M ⟨b,off,N⟩/\w.cell? ⟨b,off+i*2,N⟩=M (S (sx is i).name)/\w.cell? ⟨b,off+i*2+1,N⟩=M (S (sx is i).text)
def Jq(w:E)(a:Option Addr)(is:L T2):Prop:=
 ∀i,i<is.length->∃b off,a=M ⟨b,off,N⟩/\w.cell? ⟨b,off+i*2,N⟩=M (S (tx is i).name)/\∃a' ai,w.cell? ⟨b,off+i*2+1,N⟩=M (.slice a' (tx is i).code.length ai)/\Dl w a' (tx is i).code
theorem Hz.bl{w:E}{is:L S2}(h:Hz w a is)(hb:Bw w w'):Hz w' a is:=by
 intro i hi
 obtain⟨b,off,ha,h1,h2⟩:=h i hi
 exact⟨b,off,ha,Aa hb h1,Aa hb h2⟩
theorem Jq.bl{w:E}{is:L T2}(h:Jq w a is)(hb:Bw w w'):Jq w' a is:=by
 intro i hi
 obtain⟨b,off,ha,h1,a',ai,h2,h3⟩:=h i hi
 exact⟨b,off,ha,Aa hb h1,a',ai,Aa hb h2,h3.bl hb⟩
structure Ku (w:E) (sa:Option Addr) (ss:L S2) (ta:Option Addr) (ts:L T2):Prop where
 rs:Hz w sa ss
 rt:Jq w ta ts
 ls:ss.length<=maxLen
 lt:ts.length<=maxLen
 ns:∀i,(sx ss i).name.size<=maxLen
 xs:∀i,(sx ss i).text.size<=maxLen
 nt:∀i,(tx ts i).name.size<=maxLen
 lc:∀i,(tx ts i).code.length<=maxLen
 xt:∀i j,(ix (tx ts i).code j).text.size<=maxLen
structure Hi (ss:L S2) (ts:L T2):Prop where
 ls:ss.length<=1048576
 lt:ts.length<=1048576
 lc:∀i,i<ts.length->(tx ts i).code.length<=1048576
open Go.RowKit
set_option linter.unusedVariables false
def Ar(ss:L By):L Value:=ss.map .string
theorem Hn(w:E)(o:Obj):(w.alloc o).heap[w.heap.size]?=M o:=qct
theorem Tryz.info9b:(prog.info? 9).map (λi=>(i.zero,i.size,i.bytes))=M (M ze,1,16):=qk
def Vo(u:UInt8):Bool:=u.toNat == 32||u.toNat == 10
def Br(s:By)(n st i:X):By:=
 if h:i<s.size then
  if Vo s[i] then
   if st<i then (if n=0 then s.extract st i else Br s (n-1) (i+1) (i+1)) else Br s n (i+1) (i+1)
  else Br s n st (i+1)
 else if n=0 then s.extract st s.size else ⟨#[]⟩
termination_by s.size-i
def Uz(s:By)(n:X):By:=Br s n 0 0
theorem pf_gap0{st:X}(h:i<s.size)(hg:Vo s[i]=true)(du:st<i):Br s 0 st i=s.extract st i:=by rw[Br,dif_pos h,if_pos hg,if_pos du,if_pos rfl]
theorem pf_gapS{st:X}(h:i<s.size)(hg:Vo s[i]=true)(du:st<i)(hn:n≠0):Br s n st i=Br s (n-1) (i+1) (i+1):=by rw[Br,dif_pos h,if_pos hg,if_pos du,if_neg hn]
theorem pf_none{st:X}(h:i<s.size)(hg:Vo s[i]=true)(du:¬ st<i):Br s n st i=Br s n (i+1) (i+1):=by rw[Br,dif_pos h,if_pos hg,if_neg du]
theorem pf_in{st:X}(h:i<s.size)(hg:Vo s[i]=false):Br s n st i=Br s n st (i+1):=by rw[Br,dif_pos h,if_neg (by simp[hg])]
theorem pf_end{st:X}(h:¬ i<s.size):Br s n st i=if n=0 then s.extract st s.size else ⟨#[]⟩:=by rw[Br,dif_neg h]
theorem Qaq(u:UInt8):(Vo u=true/\((u.toNat:Int) == 32)=true)\/(Vo u=true/\((u.toNat:Int) == 32)=false/\((u.toNat:Int) == 10)=true)\/(Vo u=false/\((u.toNat:Int) == 32)=false/\((u.toNat:Int) == 10)=false):=by
 unfold Vo
 generalize u.toNat=m
 by_cases h1:m=32<;>by_cases h2:m=10<;>simp[h1,h2]<;>omega
theorem Xf(s:By)(n:X)(w:E)(hs:s.size<=2000)(hn:n<=2000):Calls prog 114 #[S s,I n] w λe w'=>e=.returned (S (Uz s n))/\w=w':=by
 generalize hq:Uz s n=q
 have HQ:Hd (Br s n 0 0=q):=hq
 clear hq
 go_enter func114,ntmps114
 go_wp2
 go_loopw [1,5,6] (λnv sv iv wr=>(∃n' st k:X,k<=s.size/\n'<=2000/\st<=k/\nv=I n'/\sv=I (if st<k then (st:Int) else -1)/\iv=I k/\Hd (Br s n' st k=q)/\w=wr)\/(nv=nv/\iv=I (s.size+1:X)/\Hd ((⟨#[]⟩:By)=q)/\w=wr/\(∃z,nv=I z)/\∃z,sv=I z)) (λ_ _ i _=>s.size+1-(intOf i).toNat)
 case atStart=>exact Or.inl ⟨n,0,0,Nat.zero_le _,hn,Nat.le_refl _,rfl,rfl,rfl,HQ,rfl⟩
 case round=>
  clear HQ hn
  rcases hrel with⟨n',st,k,hk,hn',du,rfl,rfl,rfl,HI,rfl⟩|⟨_,rfl,HR,rfl,⟨z1,rfl⟩,⟨z2,rfl⟩⟩
  ·by_cases au:k<s.size
   ·have aq:((k:Int) == s.size)=false:=qj
    rcases Qaq s[k]with⟨hg,d1⟩|⟨hg,d1,d2⟩|⟨hg,d1,d2⟩
    ·exact qhk
    ·exact qhk
    ·(have HR:Hd (Br s n' st (k+1)=q):=by show _=_;rw[<- pf_in au hg];exact HI.o);clear hg HI
     by_cases c1:st<k
     ·rw[if_pos c1];go_wp2;go_roundw
      case rel=>exact Or.inl ⟨n',st,k+1,qg,qg,qg,qp,by rw[if_pos qg],qp,HR,by first|trivial|rfl⟩
      case measure=>simp[intOf];omega
     ·rw[if_neg c1];obtain rfl:st=k:=qg;go_wp2;go_roundw
      case rel=>exact Or.inl ⟨n',st,st+1,qg,qg,qg,qp,by rw[if_pos qg],qp,HR,by first|trivial|rfl⟩
      case measure=>simp[intOf];omega
   ·have ek:k=s.size:=qg;have he:=pf_end (n:=n') (st:=st) au;have jj:((k:Int) == s.size)=true:=qj
    by_cases c1:st<k
    ·rw[if_pos c1]
     by_cases c2:n'=0
     ·subst c2;rw[if_pos rfl]at he;have HR:Hd (s.extract st s.size=q):=he.symm.trans HI.o;clear he HI;go_wp2;go_ret;exact⟨by rw[<- HR.o];rfl,rfl⟩
     ·rw[if_neg c2]at he;have HR:Hd ((⟨#[]⟩:By)=q):=he.symm.trans HI.o;exact qip
    ·rw[if_neg c1]
     have HR:Hd ((⟨#[]⟩:By)=q):=by
      show _=_;rw[<- HI.o,he];split
      ·apply WideShapes.bytes_inj;rw[show st=s.size from qg];simp
      ·rfl
     exact qip
  ·go_wp2;go_ret;exact⟨by rw[<- HR.o];rfl,rfl⟩

open Go.RowKit
set_option linter.unusedVariables false
def mb(k:X):Bool:=decide (k % 3=0)
theorem Ku.move{w:E}{sa ta sa' ta':Option Addr}{ss:L S2}{ts:L T2}(h:Ku w sa ss ta ts)(rs:Hz w' sa' ss)(rt:Jq w' ta' ts):Ku w' sa' ss ta' ts:=⟨rs,rt,h.ls,h.lt,h.ns,h.xs,h.nt,h.lc,h.xt⟩
end Go.Proofs.YtoihflimijabjaaGreatDoor
