import Derived.Test.YtjlnkepkkdefdaaGreatDoorTNWork2
import Derived.Test.YtjlnkepkkdefdaaGreatDoorTNWork6
namespace Go.Proofs.YtjlnkepkkdefdaaGreatDoor
open Go.RowKit
set_option linter.unusedVariables false
set_option maxHeartbeats 8000000
set_option maxRecDepth 100000
set_option linter.unusedSimpArgs false
section
theorem Jl (x:ByteArray) (a b:Nat):(x.extract a b).size<=x.size:=by rw[ByteArray.size_extract];omega
theorem Oj (s:ByteArray):∀(d n st i:Nat),s.size-i<=d->(Ay s n st i).size<=s.size
 | 0,n,st,i,h=>by
  rw[Vx (by omega)];split
  ·exact Jl _ _ _
  ·exact Nat.zero_le _
 | d+1,n,st,i,h=>by
  by_cases hi:i<s.size
  ·by_cases hg:Pg s[i]=true
   ·by_cases hst:st<i
    ·by_cases hn:n=0
     ·subst hn;rw[Oq hi hg hst];exact Jl _ _ _
     ·rw[Oo hi hg hst hn];exact Oj s d _ _ _ (by omega)
    ·rw[Om hi hg hst];exact Oj s d _ _ _ (by omega)
   ·rw[pf_in hi (by simpa using hg)];exact Oj s d _ _ _ (by omega)
  ·rw[Vx hi];split
   ·exact Jl _ _ _
   ·exact Nat.zero_le _
theorem Ht (b:Bool):(Cw b).size=1:=by cases b<;>rfl
theorem split0 (l:List ByteArray):Be l 0=l:=by simp[Be]
theorem Jf {l:List ByteArray} (h:1<=l.length):l=Be l 1++[Bq l]:=by
 unfold Be Bq
 have e:l.take (l.length-1+1)=l.take (l.length-1)++[l[l.length-1]]:=List.take_succ_eq_append_getElem (by omega)
 rw[gG,gQ (show l.length-1<l.length by omega),Option.getD_some,<- e,List.take_of_length_le (by omega)]
theorem split2 {l:List ByteArray} (h:2<=l.length):l=Be l 2++[Ij l]++[Bq l]:=by
 have h1:=Jf (l:=l) (by omega)
 have e:l.take (l.length-2+1)=l.take (l.length-2)++[l[l.length-2]]:=List.take_succ_eq_append_getElem (by omega)
 have h2:Be l 1=Be l 2++[Ij l]:=by
  unfold Be Ij;rw[gG,gQ (show l.length-2<l.length by omega),Option.getD_some,<- e];congr 1;omega
 rw[<- h2];exact h1
theorem Bi (l:List ByteArray) (k:Nat):(Be l k).length=l.length-k:=by simp[Be]
theorem Hc {l:List ByteArray} (h:1<=l.length):Bq l∈l:=by
 unfold Bq
 rw[gG,gQ (show l.length-1<l.length by omega),Option.getD_some]
 exact List.getElem_mem _
theorem Vs {l:List ByteArray} (h:2<=l.length):Ij l∈l:=by
 unfold Ij
 rw[gG,gQ (show l.length-2<l.length by omega),Option.getD_some]
 exact List.getElem_mem _
def Pp (o:Nat) (t:ByteArray) (n:Nat) (l:List ByteArray):Prop:=50<(Be l (An o)).length+(Cl o t n (Bq l) (Ij l)).length\/∃ x∈Cl o t n (Bq l) (Ij l),2000<x.size
def Cm (o:Nat) (t:ByteArray) (n:Nat) (l:List ByteArray) (B m:Nat) (cd:Value) (pl:Nat) (st lk:Int) (w:World) (e:Ending) (w':World):Prop:=
 KB B m w w'/\((e=.returned (.bool true)/\¬ Pp o t n l/\Bx B w' m (Be l (An o)++Cl o t n (Bq l) (Ij l)) cd (Eu o n pl (Bq l):Nat) st lk)\/(e=.returned (.bool false)/\Pp o t n l/\∃ ss,Bx B w' m ss cd pl st lk))
variable (B m:Nat) (l:List ByteArray) (cd:Value) (pl:Nat) (st lk:Int) (t:ByteArray) (n:Nat) (w:World)
theorem En {o n pl:Nat} {a:ByteArray} (h:o≠10) (h2:o≠11):Eu o n pl a=pl+1:=by simp[Eu,h,h2]
theorem work_1 (hM:Bx B w m l cd pl st lk) (hB:B<=w.heap.size) (hp1:pl<=200) (hn:n<=2000) (hlen:l.length<=50) (hsz:∀ x∈l,x.size<=2000) (ht:t.size<=2000) :
  Calls Tryz.prog 120 #[.pointer (some ⟨m,0,none⟩),.agg #[.int .i64 1,.string t,.int .i64 n]] w fun e w'=>Cm 1 t n l B m cd pl st lk w e w':=by
 unfold Cm Pp
 rw[show An 1=0 from rfl,split0]
 by_cases h:l.length<50
 ·refine(Wr B m l cd pl st lk t n w hM hB ht h (by omega) (by omega)).mono fun e w' ⟨h1,h2,h3⟩=>⟨h2,Or.inl ⟨h1,?_,by rw[En (by decide) (by decide)];exact h3⟩⟩;simp[Cl];omega
 ·refine(Ws B m l cd pl st lk t n w hM hB (by omega) (by omega) hn ht (by omega)).mono fun e w' ⟨h1,h2,h3⟩=>⟨h2,Or.inr ⟨h1,?_,_,h3⟩⟩;simp[Cl];omega
theorem work_2 (hM:Bx B w m l cd pl st lk) (hB:B<=w.heap.size) (hp1:pl<=200) (hn:n<=2000) (hlen:l.length<=50) (hsz:∀ x∈l,x.size<=2000) (htk:2<=l.length) :
  Calls Tryz.prog 120 #[.pointer (some ⟨m,0,none⟩),.agg #[.int .i64 2,.string t,.int .i64 n]] w fun e w'=>Cm 2 t n l B m cd pl st lk w e w':=by
 have hs:=split2 htk
 have hr:=Bi l 2
 have hx:=hsz _ (Hc (show 1<=l.length by omega))
 have hy:=hsz _ (Vs htk)
 unfold Cm Pp
 rw[show An 2=2 from rfl]
 rw[hs] at hM
 revert hM hr hx hy
 generalize Be l 2=r
 generalize Bq l=y
 generalize Ij l=x
 intro hM hr hx hy
 have hc:(x++y).size=x.size+y.size:=ByteArray.size_append
 by_cases h:(x++y).size<=2000
 ·refine(Wv B m r x y cd pl st lk t n w hM hB (by omega) (by omega) hn (by omega) hy hx h).mono fun e w' ⟨h1,h2,h3⟩=>⟨h2,Or.inl ⟨h1,?_,by rw[En (by decide) (by decide)];exact h3⟩⟩;simp[Cl];omega
 ·refine(Ww B m r x y cd pl st lk t n w hM hB (by omega) (by omega) hn (by omega) hy hx (by omega) (by omega)).mono fun e w' ⟨h1,h2,h3⟩=>⟨h2,Or.inr ⟨h1,?_,_,h3⟩⟩;simp[Cl];omega
theorem work_3 (hM:Bx B w m l cd pl st lk) (hB:B<=w.heap.size) (hp1:pl<=200) (hn:n<=2000) (hlen:l.length<=50) (hsz:∀ x∈l,x.size<=2000) (htk:1<=l.length) :
  Calls Tryz.prog 120 #[.pointer (some ⟨m,0,none⟩),.agg #[.int .i64 3,.string t,.int .i64 n]] w fun e w'=>Cm 3 t n l B m cd pl st lk w e w':=by
 have hs:=Jf htk
 have hr:=Bi l 1
 have hx:=hsz _ (Hc htk)
 unfold Cm Pp
 rw[show An 3=1 from rfl]
 rw[hs] at hM
 revert hM hr hx
 generalize Be l 1=r
 generalize Bq l=x
 intro hM hr hx
 have hpc:=Jl x 0 (min n x.size)
 refine(work_cut B m r x cd pl st lk t n w hM hB (by omega) (by omega) hn (by omega) hx (min n x.size) (by omega) (by omega)).mono fun e w' ⟨h1,h2,h3⟩=>⟨h2,Or.inl ⟨h1,?_,by rw[En (by decide) (by decide)];exact h3⟩⟩
 simp only[Cl,List.length_singleton,List.mem_singleton,exists_eq_left];omega
theorem work_4 (hM:Bx B w m l cd pl st lk) (hB:B<=w.heap.size) (hp1:pl<=200) (hn:n<=2000) (hlen:l.length<=50) (hsz:∀ x∈l,x.size<=2000) (htk:1<=l.length) :
  Calls Tryz.prog 120 #[.pointer (some ⟨m,0,none⟩),.agg #[.int .i64 4,.string t,.int .i64 n]] w fun e w'=>Cm 4 t n l B m cd pl st lk w e w':=by
 have hs:=Jf htk
 have hr:=Bi l 1
 have hx:=hsz _ (Hc htk)
 unfold Cm Pp
 rw[show An 4=1 from rfl]
 rw[hs] at hM
 revert hM hr hx
 generalize Be l 1=r
 generalize Bq l=x
 intro hM hr hx
 have hpc:=Jl x (min n x.size) x.size
 refine(work_rest B m r x cd pl st lk t n w hM hB (by omega) (by omega) hn (by omega) hx (min n x.size) (by omega) (by omega)).mono fun e w' ⟨h1,h2,h3⟩=>⟨h2,Or.inl ⟨h1,?_,by rw[En (by decide) (by decide)];exact h3⟩⟩
 simp only[Cl,List.length_singleton,List.mem_singleton,exists_eq_left];omega
theorem work_5 (hM:Bx B w m l cd pl st lk) (hB:B<=w.heap.size) (hp1:pl<=200) (hn:n<=2000) (hlen:l.length<=50) (hsz:∀ x∈l,x.size<=2000) (htk:1<=l.length) :
  Calls Tryz.prog 120 #[.pointer (some ⟨m,0,none⟩),.agg #[.int .i64 5,.string t,.int .i64 n]] w fun e w'=>Cm 5 t n l B m cd pl st lk w e w':=by
 have hs:=Jf htk
 have hr:=Bi l 1
 have hx:=hsz _ (Hc htk)
 unfold Cm Pp
 rw[show An 5=1 from rfl]
 rw[hs] at hM
 revert hM hr hx
 generalize Be l 1=r
 generalize Bq l=x
 intro hM hr hx
 have hpc:(Kd x n).size<=x.size:=Oj x x.size n 0 0 (by omega)
 refine(work_word B m r x cd pl st lk t n w hM hB (by omega) (by omega) hn (by omega) hx (by omega)).mono fun e w' ⟨h1,h2,h3⟩=>⟨h2,Or.inl ⟨h1,?_,by rw[En (by decide) (by decide)];exact h3⟩⟩
 simp only[Cl,List.length_singleton,List.mem_singleton,exists_eq_left];omega
theorem work_6 (hM:Bx B w m l cd pl st lk) (hB:B<=w.heap.size) (hp1:pl<=200) (hn:n<=2000) (hlen:l.length<=50) (hsz:∀ x∈l,x.size<=2000) (htk:2<=l.length) :
  Calls Tryz.prog 120 #[.pointer (some ⟨m,0,none⟩),.agg #[.int .i64 6,.string t,.int .i64 n]] w fun e w'=>Cm 6 t n l B m cd pl st lk w e w':=by
 have hs:=split2 htk
 have hr:=Bi l 2
 have hx:=hsz _ (Hc (show 1<=l.length by omega))
 have hy:=hsz _ (Vs htk)
 unfold Cm Pp
 rw[show An 6=2 from rfl]
 rw[hs] at hM
 revert hM hr hx hy
 generalize Be l 2=r
 generalize Bq l=y
 generalize Ij l=x
 intro hM hr hx hy
 have hf:=Ht (x.toList == y.toList)
 refine(work_same B m r x y cd pl st lk t n w hM hB (by omega) (by omega) hn (by omega) hy hx (by omega)).mono fun e w' ⟨h1,h2,h3⟩=>⟨h2,Or.inl ⟨h1,?_,by rw[En (by decide) (by decide)];exact h3⟩⟩
 simp only[Cl,List.length_singleton,List.mem_singleton,exists_eq_left];omega
theorem work_7 (hM:Bx B w m l cd pl st lk) (hB:B<=w.heap.size) (hp1:pl<=200) (hn:n<=2000) (hlen:l.length<=50) (hsz:∀ x∈l,x.size<=2000) (htk:1<=l.length) :
  Calls Tryz.prog 120 #[.pointer (some ⟨m,0,none⟩),.agg #[.int .i64 7,.string t,.int .i64 n]] w fun e w'=>Cm 7 t n l B m cd pl st lk w e w':=by
 have hs:=Jf htk
 have hr:=Bi l 1
 have hx:=hsz _ (Hc htk)
 unfold Cm Pp
 rw[show An 7=1 from rfl]
 rw[hs] at hM
 revert hM hr hx
 generalize Be l 1=r
 generalize Bq l=x
 intro hM hr hx
 by_cases h:r.length+2<=50
 ·refine(Wt B m r x cd pl st lk t n w hM hB (by omega) (by omega) hn h hx).mono fun e w' ⟨h1,h2,h3⟩=>⟨h2,Or.inl ⟨h1,?_,by rw[En (by decide) (by decide)];simpa [Cl] using h3⟩⟩;simp[Cl];omega
 ·refine(Wu B m r x cd pl st lk t n w hM hB (by omega) (by omega) hn (by omega) hx).mono fun e w' ⟨h1,h2,h3⟩=>⟨h2,Or.inr ⟨h1,?_,_,h3⟩⟩;simp[Cl];omega
theorem work_8 (hM:Bx B w m l cd pl st lk) (hB:B<=w.heap.size) (hp1:pl<=200) (hn:n<=2000) (hlen:l.length<=50) (hsz:∀ x∈l,x.size<=2000) (htk:2<=l.length) :
  Calls Tryz.prog 120 #[.pointer (some ⟨m,0,none⟩),.agg #[.int .i64 8,.string t,.int .i64 n]] w fun e w'=>Cm 8 t n l B m cd pl st lk w e w':=by
 have hs:=split2 htk
 have hr:=Bi l 2
 have hx:=hsz _ (Hc (show 1<=l.length by omega))
 have hy:=hsz _ (Vs htk)
 unfold Cm Pp
 rw[show An 8=2 from rfl]
 rw[hs] at hM
 revert hM hr hx hy
 generalize Be l 2=r
 generalize Bq l=y
 generalize Ij l=x
 intro hM hr hx hy
 refine(work_swap B m r x y cd pl st lk t n w hM hB (by omega) (by omega) hn (by omega) hy hx).mono fun e w' ⟨h1,h2,h3⟩=>⟨h2,Or.inl ⟨h1,?_,by rw[En (by decide) (by decide)];simpa [Cl] using h3⟩⟩
 simp[Cl];omega
theorem work_9 (hM:Bx B w m l cd pl st lk) (hB:B<=w.heap.size) (hp1:pl<=200) (hn:n<=2000) (hlen:l.length<=50) (hsz:∀ x∈l,x.size<=2000) (htk:1<=l.length) :
  Calls Tryz.prog 120 #[.pointer (some ⟨m,0,none⟩),.agg #[.int .i64 9,.string t,.int .i64 n]] w fun e w'=>Cm 9 t n l B m cd pl st lk w e w':=by
 have hs:=Jf htk
 have hr:=Bi l 1
 have hx:=hsz _ (Hc htk)
 unfold Cm Pp
 rw[show An 9=1 from rfl]
 rw[hs] at hM
 revert hM hr hx
 generalize Be l 1=r
 generalize Bq l=x
 intro hM hr hx
 refine(work_drop B m r x cd pl st lk t n w hM hB (by omega) (by omega) hn (by omega)).mono fun e w' ⟨h1,h2,h3⟩=>⟨h2,Or.inl ⟨h1,?_,by rw[En (by decide) (by decide)];simpa [Cl] using h3⟩⟩
 simp[Cl];omega
theorem work_10 (hM:Bx B w m l cd pl st lk) (hB:B<=w.heap.size) (hp1:pl<=200) (hn:n<=2000) (hlen:l.length<=50) (hsz:∀ x∈l,x.size<=2000) :
  Calls Tryz.prog 120 #[.pointer (some ⟨m,0,none⟩),.agg #[.int .i64 10,.string t,.int .i64 n]] w fun e w'=>Cm 10 t n l B m cd pl st lk w e w':=by
 unfold Cm Pp
 rw[show An 10=0 from rfl,split0]
 refine(work_jump B m l cd pl st lk t n w hM hB (by omega) (by omega) hn).mono fun e w' ⟨h1,h2,h3⟩=>⟨h2,Or.inl ⟨h1,?_,by simpa [Cl,Eu] using h3⟩⟩
 simp[Cl];omega
theorem work_11 (hM:Bx B w m l cd pl st lk) (hB:B<=w.heap.size) (hp1:pl<=200) (hn:n<=2000) (hlen:l.length<=50) (hsz:∀ x∈l,x.size<=2000) (htk:1<=l.length) :
  Calls Tryz.prog 120 #[.pointer (some ⟨m,0,none⟩),.agg #[.int .i64 11,.string t,.int .i64 n]] w fun e w'=>Cm 11 t n l B m cd pl st lk w e w':=by
 have hs:=Jf htk
 have hr:=Bi l 1
 have hx:=hsz _ (Hc htk)
 unfold Cm Pp
 rw[show An 11=1 from rfl]
 rw[hs] at hM
 revert hM hr hx
 generalize Be l 1=r
 generalize Bq l=x
 intro hM hr hx
 by_cases hx1:x.toList.isEmpty=true
 ·refine(Tt B m r x cd pl st lk t n w hM hB (by omega) (by omega) hn (by omega) hx1).mono fun e w' ⟨h1,h2,h3⟩=>⟨h2,Or.inl ⟨h1,?_,by simpa [Cl,Eu,Lc,hx1] using h3⟩⟩;simp[Cl];omega
 ·have hx1':x.toList.isEmpty=false:=by simpa using hx1
  by_cases hx2:(x.toList == [48])=true
  ·refine(Ts B m r x cd pl st lk t n w hM hB (by omega) (by omega) hn (by omega) hx1' hx2).mono fun e w' ⟨h1,h2,h3⟩=>⟨h2,Or.inl ⟨h1,?_,by
    (have e1:Lc x=true:=by simp only[Lc,hx2,Bool.or_true]);simpa [Cl,Eu,e1] using h3⟩⟩
   simp[Cl];omega
  ·have hx2':(x.toList == [48])=false:=by simpa using hx2
   refine(Tr B m r x cd pl st lk t n w hM hB (by omega) (by omega) hn (by omega) hx1' hx2').mono fun e w' ⟨h1,h2,h3⟩=>⟨h2,Or.inl ⟨h1,?_,by
    (have e1:Lc x=false:=by simp only[Lc,hx1',hx2',Bool.or_false]);simpa [Cl,Eu,e1] using h3⟩⟩
   simp[Cl];omega
theorem work_any (o:Nat) (hM:Bx B w m l cd pl st lk) (hB:B<=w.heap.size) (hp1:pl<=200) (hn:n<=2000) (hlen:l.length<=50) (hsz:∀ x∈l,x.size<=2000) (ht:t.size<=2000) (h1:1<=o) (h2:o<=11) (htk:An o<=l.length) :
  Calls Tryz.prog 120 #[.pointer (some ⟨m,0,none⟩),.agg #[.int .i64 (o:Int),.string t,.int .i64 n]] w fun e w'=>Cm o t n l B m cd pl st lk w e w':=by
 rcases (show o=1\/o=2\/o=3\/o=4\/o=5\/o=6\/o=7\/o=8\/o=9\/o=10\/o=11 by omega) with rfl|rfl|rfl|rfl|rfl|rfl|rfl|rfl|rfl|rfl|rfl
 ·exact work_1 B m l cd pl st lk t n w hM hB hp1 hn hlen hsz ht
 ·exact work_2 B m l cd pl st lk t n w hM hB hp1 hn hlen hsz htk
 ·exact work_3 B m l cd pl st lk t n w hM hB hp1 hn hlen hsz htk
 ·exact work_4 B m l cd pl st lk t n w hM hB hp1 hn hlen hsz htk
 ·exact work_5 B m l cd pl st lk t n w hM hB hp1 hn hlen hsz htk
 ·exact work_6 B m l cd pl st lk t n w hM hB hp1 hn hlen hsz htk
 ·exact work_7 B m l cd pl st lk t n w hM hB hp1 hn hlen hsz htk
 ·exact work_8 B m l cd pl st lk t n w hM hB hp1 hn hlen hsz htk
 ·exact work_9 B m l cd pl st lk t n w hM hB hp1 hn hlen hsz htk
 ·exact work_10 B m l cd pl st lk t n w hM hB hp1 hn hlen hsz
 ·exact work_11 B m l cd pl st lk t n w hM hB hp1 hn hlen hsz htk
end
theorem Jr.belowB {B:Nat} {w w':World} (h:Jr w) (hb:Below B w w') (hB:1<B):Jr w':=fun o ho=>
 ⟨(hb.cell (p:=⟨0,_,none⟩) (Nat.lt_of_succ_lt hB)).trans (h o ho).1,(hb.cell (p:=⟨0,_,none⟩) (Nat.lt_of_succ_lt hB)).trans (h o ho).2.1,(hb.cell (p:=⟨0,_,none⟩) (Nat.lt_of_succ_lt hB)).trans (h o ho).2.2⟩
theorem Bx.looks {B:Nat} {w:World} {m:Nat} {ss:List ByteArray} {cd:Value} {pl st lk:Int} (h:Bx B w m ss cd pl st lk) (p:Int):Bx B (w.setCell ⟨m,4,none⟩ (.int .i64 p)) m ss cd pl st p:=by
 obtain⟨hB,v,hm,ho⟩:=h
 refine⟨hB,v,?_,?_⟩
 ·unfold Fd at *;rw[jB hm];rfl
 ·have hne:=hm.ne' ho;refine⟨ho.1,?_⟩
  rcases ho.2 with h0|⟨g,cap,cur,hv,hg,hh,r⟩
  ·exact Or.inl h0
  ·refine Or.inr ⟨g,cap,cur,hv,hg,?_,r⟩;rw[hC w ⟨m,4,none⟩ _ g (by rintro e;apply hne;rw[hv];simp[Value.ownBlock,e])];exact hh
theorem Bx.cells {B:Nat} {w:World} {m:Nat} {ss:List ByteArray} {cd:Value} {pl st lk:Int} (h:Bx B w m ss cd pl st lk):w.cell? ⟨m,3,none⟩=some (.int .i64 st)/\w.cell? ⟨m,4,none⟩=some (.int .i64 lk)/\w.frozen? ⟨m,4,none⟩=false/\m<w.heap.size/\B<=m:=by
 obtain⟨hB,v,hm,ho⟩:=h
 exact⟨by rw[cH hm];rfl,by rw[cH hm];rfl,fH hm 4,hm.lt,hB⟩
theorem Bx.turn {B:Nat} {w:World} {m:Nat} {ss:List ByteArray} {cd:Value} {pl st lk:Int} {b:Nat} (h:Bx B w m ss cd pl st lk/\∃ cs,w.heap[b]?=some (.cells cs 115 (0,0))) (j:Nat) (x:Value) :
  Bx B (w.setCell ⟨b,j,none⟩ x) m ss cd pl st lk/\∃ cs,(w.setCell ⟨b,j,none⟩ x).heap[b]?=some (.cells cs 115 (0,0)):=by
 obtain⟨⟨hB,v,hm,ho⟩,cs,hb⟩:=h
 have hmb:m≠b:=by
  rintro rfl;unfold Fd at hm;rw[hm] at hb;simp at hb
 refine⟨⟨hB,v,?_,ho.1,?_⟩,_,jB hb x⟩
 ·unfold Fd at *;rw[hC w ⟨b,j,none⟩ _ m hmb];exact hm
 ·rcases ho.2 with h0|⟨g,cap,cur,hv,hg,hh,r⟩
  ·exact Or.inl h0
  ·refine Or.inr ⟨g,cap,cur,hv,hg,?_,r⟩
   have hgb:g≠b:=by
    rintro rfl;rw[hh] at hb;simp at hb
   rw[hC w ⟨b,j,none⟩ _ g hgb];exact hh
theorem Ux (B m:Nat) (r:List ByteArray) (x:ByteArray) (cd:Value) (pl st lk:Int) (ask:Bool) (w:World) (hM:Bx B w m (r++[x]) cd pl st lk) (hB:B<=w.heap.size) (h2:r.length<50) (hx:x.size<=2000) (hn:Aq x) (hl0:0<=lk) (hl1:lk<200) :
  Calls Tryz.prog 118 #[.pointer (some ⟨m,0,none⟩),.bool ask] w fun e w'=>e=.returned (Ao false 0 ⟨#[]⟩ ask x st)/\KB B m w w'/\Bx B w' m r cd pl st (lk+1):=by
 have hnb:=Dn hn
 have d1:(lk == 200)=false:=by simp;omega
 go_enter Tryz.func118,Tryz.ntmps118
 go_wp2_with fail
 have hmw:=hM.cells.2.2.2.1
 have hba:Below w.heap.size w (w.alloc (.cells #[.bool false,.int .i64 0,.string ⟨#[]⟩,.bool false,.string ⟨#[]⟩,.int .i64 0] 115)):=aN _ _
 refine(Cd B m r x cd pl st lk _ (hM.bl hba) (by simp;omega) h2).mono ?_
 rintro e w1 ⟨rfl,hb1,hM1,hk1⟩
 have hblk:w1.heap[w.heap.size]?=some (.cells #[.bool false,.int .i64 0,.string ⟨#[]⟩,.bool false,.string ⟨#[]⟩,.int .i64 0] 115 (0,0)):=by
  rw[hk1 _ (by omega),Aj]
 have k0:=cH hblk 0
 have k1:=cH hblk 1
 have k2:=cH hblk 2
 have k3:=cH hblk 3
 have k4:=cH hblk 4
 have k5:=cH hblk 5
 simp only[gA,gB,gC] at k0 k1 k2 k3 k4 k5
 have f0:∀ j,w1.frozen? ⟨w.heap.size,j,none⟩=false:=fun j=>fH hblk j
 obtain⟨c3,c4,f4,_,hBm⟩:=hM1.cells
 have hne:m≠w.heap.size:=by omega
 have hne':w.heap.size≠m:=by omega
 have HM:Hd (Bx B (w1.setCell ⟨m,4,none⟩ (.int .i64 (lk+1))) m r cd pl st (lk+1)/\∃ cs,(w1.setCell ⟨m,4,none⟩ (.int .i64 (lk+1))).heap[w.heap.size]?=some (.cells cs 115 (0,0))):=⟨hM1.looks _,_,by rw[hC w1 ⟨m,4,none⟩ _ _ hne'];exact hblk⟩
 have HB:Hd (KB B m w w1):=(KB.old hba hB).trans hb1
 clear hM1 hk1 hblk hM hba hb1 hmw
 go_wp2_with (first|(go_at_call 30;refine(Cy x _ (by omega)).mono ?_;rintro e w9 ⟨rfl,rfl⟩))
 exact bR (v:=Ao false 0 ⟨#[]⟩ ask x st) (by simp[results,Tryz.results118,go_sem,Ao,k0,k1,k2,k3,k4,k5]) rfl ⟨rfl,((((((HB.o.setM 4 hBm _).setN 0 hB _).setN 1 hB _).setN 2 hB _).setN 3 hB _).setN 4 hB _).setN 5 hB _,(Bx.turn (Bx.turn (Bx.turn (Bx.turn (Bx.turn (Bx.turn HM.o 0 _) 1 _) 2 _) 3 _) 4 _) 5 _).1⟩
theorem Ld.belowB {B:Nat} {w w':World} (h:Ld w) (hb:Below B w w') (hB:1<B):Ld w':=by
 unfold Ld Lib.TabIs World.var? at *
 rw[show Tryz.prog.globalNamed "internal/strconv.uint64pow10"=some 1 from by kernel_rfl] at *
 simp only[Option.bind_some] at *
 rw[hb.block 1 (by omega)]
 exact h
theorem Yq (B m:Nat) (r:List ByteArray) (x:ByteArray) (cd:Value) (pl st lk:Int) (ask:Bool) (w:World) (hM:Bx B w m (r++[x]) cd pl st lk) (hB:B<=w.heap.size) (h2:r.length<50) (hx:x.size<=2000) (hP:Ld w) (hB1:1<B) (hp0:0<=pl) (hp1:pl<=2000) (hn:¬ Aq x) :
  Calls Tryz.prog 118 #[.pointer (some ⟨m,0,none⟩),.bool ask] w fun e w'=>e=.returned (Ao true 2 ⟨(Lib.decDigits pl.toNat).toArray⟩ false ⟨#[]⟩ st)/\KB B m w w':=by
 have hnb:=Cq hn
 generalize hq:(⟨(Lib.decDigits pl.toNat).toArray⟩:ByteArray)=q
 go_enter Tryz.func118,Tryz.ntmps118
 go_wp2_with fail
 have hmw:=hM.cells.2.2.2.1
 have hba:Below w.heap.size w (w.alloc (.cells #[.bool false,.int .i64 0,.string ⟨#[]⟩,.bool false,.string ⟨#[]⟩,.int .i64 0] 115)):=aN _ _
 refine(Cd B m r x cd pl st lk _ (hM.bl hba) (by simp;omega) h2).mono ?_
 rintro e w1 ⟨rfl,hb1,hM1,hk1⟩
 have hblk:w1.heap[w.heap.size]?=some (.cells #[.bool false,.int .i64 0,.string ⟨#[]⟩,.bool false,.string ⟨#[]⟩,.int .i64 0] 115 (0,0)):=by
  rw[hk1 _ (by omega),Aj]
 have HB:Hd (KB B m w w1):=(KB.old hba hB).trans hb1
 have HP:Hd (Ld w1):=hP.belowB HB.o.bl hB1
 have hw1:w.heap.size<w1.heap.size:=by
  rcases Nat.lt_or_ge w.heap.size w1.heap.size with h'|h'
  ·exact h'
  ·rw[Array.getElem?_eq_none h'] at hblk;cases hblk
 obtain⟨c3,c4,f4,_,hBm⟩:=hM1.cells
 obtain⟨_,v,hm1,_⟩:=hM1
 clear hk1 hM hba hb1 hmw hP
 go_wp2_with (first|(go_at_call 30;refine(Cy x _ (by omega)).mono ?_;rintro e w9 ⟨rfl,rfl⟩))
 refine(Mm m v cd pl st lk _ hm1 HP.o hp0 hp1).mono ?_
 rintro e w2 ⟨rfl,hb2⟩
 rw[hq]
 have hblk2:w2.heap[w.heap.size]?=some (.cells #[.bool false,.int .i64 0,.string ⟨#[]⟩,.bool false,.string ⟨#[]⟩,.int .i64 0] 115 (0,0)):=by
  rw[hb2.block _ hw1];exact hblk
 have k0:=cH hblk2 0
 have k1:=cH hblk2 1
 have k2:=cH hblk2 2
 have k3:=cH hblk2 3
 have k4:=cH hblk2 4
 have k5:=cH hblk2 5
 simp only[gA,gB,gC] at k0 k1 k2 k3 k4 k5
 have f0:∀ j,w2.frozen? ⟨w.heap.size,j,none⟩=false:=fun j=>fH hblk2 j
 have HB2:Hd (KB B m w w2):=HB.o.trans (KB.old hb2 (by omega))
 clear hblk hblk2 hb2 hm1 c3 c4 f4
 unfold Ao
 go_wp2
 exact bR (v:=Ao true 2 q false ⟨#[]⟩ st) (by simp[results,Tryz.results118,go_sem,Ao,k0,k1,k2,k3,k4,k5]) rfl ⟨rfl,(((((HB2.o.setN 0 hB _).setN 1 hB _).setN 2 hB _).setN 3 hB _).setN 4 hB _).setN 5 hB _⟩
theorem Se (B m:Nat) (r:List ByteArray) (x:ByteArray) (cd:Value) (pl st lk:Int) (ask:Bool) (w:World) (hM:Bx B w m (r++[x]) cd pl st lk) (hB:B<=w.heap.size) (h2:r.length<50) (hx:x.size<=2000) (hP:Ld w) (hB1:1<B) (hp0:0<=pl) (hp1:pl<=2000) (hn:Aq x) (hl:lk=200) :
  Calls Tryz.prog 118 #[.pointer (some ⟨m,0,none⟩),.bool ask] w fun e w'=>e=.returned (Ao true 3 ⟨#[]⟩ false ⟨#[]⟩ st)/\KB B m w w':=by
 have hnb:=Dn hn
 subst hl
 go_enter Tryz.func118,Tryz.ntmps118
 go_wp2_with fail
 have hmw:=hM.cells.2.2.2.1
 have hba:Below w.heap.size w (w.alloc (.cells #[.bool false,.int .i64 0,.string ⟨#[]⟩,.bool false,.string ⟨#[]⟩,.int .i64 0] 115)):=aN _ _
 refine(Cd B m r x cd pl st 200 _ (hM.bl hba) (by simp;omega) h2).mono ?_
 rintro e w1 ⟨rfl,hb1,hM1,hk1⟩
 have hblk:w1.heap[w.heap.size]?=some (.cells #[.bool false,.int .i64 0,.string ⟨#[]⟩,.bool false,.string ⟨#[]⟩,.int .i64 0] 115 (0,0)):=by
  rw[hk1 _ (by omega),Aj]
 have HB:Hd (KB B m w w1):=(KB.old hba hB).trans hb1
 have HP:Hd (Ld w1):=hP.belowB HB.o.bl hB1
 have hw1:w.heap.size<w1.heap.size:=by
  rcases Nat.lt_or_ge w.heap.size w1.heap.size with h'|h'
  ·exact h'
  ·rw[Array.getElem?_eq_none h'] at hblk;cases hblk
 obtain⟨c3,c4,f4,_,hBm⟩:=hM1.cells
 obtain⟨_,v,hm1,_⟩:=hM1
 clear hk1 hM hba hb1 hmw hP
 go_wp2_with (first|(go_at_call 30;refine(Cy x _ (by omega)).mono ?_;rintro e w9 ⟨rfl,rfl⟩))
 refine(Jg m v cd pl st 200 3 ⟨#[]⟩ _ hm1).mono ?_
 rintro e w2 ⟨rfl,hb2⟩
 skip
 have hblk2:w2.heap[w.heap.size]?=some (.cells #[.bool false,.int .i64 0,.string ⟨#[]⟩,.bool false,.string ⟨#[]⟩,.int .i64 0] 115 (0,0)):=by
  rw[hb2.block _ hw1];exact hblk
 have k0:=cH hblk2 0
 have k1:=cH hblk2 1
 have k2:=cH hblk2 2
 have k3:=cH hblk2 3
 have k4:=cH hblk2 4
 have k5:=cH hblk2 5
 simp only[gA,gB,gC] at k0 k1 k2 k3 k4 k5
 have f0:∀ j,w2.frozen? ⟨w.heap.size,j,none⟩=false:=fun j=>fH hblk2 j
 have HB2:Hd (KB B m w w2):=HB.o.trans (KB.old hb2 (by omega))
 clear hblk hblk2 hb2 hm1 c3 c4 f4
 unfold Ao
 go_wp2
 exact bR (v:=Ao true 3 ⟨#[]⟩ false ⟨#[]⟩ st) (by simp[results,Tryz.results118,go_sem,Ao,k0,k1,k2,k3,k4,k5]) rfl ⟨rfl,(((((HB2.o.setN 0 hB _).setN 1 hB _).setN 2 hB _).setN 3 hB _).setN 4 hB _).setN 5 hB _⟩
end Go.Proofs.YtjlnkepkkdefdaaGreatDoor
