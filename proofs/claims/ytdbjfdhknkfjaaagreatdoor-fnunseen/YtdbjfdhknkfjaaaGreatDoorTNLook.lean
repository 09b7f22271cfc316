import Derived.Test.YtdbjfdhknkfjaaaGreatDoorTNWork2
import Derived.Test.YtdbjfdhknkfjaaaGreatDoorTNWork6
namespace Go.Proofs.YtdbjfdhknkfjaaaGreatDoor
open Go.RowKit
set_option linter.unusedVariables false
set_option maxHeartbeats 8000000
set_option maxRecDepth 100000
set_option linter.unusedSimpArgs false
section
theorem Iz (x:ByteArray) (a b:Nat):(x.extract a b).size<=x.size:=by rw[ByteArray.size_extract];omega
theorem Nr (s:ByteArray):∀(d n st i:Nat),s.size-i<=d->(Az s n st i).size<=s.size
 | 0,n,st,i,h=>by
  rw[Us (by omega)];split
  ·exact Iz _ _ _
  ·exact Nat.zero_le _
 | d+1,n,st,i,h=>by
  by_cases hi:i<s.size
  ·by_cases hg:Oi s[i]=true
   ·by_cases hst:st<i
    ·by_cases hn:n=0
     ·subst hn;rw[Nw hi hg hst];exact Iz _ _ _
     ·rw[Nv hi hg hst hn];exact Nr s d _ _ _ (by omega)
    ·rw[Nu hi hg hst];exact Nr s d _ _ _ (by omega)
   ·rw[pf_in hi (by simpa using hg)];exact Nr s d _ _ _ (by omega)
  ·rw[Us hi];split
   ·exact Iz _ _ _
   ·exact Nat.zero_le _
theorem Hg (b:Bool):(Da b).size=1:=by cases b<;>rfl
theorem split0 (l:List ByteArray):Bg l 0=l:=by simp[Bg]
theorem Im {l:List ByteArray} (h:1<=l.length):l=Bg l 1++[Bp l]:=by
 unfold Bg Bp
 have e:l.take (l.length-1+1)=l.take (l.length-1)++[l[l.length-1]]:=List.take_succ_eq_append_getElem (by omega)
 rw[gG,gQ (show l.length-1<l.length by omega),Option.getD_some,<- e,List.take_of_length_le (by omega)]
theorem Ys {l:List ByteArray} (h:2<=l.length):l=Bg l 2++[Hu l]++[Bp l]:=by
 have h1:=Im (l:=l) (by omega)
 have e:l.take (l.length-2+1)=l.take (l.length-2)++[l[l.length-2]]:=List.take_succ_eq_append_getElem (by omega)
 have h2:Bg l 1=Bg l 2++[Hu l]:=by
  unfold Bg Hu;rw[gG,gQ (show l.length-2<l.length by omega),Option.getD_some,<- e];congr 1;omega
 rw[<- h2];exact h1
theorem Bk (l:List ByteArray) (k:Nat):(Bg l k).length=l.length-k:=by simp[Bg]
theorem Gp {l:List ByteArray} (h:1<=l.length):Bp l∈l:=by
 unfold Bp
 rw[gG,gQ (show l.length-1<l.length by omega),Option.getD_some]
 exact List.getElem_mem _
theorem Ul {l:List ByteArray} (h:2<=l.length):Hu l∈l:=by
 unfold Hu
 rw[gG,gQ (show l.length-2<l.length by omega),Option.getD_some]
 exact List.getElem_mem _
def Oy (o:Nat) (t:ByteArray) (n:Nat) (l:List ByteArray):Prop:=50<(Bg l (Ap o)).length+(Cp o t n (Bp l) (Hu l)).length\/∃ x∈Cp o t n (Bp l) (Hu l),2000<x.size
def Cq (o:Nat) (t:ByteArray) (n:Nat) (l:List ByteArray) (B m:Nat) (cd:Value) (pl:Nat) (st lk:Int) (w:World) (e:Ending) (w':World):Prop:=
 KB B m w w'/\((e=.returned (.bool true)/\¬ Oy o t n l/\Bw B w' m (Bg l (Ap o)++Cp o t n (Bp l) (Hu l)) cd (En o n pl (Bp l):Nat) st lk)\/(e=.returned (.bool false)/\Oy o t n l/\∃ ss,Bw B w' m ss cd pl st lk))
variable (B m:Nat) (l:List ByteArray) (cd:Value) (pl:Nat) (st lk:Int) (t:ByteArray) (n:Nat) (w:World)
theorem Ef {o n pl:Nat} {a:ByteArray} (h:o≠10) (h2:o≠11):En o n pl a=pl+1:=by simp[En,h,h2]
theorem work_1 (hM:Bw B w m l cd pl st lk) (hB:B<=w.heap.size) (hp1:pl<=200) (hn:n<=2000) (hlen:l.length<=50) (hsz:∀ x∈l,x.size<=2000) (ht:t.size<=2000) :
  Calls Tryz.prog 104 #[.pointer (some ⟨m,0,none⟩),.agg #[.int .i64 1,.string t,.int .i64 n]] w fun e w'=>Cq 1 t n l B m cd pl st lk w e w':=by
 unfold Cq Oy
 rw[show Ap 1=0 from rfl,split0]
 by_cases h:l.length<50
 ·refine(Vl B m l cd pl st lk t n w hM hB ht h (by omega) (by omega)).mono fun e w' ⟨h1,h2,h3⟩=>⟨h2,Or.inl ⟨h1,?_,by rw[Ef (by decide) (by decide)];exact h3⟩⟩;simp[Cp];omega
 ·refine(Vm B m l cd pl st lk t n w hM hB (by omega) (by omega) hn ht (by omega)).mono fun e w' ⟨h1,h2,h3⟩=>⟨h2,Or.inr ⟨h1,?_,_,h3⟩⟩;simp[Cp];omega
theorem work_2 (hM:Bw B w m l cd pl st lk) (hB:B<=w.heap.size) (hp1:pl<=200) (hn:n<=2000) (hlen:l.length<=50) (hsz:∀ x∈l,x.size<=2000) (htk:2<=l.length) :
  Calls Tryz.prog 104 #[.pointer (some ⟨m,0,none⟩),.agg #[.int .i64 2,.string t,.int .i64 n]] w fun e w'=>Cq 2 t n l B m cd pl st lk w e w':=by
 have hs:=Ys htk
 have hr:=Bk l 2
 have hx:=hsz _ (Gp (show 1<=l.length by omega))
 have hy:=hsz _ (Ul htk)
 unfold Cq Oy
 rw[show Ap 2=2 from rfl]
 rw[hs] at hM
 revert hM hr hx hy
 generalize Bg l 2=r
 generalize Bp l=y
 generalize Hu l=x
 intro hM hr hx hy
 have hc:(x++y).size=x.size+y.size:=ByteArray.size_append
 by_cases h:(x++y).size<=2000
 ·refine(Vp B m r x y cd pl st lk t n w hM hB (by omega) (by omega) hn (by omega) hy hx h).mono fun e w' ⟨h1,h2,h3⟩=>⟨h2,Or.inl ⟨h1,?_,by rw[Ef (by decide) (by decide)];exact h3⟩⟩;simp[Cp];omega
 ·refine(Vq B m r x y cd pl st lk t n w hM hB (by omega) (by omega) hn (by omega) hy hx (by omega) (by omega)).mono fun e w' ⟨h1,h2,h3⟩=>⟨h2,Or.inr ⟨h1,?_,_,h3⟩⟩;simp[Cp];omega
theorem work_3 (hM:Bw B w m l cd pl st lk) (hB:B<=w.heap.size) (hp1:pl<=200) (hn:n<=2000) (hlen:l.length<=50) (hsz:∀ x∈l,x.size<=2000) (htk:1<=l.length) :
  Calls Tryz.prog 104 #[.pointer (some ⟨m,0,none⟩),.agg #[.int .i64 3,.string t,.int .i64 n]] w fun e w'=>Cq 3 t n l B m cd pl st lk w e w':=by
 have hs:=Im htk
 have hr:=Bk l 1
 have hx:=hsz _ (Gp htk)
 unfold Cq Oy
 rw[show Ap 3=1 from rfl]
 rw[hs] at hM
 revert hM hr hx
 generalize Bg l 1=r
 generalize Bp l=x
 intro hM hr hx
 have hpc:=Iz x 0 (min n x.size)
 refine(work_cut B m r x cd pl st lk t n w hM hB (by omega) (by omega) hn (by omega) hx (min n x.size) (by omega) (by omega)).mono fun e w' ⟨h1,h2,h3⟩=>⟨h2,Or.inl ⟨h1,?_,by rw[Ef (by decide) (by decide)];exact h3⟩⟩
 simp only[Cp,List.length_singleton,List.mem_singleton,exists_eq_left];omega
theorem work_4 (hM:Bw B w m l cd pl st lk) (hB:B<=w.heap.size) (hp1:pl<=200) (hn:n<=2000) (hlen:l.length<=50) (hsz:∀ x∈l,x.size<=2000) (htk:1<=l.length) :
  Calls Tryz.prog 104 #[.pointer (some ⟨m,0,none⟩),.agg #[.int .i64 4,.string t,.int .i64 n]] w fun e w'=>Cq 4 t n l B m cd pl st lk w e w':=by
 have hs:=Im htk
 have hr:=Bk l 1
 have hx:=hsz _ (Gp htk)
 unfold Cq Oy
 rw[show Ap 4=1 from rfl]
 rw[hs] at hM
 revert hM hr hx
 generalize Bg l 1=r
 generalize Bp l=x
 intro hM hr hx
 have hpc:=Iz x (min n x.size) x.size
 refine(work_rest B m r x cd pl st lk t n w hM hB (by omega) (by omega) hn (by omega) hx (min n x.size) (by omega) (by omega)).mono fun e w' ⟨h1,h2,h3⟩=>⟨h2,Or.inl ⟨h1,?_,by rw[Ef (by decide) (by decide)];exact h3⟩⟩
 simp only[Cp,List.length_singleton,List.mem_singleton,exists_eq_left];omega
theorem work_5 (hM:Bw B w m l cd pl st lk) (hB:B<=w.heap.size) (hp1:pl<=200) (hn:n<=2000) (hlen:l.length<=50) (hsz:∀ x∈l,x.size<=2000) (htk:1<=l.length) :
  Calls Tryz.prog 104 #[.pointer (some ⟨m,0,none⟩),.agg #[.int .i64 5,.string t,.int .i64 n]] w fun e w'=>Cq 5 t n l B m cd pl st lk w e w':=by
 have hs:=Im htk
 have hr:=Bk l 1
 have hx:=hsz _ (Gp htk)
 unfold Cq Oy
 rw[show Ap 5=1 from rfl]
 rw[hs] at hM
 revert hM hr hx
 generalize Bg l 1=r
 generalize Bp l=x
 intro hM hr hx
 have hpc:(Js x n).size<=x.size:=Nr x x.size n 0 0 (by omega)
 refine(work_word B m r x cd pl st lk t n w hM hB (by omega) (by omega) hn (by omega) hx (by omega)).mono fun e w' ⟨h1,h2,h3⟩=>⟨h2,Or.inl ⟨h1,?_,by rw[Ef (by decide) (by decide)];exact h3⟩⟩
 simp only[Cp,List.length_singleton,List.mem_singleton,exists_eq_left];omega
theorem work_6 (hM:Bw B w m l cd pl st lk) (hB:B<=w.heap.size) (hp1:pl<=200) (hn:n<=2000) (hlen:l.length<=50) (hsz:∀ x∈l,x.size<=2000) (htk:2<=l.length) :
  Calls Tryz.prog 104 #[.pointer (some ⟨m,0,none⟩),.agg #[.int .i64 6,.string t,.int .i64 n]] w fun e w'=>Cq 6 t n l B m cd pl st lk w e w':=by
 have hs:=Ys htk
 have hr:=Bk l 2
 have hx:=hsz _ (Gp (show 1<=l.length by omega))
 have hy:=hsz _ (Ul htk)
 unfold Cq Oy
 rw[show Ap 6=2 from rfl]
 rw[hs] at hM
 revert hM hr hx hy
 generalize Bg l 2=r
 generalize Bp l=y
 generalize Hu l=x
 intro hM hr hx hy
 have hf:=Hg (x.toList == y.toList)
 refine(work_same B m r x y cd pl st lk t n w hM hB (by omega) (by omega) hn (by omega) hy hx (by omega)).mono fun e w' ⟨h1,h2,h3⟩=>⟨h2,Or.inl ⟨h1,?_,by rw[Ef (by decide) (by decide)];exact h3⟩⟩
 simp only[Cp,List.length_singleton,List.mem_singleton,exists_eq_left];omega
theorem work_7 (hM:Bw B w m l cd pl st lk) (hB:B<=w.heap.size) (hp1:pl<=200) (hn:n<=2000) (hlen:l.length<=50) (hsz:∀ x∈l,x.size<=2000) (htk:1<=l.length) :
  Calls Tryz.prog 104 #[.pointer (some ⟨m,0,none⟩),.agg #[.int .i64 7,.string t,.int .i64 n]] w fun e w'=>Cq 7 t n l B m cd pl st lk w e w':=by
 have hs:=Im htk
 have hr:=Bk l 1
 have hx:=hsz _ (Gp htk)
 unfold Cq Oy
 rw[show Ap 7=1 from rfl]
 rw[hs] at hM
 revert hM hr hx
 generalize Bg l 1=r
 generalize Bp l=x
 intro hM hr hx
 by_cases h:r.length+2<=50
 ·refine(Vn B m r x cd pl st lk t n w hM hB (by omega) (by omega) hn h hx).mono fun e w' ⟨h1,h2,h3⟩=>⟨h2,Or.inl ⟨h1,?_,by rw[Ef (by decide) (by decide)];simpa [Cp] using h3⟩⟩;simp[Cp];omega
 ·refine(Vo B m r x cd pl st lk t n w hM hB (by omega) (by omega) hn (by omega) hx).mono fun e w' ⟨h1,h2,h3⟩=>⟨h2,Or.inr ⟨h1,?_,_,h3⟩⟩;simp[Cp];omega
theorem work_8 (hM:Bw B w m l cd pl st lk) (hB:B<=w.heap.size) (hp1:pl<=200) (hn:n<=2000) (hlen:l.length<=50) (hsz:∀ x∈l,x.size<=2000) (htk:2<=l.length) :
  Calls Tryz.prog 104 #[.pointer (some ⟨m,0,none⟩),.agg #[.int .i64 8,.string t,.int .i64 n]] w fun e w'=>Cq 8 t n l B m cd pl st lk w e w':=by
 have hs:=Ys htk
 have hr:=Bk l 2
 have hx:=hsz _ (Gp (show 1<=l.length by omega))
 have hy:=hsz _ (Ul htk)
 unfold Cq Oy
 rw[show Ap 8=2 from rfl]
 rw[hs] at hM
 revert hM hr hx hy
 generalize Bg l 2=r
 generalize Bp l=y
 generalize Hu l=x
 intro hM hr hx hy
 refine(work_swap B m r x y cd pl st lk t n w hM hB (by omega) (by omega) hn (by omega) hy hx).mono fun e w' ⟨h1,h2,h3⟩=>⟨h2,Or.inl ⟨h1,?_,by rw[Ef (by decide) (by decide)];simpa [Cp] using h3⟩⟩
 simp[Cp];omega
theorem work_9 (hM:Bw B w m l cd pl st lk) (hB:B<=w.heap.size) (hp1:pl<=200) (hn:n<=2000) (hlen:l.length<=50) (hsz:∀ x∈l,x.size<=2000) (htk:1<=l.length) :
  Calls Tryz.prog 104 #[.pointer (some ⟨m,0,none⟩),.agg #[.int .i64 9,.string t,.int .i64 n]] w fun e w'=>Cq 9 t n l B m cd pl st lk w e w':=by
 have hs:=Im htk
 have hr:=Bk l 1
 have hx:=hsz _ (Gp htk)
 unfold Cq Oy
 rw[show Ap 9=1 from rfl]
 rw[hs] at hM
 revert hM hr hx
 generalize Bg l 1=r
 generalize Bp l=x
 intro hM hr hx
 refine(work_drop B m r x cd pl st lk t n w hM hB (by omega) (by omega) hn (by omega)).mono fun e w' ⟨h1,h2,h3⟩=>⟨h2,Or.inl ⟨h1,?_,by rw[Ef (by decide) (by decide)];simpa [Cp] using h3⟩⟩
 simp[Cp];omega
theorem work_10 (hM:Bw B w m l cd pl st lk) (hB:B<=w.heap.size) (hp1:pl<=200) (hn:n<=2000) (hlen:l.length<=50) (hsz:∀ x∈l,x.size<=2000) :
  Calls Tryz.prog 104 #[.pointer (some ⟨m,0,none⟩),.agg #[.int .i64 10,.string t,.int .i64 n]] w fun e w'=>Cq 10 t n l B m cd pl st lk w e w':=by
 unfold Cq Oy
 rw[show Ap 10=0 from rfl,split0]
 refine(work_jump B m l cd pl st lk t n w hM hB (by omega) (by omega) hn).mono fun e w' ⟨h1,h2,h3⟩=>⟨h2,Or.inl ⟨h1,?_,by simpa [Cp,En] using h3⟩⟩
 simp[Cp];omega
theorem work_11 (hM:Bw B w m l cd pl st lk) (hB:B<=w.heap.size) (hp1:pl<=200) (hn:n<=2000) (hlen:l.length<=50) (hsz:∀ x∈l,x.size<=2000) (htk:1<=l.length) :
  Calls Tryz.prog 104 #[.pointer (some ⟨m,0,none⟩),.agg #[.int .i64 11,.string t,.int .i64 n]] w fun e w'=>Cq 11 t n l B m cd pl st lk w e w':=by
 have hs:=Im htk
 have hr:=Bk l 1
 have hx:=hsz _ (Gp htk)
 unfold Cq Oy
 rw[show Ap 11=1 from rfl]
 rw[hs] at hM
 revert hM hr hx
 generalize Bg l 1=r
 generalize Bp l=x
 intro hM hr hx
 by_cases hx1:x.toList.isEmpty=true
 ·refine(Sy B m r x cd pl st lk t n w hM hB (by omega) (by omega) hn (by omega) hx1).mono fun e w' ⟨h1,h2,h3⟩=>⟨h2,Or.inl ⟨h1,?_,by simpa [Cp,En,Ko,hx1] using h3⟩⟩;simp[Cp];omega
 ·have hx1':x.toList.isEmpty=false:=by simpa using hx1
  by_cases hx2:(x.toList == [48])=true
  ·refine(Sx B m r x cd pl st lk t n w hM hB (by omega) (by omega) hn (by omega) hx1' hx2).mono fun e w' ⟨h1,h2,h3⟩=>⟨h2,Or.inl ⟨h1,?_,by
    (have e1:Ko x=true:=by simp only[Ko,hx2,Bool.or_true]);simpa [Cp,En,e1] using h3⟩⟩
   simp[Cp];omega
  ·have hx2':(x.toList == [48])=false:=by simpa using hx2
   refine(Sv B m r x cd pl st lk t n w hM hB (by omega) (by omega) hn (by omega) hx1' hx2').mono fun e w' ⟨h1,h2,h3⟩=>⟨h2,Or.inl ⟨h1,?_,by
    (have e1:Ko x=false:=by simp only[Ko,hx1',hx2',Bool.or_false]);simpa [Cp,En,e1] using h3⟩⟩
   simp[Cp];omega
theorem work_any (o:Nat) (hM:Bw B w m l cd pl st lk) (hB:B<=w.heap.size) (hp1:pl<=200) (hn:n<=2000) (hlen:l.length<=50) (hsz:∀ x∈l,x.size<=2000) (ht:t.size<=2000) (h1:1<=o) (h2:o<=11) (htk:Ap o<=l.length) :
  Calls Tryz.prog 104 #[.pointer (some ⟨m,0,none⟩),.agg #[.int .i64 (o:Int),.string t,.int .i64 n]] w fun e w'=>Cq o t n l B m cd pl st lk w e w':=by
 rcases (show o=1\/o=2\/o=3\/o=4\/o=5\/o=6\/o=7\/o=8\/o=9\/o=10\/o=11 by omega) with rfl|rfl|rfl|rfl|rfl|rfl|rfl|rfl|rfl|rfl|rfl
 ·exact work_1 B m l cd pl st lk t n w hM hB hp1 hn hlen hsz ht
 ·exact work_2 B m l cd pl st lk t n w hM hB hp1 hn hlen hsz htk
 ·exact work_3 B m l cd pl st lk t n w hM hB hp1 hn hlen hsz htk
 ·exact work_4 B m l cd pl st lk t n w hM hB hp1 hn hlen hsz htk
 ·exact work_5 B m l cd pl st lk t n w hM hB hp1 hn hlen hsz htk
 ·exact work_6 B m l cd pl st lk t n w hM hB hp1 hn hlen hsz htk
 ·exact work_7 B m l cd pl st lk t n w hM hB hp1 hn hlen hsz htk
 ·exact work_8 B m l cd pl st lk t n w hM hB hp1 hn hlen hsz htk
 ·exact work_9 B m l cd pl st lk t n w hM hB hp1 hn hlen hsz htk
 ·exact work_10 B m l cd pl st lk t n w hM hB hp1 hn hlen hsz
 ·exact work_11 B m l cd pl st lk t n w hM hB hp1 hn hlen hsz htk
end
theorem Ot.belowB {B:Nat} {w w':World} (h:Ot w) (hb:Below B w w') (hB:2<B):Ot w':=fun o ho=>
 ⟨(hb.cell (p:=⟨0,_,none⟩) (Nat.lt_of_le_of_lt (Nat.zero_le _) hB)).trans (h o ho).1,(hb.cell (p:=⟨0,_,none⟩) (Nat.lt_of_le_of_lt (Nat.zero_le _) hB)).trans (h o ho).2.1,(hb.cell (p:=⟨0,_,none⟩) (Nat.lt_of_le_of_lt (Nat.zero_le _) hB)).trans (h o ho).2.2⟩
theorem Bw.looks {B:Nat} {w:World} {m:Nat} {ss:List ByteArray} {cd:Value} {pl st lk:Int} (h:Bw B w m ss cd pl st lk) (p:Int):Bw B (w.setCell ⟨m,4,none⟩ (.int .i64 p)) m ss cd pl st p:=by
 obtain⟨hB,v,hm,ho⟩:=h
 refine⟨hB,v,?_,?_⟩
 ·unfold Ey at *;rw[jB hm];rfl
 ·have hne:=hm.ne' ho;refine⟨ho.1,?_⟩
  rcases ho.2 with h0|⟨g,cap,cur,hv,hg,hh,r⟩
  ·exact Or.inl h0
  ·refine Or.inr ⟨g,cap,cur,hv,hg,?_,r⟩;rw[hC w ⟨m,4,none⟩ _ g (by rintro e;apply hne;rw[hv];simp[Value.ownBlock,e])];exact hh
theorem Bw.cells {B:Nat} {w:World} {m:Nat} {ss:List ByteArray} {cd:Value} {pl st lk:Int} (h:Bw B w m ss cd pl st lk):w.cell? ⟨m,3,none⟩=some (.int .i64 st)/\w.cell? ⟨m,4,none⟩=some (.int .i64 lk)/\w.frozen? ⟨m,4,none⟩=false/\m<w.heap.size/\B<=m:=by
 obtain⟨hB,v,hm,ho⟩:=h
 exact⟨by rw[cH hm];rfl,by rw[cH hm];rfl,fH hm 4,hm.lt,hB⟩
theorem Bw.turn {B:Nat} {w:World} {m:Nat} {ss:List ByteArray} {cd:Value} {pl st lk:Int} {b:Nat} (h:Bw B w m ss cd pl st lk/\∃ cs,w.heap[b]?=some (.cells cs 124 (0,0))) (j:Nat) (x:Value) :
  Bw B (w.setCell ⟨b,j,none⟩ x) m ss cd pl st lk/\∃ cs,(w.setCell ⟨b,j,none⟩ x).heap[b]?=some (.cells cs 124 (0,0)):=by
 obtain⟨⟨hB,v,hm,ho⟩,cs,hb⟩:=h
 have hmb:m≠b:=by
  rintro rfl;unfold Ey at hm;rw[hm] at hb;simp at hb
 refine⟨⟨hB,v,?_,ho.1,?_⟩,_,jB hb x⟩
 ·unfold Ey at *;rw[hC w ⟨b,j,none⟩ _ m hmb];exact hm
 ·rcases ho.2 with h0|⟨g,cap,cur,hv,hg,hh,r⟩
  ·exact Or.inl h0
  ·refine Or.inr ⟨g,cap,cur,hv,hg,?_,r⟩
   have hgb:g≠b:=by
    rintro rfl;rw[hh] at hb;simp at hb
   rw[hC w ⟨b,j,none⟩ _ g hgb];exact hh
theorem Tu (B m:Nat) (r:List ByteArray) (x:ByteArray) (cd:Value) (pl st lk:Int) (ask:Bool) (w:World) (hM:Bw B w m (r++[x]) cd pl st lk) (hB:B<=w.heap.size) (h2:r.length<50) (hx:x.size<=2000) (hn:Ar x) (hl0:0<=lk) (hl1:lk<200) :
  Calls Tryz.prog 102 #[.pointer (some ⟨m,0,none⟩),.bool ask] w fun e w'=>e=.returned (Aq false 0 ⟨#[]⟩ ask x st)/\KB B m w w'/\Bw B w' m r cd pl st (lk+1):=by
 have hnb:=Cs hn
 have d1:(lk == 200)=false:=by simp;omega
 go_enter Tryz.func102,Tryz.ntmps102
 go_wp2_with fail
 have hmw:=hM.cells.2.2.2.1
 have hba:Below w.heap.size w (w.alloc (.cells #[.bool false,.int .i64 0,.string ⟨#[]⟩,.bool false,.string ⟨#[]⟩,.int .i64 0] 124)):=aN _ _
 refine(Cd B m r x cd pl st lk _ (hM.bl hba) (by simp;omega) h2).mono ?_
 rintro e w1 ⟨rfl,hb1,hM1,hk1⟩
 have hblk:w1.heap[w.heap.size]?=some (.cells #[.bool false,.int .i64 0,.string ⟨#[]⟩,.bool false,.string ⟨#[]⟩,.int .i64 0] 124 (0,0)):=by
  rw[hk1 _ (by omega),An]
 have k0:=cH hblk 0
 have k1:=cH hblk 1
 have k2:=cH hblk 2
 have k3:=cH hblk 3
 have k4:=cH hblk 4
 have k5:=cH hblk 5
 simp only[gA,gB,gC] at k0 k1 k2 k3 k4 k5
 have f0:∀ j,w1.frozen? ⟨w.heap.size,j,none⟩=false:=fun j=>fH hblk j
 obtain⟨c3,c4,f4,_,hBm⟩:=hM1.cells
 have hne:m≠w.heap.size:=by omega
 have hne':w.heap.size≠m:=by omega
 have HM:Hd (Bw B (w1.setCell ⟨m,4,none⟩ (.int .i64 (lk+1))) m r cd pl st (lk+1)/\∃ cs,(w1.setCell ⟨m,4,none⟩ (.int .i64 (lk+1))).heap[w.heap.size]?=some (.cells cs 124 (0,0))):=⟨hM1.looks _,_,by rw[hC w1 ⟨m,4,none⟩ _ _ hne'];exact hblk⟩
 have HB:Hd (KB B m w w1):=(KB.old hba hB).trans hb1
 clear hM1 hk1 hblk hM hba hb1 hmw
 go_wp2_with (first|(go_at_call 46;refine(Fq x _ (by omega)).mono ?_;rintro e w9 ⟨rfl,rfl⟩))
 exact bR (v:=Aq false 0 ⟨#[]⟩ ask x st) (by simp[results,Tryz.results102,go_sem,Aq,k0,k1,k2,k3,k4,k5]) rfl ⟨rfl,((((((HB.o.setM 4 hBm _).setN 0 hB _).setN 1 hB _).setN 2 hB _).setN 3 hB _).setN 4 hB _).setN 5 hB _,(Bw.turn (Bw.turn (Bw.turn (Bw.turn (Bw.turn (Bw.turn HM.o 0 _) 1 _) 2 _) 3 _) 4 _) 5 _).1⟩
theorem Lu.belowB {B:Nat} {w w':World} (h:Lu w) (hb:Below B w w') (hB:2<B):Lu w':=by
 unfold Lu Lib.TabIs World.var? at *
 rw[show Tryz.prog.globalNamed "internal/strconv.uint64pow10"=some 2 from by kernel_rfl] at *
 simp only[Option.bind_some] at *
 rw[hb.block 2 (by omega)]
 exact h
theorem Xc (B m:Nat) (r:List ByteArray) (x:ByteArray) (cd:Value) (pl st lk:Int) (ask:Bool) (w:World) (hM:Bw B w m (r++[x]) cd pl st lk) (hB:B<=w.heap.size) (h2:r.length<50) (hx:x.size<=2000) (hP:Lu w) (hB1:2<B) (hp0:0<=pl) (hp1:pl<=2000) (hn:¬ Ar x) :
  Calls Tryz.prog 102 #[.pointer (some ⟨m,0,none⟩),.bool ask] w fun e w'=>e=.returned (Aq true 2 ⟨(Lib.decDigits pl.toNat).toArray⟩ false ⟨#[]⟩ st)/\KB B m w w':=by
 have hnb:=Cz hn
 generalize hq:(⟨(Lib.decDigits pl.toNat).toArray⟩:ByteArray)=q
 go_enter Tryz.func102,Tryz.ntmps102
 go_wp2_with fail
 have hmw:=hM.cells.2.2.2.1
 have hba:Below w.heap.size w (w.alloc (.cells #[.bool false,.int .i64 0,.string ⟨#[]⟩,.bool false,.string ⟨#[]⟩,.int .i64 0] 124)):=aN _ _
 refine(Cd B m r x cd pl st lk _ (hM.bl hba) (by simp;omega) h2).mono ?_
 rintro e w1 ⟨rfl,hb1,hM1,hk1⟩
 have hblk:w1.heap[w.heap.size]?=some (.cells #[.bool false,.int .i64 0,.string ⟨#[]⟩,.bool false,.string ⟨#[]⟩,.int .i64 0] 124 (0,0)):=by
  rw[hk1 _ (by omega),An]
 have HB:Hd (KB B m w w1):=(KB.old hba hB).trans hb1
 have HP:Hd (Lu w1):=hP.belowB HB.o.bl hB1
 have hw1:w.heap.size<w1.heap.size:=by
  rcases Nat.lt_or_ge w.heap.size w1.heap.size with h'|h'
  ·exact h'
  ·rw[Array.getElem?_eq_none h'] at hblk;cases hblk
 obtain⟨c3,c4,f4,_,hBm⟩:=hM1.cells
 obtain⟨_,v,hm1,_⟩:=hM1
 clear hk1 hM hba hb1 hmw hP
 go_wp2_with (first|(go_at_call 46;refine(Fq x _ (by omega)).mono ?_;rintro e w9 ⟨rfl,rfl⟩))
 refine(Lx m v cd pl st lk _ hm1 HP.o hp0 hp1).mono ?_
 rintro e w2 ⟨rfl,hb2⟩
 rw[hq]
 have hblk2:w2.heap[w.heap.size]?=some (.cells #[.bool false,.int .i64 0,.string ⟨#[]⟩,.bool false,.string ⟨#[]⟩,.int .i64 0] 124 (0,0)):=by
  rw[hb2.block _ hw1];exact hblk
 have k0:=cH hblk2 0
 have k1:=cH hblk2 1
 have k2:=cH hblk2 2
 have k3:=cH hblk2 3
 have k4:=cH hblk2 4
 have k5:=cH hblk2 5
 simp only[gA,gB,gC] at k0 k1 k2 k3 k4 k5
 have f0:∀ j,w2.frozen? ⟨w.heap.size,j,none⟩=false:=fun j=>fH hblk2 j
 have HB2:Hd (KB B m w w2):=HB.o.trans (KB.old hb2 (by omega))
 clear hblk hblk2 hb2 hm1 c3 c4 f4
 unfold Aq
 go_wp2
 exact bR (v:=Aq true 2 q false ⟨#[]⟩ st) (by simp[results,Tryz.results102,go_sem,Aq,k0,k1,k2,k3,k4,k5]) rfl ⟨rfl,(((((HB2.o.setN 0 hB _).setN 1 hB _).setN 2 hB _).setN 3 hB _).setN 4 hB _).setN 5 hB _⟩
theorem Rp (B m:Nat) (r:List ByteArray) (x:ByteArray) (cd:Value) (pl st lk:Int) (ask:Bool) (w:World) (hM:Bw B w m (r++[x]) cd pl st lk) (hB:B<=w.heap.size) (h2:r.length<50) (hx:x.size<=2000) (hP:Lu w) (hB1:2<B) (hp0:0<=pl) (hp1:pl<=2000) (hn:Ar x) (hl:lk=200) :
  Calls Tryz.prog 102 #[.pointer (some ⟨m,0,none⟩),.bool ask] w fun e w'=>e=.returned (Aq true 3 ⟨#[]⟩ false ⟨#[]⟩ st)/\KB B m w w':=by
 have hnb:=Cs hn
 subst hl
 go_enter Tryz.func102,Tryz.ntmps102
 go_wp2_with fail
 have hmw:=hM.cells.2.2.2.1
 have hba:Below w.heap.size w (w.alloc (.cells #[.bool false,.int .i64 0,.string ⟨#[]⟩,.bool false,.string ⟨#[]⟩,.int .i64 0] 124)):=aN _ _
 refine(Cd B m r x cd pl st 200 _ (hM.bl hba) (by simp;omega) h2).mono ?_
 rintro e w1 ⟨rfl,hb1,hM1,hk1⟩
 have hblk:w1.heap[w.heap.size]?=some (.cells #[.bool false,.int .i64 0,.string ⟨#[]⟩,.bool false,.string ⟨#[]⟩,.int .i64 0] 124 (0,0)):=by
  rw[hk1 _ (by omega),An]
 have HB:Hd (KB B m w w1):=(KB.old hba hB).trans hb1
 have HP:Hd (Lu w1):=hP.belowB HB.o.bl hB1
 have hw1:w.heap.size<w1.heap.size:=by
  rcases Nat.lt_or_ge w.heap.size w1.heap.size with h'|h'
  ·exact h'
  ·rw[Array.getElem?_eq_none h'] at hblk;cases hblk
 obtain⟨c3,c4,f4,_,hBm⟩:=hM1.cells
 obtain⟨_,v,hm1,_⟩:=hM1
 clear hk1 hM hba hb1 hmw hP
 go_wp2_with (first|(go_at_call 46;refine(Fq x _ (by omega)).mono ?_;rintro e w9 ⟨rfl,rfl⟩))
 refine(Ir m v cd pl st 200 3 ⟨#[]⟩ _ hm1).mono ?_
 rintro e w2 ⟨rfl,hb2⟩
 skip
 have hblk2:w2.heap[w.heap.size]?=some (.cells #[.bool false,.int .i64 0,.string ⟨#[]⟩,.bool false,.string ⟨#[]⟩,.int .i64 0] 124 (0,0)):=by
  rw[hb2.block _ hw1];exact hblk
 have k0:=cH hblk2 0
 have k1:=cH hblk2 1
 have k2:=cH hblk2 2
 have k3:=cH hblk2 3
 have k4:=cH hblk2 4
 have k5:=cH hblk2 5
 simp only[gA,gB,gC] at k0 k1 k2 k3 k4 k5
 have f0:∀ j,w2.frozen? ⟨w.heap.size,j,none⟩=false:=fun j=>fH hblk2 j
 have HB2:Hd (KB B m w w2):=HB.o.trans (KB.old hb2 (by omega))
 clear hblk hblk2 hb2 hm1 c3 c4 f4
 unfold Aq
 go_wp2
 exact bR (v:=Aq true 3 ⟨#[]⟩ false ⟨#[]⟩ st) (by simp[results,Tryz.results102,go_sem,Aq,k0,k1,k2,k3,k4,k5]) rfl ⟨rfl,(((((HB2.o.setN 0 hB _).setN 1 hB _).setN 2 hB _).setN 3 hB _).setN 4 hB _).setN 5 hB _⟩
end Go.Proofs.YtdbjfdhknkfjaaaGreatDoor
