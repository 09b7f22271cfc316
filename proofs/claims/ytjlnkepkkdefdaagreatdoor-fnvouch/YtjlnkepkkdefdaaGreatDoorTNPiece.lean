import Derived.Test.YtjlnkepkkdefdaaGreatDoorRows
import Derived.Test.YtjlnkepkkdefdaaGreatDoorTValid
import Derived.ProofKit
import Derived.OpenShut
import Derived.Deep.Slices
import Derived.Deep.Strs
import Derived.OpenVars
import Derived.MakeChecks
import Derived.LaidSub
import Derived.Lib.LaidTab
import Derived.Lib.AppendIntMem
import Derived.Test.YtjlnkepkkdefdaaGreatDoorTNSmall
import Derived.Lib.SmallJoins
namespace Go.Proofs.YtjlnkepkkdefdaaGreatDoor
open Go.RowKit
set_option linter.unusedVariables false
set_option maxHeartbeats 8000000
set_option maxRecDepth 100000
set_option linter.unusedSimpArgs false
section
open Go.ChangeShapes Go.WideShapes Go.ChangeAt Go.Deep
section
variable {H:Type} {enc:TypeId × Value->H} {W:World} {base:Nat} {spare:Nat->Bool} {held:Bool}
end
end
structure G3 where
 name:ByteArray
 ask:Bool
 sum:ByteArray
def g00:G3:=⟨ByteArray.empty,false,ByteArray.empty⟩
def gx (is:List G3) (i:Nat):G3:=is.getD i g00
def Ks (w:World) (a:Option Addr) (is:List G3):Prop:=
 ∀ i,i<is.length->∃ b off,a=some ⟨b,off,none⟩/\w.cell? ⟨b,off+i*3,none⟩=some (.string (gx is i).name)/\w.cell? ⟨b,off+i*3+1,none⟩=some (.bool (gx is i).ask)/\w.cell? ⟨b,off+i*3+2,none⟩=some (.string (gx is i).sum)
theorem Ks.bl {w w':World} {a:Option Addr} {is:List G3} (h:Ks w a is) (hb:Below w.heap.size w w'):Ks w' a is:=by
 intro i hi
 obtain⟨b,off,ha,h1,h2,h3⟩:=h i hi
 exact⟨b,off,ha,Ab hb h1,Ab hb h2,Ab hb h3⟩
def Fe (is:List G3) (k:Nat) (xs:List Value):Prop:=
 ∀ i,i<k->xs[i*3]?=some (.string (gx is i).name)/\xs[i*3+1]?=some (.bool (gx is i).ask)/\xs[i*3+2]?=some (.string (gx is i).sum)
theorem Dc {P:Nat->Prop} {k:Nat} (h:∀ i,i<k->P i) (hk:P k):∀ i,i<k+1->P i:=by
 intro i hi
 rcases Nat.lt_or_ge i k with h1|h1
 ·exact h i h1
 ·obtain rfl:i=k:=by omega
  exact hk
theorem bt {w a b:World} (h:Below w.heap.size w a) (k:Below a.heap.size a b):Below w.heap.size w b:=h.trans (k.mono h.size)
theorem Tryz.info45:(Tryz.prog.info? 45).map (fun i=>(i.zero,i.size,i.bytes))=some (some (.agg #[.string ByteArray.empty,.bool false,.string ByteArray.empty]),3,40):=by kernel_rfl
structure S2 where
 name:ByteArray
 text:ByteArray
def sx (is:List S2) (i:Nat):S2:=is.getD i ⟨ByteArray.empty,ByteArray.empty⟩
structure T2 where
 name:ByteArray
 code:List I3
def tx (is:List T2) (i:Nat):T2:=is.getD i ⟨ByteArray.empty,[]⟩
def Iz (w:World) (a:Option Addr) (is:List S2):Prop:=
 ∀ i,i<is.length->∃ b off,a=some ⟨b,off,none⟩/\w.cell? ⟨b,off+i*2,none⟩=some (.string (sx is i).name)/\w.cell? ⟨b,off+i*2+1,none⟩=some (.string (sx is i).text)
def Iy (w:World) (a:Option Addr) (is:List T2):Prop:=
 ∀ i,i<is.length->∃ b off,a=some ⟨b,off,none⟩/\w.cell? ⟨b,off+i*2,none⟩=some (.string (tx is i).name)/\∃ a' cap',w.cell? ⟨b,off+i*2+1,none⟩=some (.slice a' (tx is i).code.length cap')/\Dr w a' (tx is i).code
theorem Iz.bl {w w':World} {a:Option Addr} {is:List S2} (h:Iz w a is) (hb:Below w.heap.size w w'):Iz w' a is:=by
 intro i hi
 obtain⟨b,off,ha,h1,h2⟩:=h i hi
 exact⟨b,off,ha,Ab hb h1,Ab hb h2⟩
theorem Iy.bl {w w':World} {a:Option Addr} {is:List T2} (h:Iy w a is) (hb:Below w.heap.size w w'):Iy w' a is:=by
 intro i hi
 obtain⟨b,off,ha,h1,a',cap',h2,h3⟩:=h i hi
 exact⟨b,off,ha,Ab hb h1,a',cap',Ab hb h2,h3.bl hb⟩
structure Mx (w:World) (sa:Option Addr) (ss:List S2) (ta:Option Addr) (ts:List T2):Prop where
 rs:Iz w sa ss
 rt:Iy w ta ts
 ls:ss.length<=maxLen
 lt:ts.length<=maxLen
 ns:∀ i,(sx ss i).name.size<=maxLen
 xs:∀ i,(sx ss i).text.size<=maxLen
 nt:∀ i,(tx ts i).name.size<=maxLen
 lc:∀ i,(tx ts i).code.length<=maxLen
 xt:∀ i j,(ix (tx ts i).code j).text.size<=maxLen
structure Mu (ss:List S2) (ts:List T2):Prop where
 ls:ss.length<=1048576
 lt:ts.length<=1048576
 lc:∀ i,i<ts.length->(tx ts i).code.length<=1048576
def Fd (w:World) (m:Nat) (tx cd:Value) (pl st lk:Int):Prop:=w.heap[m]?=some (.cells #[tx,cd,.int .i64 pl,.int .i64 st,.int .i64 lk] 157 (0,0))
def Bf (ss:List ByteArray):List Value:=ss.map .string
def Bx (B:Nat) (w:World) (m:Nat) (ss:List ByteArray) (cd:Value) (pl st lk:Int):Prop:=
 B<=m/\∃ v,Fd w m v cd pl st lk/\w.ownsRow B 9 1 v ss.length (Bf ss)
theorem Aj (w:World) (o:Obj):(w.alloc o).heap[w.heap.size]?=some o:=by unfold World.alloc;simp
theorem Fd.lt {w:World} {m:Nat} {tx cd:Value} {pl st lk:Int} (h:Fd w m tx cd pl st lk):m<w.heap.size:=by
 rcases Nat.lt_or_ge m w.heap.size with h'|h'
 ·exact h'
 ·unfold Fd at h;rw[Array.getElem?_eq_none h'] at h;cases h
theorem Fd.ne {w:World} {m B g n cap:Nat} {tx cd:Value} {pl st lk:Int} {xs:List Value} (h:Fd w m tx cd pl st lk) (ho:w.ownsRow B 9 1 (.slice (some ⟨g,0,none⟩) n cap) n xs):m≠g:=by
 rintro rfl
 rcases ho.2 with ⟨h0,_⟩|⟨g',cap',cur,hv,hg,hh,_⟩
 ·simp at h0
 ·simp only[Value.slice.injEq,Option.some.injEq,Addr.mk.injEq,and_true,true_and] at hv;rw[<- hv.1] at hh;unfold Fd at h;rw[h] at hh;simp at hh
theorem Bx.bl {B:Nat} {w w':World} {m:Nat} {ss:List ByteArray} {cd:Value} {pl st lk:Int} (h:Bx B w m ss cd pl st lk) (hb:Below w.heap.size w w'):Bx B w' m ss cd pl st lk:=by
 obtain⟨hB,v,hm,ho⟩:=h
 exact⟨hB,v,by have:=hm.lt;unfold Fd at *;rw[hb.block m this];exact hm,Ac ho hb⟩
theorem Fd.cell {w:World} {m:Nat} {tx cd:Value} {pl st lk:Int} (h:Fd w m tx cd pl st lk):(∀ x,(w.alloc x).cell? ⟨m,0,none⟩=some tx)/\(∀ x,(w.alloc x).cell? ⟨m,2,none⟩=some (.int .i64 pl))/\(∀ x,(w.alloc x).cell? ⟨m,3,none⟩=some (.int .i64 st))/\(∀ x,(w.alloc x).cell? ⟨m,4,none⟩=some (.int .i64 lk)):=by
 have hl:=h.lt
 have e:∀ j x,(w.alloc x).cell? ⟨m,j,none⟩=w.cell? ⟨m,j,none⟩:=fun j x=>World.cell?_alloc_lt _ _ _ hl
 exact⟨fun x=>by rw[e,cH h];rfl,fun x=>by rw[e,cH h];rfl,fun x=>by rw[e,cH h];rfl,fun x=>by rw[e,cH h];rfl⟩
theorem Jg (m:Nat) (tx cd:Value) (pl st lk c:Int) (t:ByteArray) (w:World) (hM:Fd w m tx cd pl st lk) :
  Calls Tryz.prog 116 #[.pointer (some ⟨m,0,none⟩),.int .i64 c,.string t] w fun e w'=>e=.returned (Ao true c t false ⟨#[]⟩ st)/\Below w.heap.size w w':=by
 have c3:=hM.cell.2.2.1
 clear hM
 go_enter Tryz.func116,Tryz.ntmps116
 go_wp2
 exact bR (v:=Ao true c t false ⟨#[]⟩ st) (by simp[results,Tryz.results116,go_sem,Ao]) rfl ⟨rfl,aN _ _⟩
theorem Mm (m:Nat) (tx cd:Value) (pl st lk:Int) (w:World) (hM:Fd w m tx cd pl st lk) (hP:Ld w) (h0:0<=pl) (h1:pl<=2000) :
  Calls Tryz.prog 117 #[.pointer (some ⟨m,0,none⟩)] w fun e w'=>e=.returned (Ao true 2 ⟨(Lib.decDigits pl.toNat).toArray⟩ false ⟨#[]⟩ st)/\Below w.heap.size w w':=by
 have c2:=hM.cell.2.1
 have hi:Lib.itoa pl=Lib.decDigits pl.toNat:=by unfold Lib.itoa;rw[if_neg (by omega)]
 rw[<- hi]
 clear hi
 generalize hq:(⟨(Lib.itoa pl).toArray⟩:ByteArray)=q
 have HQ:Hd ((⟨(Lib.itoa pl).toArray⟩:ByteArray)=q):=hq
 clear hq
 go_enter Tryz.func117,Tryz.ntmps117
 go_wp2_with fail
 have hb0:Below w.heap.size w (w.alloc (.cells #[.bool false,.int .i64 0,.string ⟨#[]⟩,.bool false,.string ⟨#[]⟩,.int .i64 0] 115)):=aN _ _
 refine(Tryz.strconv_Itoa pl (by omega) (by omega) _ (hP.bl hb0)).mono ?_
 rintro e w1 ⟨rfl,k',os',hw1⟩
 have hb1:=Lib.below_grow _ (w.alloc (.cells #[.bool false,.int .i64 0,.string ⟨#[]⟩,.bool false,.string ⟨#[]⟩,.int .i64 0] 115)) (Nat.le_refl _) k' os'
 rw[<- hw1] at hb1
 clear hw1
 rw[HQ.o]
 have hB1:Below w.heap.size w w1:=hb0.trans (hb1.mono hb0.size)
 have hM1:Fd w1 m tx cd pl st lk:=by have:=hM.lt;unfold Fd at *;rw[hB1.block m this];exact hM
 go_wp2_with fail
 refine(Jg m tx cd pl st lk 2 q w1 hM1).mono ?_
 rintro e w2 ⟨rfl,hb2⟩
 have hB2:Below w.heap.size w w2:=hB1.trans (hb2.mono hB1.size)
 unfold Ao
 have hs1:w.heap.size<w1.heap.size:=by have:=hb1.size;simp at this;omega
 have hblk:w2.heap[w.heap.size]?=some (.cells #[.bool false,.int .i64 0,.string ⟨#[]⟩,.bool false,.string ⟨#[]⟩,.int .i64 0] 115 (0,0)):=by
  rw[hb2.block _ hs1,hb1.block _ (by simp),Aj]
 have k0:=cH hblk 0
 have k1:=cH hblk 1
 have k2:=cH hblk 2
 have k3:=cH hblk 3
 have k4:=cH hblk 4
 have k5:=cH hblk 5
 simp only[List.getElem?_toArray,List.getElem?_cons_zero,List.getElem?_cons_succ] at k0 k1 k2 k3 k4 k5
 have f0:∀ j,w2.frozen? ⟨w.heap.size,j,none⟩=false:=fun j=>fH hblk j
 clear hb0 hb1 hB1 hM hM1 hb2 hP hblk
 go_wp2
 exact bR (v:=Ao true 2 q false ⟨#[]⟩ st) (by simp[results,Tryz.results117,go_sem,Ao,k0,k1,k2,k3,k4,k5]) rfl ⟨rfl,(((((hB2.setCell (Nat.le_refl _) _).setCell (Nat.le_refl _) _).setCell (Nat.le_refl _) _).setCell (Nat.le_refl _) _).setCell (Nat.le_refl _) _).setCell (Nat.le_refl _) _⟩
theorem Tryz.info9b:(Tryz.prog.info? 9).map (fun i=>(i.zero,i.size,i.bytes))=some (some (.string ⟨#[]⟩),1,16):=by kernel_rfl
theorem Hm {w:World} {B n:Nat} {v:Value} {xs:List Value} (h:w.ownsRow B 9 1 v n xs):∀ k,v.ownBlock=some k->B<=k/\k<w.heap.size:=fun k hk=>h.lt k hk
theorem Fd.ne' {w:World} {m B n:Nat} {v tx cd:Value} {pl st lk:Int} {xs:List Value} (h:Fd w m tx cd pl st lk) (ho:w.ownsRow B 9 1 v n xs):some m≠v.ownBlock:=by
 intro e
 rcases ho.2 with ⟨rfl,_⟩|⟨g,cap,cur,rfl,_⟩
 ·simp[Value.ownBlock] at e
 ·simp[Value.ownBlock] at e;exact h.ne ho e
theorem Bx.put {B:Nat} {w:World} {m:Nat} {ss:List ByteArray} {tx v cd:Value} {pl st lk:Int} (hB:B<=m) (hm:Fd w m tx cd pl st lk) (ho:w.ownsRow B 9 1 v ss.length (Bf ss)):Bx B (w.setCell ⟨m,0,none⟩ v) m ss cd pl st lk:=by
 refine⟨hB,v,?_,?_⟩
 ·unfold Fd at *;rw[jB hm];rfl
 ·have hne:=hm.ne' ho;refine⟨ho.1,?_⟩
  rcases ho.2 with h0|⟨g,cap,cur,hv,hg,hh,r⟩
  ·exact Or.inl h0
  ·refine Or.inr ⟨g,cap,cur,hv,hg,?_,r⟩;rw[hC w ⟨m,0,none⟩ v g (by rintro e;apply hne;rw[hv];simp[Value.ownBlock,e])];exact hh
theorem put_no (B m:Nat) (ss:List ByteArray) (cd:Value) (pl st lk:Int) (t:ByteArray) (w:World) (hM:Bx B w m ss cd pl st lk) (hs:t.size<=9223372036854775807) (h2:ss.length<=50) (h:2000<t.size\/ss.length=50) :
  Calls Tryz.prog 121 #[.pointer (some ⟨m,0,none⟩),.string t] w fun e w'=>e=.returned (.bool false)/\w=w':=by
 obtain⟨hBm,v,hm,hown⟩:=hM
 obtain⟨ao,cap,rfl⟩:∃ ao cap,v=.slice ao ss.length cap:=by
  rcases hown.2 with ⟨hv,h0⟩|⟨g,cap,cur,hv,_⟩
  ·exact⟨none,0,by rw[hv,h0]⟩
  ·exact⟨_,_,hv⟩
 have c0:w.cell? ⟨m,0,none⟩=some (.slice ao ss.length cap):=by rw[cH hm];rfl
 by_cases h1:2000<t.size
 ·have d1:decide ((2000:Int)<t.size)=true:=by simp;omega
  clear h;go_enter Tryz.func121,Tryz.ntmps121;go_wp2;go_ret;exact⟨rfl,rfl⟩
 ·have d1:decide ((2000:Int)<t.size)=false:=by simp;omega
  have d2:((ss.length:Int) == 50)=true:=by simp;omega
  clear h;go_enter Tryz.func121,Tryz.ntmps121;go_wp2;go_ret;exact⟨rfl,rfl⟩
theorem Rv {w:World} {B g cap:Nat} {ss:List ByteArray} {x:ByteArray} (h:w.ownsRow B 9 1 (.slice (some ⟨g,0,none⟩) (ss.length+1) cap) (ss.length+1) (Bf (ss++[x]))):w.ownsRow B 9 1 (.slice (some ⟨g,0,none⟩) ss.length cap) ss.length (Bf ss):=by
 refine⟨by simp[Bf],?_⟩
 rcases h.2 with ⟨h0,_⟩|⟨g',cap',cur,hv,hg,hh,h1,h2,h3,h4⟩
 ·simp at h0
 ·simp only[Value.slice.injEq,Option.some.injEq,Addr.mk.injEq,and_true,true_and] at hv;obtain⟨rfl,rfl⟩:=hv;refine Or.inr ⟨g,cap,cur,rfl,hg,hh,by omega,h2,h3,?_⟩;have:=congrArg (List.take ss.length) h4;rw[List.take_take,Nat.mul_one] at this;rw[Nat.mul_one];rw[show min ss.length (ss.length+1)=ss.length by omega] at this;rw[this];simp[Bf]
def Pg (u:UInt8):Bool:=u.toNat == 32 || u.toNat == 10
def Ay (s:ByteArray) (n st i:Nat):ByteArray:=
 if h:i<s.size then
  if Pg s[i] then
   if st<i then (if n=0 then s.extract st i else Ay s (n-1) (i+1) (i+1)) else Ay s n (i+1) (i+1)
  else Ay s n st (i+1)
 else if n=0 then s.extract st s.size else ⟨#[]⟩
termination_by s.size-i
def Kd (s:ByteArray) (n:Nat):ByteArray:=Ay s n 0 0
theorem Oq {s:ByteArray} {st i:Nat} (h:i<s.size) (hg:Pg s[i]=true) (hst:st<i):Ay s 0 st i=s.extract st i:=by rw[Ay,dif_pos h,if_pos hg,if_pos hst,if_pos rfl]
theorem Oo {s:ByteArray} {n st i:Nat} (h:i<s.size) (hg:Pg s[i]=true) (hst:st<i) (hn:n≠0):Ay s n st i=Ay s (n-1) (i+1) (i+1):=by rw[Ay,dif_pos h,if_pos hg,if_pos hst,if_neg hn]
theorem Om {s:ByteArray} {n st i:Nat} (h:i<s.size) (hg:Pg s[i]=true) (hst:¬ st<i):Ay s n st i=Ay s n (i+1) (i+1):=by rw[Ay,dif_pos h,if_pos hg,if_neg hst]
theorem pf_in {s:ByteArray} {n st i:Nat} (h:i<s.size) (hg:Pg s[i]=false):Ay s n st i=Ay s n st (i+1):=by rw[Ay,dif_pos h,if_neg (by simp[hg])]
theorem Vx {s:ByteArray} {n st i:Nat} (h:¬ i<s.size):Ay s n st i=if n=0 then s.extract st s.size else ⟨#[]⟩:=by rw[Ay,dif_neg h]
theorem gap_cases (u:UInt8):(Pg u=true/\((u.toNat:Int) != 32)=false)\/(Pg u=true/\((u.toNat:Int) != 32)=true/\((u.toNat:Int) != 10)=false)\/(Pg u=false/\((u.toNat:Int) != 32)=true/\((u.toNat:Int) != 10)=true):=by
 unfold Pg
 generalize u.toNat=m
 by_cases h1:m=32<;>by_cases h2:m=10<;>simp[h1,h2]<;>omega
theorem wordAt_any (s:ByteArray) (n:Nat) (w:World) (hs:s.size<=2000) (hn:n<=2000):Calls Tryz.prog 135 #[.string s,.int .i64 n] w fun e w'=>e=.returned (.string (Kd s n))/\w=w':=by
 generalize hq:Kd s n=q
 have HQ:Hd (Ay s n 0 0=q):=hq
 clear hq
 go_enter Tryz.func135,Tryz.ntmps135
 go_wp2
 go_loopw [1,5,9] (fun nv sv iv wr=>∃ n' st k:Nat,k<=s.size/\st<=k/\n'<=2000/\nv=.int .i64 n'/\sv=.int .i64 st/\iv=.int .i64 k/\Hd (Ay s n' st k=q)/\w=wr) (fun _ _ i _=>s.size-(intOf i).toNat)
 case atStart=>exact⟨n,0,0,Nat.zero_le _,Nat.le_refl _,hn,rfl,rfl,rfl,HQ,rfl⟩
 case round=>
  clear HQ hn;obtain⟨n',st,k,hk,hst,hn',rfl,rfl,rfl,HI,rfl⟩:=hrel
  by_cases hlt:k<s.size
  ·rcases gap_cases s[k] with ⟨hg,d1⟩|⟨hg,d1,d2⟩|⟨hg,d1,d2⟩
   ·by_cases c1:st<k
    ·by_cases c2:n'=0
     ·subst c2;(have HR:Hd (s.extract st k=q):=by show _=_;rw[<- Oq hlt hg c1];exact HI.o);clear hg HI;go_wp2;go_ret;exact⟨by rw[<- HR.o];rfl,rfl⟩
     ·(have HR:Hd (Ay s (n'-1) (k+1) (k+1)=q):=by show _=_;rw[<- Oo hlt hg c1 c2];exact HI.o);clear hg HI;go_wp2;go_roundw
      case rel=>exact⟨n'-1,k+1,k+1,by omega,Nat.le_refl _,by omega,by go_num,by go_num,by go_num,HR,by first|trivial|rfl⟩
      case measure=>simp[intOf];omega
    ·(have HR:Hd (Ay s n' (k+1) (k+1)=q):=by show _=_;rw[<- Om hlt hg c1];exact HI.o);clear hg HI;go_wp2;go_roundw
     case rel=>exact⟨n',k+1,k+1,by omega,Nat.le_refl _,by omega,by go_num,by go_num,by go_num,HR,by first|trivial|rfl⟩
     case measure=>simp[intOf];omega
   ·by_cases c1:st<k
    ·by_cases c2:n'=0
     ·subst c2;(have HR:Hd (s.extract st k=q):=by show _=_;rw[<- Oq hlt hg c1];exact HI.o);clear hg HI;go_wp2;go_ret;exact⟨by rw[<- HR.o];rfl,rfl⟩
     ·(have HR:Hd (Ay s (n'-1) (k+1) (k+1)=q):=by show _=_;rw[<- Oo hlt hg c1 c2];exact HI.o);clear hg HI;go_wp2;go_roundw
      case rel=>exact⟨n'-1,k+1,k+1,by omega,Nat.le_refl _,by omega,by go_num,by go_num,by go_num,HR,by first|trivial|rfl⟩
      case measure=>simp[intOf];omega
    ·(have HR:Hd (Ay s n' (k+1) (k+1)=q):=by show _=_;rw[<- Om hlt hg c1];exact HI.o);clear hg HI;go_wp2;go_roundw
     case rel=>exact⟨n',k+1,k+1,by omega,Nat.le_refl _,by omega,by go_num,by go_num,by go_num,HR,by first|trivial|rfl⟩
     case measure=>simp[intOf];omega
   ·(have HR:Hd (Ay s n' st (k+1)=q):=by show _=_;rw[<- pf_in hlt hg];exact HI.o);clear hg HI;go_wp2;go_roundw
    case rel=>exact⟨n',st,k+1,by omega,by omega,by omega,by go_num,by go_num,by go_num,HR,by first|trivial|rfl⟩
    case measure=>simp[intOf];omega
  ·have ek:k=s.size:=by omega
   have he:=Vx (n:=n') (st:=st) hlt
   by_cases c2:n'=0
   ·subst c2;rw[if_pos rfl] at he;have HR:Hd (s.extract st s.size=q):=he.symm.trans HI.o;subst ek;clear he HI;go_wp2;go_ret;exact⟨by rw[<- HR.o];rfl,rfl⟩
   ·rw[if_neg c2] at he;have HR:Hd ((⟨#[]⟩:ByteArray)=q):=he.symm.trans HI.o;subst ek;clear he HI;go_wp2;go_ret;exact⟨by rw[<- HR.o];rfl,rfl⟩
theorem gap_cases2 (u:UInt8):(Pg u=true/\((u.toNat:Int) == 32)=true)\/(Pg u=true/\((u.toNat:Int) == 32)=false/\((u.toNat:Int) == 10)=true)\/(Pg u=false/\((u.toNat:Int) == 32)=false/\((u.toNat:Int) == 10)=false):=by
 unfold Pg
 generalize u.toNat=m
 by_cases h1:m=32<;>by_cases h2:m=10<;>simp[h1,h2]<;>omega
theorem Yz (s:ByteArray) (n:Nat) (w:World) (hs:s.size<=2000) (hn:n<=2000):Calls Tryz.prog 149 #[.string s,.int .i64 n] w fun e w'=>e=.returned (.string (Kd s n))/\w=w':=by
 generalize hq:Kd s n=q
 have HQ:Hd (Ay s n 0 0=q):=hq
 clear hq
 go_enter Tryz.func149,Tryz.ntmps149
 go_wp2
 go_loopw [1,5,6] (fun nv sv iv wr=>(∃ n' st k:Nat,k<=s.size/\n'<=2000/\st<=k/\nv=.int .i64 n'/\sv=.int .i64 (if st<k then (st:Int) else -1)/\iv=.int .i64 k/\Hd (Ay s n' st k=q)/\w=wr)\/(nv=nv/\iv=.int .i64 (s.size+1:Nat)/\Hd ((⟨#[]⟩:ByteArray)=q)/\w=wr/\(∃ z,nv=.int .i64 z)/\∃ z,sv=.int .i64 z)) (fun _ _ i _=>s.size+1-(intOf i).toNat)
 case atStart=>exact Or.inl ⟨n,0,0,Nat.zero_le _,hn,Nat.le_refl _,rfl,rfl,rfl,HQ,rfl⟩
 case round=>
  clear HQ hn
  rcases hrel with ⟨n',st,k,hk,hn',hst,rfl,rfl,rfl,HI,rfl⟩|⟨_,rfl,HR,rfl,⟨z1,rfl⟩,⟨z2,rfl⟩⟩
  ·by_cases hlt:k<s.size
   ·have hne:((k:Int) == s.size)=false:=by simp;omega
    rcases gap_cases2 s[k] with ⟨hg,d1⟩|⟨hg,d1,d2⟩|⟨hg,d1,d2⟩
    ·by_cases c1:st<k
     ·rw[if_pos c1]
      by_cases c2:n'=0
      ·subst c2;(have HR:Hd (s.extract st k=q):=by show _=_;rw[<- Oq hlt hg c1];exact HI.o);clear hg HI;go_wp2;go_ret;exact⟨by rw[<- HR.o];rfl,rfl⟩
      ·(have HR:Hd (Ay s (n'-1) (k+1) (k+1)=q):=by show _=_;rw[<- Oo hlt hg c1 c2];exact HI.o);clear hg HI;go_wp2;go_roundw
       case rel=>exact Or.inl ⟨n'-1,k+1,k+1,by omega,by omega,Nat.le_refl _,by go_num,by rw[if_neg (Nat.lt_irrefl _)],by go_num,HR,by first|trivial|rfl⟩
       case measure=>simp[intOf];omega
     ·rw[if_neg c1];(have HR:Hd (Ay s n' (k+1) (k+1)=q):=by show _=_;rw[<- Om hlt hg c1];exact HI.o);clear hg HI;go_wp2;go_roundw
      case rel=>exact Or.inl ⟨n',k+1,k+1,by omega,by omega,Nat.le_refl _,by go_num,by rw[if_neg (Nat.lt_irrefl _)],by go_num,HR,by first|trivial|rfl⟩
      case measure=>simp[intOf];omega
    ·by_cases c1:st<k
     ·rw[if_pos c1]
      by_cases c2:n'=0
      ·subst c2;(have HR:Hd (s.extract st k=q):=by show _=_;rw[<- Oq hlt hg c1];exact HI.o);clear hg HI;go_wp2;go_ret;exact⟨by rw[<- HR.o];rfl,rfl⟩
      ·(have HR:Hd (Ay s (n'-1) (k+1) (k+1)=q):=by show _=_;rw[<- Oo hlt hg c1 c2];exact HI.o);clear hg HI;go_wp2;go_roundw
       case rel=>exact Or.inl ⟨n'-1,k+1,k+1,by omega,by omega,Nat.le_refl _,by go_num,by rw[if_neg (Nat.lt_irrefl _)],by go_num,HR,by first|trivial|rfl⟩
       case measure=>simp[intOf];omega
     ·rw[if_neg c1];(have HR:Hd (Ay s n' (k+1) (k+1)=q):=by show _=_;rw[<- Om hlt hg c1];exact HI.o);clear hg HI;go_wp2;go_roundw
      case rel=>exact Or.inl ⟨n',k+1,k+1,by omega,by omega,Nat.le_refl _,by go_num,by rw[if_neg (Nat.lt_irrefl _)],by go_num,HR,by first|trivial|rfl⟩
      case measure=>simp[intOf];omega
    ·(have HR:Hd (Ay s n' st (k+1)=q):=by show _=_;rw[<- pf_in hlt hg];exact HI.o);clear hg HI
     by_cases c1:st<k
     ·rw[if_pos c1];go_wp2;go_roundw
      case rel=>exact Or.inl ⟨n',st,k+1,by omega,by omega,by omega,by go_num,by rw[if_pos (by omega)],by go_num,HR,by first|trivial|rfl⟩
      case measure=>simp[intOf];omega
     ·rw[if_neg c1];(obtain rfl:st=k:=by omega);go_wp2;go_roundw
      case rel=>exact Or.inl ⟨n',st,st+1,by omega,by omega,by omega,by go_num,by rw[if_pos (by omega)],by go_num,HR,by first|trivial|rfl⟩
      case measure=>simp[intOf];omega
   ·(have ek:k=s.size:=by omega);have he:=Vx (n:=n') (st:=st) hlt;have heq:((k:Int) == s.size)=true:=by simp;omega
    by_cases c1:st<k
    ·rw[if_pos c1]
     by_cases c2:n'=0
     ·subst c2;rw[if_pos rfl] at he;have HR:Hd (s.extract st s.size=q):=he.symm.trans HI.o;clear he HI;go_wp2;go_ret;exact⟨by rw[<- HR.o];rfl,rfl⟩
     ·rw[if_neg c2] at he;have HR:Hd ((⟨#[]⟩:ByteArray)=q):=he.symm.trans HI.o;clear he HI;go_wp2;go_roundw
      case rel=>exact Or.inr ⟨by first|trivial|rfl,by subst ek;go_num,HR,by first|trivial|rfl,by first|exact⟨_,rfl⟩|trivial,by first|exact⟨_,rfl⟩|trivial⟩
      case measure=>simp[intOf];omega
    ·rw[if_neg c1]
     have HR:Hd ((⟨#[]⟩:ByteArray)=q):=by
      show _=_;rw[<- HI.o,he];split
      ·apply WideShapes.bytes_inj;rw[show st=s.size by omega];simp
      ·rfl
     clear he HI;go_wp2;go_roundw
     case rel=>exact Or.inr ⟨by first|trivial|rfl,by subst ek;go_num,HR,by first|trivial|rfl,by first|exact⟨_,rfl⟩|trivial,by first|exact⟨_,rfl⟩|trivial⟩
     case measure=>simp[intOf];omega
  ·go_wp2;go_ret;exact⟨by rw[<- HR.o];rfl,rfl⟩
end Go.Proofs.YtjlnkepkkdefdaaGreatDoor
