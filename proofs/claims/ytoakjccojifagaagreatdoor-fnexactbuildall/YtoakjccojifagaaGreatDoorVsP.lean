import Derived.Test.YtoakjccojifagaaGreatDoorBtG
import Derived.Test.YtoakjccojifagaaGreatDoorVsC
namespace Go.Proofs.YtoakjccojifagaaGreatDoor
open Option renaming some->M,none->N
open Value renaming string->S
open Obj renaming cells->O
open Go renaming Value->Z,World->E
open _root_ renaming List->L,Nat->X
set_option maxHeartbeats 2000000
open _root_.Go.Proofs.Tryz Go.RowKit Go.Deep
set_option linter.unusedVariables false
set_option linter.unusedSimpArgs false
variable {n b T B P:X} {ts:L By} {t v1 v2 v3 v4 x y z:Z} {w w':E}
structure Vk (n:X) (ts:L By) (t:By) (r:X):Prop where
 le:r≤ts.length
 lo:∀j,j<r→Au (Aq n (nx ts j)) t=true
 hi:r<ts.length→Au (Aq n (nx ts r)) t=false
theorem Tq(a:Option Addr)(cap:Nat)(l:List ByteArray)(t:ByteArray)(w:World)(H7:Ca w a l)(hl:l.length≤1048576)(fb:Fu l):Calls Tryz.prog 105 #[.slice a l.length cap,.string t] w λe w'=>w=w'∧∃(r:Nat)(b:Bool),e=.returned (.tuple #[.int .i64 r,.bool b])∧r≤l.length∧(∀j,j<r→Au (nx l j) t=true)∧(∀j,r≤j→j<l.length→Au (nx l j) t=false)∧((b=true∧r<l.length∧nx l r=t)∨(b=false∧¬ (r<l.length∧nx l r=t))):=by
 have jw:Hd (Fu l):=fb;have hc:∀i,i<l.length→∃b off,a=some ⟨b,off,none⟩∧w.cell? ⟨b,off+i,none⟩=some (.string (nx l i)):=λi hi=>H7 i hi;clear fb H7;go_enter Tryz.func105,Tryz.ntmps105;go_wp2
 go_loopw [7,8] (λi j wr=>∃lo hi:Nat,i=.int .i64 lo∧j=.int .i64 hi∧lo≤hi∧hi≤l.length∧Hd (∀j,j<lo→Au (nx l j) t=true)∧Hd (∀j,hi≤j→j<l.length→Au (nx l j) t=false)∧w=wr) (λi j _=>(intOf j).toNat-(intOf i).toNat)
 case atStart=>exact⟨0,l.length,rfl,rfl,Nat.zero_le _,Nat.le_refl _,(λj hj=>by omega:∀j,j<0→Au (nx l j) t=true),(λj h1 h2=>by omega:∀j,l.length≤j→j<l.length→Au (nx l j) t=false),rfl⟩
 case round=>
  obtain⟨lo,hi,rfl,rfl,h1,h2,HL,HH,rfl⟩:=hrel
  by_cases aj:lo<hi
  ·obtain⟨m,e1,we,rm⟩:∃m:Nat,((lo:Int)+(hi:Int)) / 2=(m:Int)∧lo≤m∧m<hi:=⟨(lo+hi) / 2,by omega,by omega,by omega⟩
   obtain⟨b,off,rfl,c1⟩:=hc m (by omega);obtain⟨v,hv⟩:∃v,Au (nx l m) t=v:=⟨_,rfl⟩;have HV:Hd (Au (nx l m) t=v):=hv;(have HN:Hd (∀W:World,Calls Tryz.prog 129 #[.string (nx l m),.string t] W λe w'=>e=.returned (.bool v)∧W=w'):=λW=>by rw[←hv];exact Se _ _ W);clear hc hv;generalize nx l m=s at c1 HN;(have D9:(m:Int)<(l.length:Int):=by omega);cases v
   ·go_wp2_with (go_at_call 129;refine(HN.o _).mono ?_;rintro e w' ⟨rfl,rfl⟩)
    go_roundw
    case rel=>exact⟨lo,m,rfl,rfl,we,by omega,HL.o,Tv jw.o HV.o,trivial⟩
    case measure=>simp[intOf];omega
   ·go_wp2_with (go_at_call 129;refine(HN.o _).mono ?_;rintro e w' ⟨rfl,rfl⟩)
    go_roundw
    case rel=>exact⟨m+1,hi,by go_num,rfl,by omega,by omega,Zo jw.o (by omega) HV.o,HH.o,trivial⟩
    case measure=>simp[intOf];omega
  ·obtain rfl:lo=hi:=by omega
   by_cases ym:lo<l.length
   ·obtain⟨b,off,rfl,c1⟩:=hc lo ym
    have hlI:(lo:Int)<(l.length:Int):=by omega
    by_cases he:nx l lo=t
    ·have pj:=Fd he
     have HE:Hd (nx l lo=t):=he;clear hc he;generalize nx l lo=s at c1 pj;go_wp2
     go_ret2
     exact⟨rfl,lo,true,rfl,h2,HL.o,HH.o,Or.inl ⟨rfl,ym,HE.o⟩⟩
    ·have pj:=Hh he
     have HE:Hd (nx l lo≠t):=he;clear hc he;have hss:=Fd (rfl:nx l lo=nx l lo);generalize nx l lo=s at c1 pj hss;go_wp2
     go_ret2
     exact⟨rfl,lo,false,rfl,h2,HL.o,HH.o,Or.inr ⟨rfl,λh=>HE.o h.2⟩⟩
   ·have hlI:¬ (lo:Int)<(l.length:Int):=by omega
    have G0:Hd (¬ lo<l.length):=ym;go_wp2
    go_ret2
    exact⟨rfl,lo,Or.inl ⟨rfl,h2,HL.o,HH.o,λh=>absurd h G0.o⟩⟩
theorem Qm(a:Option Addr)(cap:Nat)(l:List ByteArray)(t:ByteArray)(w:World)(H7:Ca w a l)(hl:l.length≤1048576)(fb:Fu l):Calls Tryz.prog 105 #[.slice a l.length cap,.string t] w λe w'=>w=w'∧∃(r:Nat)(b:Bool),e=.returned (.tuple #[.int .i64 r,.bool b])∧((b=true∧r<l.length∧nx l r=t)∨(b=false∧¬ Eg l t)):=by
 have jw:Hd (Fu l):=fb;have hc:∀i,i<l.length→∃b off,a=some ⟨b,off,none⟩∧w.cell? ⟨b,off+i,none⟩=some (.string (nx l i)):=λi hi=>H7 i hi;clear fb H7;go_enter Tryz.func105,Tryz.ntmps105;go_wp2
 go_loopw [7,8] (λi j wr=>∃lo hi:Nat,i=.int .i64 lo∧j=.int .i64 hi∧lo≤hi∧hi≤l.length∧Hd (∀j,j<lo→Au (nx l j) t=true)∧Hd (∀j,hi≤j→j<l.length→Au (nx l j) t=false)∧w=wr) (λi j _=>(intOf j).toNat-(intOf i).toNat)
 case atStart=>exact⟨0,l.length,rfl,rfl,Nat.zero_le _,Nat.le_refl _,(λj hj=>by omega:∀j,j<0→Au (nx l j) t=true),(λj h1 h2=>by omega:∀j,l.length≤j→j<l.length→Au (nx l j) t=false),rfl⟩
 case round=>
  obtain⟨lo,hi,rfl,rfl,h1,h2,HL,HH,rfl⟩:=hrel
  by_cases aj:lo<hi
  ·obtain⟨m,e1,we,rm⟩:∃m:Nat,((lo:Int)+(hi:Int)) / 2=(m:Int)∧lo≤m∧m<hi:=⟨(lo+hi) / 2,by omega,by omega,by omega⟩
   obtain⟨b,off,rfl,c1⟩:=hc m (by omega);obtain⟨v,hv⟩:∃v,Au (nx l m) t=v:=⟨_,rfl⟩;have HV:Hd (Au (nx l m) t=v):=hv;(have HN:Hd (∀W:World,Calls Tryz.prog 129 #[.string (nx l m),.string t] W λe w'=>e=.returned (.bool v)∧W=w'):=λW=>by rw[←hv];exact Se _ _ W);clear hc hv;generalize nx l m=s at c1 HN;(have D9:(m:Int)<(l.length:Int):=by omega);cases v
   ·go_wp2_with (go_at_call 129;refine(HN.o _).mono ?_;rintro e w' ⟨rfl,rfl⟩)
    go_roundw
    case rel=>exact⟨lo,m,rfl,rfl,we,by omega,HL.o,Tv jw.o HV.o,trivial⟩
    case measure=>simp[intOf];omega
   ·go_wp2_with (go_at_call 129;refine(HN.o _).mono ?_;rintro e w' ⟨rfl,rfl⟩)
    go_roundw
    case rel=>exact⟨m+1,hi,by go_num,rfl,by omega,by omega,Zo jw.o (by omega) HV.o,HH.o,trivial⟩
    case measure=>simp[intOf];omega
  ·obtain rfl:lo=hi:=by omega
   by_cases ym:lo<l.length
   ·obtain⟨b,off,rfl,c1⟩:=hc lo ym
    have hlI:(lo:Int)<(l.length:Int):=by omega
    by_cases he:nx l lo=t
    ·have pj:=Fd he
     have HE:Hd (nx l lo=t):=he;clear hc he;generalize nx l lo=s at c1 pj;go_wp2
     go_ret2
     exact⟨rfl,lo,true,rfl,Or.inl ⟨rfl,ym,HE.o⟩⟩
    ·have pj:=Hh he
     have HE:Hd (nx l lo≠t):=he;clear hc he;have hss:=Fd (rfl:nx l lo=nx l lo);generalize nx l lo=s at c1 pj hss;go_wp2
     go_ret2
     exact⟨rfl,lo,false,rfl,Or.inr ⟨rfl,λh=>HE.o (Nf jw.o HL.o HH.o h).2⟩⟩
   ·have hlI:¬ (lo:Int)<(l.length:Int):=by omega
    have G0:Hd (¬ lo<l.length):=ym;go_wp2
    go_ret2
    exact⟨rfl,lo,Or.inl ⟨rfl,λh=>G0.o (Nf jw.o HL.o HH.o h).1⟩⟩
def Fh(n:X)(ts:L By)(t A:By)(ok:Bool):Prop:=(ok=true∧∃i,i<ts.length∧Aq n (nx ts i)=t∧A=nx ts i)∨(ok=false∧A=⟨#[]⟩∧¬ Eg (ts.map (Aq n)) t)
theorem has_sums{t:By}{i:X}(h:i<ts.length)(e:Aq n (nx ts i)=t):Eg (ts.map (Aq n)) t:=⟨i,by rw[List.length_map];exact h,by rw[Hi n ts i h];exact e⟩
theorem Fh.unique{t A A':By}{ok ok':Bool}(ha:Fu (ts.map (Aq n)))(h:Fh n ts t A ok)(h':Fh n ts t A' ok'):A'=A∧ok'=ok:=by
 rcases h with⟨rfl,i,h1,h2,rfl⟩|⟨rfl,rfl,h1⟩<;>rcases h' with⟨rfl,j,k1,k2,rfl⟩|⟨rfl,rfl,k1⟩
 ·have:i=j:=by
   have hs:∀i,i<ts.length→nx (ts.map (Aq n)) i=Aq n (nx ts i):=λi h=>Hi n ts i h
   rcases Nat.lt_trichotomy i j with t7|t7|t7
   ·have:=ha.pair t7 (by rw[List.length_map];exact k1)
    rw[hs i h1,hs j k1,h2,k2,Et]at this;cases this
   ·exact t7
   ·have:=ha.pair t7 (by rw[List.length_map];exact h1)
    rw[hs i h1,hs j k1,h2,k2,Et]at this;cases this
  subst this;exact⟨rfl,rfl⟩
 ·exact absurd (has_sums h1 h2) k1
 ·exact absurd (has_sums k1 k2) h1
 ·exact⟨rfl,rfl⟩
def Ha(ts:L By)(x:By)(r:X):L By:=ts.take r++[x]++ts.drop r
theorem Ix(ts:L By)(x:By)(r:X)(h:r≤ts.length):(Ha ts x r).length=ts.length+1:=by simp[Ha];omega
theorem Qf(ts:L By)(x:By)(r:X):(Ha ts x r).map Value.string=(ts.map Value.string).take r++[S x]++(ts.map Value.string).drop r:=by simp[Ha,List.map_take,List.map_drop]
def Hu(n:X)(ts:L By)(x:By)(r:X):Prop:=r<ts.length∧Aq n (nx ts r)=Aq n x
theorem Gx{is:L I3}(h:Ao is=true):1≤is.length∧is.length≤200:=by
 unfold Ao at h;simp only[Bool.and_eq_true,decide_eq_true_eq]at h;exact⟨h.1.1,h.1.2⟩
theorem Ho{v5 v6:Z}(h:w.heap[b]?=M (O #[v1,v2,v3,v4,v5,v6] T (0,0))):w.cell? ⟨b,0,N⟩=M v1∧w.cell? ⟨b,1,N⟩=M v2∧w.cell? ⟨b,2,N⟩=M v3∧w.cell? ⟨b,3,N⟩=M v4∧w.cell? ⟨b,4,N⟩=M v5∧w.cell? ⟨b,5,N⟩=M v6:=
 ⟨qaj,qaj,qaj,qaj,qaj,qaj⟩
theorem Jb{R:X}(h:Below B w w')(hR:B≤R)(u1 u2 u3 u4 u5 u6:Z):Below B w ((((((w'.setCell ⟨R,0,N⟩ u1).setCell ⟨R,1,N⟩ u2).setCell ⟨R,2,N⟩ u3).setCell ⟨R,3,N⟩ u4).setCell ⟨R,4,N⟩ u5).setCell ⟨R,5,N⟩ u6):=
 (((((h.setCell (p:=⟨R,0,N⟩) hR _).setCell (p:=⟨R,1,N⟩) hR _).setCell (p:=⟨R,2,N⟩) hR _).setCell (p:=⟨R,3,N⟩) hR _).setCell (p:=⟨R,4,N⟩) hR _).setCell (p:=⟨R,5,N⟩) hR _
structure ShG (w:E) (g lo hi n:X) (sv tv qv:Z) (ss ts:L By) (rs:L T3):Prop where
 blk:w.heap[g]?=M (O #[I (n:Int),tv,qv,sv] 124 (0,0))
 sx:De w lo hi sv ss
 tx:De w lo hi tv ts
 qs:Ht w lo hi qv rs
 ne:∀b,sv.ownBlock=M b→tv.ownBlock≠M b
def ShO(w:E)(g lo hi n:X)(sv tv qv:Z)(ts:L By)(rs:L T3):Prop:=ShG w g lo hi n sv tv qv (ts.map (Aq n)) ts rs
theorem ShG.bl{g lo hi:X}{sv tv qv:Z}{ss:L By}{rs:L T3}(h:ShG w g lo hi n sv tv qv ss ts rs)(hb:Bw w w'):ShG w' g lo hi n sv tv qv ss ts rs:=⟨Af h.blk hb,h.sx.bl hb,h.tx.bl hb,h.qs.bl hb,h.ne⟩
theorem Kh(h:w.heap[b]?=M (O #[v1,v2,v3,v4] T (0,0))):w.cell? ⟨b,0,N⟩=M v1∧w.cell? ⟨b,1,N⟩=M v2∧w.cell? ⟨b,2,N⟩=M v3∧w.cell? ⟨b,3,N⟩=M v4∧∀j,w.frozen? ⟨b,j,N⟩=false:=by
 refine⟨?_,?_,?_,?_,λj=>fH h j⟩<;>rw[cH h]<;>rfl
theorem blk4_set3(hz:w.heap[P]?=M (O #[x,y,z,t] T (0,0)))(u1 u2 u3:Z):(((w.setCell ⟨P,0,N⟩ u1).setCell ⟨P,1,N⟩ u2).setCell ⟨P,2,N⟩ u3).heap[P]?=M (O #[u1,u2,u3,t] T (0,0)):=by
 rw[jB (jB (jB hz u1) u2) u3];rfl
theorem blk4_s3(hz:w.heap[P]?=M (O #[x,y,z,t] T (0,0)))(u:Z):(w.setCell ⟨P,3,N⟩ u).heap[P]?=M (O #[x,y,z,u] T (0,0)):=by
 rw[jB hz u];rfl
theorem blk4_s1(hz:w.heap[P]?=M (O #[x,y,z,t] T (0,0)))(u:Z):(w.setCell ⟨P,1,N⟩ u).heap[P]?=M (O #[x,u,z,t] T (0,0)):=by
 rw[jB hz u];rfl
theorem below_set3P(hb:Below B w w')(h:B≤b)(v0 v1 v2:Z):Below B w (((w'.setCell ⟨b,0,N⟩ v0).setCell ⟨b,1,N⟩ v1).setCell ⟨b,2,N⟩ v2):=
 ((hb.setCell (p:=⟨b,0,N⟩) h _).setCell (p:=⟨b,1,N⟩) h _).setCell (p:=⟨b,2,N⟩) h _
theorem map_insX(n:X)(ts:L By)(x:By)(r:X):(Ha ts x r).map (Aq n)=Ha (ts.map (Aq n)) (Aq n x) r:=by simp[Ha,List.map_take,List.map_drop]
def Jd(n:X)(ts:L By)(x:By)(r:X)(cd:Int)(ts':L By)(A B:By):Prop:=
 (Hu n ts x r∧nx ts r≠x∧cd=2∧ts'=ts∧A=nx ts r∧B=x)∨
 (Hu n ts x r∧nx ts r=x∧cd=0∧ts'=ts∧A=⟨#[]⟩∧B=⟨#[]⟩)∨
 (¬ Hu n ts x r∧5000≤ts.length∧cd=3∧ts'=ts∧A=⟨#[]⟩∧B=⟨#[]⟩)∨
 (¬ Hu n ts x r∧¬ 5000≤ts.length∧cd=0∧ts'=Ha ts x r∧A=⟨#[]⟩∧B=⟨#[]⟩)

end Go.Proofs.YtoakjccojifagaaGreatDoor
