import Derived.Test.YtoihflimijabjaaGreatDoorTChkS
import Derived.Test.YtoihflimijabjaaGreatDoorVsB
import Derived.Test.YtoihflimijabjaaGreatDoorVsC
namespace Go.Proofs.YtoihflimijabjaaGreatDoor
open Ending renaming returned->H
open Value renaming slice->J,string->S
open Option renaming some->M,none->N
open Obj renaming cells->O
open Go renaming Value->Z,World->E
open _root_ renaming List->L,Nat->X
set_option maxHeartbeats 2000000
open _root_.Go.Proofs.Tryz Go.RowKit
set_option linter.unusedVariables false
set_option linter.unusedSimpArgs false
variable {n r b T B R hi g lo' hi' P g3 l3:X} {ts ss ts':L By} {A:By} {v1 v2 v3 v4 v sv tv qv x y z:Z} {w' w2 w3:E} {rs:L T3}
structure Oe (n:X) (ts:L By) (t:By) (r:X):Prop where
 le:r≤ts.length
 lo:∀j,j<r→Aw (Ap n (nx ts j)) t=true
 hi:r<ts.length→Aw (Ap n (nx ts r)) t=false
theorem Oe.unique{t:By}{r':X}(h:Oe n ts t r)(h':Oe n ts t r'):r=r':=by
 rcases Nat.lt_trichotomy r r' with k|k|k
 ·have h1:=h.hi (zo h'.le)
  rw[h'.lo r k]at h1;cases h1
 ·exact k
 ·have h1:=h'.hi (zo h.le)
  rw[h.lo r' k]at h1;cases h1
open Go.RowKit
set_option linter.unusedVariables false
def Dt(n:X)(ts:L By)(t A:By)(ok:Bool):Prop:=(ok=true∧∃i,i<ts.length∧Ap n (nx ts i)=t∧A=nx ts i)∨(ok=false∧A=⟨#[]⟩∧¬ Hs (ts.map (Ap n)) t)
theorem Xr{t:By}{i:X}(h:i<ts.length)(e:Ap n (nx ts i)=t):Hs (ts.map (Ap n)) t:=⟨i,by rw[List.length_map];exact h,by rw[Gj n ts i h];exact e⟩
theorem Dt.unique{t A':By}{ok ok':Bool}(ha:Fg (ts.map (Ap n)))(h:Dt n ts t A ok)(h':Dt n ts t A' ok'):A'=A∧ok'=ok:=by
 rcases h with⟨rfl,i,h1,h2,rfl⟩|⟨rfl,rfl,h1⟩<;>rcases h' with⟨rfl,j,k1,k2,rfl⟩|⟨rfl,rfl,k1⟩
 ·have:i=j:=by
   have hs:∀i,i<ts.length→nx (ts.map (Ap n)) i=Ap n (nx ts i):=λi h=>Gj n ts i h
   rcases Nat.lt_trichotomy i j with l7|l7|l7
   ·have:=ha.pair l7 (by rw[List.length_map];exact k1)
    rw[hs i h1,hs j k1,h2,k2,Em]at this;cases this
   ·exact l7
   ·have:=ha.pair l7 (by rw[List.length_map];exact h1)
    rw[hs i h1,hs j k1,h2,k2,Em]at this;cases this
  subst this;exact⟨rfl,rfl⟩
 ·exact absurd (Xr h1 h2) k1
 ·exact absurd (Xr k1 k2) h1
 ·exact⟨rfl,rfl⟩
open Go.RowKit
set_option linter.unusedVariables false
theorem Qk(a:Option Addr)(cap:X)(l:L By)(t:By)(w:E)(si:Cs w a l)(hl:l.length≤1048576)(l8:Fg l):Calls prog 38 #[J a l.length cap,S t] w λe w'=>w=w'∧∃(r:X)(b:Bool),e=.returned (.tuple #[I r,.bool b])∧r≤l.length∧(∀j,j<r→Aw (nx l j) t=true)∧(∀j,r≤j→j<l.length→Aw (nx l j) t=false)∧((b=true∧r<l.length∧nx l r=t)∨(b=false∧¬ (r<l.length∧nx l r=t))):=by
 have rz:Hd (Fg l):=l8;have hc:∀i,i<l.length→∃b off,a=M ⟨b,off,N⟩∧w.cell? ⟨b,off+i,N⟩=M (S (nx l i)):=λi hi=>si i hi;clear l8 si;go_enter func38,ntmps38;go_wp2
 go_loopw [7,8] (λi j wr=>∃lo hi:X,i=I lo∧j=I hi∧lo≤hi∧hi≤l.length∧Hd (∀j,j<lo→Aw (nx l j) t=true)∧Hd (∀j,hi≤j→j<l.length→Aw (nx l j) t=false)∧w=wr) (λi j _=>(intOf j).toNat-(intOf i).toNat)
 case atStart=>exact⟨0,l.length,rfl,rfl,Nat.zero_le _,Nat.le_refl _,(λj hj=>by omega:∀j,j<0→Aw (nx l j) t=true),(λj h1 h2=>by omega:∀j,l.length≤j→j<l.length→Aw (nx l j) t=false),rfl⟩
 case round=>
  obtain⟨lo,hi,rfl,rfl,h1,h2,HL,HH,rfl⟩:=hrel
  by_cases au:lo<hi
  ·exact qhg
  ·obtain rfl:lo=hi:=qg
   by_cases D2:lo<l.length
   ·obtain⟨b,off,rfl,c1⟩:=hc lo D2
    have hlI:(lo:Int)<(l.length:Int):=qg
    by_cases he:nx l lo=t
    ·have jj:=Eu he
     have HE:Hd (nx l lo=t):=he;clear hc he;generalize nx l lo=s at c1 jj;go_wp2
     go_ret2
     exact⟨rfl,lo,true,rfl,h2,HL.o,HH.o,Or.inl ⟨rfl,D2,HE.o⟩⟩
    ·have jj:=Fx he
     have HE:Hd (nx l lo≠t):=he;clear hc he;have hss:=Eu (rfl:nx l lo=nx l lo);generalize nx l lo=s at c1 jj hss;go_wp2
     go_ret2
     exact⟨rfl,lo,false,rfl,h2,HL.o,HH.o,Or.inr ⟨rfl,λh=>HE.o h.2⟩⟩
   ·have hlI:¬ (lo:Int)<(l.length:Int):=qg
    have HLL:Hd (¬ lo<l.length):=D2;go_wp2
    go_ret2
    exact⟨rfl,lo,Or.inl ⟨rfl,h2,HL.o,HH.o,λh=>absurd h HLL.o⟩⟩
open Go.RowKit
set_option linter.unusedVariables false
open Go.RowKit
set_option linter.unusedVariables false
def Fp(ts:L By)(x:By)(r:X):L By:=ts.take r++[x]++ts.drop r
theorem Hm(ts:L By)(x:By)(r:X)(h:r≤ts.length):(Fp ts x r).length=ts.length+1:=by simp[Fp];omega
theorem Np(ts:L By)(x:By)(r:X):(Fp ts x r).map Value.string=(ts.map Value.string).take r++[S x]++(ts.map Value.string).drop r:=by simp[Fp,List.map_take,List.map_drop]
def Eh(n:X)(ts:L By)(x:By)(r:X):Prop:=r<ts.length∧Ap n (nx ts r)=Ap n x
theorem Fz{is:L I3}(h:Aq is=true):1≤is.length∧is.length≤200:=by
 unfold Aq at h;simp only[Bool.and_eq_true,decide_eq_true_eq]at h;exact⟨h.1.1,h.1.2⟩
def Og(n:Int)(ts:L By)(rs:L T3)(x:By)(cd wd:Int)(ts':L By)(my:L T3)(A B:By):Prop:=
 (¬ (Cz n ts rs∧x.size≤2002)∧cd=1∧wd=0∧ts'=[]∧my=[]∧A=⟨#[]⟩∧B=⟨#[]⟩)∨
 ((Cz n ts rs∧x.size≤2002)∧∃r,Oe n.toNat ts (Ap n.toNat x) r∧
   ((Eh n.toNat ts x r∧nx ts r≠x∧cd=2∧wd=0∧ts'=[]∧my=[]∧A=nx ts r∧B=x)∨
    (Eh n.toNat ts x r∧nx ts r=x∧cd=0∧wd=n∧ts'=ts∧my=rs∧A=⟨#[]⟩∧B=⟨#[]⟩)∨
    (¬ Eh n.toNat ts x r∧5000≤ts.length∧cd=3∧wd=0∧ts'=[]∧my=[]∧A=⟨#[]⟩∧B=⟨#[]⟩)∨
    (¬ Eh n.toNat ts x r∧¬ 5000≤ts.length∧cd=0∧wd=n∧ts'=Fp ts x r∧my=rs∧A=⟨#[]⟩∧B=⟨#[]⟩)))
open Go.RowKit Go.Deep
set_option linter.unusedVariables false
theorem Bx{w:E}{v5 v6:Z}(h:w.heap[b]?=M (O #[v1,v2,v3,v4,v5,v6] T (0,0))):w.cell? ⟨b,0,N⟩=M v1∧w.cell? ⟨b,1,N⟩=M v2∧w.cell? ⟨b,2,N⟩=M v3∧w.cell? ⟨b,3,N⟩=M v4∧w.cell? ⟨b,4,N⟩=M v5∧w.cell? ⟨b,5,N⟩=M v6:=
 ⟨qah,qah,qah,qah,qah,qah⟩
theorem Dh{w:E}(h:Below B w w')(hR:B≤R)(u1 u2 u3 u4 u5 u6:Z):Below B w ((((((w'.setCell ⟨R,0,N⟩ u1).setCell ⟨R,1,N⟩ u2).setCell ⟨R,2,N⟩ u3).setCell ⟨R,3,N⟩ u4).setCell ⟨R,4,N⟩ u5).setCell ⟨R,5,N⟩ u6):=
 (((((h.setCell (p:=⟨R,0,N⟩) hR _).setCell (p:=⟨R,1,N⟩) hR _).setCell (p:=⟨R,2,N⟩) hR _).setCell (p:=⟨R,3,N⟩) hR _).setCell (p:=⟨R,4,N⟩) hR _).setCell (p:=⟨R,5,N⟩) hR _
open Go.RowKit Go.Deep
set_option linter.unusedVariables false
open Go.RowKit Go.Deep
set_option linter.unusedVariables false
theorem Cn.set6{w:E}{lo:X}(h:Cn w lo hi v ts)(hR:R<lo)(u1 u2 u3 u4 u5 u6:Z):Cn ((((((w.setCell ⟨R,0,N⟩ u1).setCell ⟨R,1,N⟩ u2).setCell ⟨R,2,N⟩ u3).setCell ⟨R,3,N⟩ u4).setCell ⟨R,4,N⟩ u5).setCell ⟨R,5,N⟩ u6) lo hi v ts:=
 (((((h.set hR _).set hR _).set hR _).set hR _).set hR _).set hR _
theorem Ct.set6{w:E}{lo:X}(h:Ct w lo hi v rs)(hR:R<lo)(u1 u2 u3 u4 u5 u6:Z):Ct ((((((w.setCell ⟨R,0,N⟩ u1).setCell ⟨R,1,N⟩ u2).setCell ⟨R,2,N⟩ u3).setCell ⟨R,3,N⟩ u4).setCell ⟨R,4,N⟩ u5).setCell ⟨R,5,N⟩ u6) lo hi v rs:=
 (((((h.set hR _).set hR _).set hR _).set hR _).set hR _).set hR _
open Go.RowKit Go.Deep
set_option linter.unusedVariables false
structure Jz (w:E) (g lo hi n:X) (sv tv qv:Z) (ss ts:L By) (rs:L T3):Prop where
 blk:w.heap[g]?=M (O #[I (n:Int),tv,qv,sv] 62 (0,0))
 sx:Cn w lo hi sv ss
 tx:Cn w lo hi tv ts
 qs:Ct w lo hi qv rs
 ne:∀b,sv.ownBlock=M b→tv.ownBlock≠M b
def ShO(w:E)(g lo hi n:X)(sv tv qv:Z)(ts:L By)(rs:L T3):Prop:=Jz w g lo hi n sv tv qv (ts.map (Ap n)) ts rs
theorem Jz.bl{w:E}{lo:X}(h:Jz w g lo hi n sv tv qv ss ts rs)(hb:Bw w w'):Jz w' g lo hi n sv tv qv ss ts rs:=⟨Ac h.blk hb,h.sx.bl hb,h.tx.bl hb,h.qs.bl hb,h.ne⟩
theorem Jz.wide{w:E}{lo:X}(h:Jz w g lo hi n sv tv qv ss ts rs)(h1:lo'≤lo)(h2:hi≤hi'):Jz w g lo' hi' n sv tv qv ss ts rs:=⟨h.blk,h.sx.wide h1 h2,h.tx.wide h1 h2,h.qs.wide h1 h2,h.ne⟩
theorem Jz.keep{w:E}{lo:X}(h:Jz w g lo hi n sv tv qv ss ts rs)(hk:Fe lo' hi' w w')(hg:g<lo'∨hi'≤g)(hd:hi≤lo'∨hi'≤lo):Jz w' g lo hi n sv tv qv ss ts rs:=⟨blk_keepR h.blk hk hg,h.sx.keep hk hd,h.tx.keep hk hd,h.qs.keep hk hd,h.ne⟩
theorem Jz.lt{w:E}{lo:X}(h:Jz w g lo hi n sv tv qv ss ts rs):g<w.heap.size:=An h.blk
theorem Jz.setT{w:E}{lo j:X}(h:Jz w g lo hi n sv tv qv ss ts rs)(ht:Ai w b T)(hg:b≠g)(h9:T≠9)(h1:T≠56)(h2:T≠103)(h3:T≠79)(u:Z):Jz (w.setCell ⟨b,j,N⟩ u) g lo hi n sv tv qv ss ts rs:=
 ⟨by rw[hC w ⟨b,j,N⟩ u g (by show g≠b;omega)];exact h.blk,h.sx.setT ht h9 u,h.tx.setT ht h9 u,h.qs.setT ht h1 h2 h3 u,h.ne⟩
theorem Lp{w:E}(h:w.heap[b]?=M (O #[v1,v2,v3,v4] T (0,0))):w.cell? ⟨b,0,N⟩=M v1∧w.cell? ⟨b,1,N⟩=M v2∧w.cell? ⟨b,2,N⟩=M v3∧w.cell? ⟨b,3,N⟩=M v4∧∀j,w.frozen? ⟨b,j,N⟩=false:=by
 refine⟨?_,?_,?_,?_,λj=>fH h j⟩<;>rw[cH h]<;>rfl
theorem blk4_set3{w:E}{t:Z}(hz:w.heap[P]?=M (O #[x,y,z,t] T (0,0)))(u1 u2 u3:Z):(((w.setCell ⟨P,0,N⟩ u1).setCell ⟨P,1,N⟩ u2).setCell ⟨P,2,N⟩ u3).heap[P]?=M (O #[u1,u2,u3,t] T (0,0)):=by
 rw[jB (jB (jB hz u1) u2) u3];rfl
theorem blk4_s3{w:E}{t:Z}(hz:w.heap[P]?=M (O #[x,y,z,t] T (0,0)))(u:Z):(w.setCell ⟨P,3,N⟩ u).heap[P]?=M (O #[x,y,z,u] T (0,0)):=by
 rw[jB hz u];rfl
theorem blk4_s1{w:E}{t:Z}(hz:w.heap[P]?=M (O #[x,y,z,t] T (0,0)))(u:Z):(w.setCell ⟨P,1,N⟩ u).heap[P]?=M (O #[x,u,z,t] T (0,0)):=by
 rw[jB hz u];rfl
theorem Eg{w:E}(hb:Below B w w')(h:B≤b)(v0 v1 v2:Z):Below B w (((w'.setCell ⟨b,0,N⟩ v0).setCell ⟨b,1,N⟩ v1).setCell ⟨b,2,N⟩ v2):=
 ((hb.setCell (p:=⟨b,0,N⟩) h _).setCell (p:=⟨b,1,N⟩) h _).setCell (p:=⟨b,2,N⟩) h _
theorem Jz.insS{w:E}{lo c3:X}{ss':L By}(h:Jz w g lo hi n sv tv qv ss ts rs)(hh:hi≤w.heap.size)(hb:Bw w w2)(hl:l3=ss'.length)(ho:w3.ownsRow lo 9 1 (J (p_ g3) l3 c3) l3 (ss'.map .string))(hk:Ih sv.ownBlock w2 w3)(hs:w2.heap.size≤w3.heap.size)(br:sv.ownBlock=M g3∨g3=w2.heap.size):Jz (w3.setCell ⟨g,3,N⟩ (J (p_ g3) l3 c3)) g lo w3.heap.size n (J (p_ g3) l3 c3) tv qv ss' ts rs:=by
 subst hl;have h2:=h.bl hb;have hbs:=hb.size;have au:=h2.lt;have os:=Ck.own h2.sx;have ot:=Ck.own h2.tx
 have kg:w3.heap[g]?=M (O #[I (n:Int),tv,qv,sv] 62 (0,0)):=by
  rw[hk g au (λe=>Ai.ne (T:=62) ⟨_,h2.blk⟩ os qh e.symm)];exact h2.blk
 have ht:Ai w3 g 62:=⟨_,kg⟩;have t3:Cn w3 lo w3.heap.size tv ts:=Cn.wide (Ck.same h2.tx λb e=>hk b (ot.lt b e).2 (λe'=>h.ne b e'.symm e)) (Nat.le_refl _) qg;have q3:Ct w3 lo w3.heap.size qv rs:=(h2.qs.keepO os hk qh qh qh).wide (Nat.le_refl _) qg;have s3:Cn w3 lo w3.heap.size (J (p_ g3) ss'.length c3) ss':=Ck.new ho;refine⟨blk4_s3 kg _,s3.setT ht qh _,t3.setT ht qh _,q3.setT ht qh qh qh _,?_⟩;intro b e e';obtain rfl:g3=b:=by simpa [Value.ownBlock] using e
 rcases br with hl|hl
 ·exact h.ne g3 hl e'
 ·have:=(ot.lt g3 e').2;omega
theorem Jz.insT{w:E}{lo c3:X}(h:Jz w g lo hi n sv tv qv ss ts rs)(hh:hi≤w.heap.size)(hb:Bw w w2)(hl:l3=ts'.length)(ho:w3.ownsRow lo 9 1 (J (p_ g3) l3 c3) l3 (ts'.map .string))(hk:Ih tv.ownBlock w2 w3)(hs:w2.heap.size≤w3.heap.size)(br:tv.ownBlock=M g3∨g3=w2.heap.size):Jz (w3.setCell ⟨g,1,N⟩ (J (p_ g3) l3 c3)) g lo w3.heap.size n sv (J (p_ g3) l3 c3) qv ss ts' rs:=by
 subst hl;have h2:=h.bl hb;have hbs:=hb.size;have au:=h2.lt;have os:=Ck.own h2.sx;have ot:=Ck.own h2.tx
 have kg:w3.heap[g]?=M (O #[I (n:Int),tv,qv,sv] 62 (0,0)):=by
  rw[hk g au (λe=>Ai.ne (T:=62) ⟨_,h2.blk⟩ ot qh e.symm)];exact h2.blk
 have ht:Ai w3 g 62:=⟨_,kg⟩;have s3:Cn w3 lo w3.heap.size sv ss:=Cn.wide (Ck.same h2.sx λb e=>hk b (os.lt b e).2 (λe'=>h.ne b e e'.symm)) (Nat.le_refl _) qg;have q3:Ct w3 lo w3.heap.size qv rs:=(h2.qs.keepO ot hk qh qh qh).wide (Nat.le_refl _) qg;have t3:Cn w3 lo w3.heap.size (J (p_ g3) ts'.length c3) ts':=Ck.new ho;refine⟨blk4_s1 kg _,s3.setT ht qh _,t3.setT ht qh _,q3.setT ht qh qh qh _,?_⟩;intro b e e';obtain rfl:g3=b:=by simpa [Value.ownBlock] using e'
 rcases br with hl|hl
 ·exact h.ne g3 e hl
 ·have:=(os.lt g3 e).2;omega
open Go.RowKit Go.Deep
set_option linter.unusedVariables false
theorem map_insX(n:X)(ts:L By)(x:By)(r:X):(Fp ts x r).map (Ap n)=Fp (ts.map (Ap n)) (Ap n x) r:=by simp[Fp,List.map_take,List.map_drop]
def Hc(n:X)(ts:L By)(x:By)(r:X)(cd:Int)(ts':L By)(A B:By):Prop:=
 (Eh n ts x r∧nx ts r≠x∧cd=2∧ts'=ts∧A=nx ts r∧B=x)∨
 (Eh n ts x r∧nx ts r=x∧cd=0∧ts'=ts∧A=⟨#[]⟩∧B=⟨#[]⟩)∨
 (¬ Eh n ts x r∧5000≤ts.length∧cd=3∧ts'=ts∧A=⟨#[]⟩∧B=⟨#[]⟩)∨
 (¬ Eh n ts x r∧¬ 5000≤ts.length∧cd=0∧ts'=Fp ts x r∧A=⟨#[]⟩∧B=⟨#[]⟩)
open Go.RowKit Go.Deep
set_option linter.unusedVariables false

theorem Jz.set6T{w:E}{lo:X}(h:Jz w g lo hi n sv tv qv ss ts rs)(ht:Ai w R 31)(hg:R≠g)(u1 u2 u3 u4 u5 u6:Z):Jz ((((((w.setCell ⟨R,0,N⟩ u1).setCell ⟨R,1,N⟩ u2).setCell ⟨R,2,N⟩ u3).setCell ⟨R,3,N⟩ u4).setCell ⟨R,4,N⟩ u5).setCell ⟨R,5,N⟩ u6) g lo hi n sv tv qv ss ts rs:=
 (((((h.setT ht hg qh qh qh qh u1).setT (ht.set u1) hg qh qh qh qh u2).setT ((ht.set u1).set u2) hg qh qh qh qh u3).setT (((ht.set u1).set u2).set u3) hg qh qh qh qh u4).setT ((((ht.set u1).set u2).set u3).set u4) hg qh qh qh qh u5).setT (((((ht.set u1).set u2).set u3).set u4).set u5) hg qh qh qh qh u6
open Go.RowKit Go.Deep
set_option linter.unusedVariables false
theorem Og.put{x B:By}{cd:Int}(cm:Cz n ts rs∧x.size≤2002)(hp:Oe n ts (Ap n x) r)(h:Hc n ts x r cd ts' A B):(cd=0∧A=⟨#[]⟩∧B=⟨#[]⟩∧Og (n:Int) ts rs x 0 n ts' rs ⟨#[]⟩ ⟨#[]⟩)∨(cd≠0∧Og (n:Int) ts rs x cd 0 [] [] A B):=by
 rcases h with⟨a,b,rfl,rfl,rfl,rfl⟩|⟨a,b,rfl,rfl,rfl,rfl⟩|⟨a,b,rfl,rfl,rfl,rfl⟩|⟨a,b,rfl,rfl,rfl,rfl⟩
 ·exact Or.inr ⟨qh,Or.inr ⟨cm,r,hp,Or.inl ⟨a,b,rfl,rfl,rfl,rfl,rfl,rfl⟩⟩⟩
 ·exact Or.inl ⟨rfl,rfl,rfl,Or.inr ⟨cm,r,hp,Or.inr (Or.inl ⟨a,b,rfl,rfl,rfl,rfl,rfl,rfl⟩)⟩⟩
 ·exact Or.inr ⟨qh,Or.inr ⟨cm,r,hp,Or.inr (Or.inr (Or.inl ⟨a,b,rfl,rfl,rfl,rfl,rfl,rfl⟩))⟩⟩
 ·exact Or.inl ⟨rfl,rfl,rfl,Or.inr ⟨cm,r,hp,Or.inr (Or.inr (Or.inr ⟨a,b,rfl,rfl,rfl,rfl,rfl,rfl⟩))⟩⟩
end Go.Proofs.YtoihflimijabjaaGreatDoor
