import Derived.Test.YtbkkjodaaijimaaGreatDoorVsB
import Derived.Test.YtbkkjodaaijimaaGreatDoorVsC
namespace Go.Proofs.YtbkkjodaaijimaaGreatDoor
open Value renaming slice->J,string->S
open Option renaming some->M,none->N
open Obj renaming cells->O
open Go renaming Value->Z,World->E
open _root_ renaming List->L,Nat->X
set_option maxHeartbeats 2000000
open _root_.Go.Proofs.Tryz Go.RowKit Go.Deep
set_option linter.unusedVariables false
set_option linter.unusedSimpArgs false
variable {n b T B R lo hi g lo' hi' P g3 l3 c3:X} {ts ss:L By} {t:By} {w w' w2 w3:E} {v1 v2 v3 v4 sv tv qv x y z:Z} {rs:L T3}
structure Rp (n:X) (ts:L By) (t:By) (r:X):Prop where
 le:r≤ts.length
 lo:∀j,j<r→Ap (Av n (nx ts j)) t=true
 hi:r<ts.length→Ap (Av n (nx ts r)) t=false
theorem Rp.unique{r r':X}(h:Rp n ts t r)(h':Rp n ts t r'):r=r':=by
 rcases Nat.lt_trichotomy r r' with k|k|k
 ·have h1:=h.hi (zo h'.le)
  rw[h'.lo r k]at h1;cases h1
 ·exact k
 ·have h1:=h'.hi (zo h.le)
  rw[h.lo r' k]at h1;cases h1
theorem Ss(a:Option Addr)(cap:Nat)(l:List ByteArray)(t:ByteArray)(w:World)(C8:Cc w a l)(hl:l.length≤1048576)(eg:Fs l):Calls Tryz.prog 141 #[.slice a l.length cap,.string t] w λe w'=>w=w'∧∃(r:Nat)(b:Bool),e=.returned (.tuple #[.int .i64 r,.bool b])∧r≤l.length∧(∀j,j<r→Ap (nx l j) t=true)∧(∀j,r≤j→j<l.length→Ap (nx l j) t=false)∧((b=true∧r<l.length∧nx l r=t)∨(b=false∧¬ (r<l.length∧nx l r=t))):=by
 have je:Hd (Fs l):=eg;have hc:∀i,i<l.length→∃b off,a=some ⟨b,off,none⟩∧w.cell? ⟨b,off+i,none⟩=some (.string (nx l i)):=λi hi=>C8 i hi;clear eg C8;go_enter Tryz.func141,Tryz.ntmps141;go_wp2
 go_loopw [7,8] (λi j wr=>∃lo hi:Nat,i=.int .i64 lo∧j=.int .i64 hi∧lo≤hi∧hi≤l.length∧Hd (∀j,j<lo→Ap (nx l j) t=true)∧Hd (∀j,hi≤j→j<l.length→Ap (nx l j) t=false)∧w=wr) (λi j _=>(intOf j).toNat-(intOf i).toNat)
 case atStart=>exact⟨0,l.length,rfl,rfl,Nat.zero_le _,Nat.le_refl _,(λj hj=>by omega:∀j,j<0→Ap (nx l j) t=true),(λj h1 h2=>by omega:∀j,l.length≤j→j<l.length→Ap (nx l j) t=false),rfl⟩
 case round=>
  obtain⟨lo,hi,rfl,rfl,h1,h2,HL,HH,rfl⟩:=hrel
  by_cases aj:lo<hi
  ·obtain⟨m,e1,up,rd⟩:∃m:Nat,((lo:Int)+(hi:Int)) / 2=(m:Int)∧lo≤m∧m<hi:=⟨(lo+hi) / 2,by omega,by omega,by omega⟩
   obtain⟨b,off,rfl,c1⟩:=hc m (by omega);obtain⟨v,hv⟩:∃v,Ap (nx l m) t=v:=⟨_,rfl⟩;have HV:Hd (Ap (nx l m) t=v):=hv;(have HN:Hd (∀W:World,Calls Tryz.prog 73 #[.string (nx l m),.string t] W λe w'=>e=.returned (.bool v)∧W=w'):=λW=>by rw[←hv];exact Rl _ _ W);clear hc hv;generalize nx l m=s at c1 HN;(have V4:(m:Int)<(l.length:Int):=by omega);cases v
   ·go_wp2_with (go_at_call 73;refine(HN.o _).mono ?_;rintro e w' ⟨rfl,rfl⟩)
    go_roundw
    case rel=>exact⟨lo,m,rfl,rfl,up,by omega,HL.o,Sy je.o HV.o,trivial⟩
    case measure=>simp[intOf];omega
   ·go_wp2_with (go_at_call 73;refine(HN.o _).mono ?_;rintro e w' ⟨rfl,rfl⟩)
    go_roundw
    case rel=>exact⟨m+1,hi,by go_num,rfl,by omega,by omega,Yv je.o (by omega) HV.o,HH.o,trivial⟩
    case measure=>simp[intOf];omega
  ·obtain rfl:lo=hi:=by omega
   by_cases vt:lo<l.length
   ·obtain⟨b,off,rfl,c1⟩:=hc lo vt
    have hlI:(lo:Int)<(l.length:Int):=by omega
    by_cases he:nx l lo=t
    ·have n6:=Dg he
     have HE:Hd (nx l lo=t):=he;clear hc he;generalize nx l lo=s at c1 n6;go_wp2
     go_ret2
     exact⟨rfl,lo,true,rfl,h2,HL.o,HH.o,Or.inl ⟨rfl,vt,HE.o⟩⟩
    ·have n6:=Gy he
     have HE:Hd (nx l lo≠t):=he;clear hc he;have hss:=Dg (rfl:nx l lo=nx l lo);generalize nx l lo=s at c1 n6 hss;go_wp2
     go_ret2
     exact⟨rfl,lo,false,rfl,h2,HL.o,HH.o,Or.inr ⟨rfl,λh=>HE.o h.2⟩⟩
   ·have hlI:¬ (lo:Int)<(l.length:Int):=by omega
    have yu:Hd (¬ lo<l.length):=vt;go_wp2
    go_ret2
    exact⟨rfl,lo,Or.inl ⟨rfl,h2,HL.o,HH.o,λh=>absurd h yu.o⟩⟩
theorem Pu(a:Option Addr)(cap:Nat)(l:List ByteArray)(t:ByteArray)(w:World)(C8:Cc w a l)(hl:l.length≤1048576)(eg:Fs l):Calls Tryz.prog 141 #[.slice a l.length cap,.string t] w λe w'=>w=w'∧∃(r:Nat)(b:Bool),e=.returned (.tuple #[.int .i64 r,.bool b])∧((b=true∧r<l.length∧nx l r=t)∨(b=false∧¬ Ed l t)):=by
 have je:Hd (Fs l):=eg;have hc:∀i,i<l.length→∃b off,a=some ⟨b,off,none⟩∧w.cell? ⟨b,off+i,none⟩=some (.string (nx l i)):=λi hi=>C8 i hi;clear eg C8;go_enter Tryz.func141,Tryz.ntmps141;go_wp2
 go_loopw [7,8] (λi j wr=>∃lo hi:Nat,i=.int .i64 lo∧j=.int .i64 hi∧lo≤hi∧hi≤l.length∧Hd (∀j,j<lo→Ap (nx l j) t=true)∧Hd (∀j,hi≤j→j<l.length→Ap (nx l j) t=false)∧w=wr) (λi j _=>(intOf j).toNat-(intOf i).toNat)
 case atStart=>exact⟨0,l.length,rfl,rfl,Nat.zero_le _,Nat.le_refl _,(λj hj=>by omega:∀j,j<0→Ap (nx l j) t=true),(λj h1 h2=>by omega:∀j,l.length≤j→j<l.length→Ap (nx l j) t=false),rfl⟩
 case round=>
  obtain⟨lo,hi,rfl,rfl,h1,h2,HL,HH,rfl⟩:=hrel
  by_cases aj:lo<hi
  ·obtain⟨m,e1,up,rd⟩:∃m:Nat,((lo:Int)+(hi:Int)) / 2=(m:Int)∧lo≤m∧m<hi:=⟨(lo+hi) / 2,by omega,by omega,by omega⟩
   obtain⟨b,off,rfl,c1⟩:=hc m (by omega);obtain⟨v,hv⟩:∃v,Ap (nx l m) t=v:=⟨_,rfl⟩;have HV:Hd (Ap (nx l m) t=v):=hv;(have HN:Hd (∀W:World,Calls Tryz.prog 73 #[.string (nx l m),.string t] W λe w'=>e=.returned (.bool v)∧W=w'):=λW=>by rw[←hv];exact Rl _ _ W);clear hc hv;generalize nx l m=s at c1 HN;(have V4:(m:Int)<(l.length:Int):=by omega);cases v
   ·go_wp2_with (go_at_call 73;refine(HN.o _).mono ?_;rintro e w' ⟨rfl,rfl⟩)
    go_roundw
    case rel=>exact⟨lo,m,rfl,rfl,up,by omega,HL.o,Sy je.o HV.o,trivial⟩
    case measure=>simp[intOf];omega
   ·go_wp2_with (go_at_call 73;refine(HN.o _).mono ?_;rintro e w' ⟨rfl,rfl⟩)
    go_roundw
    case rel=>exact⟨m+1,hi,by go_num,rfl,by omega,by omega,Yv je.o (by omega) HV.o,HH.o,trivial⟩
    case measure=>simp[intOf];omega
  ·obtain rfl:lo=hi:=by omega
   by_cases vt:lo<l.length
   ·obtain⟨b,off,rfl,c1⟩:=hc lo vt
    have hlI:(lo:Int)<(l.length:Int):=by omega
    by_cases he:nx l lo=t
    ·have n6:=Dg he
     have HE:Hd (nx l lo=t):=he;clear hc he;generalize nx l lo=s at c1 n6;go_wp2
     go_ret2
     exact⟨rfl,lo,true,rfl,Or.inl ⟨rfl,vt,HE.o⟩⟩
    ·have n6:=Gy he
     have HE:Hd (nx l lo≠t):=he;clear hc he;have hss:=Dg (rfl:nx l lo=nx l lo);generalize nx l lo=s at c1 n6 hss;go_wp2
     go_ret2
     exact⟨rfl,lo,false,rfl,Or.inr ⟨rfl,λh=>HE.o (Nc je.o HL.o HH.o h).2⟩⟩
   ·have hlI:¬ (lo:Int)<(l.length:Int):=by omega
    have yu:Hd (¬ lo<l.length):=vt;go_wp2
    go_ret2
    exact⟨rfl,lo,Or.inl ⟨rfl,λh=>yu.o (Nc je.o HL.o HH.o h).1⟩⟩
def Ff(n:X)(ts:L By)(t A:By)(ok:Bool):Prop:=(ok=true∧∃i,i<ts.length∧Av n (nx ts i)=t∧A=nx ts i)∨(ok=false∧A=⟨#[]⟩∧¬ Ed (ts.map (Av n)) t)
theorem has_sums{i:X}(h:i<ts.length)(e:Av n (nx ts i)=t):Ed (ts.map (Av n)) t:=⟨i,by rw[List.length_map];exact h,by rw[Hb n ts i h];exact e⟩
theorem Ff.unique{A A':By}{ok ok':Bool}(ha:Fs (ts.map (Av n)))(h:Ff n ts t A ok)(h':Ff n ts t A' ok'):A'=A∧ok'=ok:=by
 rcases h with⟨rfl,i,h1,h2,rfl⟩|⟨rfl,rfl,h1⟩<;>rcases h' with⟨rfl,j,k1,k2,rfl⟩|⟨rfl,rfl,k1⟩
 ·have:i=j:=by
   have hs:∀i,i<ts.length→nx (ts.map (Av n)) i=Av n (nx ts i):=λi h=>Hb n ts i h
   rcases Nat.lt_trichotomy i j with rh|rh|rh
   ·have:=ha.pair rh (by rw[List.length_map];exact k1)
    rw[hs i h1,hs j k1,h2,k2,Eh]at this;cases this
   ·exact rh
   ·have:=ha.pair rh (by rw[List.length_map];exact h1)
    rw[hs i h1,hs j k1,h2,k2,Eh]at this;cases this
  subst this;exact⟨rfl,rfl⟩
 ·exact absurd (has_sums h1 h2) k1
 ·exact absurd (has_sums k1 k2) h1
 ·exact⟨rfl,rfl⟩
def Gs(ts:L By)(x:By)(r:X):L By:=ts.take r++[x]++ts.drop r
theorem Ip(ts:L By)(x:By)(r:X)(h:r≤ts.length):(Gs ts x r).length=ts.length+1:=by simp[Gs];omega
theorem Po(ts:L By)(x:By)(r:X):(Gs ts x r).map Value.string=(ts.map Value.string).take r++[S x]++(ts.map Value.string).drop r:=by simp[Gs,List.map_take,List.map_drop]
def Hq(n:X)(ts:L By)(x:By)(r:X):Prop:=r<ts.length∧Av n (nx ts r)=Av n x
theorem La{is:L I3}(h:Au is=true):1≤is.length∧is.length≤200:=by
 unfold Au at h;simp only[Bool.and_eq_true,decide_eq_true_eq]at h;exact⟨h.1.1,h.1.2⟩
theorem Hj{v5 v6:Z}(h:w.heap[b]?=M (O #[v1,v2,v3,v4,v5,v6] T (0,0))):w.cell? ⟨b,0,N⟩=M v1∧w.cell? ⟨b,1,N⟩=M v2∧w.cell? ⟨b,2,N⟩=M v3∧w.cell? ⟨b,3,N⟩=M v4∧w.cell? ⟨b,4,N⟩=M v5∧w.cell? ⟨b,5,N⟩=M v6:=
 ⟨qag,qag,qag,qag,qag,qag⟩
theorem It(h:Below B w w')(hR:B≤R)(u1 u2 u3 u4 u5 u6:Z):Below B w ((((((w'.setCell ⟨R,0,N⟩ u1).setCell ⟨R,1,N⟩ u2).setCell ⟨R,2,N⟩ u3).setCell ⟨R,3,N⟩ u4).setCell ⟨R,4,N⟩ u5).setCell ⟨R,5,N⟩ u6):=
 (((((h.setCell (p:=⟨R,0,N⟩) hR _).setCell (p:=⟨R,1,N⟩) hR _).setCell (p:=⟨R,2,N⟩) hR _).setCell (p:=⟨R,3,N⟩) hR _).setCell (p:=⟨R,4,N⟩) hR _).setCell (p:=⟨R,5,N⟩) hR _
theorem Cp.set6{v:Z}(h:Cp w lo hi v ts)(hR:R<lo)(u1 u2 u3 u4 u5 u6:Z):Cp ((((((w.setCell ⟨R,0,N⟩ u1).setCell ⟨R,1,N⟩ u2).setCell ⟨R,2,N⟩ u3).setCell ⟨R,3,N⟩ u4).setCell ⟨R,4,N⟩ u5).setCell ⟨R,5,N⟩ u6) lo hi v ts:=
 (((((h.set hR _).set hR _).set hR _).set hR _).set hR _).set hR _
theorem Ez.set6{v:Z}(h:Ez w lo hi v rs)(hR:R<lo)(u1 u2 u3 u4 u5 u6:Z):Ez ((((((w.setCell ⟨R,0,N⟩ u1).setCell ⟨R,1,N⟩ u2).setCell ⟨R,2,N⟩ u3).setCell ⟨R,3,N⟩ u4).setCell ⟨R,4,N⟩ u5).setCell ⟨R,5,N⟩ u6) lo hi v rs:=
 (((((h.set hR _).set hR _).set hR _).set hR _).set hR _).set hR _
structure Sz (w:E) (g lo hi n:X) (sv tv qv:Z) (ss ts:L By) (rs:L T3):Prop where
 blk:w.heap[g]?=M (O #[I (n:Int),tv,qv,sv] 171 (0,0))
 sx:Cp w lo hi sv ss
 tx:Cp w lo hi tv ts
 qs:Ez w lo hi qv rs
 ne:∀b,sv.ownBlock=M b→tv.ownBlock≠M b
def ShO(w:E)(g lo hi n:X)(sv tv qv:Z)(ts:L By)(rs:L T3):Prop:=Sz w g lo hi n sv tv qv (ts.map (Av n)) ts rs
theorem Sz.bl(h:Sz w g lo hi n sv tv qv ss ts rs)(hb:Bw w w'):Sz w' g lo hi n sv tv qv ss ts rs:=⟨Af h.blk hb,h.sx.bl hb,h.tx.bl hb,h.qs.bl hb,h.ne⟩
theorem Sz.wide(h:Sz w g lo hi n sv tv qv ss ts rs)(h1:lo'≤lo)(h2:hi≤hi'):Sz w g lo' hi' n sv tv qv ss ts rs:=⟨h.blk,h.sx.wide h1 h2,h.tx.wide h1 h2,h.qs.wide h1 h2,h.ne⟩
theorem Sz.keep(h:Sz w g lo hi n sv tv qv ss ts rs)(hk:De lo' hi' w w')(hg:g<lo'∨hi'≤g)(hd:hi≤lo'∨hi'≤lo):Sz w' g lo hi n sv tv qv ss ts rs:=⟨blk_keepR h.blk hk hg,h.sx.keep hk hd,h.tx.keep hk hd,h.qs.keep hk hd,h.ne⟩
theorem Sz.lt(h:Sz w g lo hi n sv tv qv ss ts rs):g<w.heap.size:=El h.blk
theorem Sz.setT{j:X}(h:Sz w g lo hi n sv tv qv ss ts rs)(ht:Cv w b T)(hg:b≠g)(h9:T≠9)(h1:T≠94)(h2:T≠143)(h3:T≠145)(u:Z):Sz (w.setCell ⟨b,j,N⟩ u) g lo hi n sv tv qv ss ts rs:=
 ⟨by rw[hC w ⟨b,j,N⟩ u g (by show g≠b;omega)];exact h.blk,h.sx.setT ht h9 u,h.tx.setT ht h9 u,h.qs.setT ht h1 h2 h3 u,h.ne⟩
theorem Lu(h:w.heap[b]?=M (O #[v1,v2,v3,v4] T (0,0))):w.cell? ⟨b,0,N⟩=M v1∧w.cell? ⟨b,1,N⟩=M v2∧w.cell? ⟨b,2,N⟩=M v3∧w.cell? ⟨b,3,N⟩=M v4∧∀j,w.frozen? ⟨b,j,N⟩=false:=by
 refine⟨?_,?_,?_,?_,λj=>fH h j⟩<;>rw[cH h]<;>rfl
theorem blk4_set3{t:Z}(hz:w.heap[P]?=M (O #[x,y,z,t] T (0,0)))(u1 u2 u3:Z):(((w.setCell ⟨P,0,N⟩ u1).setCell ⟨P,1,N⟩ u2).setCell ⟨P,2,N⟩ u3).heap[P]?=M (O #[u1,u2,u3,t] T (0,0)):=by
 rw[jB (jB (jB hz u1) u2) u3];rfl
theorem blk4_s3{t:Z}(hz:w.heap[P]?=M (O #[x,y,z,t] T (0,0)))(u:Z):(w.setCell ⟨P,3,N⟩ u).heap[P]?=M (O #[x,y,z,u] T (0,0)):=by
 rw[jB hz u];rfl
theorem blk4_s1{t:Z}(hz:w.heap[P]?=M (O #[x,y,z,t] T (0,0)))(u:Z):(w.setCell ⟨P,1,N⟩ u).heap[P]?=M (O #[x,u,z,t] T (0,0)):=by
 rw[jB hz u];rfl
theorem below_set3P(hb:Below B w w')(h:B≤b)(v0 v1 v2:Z):Below B w (((w'.setCell ⟨b,0,N⟩ v0).setCell ⟨b,1,N⟩ v1).setCell ⟨b,2,N⟩ v2):=
 ((hb.setCell (p:=⟨b,0,N⟩) h _).setCell (p:=⟨b,1,N⟩) h _).setCell (p:=⟨b,2,N⟩) h _
theorem Sz.insS{I2:L By}(h:Sz w g lo hi n sv tv qv ss ts rs)(hh:hi≤w.heap.size)(hb:Bw w w2)(hl:l3=I2.length)(ho:w3.ownsRow lo 9 1 (J (p_ g3) l3 c3) l3 (I2.map .string))(hk:Dc sv.ownBlock w2 w3)(hs:w2.heap.size≤w3.heap.size)(ci:sv.ownBlock=M g3∨g3=w2.heap.size):Sz (w3.setCell ⟨g,3,N⟩ (J (p_ g3) l3 c3)) g lo w3.heap.size n (J (p_ g3) l3 c3) tv qv I2 ts rs:=by
 subst hl;have h2:=h.bl hb;have kh:=hb.size;have aj:=h2.lt;have os:=Bg.own h2.sx;have ot:=Bg.own h2.tx
 have kg:w3.heap[g]?=M (O #[I (n:Int),tv,qv,sv] 171 (0,0)):=by
  exact qmd
 have ht:Cv w3 g 171:=⟨_,kg⟩;have t3:Cp w3 lo w3.heap.size tv ts:=Cp.wide (Bg.same h2.tx λb e=>hk b (ot.lt b e).2 (λe'=>h.ne b e'.symm e)) (Nat.le_refl _) qb;have q3:Ez w3 lo w3.heap.size qv rs:=(h2.qs.keepO os hk qd qd qd).wide (Nat.le_refl _) qb;have s3:Cp w3 lo w3.heap.size (J (p_ g3) I2.length c3) I2:=Bg.new ho;refine⟨blk4_s3 kg _,s3.setT ht qd _,t3.setT ht qd _,q3.setT ht qd qd qd _,?_⟩;exact qjv
theorem Sz.insT{ts':L By}(h:Sz w g lo hi n sv tv qv ss ts rs)(hh:hi≤w.heap.size)(hb:Bw w w2)(hl:l3=ts'.length)(ho:w3.ownsRow lo 9 1 (J (p_ g3) l3 c3) l3 (ts'.map .string))(hk:Dc tv.ownBlock w2 w3)(hs:w2.heap.size≤w3.heap.size)(ci:tv.ownBlock=M g3∨g3=w2.heap.size):Sz (w3.setCell ⟨g,1,N⟩ (J (p_ g3) l3 c3)) g lo w3.heap.size n sv (J (p_ g3) l3 c3) qv ss ts' rs:=by
 subst hl;have h2:=h.bl hb;have kh:=hb.size;have aj:=h2.lt;have os:=Bg.own h2.sx;have ot:=Bg.own h2.tx
 have kg:w3.heap[g]?=M (O #[I (n:Int),tv,qv,sv] 171 (0,0)):=by
  exact qmc
 have ht:Cv w3 g 171:=⟨_,kg⟩;have s3:Cp w3 lo w3.heap.size sv ss:=Cp.wide (Bg.same h2.sx λb e=>hk b (os.lt b e).2 (λe'=>h.ne b e e'.symm)) (Nat.le_refl _) qb;have q3:Ez w3 lo w3.heap.size qv rs:=(h2.qs.keepO ot hk qd qd qd).wide (Nat.le_refl _) qb;have t3:Cp w3 lo w3.heap.size (J (p_ g3) ts'.length c3) ts':=Bg.new ho;refine⟨blk4_s1 kg _,s3.setT ht qd _,t3.setT ht qd _,q3.setT ht qd qd qd _,?_⟩;exact qjw
theorem map_insX(n:X)(ts:L By)(x:By)(r:X):(Gs ts x r).map (Av n)=Gs (ts.map (Av n)) (Av n x) r:=by simp[Gs,List.map_take,List.map_drop]
def Iv(n:X)(ts:L By)(x:By)(r:X)(cd:Int)(ts':L By)(A B:By):Prop:=
 (Hq n ts x r∧nx ts r≠x∧cd=2∧ts'=ts∧A=nx ts r∧B=x)∨
 (Hq n ts x r∧nx ts r=x∧cd=0∧ts'=ts∧A=⟨#[]⟩∧B=⟨#[]⟩)∨
 (¬ Hq n ts x r∧5000≤ts.length∧cd=3∧ts'=ts∧A=⟨#[]⟩∧B=⟨#[]⟩)∨
 (¬ Hq n ts x r∧¬ 5000≤ts.length∧cd=0∧ts'=Gs ts x r∧A=⟨#[]⟩∧B=⟨#[]⟩)
theorem Sz.set6T(h:Sz w g lo hi n sv tv qv ss ts rs)(ht:Cv w R 164)(hg:R≠g)(u1 u2 u3 u4 u5 u6:Z):Sz ((((((w.setCell ⟨R,0,N⟩ u1).setCell ⟨R,1,N⟩ u2).setCell ⟨R,2,N⟩ u3).setCell ⟨R,3,N⟩ u4).setCell ⟨R,4,N⟩ u5).setCell ⟨R,5,N⟩ u6) g lo hi n sv tv qv ss ts rs:=
 (((((h.setT ht hg qd qd qd qd u1).setT (ht.set u1) hg qd qd qd qd u2).setT ((ht.set u1).set u2) hg qd qd qd qd u3).setT (((ht.set u1).set u2).set u3) hg qd qd qd qd u4).setT ((((ht.set u1).set u2).set u3).set u4) hg qd qd qd qd u5).setT (((((ht.set u1).set u2).set u3).set u4).set u5) hg qd qd qd qd u6

end Go.Proofs.YtbkkjodaaijimaaGreatDoor
