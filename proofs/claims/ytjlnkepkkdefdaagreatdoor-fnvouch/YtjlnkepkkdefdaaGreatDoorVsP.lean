import Derived.Test.YtjlnkepkkdefdaaGreatDoorVsC
namespace Go.Proofs.YtjlnkepkkdefdaaGreatDoor
set_option maxHeartbeats 2000000
open Go.RowKit Go.Deep
set_option linter.unusedVariables false
set_option linter.unusedSimpArgs false
structure PlT (n:Nat) (ts:List ByteArray) (t:ByteArray) (r:Nat):Prop where
 le:r<=ts.length
 lo:∀ j,j<r->Aw (Ap n (nx ts j)) t=true
 hi:r<ts.length->Aw (Ap n (nx ts r)) t=false
theorem Rg (a:Option Addr) (cap:Nat) (l:List ByteArray) (t:ByteArray) (w:World) (hc0:Cp w a l) (hl:l.length<=1048576) (hasc:Ey l) :
  Calls Tryz.prog 47 #[.slice a l.length cap,.string t] w fun e w'=>w=w'/\∃(r:Nat) (b:Bool),e=.returned (.tuple #[.int .i64 r,.bool b])/\r<=l.length/\(∀ j,j<r->Aw (nx l j) t=true)/\(∀ j,r<=j->j<l.length->Aw (nx l j) t=false)/\((b=true/\r<l.length/\nx l r=t)\/(b=false/\¬ (r<l.length/\nx l r=t))):=by
 have HASC:Hd (Ey l):=hasc
 have hc:∀ i,i<l.length->∃ b off,a=some ⟨b,off,none⟩/\w.cell? ⟨b,off+i,none⟩=some (.string (nx l i)):=fun i hi=>hc0 i hi
 clear hasc hc0
 go_enter Tryz.func47,Tryz.ntmps47
 go_wp2
 go_loopw [7,8] (fun i j wr=>∃ lo hi:Nat,i=.int .i64 lo/\j=.int .i64 hi/\lo<=hi/\hi<=l.length/\Hd (∀ j,j<lo->Aw (nx l j) t=true)/\Hd (∀ j,hi<=j->j<l.length->Aw (nx l j) t=false)/\w=wr) (fun i j _=>(intOf j).toNat-(intOf i).toNat)
 case atStart=>exact⟨0,l.length,rfl,rfl,Nat.zero_le _,Nat.le_refl _,(fun j hj=>by omega:∀ j,j<0->Aw (nx l j) t=true),(fun j h1 h2=>by omega:∀ j,l.length<=j->j<l.length->Aw (nx l j) t=false),rfl⟩
 case round=>
  obtain⟨lo,hi,rfl,rfl,h1,h2,HL,HH,rfl⟩:=hrel
  by_cases hlt:lo<hi
  ·obtain⟨m,e1,hm1,hm2⟩:∃ m:Nat,((lo:Int)+(hi:Int)) / 2=(m:Int)/\lo<=m/\m<hi:=⟨(lo+hi) / 2,by omega,by omega,by omega⟩;obtain⟨b,off,rfl,c1⟩:=hc m (by omega);obtain⟨v,hv⟩:∃ v,Aw (nx l m) t=v:=⟨_,rfl⟩;have HV:Hd (Aw (nx l m) t=v):=hv;have HN:Hd (∀ W:World,Calls Tryz.prog 81 #[.string (nx l m),.string t] W fun e w'=>e=.returned (.bool v)/\W=w'):=fun W=>by rw[<- hv];exact Mi _ _ W
   clear hc hv;generalize nx l m=s at c1 HN;have hmI:(m:Int)<(l.length:Int):=by omega
   cases v
   ·go_wp2_with (go_at_call 81;refine(HN.o _).mono ?_;rintro e w' ⟨rfl,rfl⟩)
    go_roundw
    case rel=>exact⟨lo,m,rfl,rfl,hm1,by omega,HL.o,Pe HASC.o HV.o,trivial⟩
    case measure=>simp[intOf];omega
   ·go_wp2_with (go_at_call 81;refine(HN.o _).mono ?_;rintro e w' ⟨rfl,rfl⟩)
    go_roundw
    case rel=>exact⟨m+1,hi,by go_num,rfl,by omega,by omega,Oz HASC.o (by omega) HV.o,HH.o,trivial⟩
    case measure=>simp[intOf];omega
  ·obtain rfl:lo=hi:=by omega
   by_cases hll:lo<l.length
   ·obtain⟨b,off,rfl,c1⟩:=hc lo hll;have hlI:(lo:Int)<(l.length:Int):=by omega
    by_cases he:nx l lo=t
    ·have heq:=Eh he;have HE:Hd (nx l lo=t):=he;clear hc he;generalize nx l lo=s at c1 heq;go_wp2
     go_ret2
     exact⟨rfl,lo,true,rfl,h2,HL.o,HH.o,Or.inl ⟨rfl,hll,HE.o⟩⟩
    ·have heq:=Es he;have HE:Hd (nx l lo≠t):=he;clear hc he;have hss:=Eh (rfl:nx l lo=nx l lo);generalize nx l lo=s at c1 heq hss;go_wp2
     go_ret2
     exact⟨rfl,lo,false,rfl,h2,HL.o,HH.o,Or.inr ⟨rfl,fun h=>HE.o h.2⟩⟩
   ·(have hlI:¬ (lo:Int)<(l.length:Int):=by omega);have HLL:Hd (¬ lo<l.length):=hll;go_wp2
    go_ret2
    exact⟨rfl,lo,Or.inl ⟨rfl,h2,HL.o,HH.o,fun h=>absurd h HLL.o⟩⟩
theorem Pj (a:Option Addr) (cap:Nat) (l:List ByteArray) (t:ByteArray) (w:World) (hc0:Cp w a l) (hl:l.length<=1048576) (hasc:Ey l) :
  Calls Tryz.prog 47 #[.slice a l.length cap,.string t] w fun e w'=>w=w'/\∃(r:Nat) (b:Bool),e=.returned (.tuple #[.int .i64 r,.bool b])/\((b=true/\r<l.length/\nx l r=t)\/(b=false/\¬ Fi l t)):=by
 have HASC:Hd (Ey l):=hasc
 have hc:∀ i,i<l.length->∃ b off,a=some ⟨b,off,none⟩/\w.cell? ⟨b,off+i,none⟩=some (.string (nx l i)):=fun i hi=>hc0 i hi
 clear hasc hc0
 go_enter Tryz.func47,Tryz.ntmps47
 go_wp2
 go_loopw [7,8] (fun i j wr=>∃ lo hi:Nat,i=.int .i64 lo/\j=.int .i64 hi/\lo<=hi/\hi<=l.length/\Hd (∀ j,j<lo->Aw (nx l j) t=true)/\Hd (∀ j,hi<=j->j<l.length->Aw (nx l j) t=false)/\w=wr) (fun i j _=>(intOf j).toNat-(intOf i).toNat)
 case atStart=>exact⟨0,l.length,rfl,rfl,Nat.zero_le _,Nat.le_refl _,(fun j hj=>by omega:∀ j,j<0->Aw (nx l j) t=true),(fun j h1 h2=>by omega:∀ j,l.length<=j->j<l.length->Aw (nx l j) t=false),rfl⟩
 case round=>
  obtain⟨lo,hi,rfl,rfl,h1,h2,HL,HH,rfl⟩:=hrel
  by_cases hlt:lo<hi
  ·obtain⟨m,e1,hm1,hm2⟩:∃ m:Nat,((lo:Int)+(hi:Int)) / 2=(m:Int)/\lo<=m/\m<hi:=⟨(lo+hi) / 2,by omega,by omega,by omega⟩;obtain⟨b,off,rfl,c1⟩:=hc m (by omega);obtain⟨v,hv⟩:∃ v,Aw (nx l m) t=v:=⟨_,rfl⟩;have HV:Hd (Aw (nx l m) t=v):=hv;have HN:Hd (∀ W:World,Calls Tryz.prog 81 #[.string (nx l m),.string t] W fun e w'=>e=.returned (.bool v)/\W=w'):=fun W=>by rw[<- hv];exact Mi _ _ W
   clear hc hv;generalize nx l m=s at c1 HN;have hmI:(m:Int)<(l.length:Int):=by omega
   cases v
   ·go_wp2_with (go_at_call 81;refine(HN.o _).mono ?_;rintro e w' ⟨rfl,rfl⟩)
    go_roundw
    case rel=>exact⟨lo,m,rfl,rfl,hm1,by omega,HL.o,Pe HASC.o HV.o,trivial⟩
    case measure=>simp[intOf];omega
   ·go_wp2_with (go_at_call 81;refine(HN.o _).mono ?_;rintro e w' ⟨rfl,rfl⟩)
    go_roundw
    case rel=>exact⟨m+1,hi,by go_num,rfl,by omega,by omega,Oz HASC.o (by omega) HV.o,HH.o,trivial⟩
    case measure=>simp[intOf];omega
  ·obtain rfl:lo=hi:=by omega
   by_cases hll:lo<l.length
   ·obtain⟨b,off,rfl,c1⟩:=hc lo hll;have hlI:(lo:Int)<(l.length:Int):=by omega
    by_cases he:nx l lo=t
    ·have heq:=Eh he;have HE:Hd (nx l lo=t):=he;clear hc he;generalize nx l lo=s at c1 heq;go_wp2
     go_ret2
     exact⟨rfl,lo,true,rfl,Or.inl ⟨rfl,hll,HE.o⟩⟩
    ·have heq:=Es he;have HE:Hd (nx l lo≠t):=he;clear hc he;have hss:=Eh (rfl:nx l lo=nx l lo);generalize nx l lo=s at c1 heq hss;go_wp2
     go_ret2
     exact⟨rfl,lo,false,rfl,Or.inr ⟨rfl,fun h=>HE.o (Me HASC.o HL.o HH.o h).2⟩⟩
   ·(have hlI:¬ (lo:Int)<(l.length:Int):=by omega);have HLL:Hd (¬ lo<l.length):=hll;go_wp2
    go_ret2
    exact⟨rfl,lo,Or.inl ⟨rfl,fun h=>HLL.o (Me HASC.o HL.o HH.o h).1⟩⟩
def Jq (n:Nat) (ts:List ByteArray) (t A:ByteArray) (ok:Bool):Prop:=(ok=true/\∃ i,i<ts.length/\Ap n (nx ts i)=t/\A=nx ts i)\/(ok=false/\A=⟨#[]⟩/\¬ Fi (ts.map (Ap n)) t)
theorem Zl {n:Nat} {ts:List ByteArray} {t:ByteArray} {i:Nat} (h:i<ts.length) (e:Ap n (nx ts i)=t):Fi (ts.map (Ap n)) t:=⟨i,by rw[List.length_map];exact h,by rw[Ir n ts i h];exact e⟩
theorem Jq.unique {n:Nat} {ts:List ByteArray} {t A A':ByteArray} {ok ok':Bool} (ha:Ey (ts.map (Ap n))) (h:Jq n ts t A ok) (h':Jq n ts t A' ok'):A'=A/\ok'=ok:=by
 rcases h with ⟨rfl,i,h1,h2,rfl⟩|⟨rfl,rfl,h1⟩<;>rcases h' with ⟨rfl,j,k1,k2,rfl⟩|⟨rfl,rfl,k1⟩
 ·have:i=j:=by
   have hs:∀ i,i<ts.length->nx (ts.map (Ap n)) i=Ap n (nx ts i):=fun i h=>Ir n ts i h
   rcases Nat.lt_trichotomy i j with hij|hij|hij
   ·have:=ha.pair hij (by rw[List.length_map];exact k1);rw[hs i h1,hs j k1,h2,k2,Fa] at this;cases this
   ·exact hij
   ·have:=ha.pair hij (by rw[List.length_map];exact h1);rw[hs i h1,hs j k1,h2,k2,Fa] at this;cases this
  subst this;exact⟨rfl,rfl⟩
 ·exact absurd (Zl h1 h2) k1
 ·exact absurd (Zl k1 k2) h1
 ·exact⟨rfl,rfl⟩
def Jk (ts:List ByteArray) (x:ByteArray) (r:Nat):List ByteArray:=ts.take r++[x]++ts.drop r
theorem Jz (ts:List ByteArray) (x:ByteArray) (r:Nat) (h:r<=ts.length):(Jk ts x r).length=ts.length+1:=by simp[Jk];omega
theorem Zg (ts:List ByteArray) (x:ByteArray) (r:Nat):(Jk ts x r).map Value.string=(ts.map Value.string).take r++[.string x]++(ts.map Value.string).drop r:=by simp[Jk,List.map_take,List.map_drop]
def Kc (n:Nat) (ts:List ByteArray) (x:ByteArray) (r:Nat):Prop:=r<ts.length/\Ap n (nx ts r)=Ap n x
def KpP (n:Int) (ts:List ByteArray) (rs:List T3) (x:ByteArray) (cd wd:Int) (ts':List ByteArray) (rs':List T3) (A B:ByteArray):Prop:=
 (¬ (Kh n ts rs/\x.size<=2002)/\cd=1/\wd=0/\ts'=[]/\rs'=[]/\A=⟨#[]⟩/\B=⟨#[]⟩)∨
 ((Kh n ts rs/\x.size<=2002)/\∃ r,PlT n.toNat ts (Ap n.toNat x) r∧
  ((Kc n.toNat ts x r/\nx ts r≠x/\cd=2/\wd=0/\ts'=[]/\rs'=[]/\A=nx ts r/\B=x)∨
   (Kc n.toNat ts x r/\nx ts r=x/\cd=0/\wd=n/\ts'=ts/\rs'=rs/\A=⟨#[]⟩/\B=⟨#[]⟩)∨
   (¬ Kc n.toNat ts x r/\5000<=ts.length/\cd=3/\wd=0/\ts'=[]/\rs'=[]/\A=⟨#[]⟩/\B=⟨#[]⟩)∨
   (¬ Kc n.toNat ts x r/\¬ 5000<=ts.length/\cd=0/\wd=n/\ts'=Jk ts x r/\rs'=rs/\A=⟨#[]⟩/\B=⟨#[]⟩)))
theorem Hi {w:World} {b T:Nat} {v1 v2 v3 v4 v5 v6:Value} (h:w.heap[b]?=some (.cells #[v1,v2,v3,v4,v5,v6] T (0,0))):w.cell? ⟨b,0,none⟩=some v1/\w.cell? ⟨b,1,none⟩=some v2/\w.cell? ⟨b,2,none⟩=some v3/\w.cell? ⟨b,3,none⟩=some v4/\w.cell? ⟨b,4,none⟩=some v5/\w.cell? ⟨b,5,none⟩=some v6:=
 ⟨by rw[cH h];rfl,by rw[cH h];rfl,by rw[cH h];rfl,by rw[cH h];rfl,by rw[cH h];rfl,by rw[cH h];rfl⟩
theorem Dz {B R:Nat} {w w':World} (h:Below B w w') (hR:B<=R) (u1 u2 u3 u4 u5 u6:Value):Below B w ((((((w'.setCell ⟨R,0,none⟩ u1).setCell ⟨R,1,none⟩ u2).setCell ⟨R,2,none⟩ u3).setCell ⟨R,3,none⟩ u4).setCell ⟨R,4,none⟩ u5).setCell ⟨R,5,none⟩ u6):=
 (((((h.setCell (p:=⟨R,0,none⟩) hR _).setCell (p:=⟨R,1,none⟩) hR _).setCell (p:=⟨R,2,none⟩) hR _).setCell (p:=⟨R,3,none⟩) hR _).setCell (p:=⟨R,4,none⟩) hR _).setCell (p:=⟨R,5,none⟩) hR _
theorem Cf.set6 {w:World} {lo hi R:Nat} {v:Value} {ts:List ByteArray} (h:Cf w lo hi v ts) (hR:R<lo) (u1 u2 u3 u4 u5 u6:Value):Cf ((((((w.setCell ⟨R,0,none⟩ u1).setCell ⟨R,1,none⟩ u2).setCell ⟨R,2,none⟩ u3).setCell ⟨R,3,none⟩ u4).setCell ⟨R,4,none⟩ u5).setCell ⟨R,5,none⟩ u6) lo hi v ts:=
 (((((h.set hR _).set hR _).set hR _).set hR _).set hR _).set hR _
structure Ln (w:World) (g lo hi n:Nat) (sv tv qv:Value) (ss ts:List ByteArray) (rs:List T3):Prop where
 blk:w.heap[g]?=some (.cells #[.int .i64 (n:Int),tv,qv,sv] 80 (0,0))
 sx:Cf w lo hi sv ss
 tx:Cf w lo hi tv ts
 qs:Ki w lo hi qv rs
 ne:∀ b,sv.ownBlock=some b->tv.ownBlock≠some b
def ShO (w:World) (g lo hi n:Nat) (sv tv qv:Value) (ts:List ByteArray) (rs:List T3):Prop:=Ln w g lo hi n sv tv qv (ts.map (Ap n)) ts rs
theorem Ln.bl {w w':World} {g lo hi n:Nat} {sv tv qv:Value} {ss ts:List ByteArray} {rs:List T3} (h:Ln w g lo hi n sv tv qv ss ts rs) (hb:Below w.heap.size w w'):Ln w' g lo hi n sv tv qv ss ts rs:=⟨Aa h.blk hb,h.sx.bl hb,h.tx.bl hb,h.qs.bl hb,h.ne⟩
theorem Ln.wide {w:World} {g lo hi lo' hi' n:Nat} {sv tv qv:Value} {ss ts:List ByteArray} {rs:List T3} (h:Ln w g lo hi n sv tv qv ss ts rs) (h1:lo'<=lo) (h2:hi<=hi'):Ln w g lo' hi' n sv tv qv ss ts rs:=⟨h.blk,h.sx.wide h1 h2,h.tx.wide h1 h2,h.qs.wide h1 h2,h.ne⟩
theorem Ln.lt {w:World} {g lo hi n:Nat} {sv tv qv:Value} {ss ts:List ByteArray} {rs:List T3} (h:Ln w g lo hi n sv tv qv ss ts rs):g<w.heap.size:=Dj h.blk
theorem Ln.setT {w:World} {b T g lo hi n j:Nat} {sv tv qv:Value} {ss ts:List ByteArray} {rs:List T3} (h:Ln w g lo hi n sv tv qv ss ts rs) (ht:Cx w b T) (hg:b≠g) (h9:T≠9) (h1:T≠52) (h2:T≠106) (h3:T≠85) (u:Value):Ln (w.setCell ⟨b,j,none⟩ u) g lo hi n sv tv qv ss ts rs:=
 ⟨by rw[hC w ⟨b,j,none⟩ u g (by show g≠b;omega)];exact h.blk,h.sx.setT ht h9 u,h.tx.setT ht h9 u,h.qs.setT ht h1 h2 h3 u,h.ne⟩
theorem Ns {w:World} {b T:Nat} {v1 v2 v3 v4:Value} (h:w.heap[b]?=some (.cells #[v1,v2,v3,v4] T (0,0))):w.cell? ⟨b,0,none⟩=some v1/\w.cell? ⟨b,1,none⟩=some v2/\w.cell? ⟨b,2,none⟩=some v3/\w.cell? ⟨b,3,none⟩=some v4/\∀ j,w.frozen? ⟨b,j,none⟩=false:=by
 refine⟨?_,?_,?_,?_,fun j=>fH h j⟩<;>rw[cH h]<;>rfl
theorem blk4_set3 {w:World} {P T:Nat} {x y z t:Value} (hz:w.heap[P]?=some (.cells #[x,y,z,t] T (0,0))) (u1 u2 u3:Value):(((w.setCell ⟨P,0,none⟩ u1).setCell ⟨P,1,none⟩ u2).setCell ⟨P,2,none⟩ u3).heap[P]?=some (.cells #[u1,u2,u3,t] T (0,0)):=by
 rw[jB (jB (jB hz u1) u2) u3]
 rfl
theorem blk4_s3 {w:World} {P T:Nat} {x y z t:Value} (hz:w.heap[P]?=some (.cells #[x,y,z,t] T (0,0))) (u:Value):(w.setCell ⟨P,3,none⟩ u).heap[P]?=some (.cells #[x,y,z,u] T (0,0)):=by
 rw[jB hz u]
 rfl
theorem blk4_s1 {w:World} {P T:Nat} {x y z t:Value} (hz:w.heap[P]?=some (.cells #[x,y,z,t] T (0,0))) (u:Value):(w.setCell ⟨P,1,none⟩ u).heap[P]?=some (.cells #[x,u,z,t] T (0,0)):=by
 rw[jB hz u]
 rfl
theorem below_set3P {B b:Nat} {w w':World} (hb:Below B w w') (h:B<=b) (v0 v1 v2:Value):Below B w (((w'.setCell ⟨b,0,none⟩ v0).setCell ⟨b,1,none⟩ v1).setCell ⟨b,2,none⟩ v2):=
 ((hb.setCell (p:=⟨b,0,none⟩) h _).setCell (p:=⟨b,1,none⟩) h _).setCell (p:=⟨b,2,none⟩) h _
theorem Ln.insS {w w2 w3:World} {g lo hi n g3 l3 c3:Nat} {sv tv qv:Value} {ss ss' ts:List ByteArray} {rs:List T3} (h:Ln w g lo hi n sv tv qv ss ts rs) (hh:hi<=w.heap.size) (hb:Below w.heap.size w w2) (hl:l3=ss'.length) (ho:w3.ownsRow lo 9 1 (.slice (some ⟨g3,0,none⟩) l3 c3) l3 (ss'.map .string)) (hk:Po sv.ownBlock w2 w3) (hs:w2.heap.size<=w3.heap.size) (hlie:sv.ownBlock=some g3\/g3=w2.heap.size) :
  Ln (w3.setCell ⟨g,3,none⟩ (.slice (some ⟨g3,0,none⟩) l3 c3)) g lo w3.heap.size n (.slice (some ⟨g3,0,none⟩) l3 c3) tv qv ss' ts rs:=by
 subst hl
 have h2:=h.bl hb
 have hbs:=hb.size
 have hlt:=h2.lt
 have os:=Dd.own h2.sx
 have ot:=Dd.own h2.tx
 have kg:w3.heap[g]?=some (.cells #[.int .i64 (n:Int),tv,qv,sv] 80 (0,0)):=by
  rw[hk g hlt (fun e=>Cx.ne (T:=80) ⟨_,h2.blk⟩ os (by decide) e.symm)];exact h2.blk
 have ht:Cx w3 g 80:=⟨_,kg⟩
 have t3:Cf w3 lo w3.heap.size tv ts:=Cf.wide (Dd.same h2.tx fun b e=>hk b (ot.lt b e).2 (fun e'=>h.ne b e'.symm e)) (Nat.le_refl _) (by omega)
 have q3:Ki w3 lo w3.heap.size qv rs:=(h2.qs.keepO os hk (by decide) (by decide) (by decide)).wide (Nat.le_refl _) (by omega)
 have s3:Cf w3 lo w3.heap.size (.slice (some ⟨g3,0,none⟩) ss'.length c3) ss':=Dd.new ho
 refine⟨blk4_s3 kg _,s3.setT ht (by decide) _,t3.setT ht (by decide) _,q3.setT ht (by decide) (by decide) (by decide) _,?_⟩
 intro b e e'
 obtain rfl:g3=b:=by simpa [Value.ownBlock] using e
 rcases hlie with hl|hl
 ·exact h.ne g3 hl e'
 ·have:=(ot.lt g3 e').2;omega
theorem Ln.insT {w w2 w3:World} {g lo hi n g3 l3 c3:Nat} {sv tv qv:Value} {ss ts ts':List ByteArray} {rs:List T3} (h:Ln w g lo hi n sv tv qv ss ts rs) (hh:hi<=w.heap.size) (hb:Below w.heap.size w w2) (hl:l3=ts'.length) (ho:w3.ownsRow lo 9 1 (.slice (some ⟨g3,0,none⟩) l3 c3) l3 (ts'.map .string)) (hk:Po tv.ownBlock w2 w3) (hs:w2.heap.size<=w3.heap.size) (hlie:tv.ownBlock=some g3\/g3=w2.heap.size) :
  Ln (w3.setCell ⟨g,1,none⟩ (.slice (some ⟨g3,0,none⟩) l3 c3)) g lo w3.heap.size n sv (.slice (some ⟨g3,0,none⟩) l3 c3) qv ss ts' rs:=by
 subst hl
 have h2:=h.bl hb
 have hbs:=hb.size
 have hlt:=h2.lt
 have os:=Dd.own h2.sx
 have ot:=Dd.own h2.tx
 have kg:w3.heap[g]?=some (.cells #[.int .i64 (n:Int),tv,qv,sv] 80 (0,0)):=by
  rw[hk g hlt (fun e=>Cx.ne (T:=80) ⟨_,h2.blk⟩ ot (by decide) e.symm)];exact h2.blk
 have ht:Cx w3 g 80:=⟨_,kg⟩
 have s3:Cf w3 lo w3.heap.size sv ss:=Cf.wide (Dd.same h2.sx fun b e=>hk b (os.lt b e).2 (fun e'=>h.ne b e e'.symm)) (Nat.le_refl _) (by omega)
 have q3:Ki w3 lo w3.heap.size qv rs:=(h2.qs.keepO ot hk (by decide) (by decide) (by decide)).wide (Nat.le_refl _) (by omega)
 have t3:Cf w3 lo w3.heap.size (.slice (some ⟨g3,0,none⟩) ts'.length c3) ts':=Dd.new ho
 refine⟨blk4_s1 kg _,s3.setT ht (by decide) _,t3.setT ht (by decide) _,q3.setT ht (by decide) (by decide) (by decide) _,?_⟩
 intro b e e'
 obtain rfl:g3=b:=by simpa [Value.ownBlock] using e'
 rcases hlie with hl|hl
 ·exact h.ne g3 e hl
 ·have:=(os.lt g3 e).2;omega
theorem map_insX (n:Nat) (ts:List ByteArray) (x:ByteArray) (r:Nat):(Jk ts x r).map (Ap n)=Jk (ts.map (Ap n)) (Ap n x) r:=by simp[Jk,List.map_take,List.map_drop]
def PutR (n:Nat) (ts:List ByteArray) (x:ByteArray) (r:Nat) (cd:Int) (ts':List ByteArray) (A B:ByteArray):Prop:=
 (Kc n ts x r/\nx ts r≠x/\cd=2/\ts'=ts/\A=nx ts r/\B=x)∨
 (Kc n ts x r/\nx ts r=x/\cd=0/\ts'=ts/\A=⟨#[]⟩/\B=⟨#[]⟩)∨
 (¬ Kc n ts x r/\5000<=ts.length/\cd=3/\ts'=ts/\A=⟨#[]⟩/\B=⟨#[]⟩)∨
 (¬ Kc n ts x r/\¬ 5000<=ts.length/\cd=0/\ts'=Jk ts x r/\A=⟨#[]⟩/\B=⟨#[]⟩)
theorem Ln.set6T {w:World} {R g lo hi n:Nat} {sv tv qv:Value} {ss ts:List ByteArray} {rs:List T3} (h:Ln w g lo hi n sv tv qv ss ts rs) (ht:Cx w R 47) (hg:R≠g) (u1 u2 u3 u4 u5 u6:Value):Ln ((((((w.setCell ⟨R,0,none⟩ u1).setCell ⟨R,1,none⟩ u2).setCell ⟨R,2,none⟩ u3).setCell ⟨R,3,none⟩ u4).setCell ⟨R,4,none⟩ u5).setCell ⟨R,5,none⟩ u6) g lo hi n sv tv qv ss ts rs:=
 (((((h.setT ht hg (by decide) (by decide) (by decide) (by decide) u1).setT (ht.set u1) hg (by decide) (by decide) (by decide) (by decide) u2).setT ((ht.set u1).set u2) hg (by decide) (by decide) (by decide) (by decide) u3).setT (((ht.set u1).set u2).set u3) hg (by decide) (by decide) (by decide) (by decide) u4).setT ((((ht.set u1).set u2).set u3).set u4) hg (by decide) (by decide) (by decide) (by decide) u5).setT (((((ht.set u1).set u2).set u3).set u4).set u5) hg (by decide) (by decide) (by decide) (by decide) u6
theorem KpP.put {n:Nat} {ts ts':List ByteArray} {rs:List T3} {x A B:ByteArray} {r:Nat} {cd:Int} (hok:Kh n ts rs/\x.size<=2002) (hp:PlT n ts (Ap n x) r) (h:PutR n ts x r cd ts' A B):(cd=0/\A=⟨#[]⟩/\B=⟨#[]⟩/\KpP (n:Int) ts rs x 0 n ts' rs ⟨#[]⟩ ⟨#[]⟩)\/(cd≠0/\KpP (n:Int) ts rs x cd 0 [] [] A B):=by
 rcases h with ⟨a,b,rfl,rfl,rfl,rfl⟩|⟨a,b,rfl,rfl,rfl,rfl⟩|⟨a,b,rfl,rfl,rfl,rfl⟩|⟨a,b,rfl,rfl,rfl,rfl⟩
 ·exact Or.inr ⟨by decide,Or.inr ⟨hok,r,hp,Or.inl ⟨a,b,rfl,rfl,rfl,rfl,rfl,rfl⟩⟩⟩
 ·exact Or.inl ⟨rfl,rfl,rfl,Or.inr ⟨hok,r,hp,Or.inr (Or.inl ⟨a,b,rfl,rfl,rfl,rfl,rfl,rfl⟩)⟩⟩
 ·exact Or.inr ⟨by decide,Or.inr ⟨hok,r,hp,Or.inr (Or.inr (Or.inl ⟨a,b,rfl,rfl,rfl,rfl,rfl,rfl⟩))⟩⟩
 ·exact Or.inl ⟨rfl,rfl,rfl,Or.inr ⟨hok,r,hp,Or.inr (Or.inr (Or.inr ⟨a,b,rfl,rfl,rfl,rfl,rfl,rfl⟩))⟩⟩
end Go.Proofs.YtjlnkepkkdefdaaGreatDoor
