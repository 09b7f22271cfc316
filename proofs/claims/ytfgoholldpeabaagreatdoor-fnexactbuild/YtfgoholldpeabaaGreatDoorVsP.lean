import Derived.Test.YtfgoholldpeabaaGreatDoorVsC
namespace Go.Proofs.YtfgoholldpeabaaGreatDoor
set_option maxHeartbeats 2000000
open _root_.Go.Proofs.Tryz Go.RowKit Go.Deep
set_option linter.unusedVariables false
set_option linter.unusedSimpArgs false
variable {n b T B P:Nat} {ts:List By} {t v1 v2 v3 v4 x y z:Value} {w w':World}
structure Uu (n:Nat) (ts:List By) (t:By) (r:Nat):Prop where
  le:r ≤ ts.length
  lo:∀ j,j<r→Ar (Ap n (nx ts j)) t=true
  hi:r<ts.length→Ar (Ap n (nx ts r)) t=false
theorem Sz (a:Option Addr) (cap:Nat) (l:List By) (t:By) (w:World) (F0:Cv w a l) (hl:l.length ≤ 1048576) (ew:Gf l) :
    Calls prog 123 #[.slice a l.length cap,.string t] w fun e w'=>w=w'∧∃(r:Nat) (b:Bool),e=.returned (.tuple #[I r,.bool b])∧r ≤ l.length∧(∀ j,j<r→Ar (nx l j) t=true)∧(∀ j,r ≤ j→j<l.length→Ar (nx l j) t=false)∧((b=true∧r<l.length∧nx l r=t)∨(b=false∧¬ (r<l.length∧nx l r=t))):=by
  have jk:=hid ew;have hc:∀ i,i<l.length→∃ b off,a=some ⟨b,off,none⟩∧w.cell? ⟨b,off+i,none⟩=some (.string (nx l i)):=fun i hi=>F0 i hi;clear ew F0;go_enter func123,ntmps123;go_wp2
  go_loopw [7,8] (fun i j wr=>∃ lo hi:Nat,i=I lo∧j=I hi∧lo ≤ hi∧hi ≤ l.length∧Hd (∀ j,j<lo→Ar (nx l j) t=true)∧Hd (∀ j,hi ≤ j→j<l.length→Ar (nx l j) t=false)∧w=wr) (fun i j _=>(intOf j).toNat-(intOf i).toNat)
  case atStart=>exact⟨0,l.length,rfl,rfl,Nat.zero_le _,Nat.le_refl _,(fun j hj=>by omega:∀ j,j<0→Ar (nx l j) t=true),(fun j h1 h2=>by omega:∀ j,l.length ≤ j→j<l.length→Ar (nx l j) t=false),rfl⟩
  case round=>
    obtain⟨lo,hi,rfl,rfl,h1,h2,HL,HH,rfl⟩:=hrel
    by_cases aj:lo<hi
    · exact qhc
    · obtain rfl:lo=hi:=qb
      by_cases wv:lo<l.length
      · obtain⟨b,off,rfl,c1⟩:=hc lo wv
        have hlI:(lo:Int)<(l.length:Int):=qb
        by_cases he:nx l lo=t
        · have oy:=Cw he
          have HE:=hid he;clear hc he;generalize nx l lo=s at c1 oy;go_wp2
          go_ret2
          exact⟨rfl,lo,true,rfl,h2,HL.o,HH.o,Or.inl ⟨rfl,wv,HE.o⟩⟩
        · have oy:=Gl he
          have HE:=hid he;clear hc he;have hss:=Cw (rfl:nx l lo=nx l lo);generalize nx l lo=s at c1 oy hss;go_wp2
          go_ret2
          exact⟨rfl,lo,false,rfl,h2,HL.o,HH.o,Or.inr ⟨rfl,fun h=>HE.o h.2⟩⟩
      · have hlI:¬ (lo:Int)<(l.length:Int):=qb
        have zr:=hid wv;go_wp2
        go_ret2
        exact⟨rfl,lo,Or.inl ⟨rfl,h2,HL.o,HH.o,fun h=>absurd h zr.o⟩⟩
theorem Px (a:Option Addr) (cap:Nat) (l:List By) (t:By) (w:World) (F0:Cv w a l) (hl:l.length ≤ 1048576) (ew:Gf l) :
    Calls prog 123 #[.slice a l.length cap,.string t] w fun e w'=>w=w'∧∃(r:Nat) (b:Bool),e=.returned (.tuple #[I r,.bool b])∧((b=true∧r<l.length∧nx l r=t)∨(b=false∧¬ Ec l t)):=by
  have jk:=hid ew;have hc:∀ i,i<l.length→∃ b off,a=some ⟨b,off,none⟩∧w.cell? ⟨b,off+i,none⟩=some (.string (nx l i)):=fun i hi=>F0 i hi;clear ew F0;go_enter func123,ntmps123;go_wp2
  go_loopw [7,8] (fun i j wr=>∃ lo hi:Nat,i=I lo∧j=I hi∧lo ≤ hi∧hi ≤ l.length∧Hd (∀ j,j<lo→Ar (nx l j) t=true)∧Hd (∀ j,hi ≤ j→j<l.length→Ar (nx l j) t=false)∧w=wr) (fun i j _=>(intOf j).toNat-(intOf i).toNat)
  case atStart=>exact⟨0,l.length,rfl,rfl,Nat.zero_le _,Nat.le_refl _,(fun j hj=>by omega:∀ j,j<0→Ar (nx l j) t=true),(fun j h1 h2=>by omega:∀ j,l.length ≤ j→j<l.length→Ar (nx l j) t=false),rfl⟩
  case round=>
    obtain⟨lo,hi,rfl,rfl,h1,h2,HL,HH,rfl⟩:=hrel
    by_cases aj:lo<hi
    · exact qhc
    · obtain rfl:lo=hi:=qb
      by_cases wv:lo<l.length
      · obtain⟨b,off,rfl,c1⟩:=hc lo wv
        have hlI:(lo:Int)<(l.length:Int):=qb
        by_cases he:nx l lo=t
        · have oy:=Cw he
          have HE:=hid he;clear hc he;generalize nx l lo=s at c1 oy;go_wp2
          go_ret2
          exact⟨rfl,lo,true,rfl,Or.inl ⟨rfl,wv,HE.o⟩⟩
        · have oy:=Gl he
          have HE:=hid he;clear hc he;have hss:=Cw (rfl:nx l lo=nx l lo);generalize nx l lo=s at c1 oy hss;go_wp2
          go_ret2
          exact⟨rfl,lo,false,rfl,Or.inr ⟨rfl,fun h=>HE.o (Mp jk.o HL.o HH.o h).2⟩⟩
      · have hlI:¬ (lo:Int)<(l.length:Int):=qb
        have zr:=hid wv;go_wp2
        go_ret2
        exact⟨rfl,lo,Or.inl ⟨rfl,fun h=>zr.o (Mp jk.o HL.o HH.o h).1⟩⟩
def Eu (n:Nat) (ts:List By) (t A:By) (ok:Bool):Prop:=(ok=true∧∃ i,i<ts.length∧Ap n (nx ts i)=t∧A=nx ts i)∨(ok=false∧A=⟨#[]⟩∧¬ Ec (ts.map (Ap n)) t)
theorem Qbq {t:By} {i:Nat} (h:i<ts.length) (e:Ap n (nx ts i)=t):Ec (ts.map (Ap n)) t:=⟨i,by rw[List.length_map];exact h,by rw[Gp n ts i h];exact e⟩
theorem Eu.unique {t A A':By} {ok ok':Bool} (ha:Gf (ts.map (Ap n))) (h:Eu n ts t A ok) (h':Eu n ts t A' ok'):A'=A∧ok'=ok:=by
  rcases h with ⟨rfl,i,h1,h2,rfl⟩|⟨rfl,rfl,h1⟩<;>rcases h' with ⟨rfl,j,k1,k2,rfl⟩|⟨rfl,rfl,k1⟩
  · have:i=j:=by
      have hs:∀ i,i<ts.length→nx (ts.map (Ap n)) i=Ap n (nx ts i):=fun i h=>Gp n ts i h
      rcases Nat.lt_trichotomy i j with td|td|td
      · have:=ha.pair td (by rw[List.length_map];exact k1)
        rw[hs i h1,hs j k1,h2,k2,Ej] at this;cases this
      · exact td
      · have:=ha.pair td (by rw[List.length_map];exact h1)
        rw[hs i h1,hs j k1,h2,k2,Ej] at this;cases this
    subst this;exact⟨rfl,rfl⟩
  · exact absurd (Qbq h1 h2) k1
  · exact absurd (Qbq k1 k2) h1
  · exact⟨rfl,rfl⟩
def Gj (ts:List By) (x:By) (r:Nat):List By:=ts.take r++[x]++ts.drop r
theorem Ib (ts:List By) (x:By) (r:Nat) (h:r ≤ ts.length):(Gj ts x r).length=ts.length+1:=by simp[Gj];omega
theorem Pp (ts:List By) (x:By) (r:Nat):(Gj ts x r).map Value.string=(ts.map Value.string).take r++[.string x]++(ts.map Value.string).drop r:=by simp[Gj,List.map_take,List.map_drop]
def Iv (n:Nat) (ts:List By) (x:By) (r:Nat):Prop:=r<ts.length∧Ap n (nx ts r)=Ap n x
theorem Ko {is:List I3} (h:Au is=true):1 ≤ is.length∧is.length ≤ 200:=by
  unfold Au at h;simp only[Bool.and_eq_true,decide_eq_true_eq] at h;exact⟨h.1.1,h.1.2⟩
theorem Gw {v5 v6:Value} (h:w.heap[b]?=some (.cells #[v1,v2,v3,v4,v5,v6] T (0,0))):w.cell? ⟨b,0,none⟩=some v1∧w.cell? ⟨b,1,none⟩=some v2∧w.cell? ⟨b,2,none⟩=some v3∧w.cell? ⟨b,3,none⟩=some v4∧w.cell? ⟨b,4,none⟩=some v5∧w.cell? ⟨b,5,none⟩=some v6:=
  ⟨qaj,qaj,qaj,qaj,qaj,qaj⟩
theorem Ig {R:Nat} (h:Below B w w') (hR:B ≤ R) (u1 u2 u3 u4 u5 u6:Value):Below B w ((((((w'.setCell ⟨R,0,none⟩ u1).setCell ⟨R,1,none⟩ u2).setCell ⟨R,2,none⟩ u3).setCell ⟨R,3,none⟩ u4).setCell ⟨R,4,none⟩ u5).setCell ⟨R,5,none⟩ u6):=
  (((((h.setCell (p:=⟨R,0,none⟩) hR _).setCell (p:=⟨R,1,none⟩) hR _).setCell (p:=⟨R,2,none⟩) hR _).setCell (p:=⟨R,3,none⟩) hR _).setCell (p:=⟨R,4,none⟩) hR _).setCell (p:=⟨R,5,none⟩) hR _
structure ShG (w:World) (g lo hi n:Nat) (sv tv qv:Value) (ss ts:List By) (rs:List T3):Prop where
  blk:w.heap[g]?=some (.cells #[I (n:Int),tv,qv,sv] 149 (0,0))
  sx:Dq w lo hi sv ss
  tx:Dq w lo hi tv ts
  qs:Ii w lo hi qv rs
  ne:∀ b,sv.ownBlock=some b→tv.ownBlock≠some b
def ShO (w:World) (g lo hi n:Nat) (sv tv qv:Value) (ts:List By) (rs:List T3):Prop:=ShG w g lo hi n sv tv qv (ts.map (Ap n)) ts rs
theorem ShG.bl {g lo hi:Nat} {sv tv qv:Value} {ss:List By} {rs:List T3} (h:ShG w g lo hi n sv tv qv ss ts rs) (hb:Bw w w'):ShG w' g lo hi n sv tv qv ss ts rs:=⟨Ae h.blk hb,h.sx.bl hb,h.tx.bl hb,h.qs.bl hb,h.ne⟩
theorem Lk (h:w.heap[b]?=some (.cells #[v1,v2,v3,v4] T (0,0))):w.cell? ⟨b,0,none⟩=some v1∧w.cell? ⟨b,1,none⟩=some v2∧w.cell? ⟨b,2,none⟩=some v3∧w.cell? ⟨b,3,none⟩=some v4∧∀ j,w.frozen? ⟨b,j,none⟩=false:=by
  refine⟨?_,?_,?_,?_,fun j=>fH h j⟩<;>rw[cH h]<;>rfl
theorem blk4_set3 (hz:w.heap[P]?=some (.cells #[x,y,z,t] T (0,0))) (u1 u2 u3:Value):(((w.setCell ⟨P,0,none⟩ u1).setCell ⟨P,1,none⟩ u2).setCell ⟨P,2,none⟩ u3).heap[P]?=some (.cells #[u1,u2,u3,t] T (0,0)):=by
  rw[jB (jB (jB hz u1) u2) u3];rfl
theorem blk4_s3 (hz:w.heap[P]?=some (.cells #[x,y,z,t] T (0,0))) (u:Value):(w.setCell ⟨P,3,none⟩ u).heap[P]?=some (.cells #[x,y,z,u] T (0,0)):=by
  rw[jB hz u];rfl
theorem blk4_s1 (hz:w.heap[P]?=some (.cells #[x,y,z,t] T (0,0))) (u:Value):(w.setCell ⟨P,1,none⟩ u).heap[P]?=some (.cells #[x,u,z,t] T (0,0)):=by
  rw[jB hz u];rfl
theorem Qci (hb:Below B w w') (h:B ≤ b) (v0 v1 v2:Value):Below B w (((w'.setCell ⟨b,0,none⟩ v0).setCell ⟨b,1,none⟩ v1).setCell ⟨b,2,none⟩ v2):=
  ((hb.setCell (p:=⟨b,0,none⟩) h _).setCell (p:=⟨b,1,none⟩) h _).setCell (p:=⟨b,2,none⟩) h _
theorem map_insX (n:Nat) (ts:List By) (x:By) (r:Nat):(Gj ts x r).map (Ap n)=Gj (ts.map (Ap n)) (Ap n x) r:=by simp[Gj,List.map_take,List.map_drop]
def Im (n:Nat) (ts:List By) (x:By) (r:Nat) (cd:Int) (ts':List By) (A B:By):Prop:=
  (Iv n ts x r∧nx ts r≠x∧cd=2∧ts'=ts∧A=nx ts r∧B=x)∨
  (Iv n ts x r∧nx ts r=x∧cd=0∧ts'=ts∧A=⟨#[]⟩∧B=⟨#[]⟩)∨
  (¬ Iv n ts x r∧5000 ≤ ts.length∧cd=3∧ts'=ts∧A=⟨#[]⟩∧B=⟨#[]⟩)∨
  (¬ Iv n ts x r∧¬ 5000 ≤ ts.length∧cd=0∧ts'=Gj ts x r∧A=⟨#[]⟩∧B=⟨#[]⟩)

end Go.Proofs.YtfgoholldpeabaaGreatDoor
