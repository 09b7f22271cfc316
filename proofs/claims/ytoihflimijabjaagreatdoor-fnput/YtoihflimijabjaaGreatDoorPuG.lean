import Derived.Test.YtoihflimijabjaaGreatDoorUnPT
namespace Go.Proofs.YtoihflimijabjaaGreatDoor
open Value renaming slice->J,string->S,bool->F,tuple->Y
open Option renaming some->M,none->N
open Obj renaming cells->O
open Ending renaming returned->H
open _root_ renaming List->L,Nat->X
set_option maxHeartbeats 2000000
set_option maxRecDepth 100000
open _root_.Go.Proofs.Tryz Go.RowKit Go.Deep
set_option linter.unusedVariables false
set_option linter.unusedSimpArgs false
theorem Pg(a:Option Addr)(cap:X)(l:L By)(t:By)(w:World)(si:Cs w a l)(hl:l.length≤1048576)(l8:Fg l):Calls prog 38 #[J a l.length cap,S t] w λe w'=>w=w'∧∃(r:X)(b:Bool),e=H (Y #[I r,F b])∧((b=true∧r<l.length∧nx l r=t)∨(b=false∧¬ Hs l t)):=by
 have rz:Hd (Fg l):=l8;have hc:∀i,i<l.length→∃b off,a=M ⟨b,off,N⟩∧w.cell? ⟨b,off+i,N⟩=M (S (nx l i)):=λi hi=>si i hi;clear l8 si;go_enter func38,ntmps38;go_wp2
 go_loopw [7,8] (λi j wr=>∃lo hi:X,i=I lo∧j=I hi∧lo≤hi∧hi≤l.length∧Hd (∀j,j<lo→Aw (nx l j) t=true)∧Hd (∀j,hi≤j→j<l.length→Aw (nx l j) t=false)∧w=wr) (λi j _=>(intOf j).toNat-(intOf i).toNat)
 case atStart=>exact⟨0,l.length,rfl,rfl,Nat.zero_le _,Nat.le_refl _,(λj hj=>by omega:∀j,j<0→Aw (nx l j) t=true),(λj h1 h2=>by omega:∀j,l.length≤j→j<l.length→Aw (nx l j) t=false),rfl⟩
 case round=>
  obtain⟨lo,hi,rfl,rfl,h1,h2,HL,HH,rfl⟩:=hrel
  by_cases au:lo<hi
  ·exact qhg
  ·obtain rfl:lo=hi:=qg
   by_cases D2:lo<l.length
   ·obtain⟨b,off,rfl,c1⟩:=hc lo D2
    have hlI:(lo:Int)<(l.length:Int):=qg
    by_cases he:nx l lo=t
    ·have jj:=Eu he
     have HE:Hd (nx l lo=t):=he;clear hc he;generalize nx l lo=s at c1 jj;go_wp2
     go_ret2
     exact⟨rfl,lo,true,rfl,Or.inl ⟨rfl,D2,HE.o⟩⟩
    ·have jj:=Fx he
     have HE:Hd (nx l lo≠t):=he;clear hc he;have hss:=Eu (rfl:nx l lo=nx l lo);generalize nx l lo=s at c1 jj hss;go_wp2
     go_ret2
     exact⟨rfl,lo,false,rfl,Or.inr ⟨rfl,λh=>HE.o (Qao rz.o HL.o HH.o h).2⟩⟩
   ·have hlI:¬ (lo:Int)<(l.length:Int):=qg
    have HLL:Hd (¬ lo<l.length):=D2;go_wp2
    go_ret2
    exact⟨rfl,lo,Or.inl ⟨rfl,λh=>HLL.o (Qao rz.o HL.o HH.o h).1⟩⟩

theorem get_any(n:X)(g sg:X)(ta ra:Option Addr)(tc rn rc:X)(ts:L By)(t:By)(w:World)(hg:Ee w g n ta ra ts.length tc rn rc (J (p_ sg) ts.length ts.length))(du:Cs w (p_ sg) (ts.map (Ap n)))(hc:Cs w ta ts)(hl:ts.length≤1048576)(l8:Fg (ts.map (Ap n))):Calls prog 27 #[.pointer (p_ g),S t] w λe w'=>w=w'∧∃A ok,e=H (Y #[S A,F ok])∧Dt n ts t A ok:=by
 have k1:w.cell? ⟨g,1,N⟩=M (J ta ts.length tc):=by unfold Ee at hg;rw[cH hg];rfl
 have k3:w.cell? ⟨g,3,N⟩=M (J (p_ sg) ts.length ts.length):=by unfold Ee at hg;rw[cH hg];rfl
 have HC:Hd (Cs w ta ts):=hc
 have HB:Hd (Calls prog 38 #[J (p_ sg) ts.length ts.length,S t] w λe w'=>w=w'∧∃(r:X)(b:Bool),e=H (Y #[I r,F b])∧((b=true∧r<ts.length∧Ap n (nx ts r)=t)∨(b=false∧¬ Hs (ts.map (Ap n)) t))):=by
  have:=Pg (p_ sg) ts.length (ts.map (Ap n)) t w du (by rw[List.length_map];exact hl) l8;rw[List.length_map]at this;refine this.mono ?_;rintro e w' ⟨rfl,r,b,rfl,h⟩;refine⟨rfl,r,b,rfl,?_⟩
  rcases h with⟨h1,h2,h3⟩|h
  ·exact Or.inl ⟨h1,h2,by rw[←Gj n ts r h2];exact h3⟩
  ·exact Or.inr h
 clear hc du l8 hg;go_enter func27,ntmps27;go_wp2_with fail;refine HB.o.mono ?_;rintro e w2 ⟨rfl,r,b,rfl,hr⟩
 rcases hr with⟨rfl,h3,h4⟩|⟨rfl,h3⟩
 ·obtain⟨b,off,rfl,c1⟩:=HC.o r h3
  replace c1:w.cell? ⟨b,off+r,N⟩=M (S (nx ts r)):=c1;have HO:Hd (Dt n ts t (nx ts r) true):=Or.inl ⟨rfl,r,h3,h4,rfl⟩;have hrI:(r:Int)<(ts.length:Int):=qg;clear h4;generalize nx ts r=x at c1 HO;go_wp2_with fail
  go_ret2
  exact⟨rfl,x,true,rfl,HO.o⟩
 ·have HO:Hd (Dt n ts t ⟨#[]⟩ false):=Or.inr ⟨rfl,rfl,h3⟩
  clear h3;go_wp2_with fail
  go_ret2
  exact⟨rfl,⟨#[]⟩,false,rfl,HO.o⟩

def GetP(n:Int)(ts:L By)(rs:L T3)(t A:By)(ok:Bool):Prop:=(Cz n ts rs∧Dt n.toNat ts t A ok)∨(¬ Cz n ts rs∧A=⟨#[]⟩∧ok=false)
theorem Qh(n:Int)(ta ra:Option Addr)(tc rc:X)(ts:L By)(rs:L T3)(t:By)(w:World)(hT:Tf w)(h:Jy w ta ts ra rs):Calls prog 10 #[.agg #[I n,J ta ts.length tc,J ra rs.length rc],S t] w λe w'=>Bw w w'∧∃A ok,e=H (Y #[S A,F ok])∧GetP n ts rs t A ok:=by
 have ba:Bw w (w.alloc (O #[I n,J ta ts.length tc,J ra rs.length rc] 26)):=aN _ _;have k0:(w.alloc (O #[I n,J ta ts.length tc,J ra rs.length rc] 26)).cell? ⟨w.heap.size,0,N⟩=M (I n):=qr;have k1:(w.alloc (O #[I n,J ta ts.length tc,J ra rs.length rc] 26)).cell? ⟨w.heap.size,1,N⟩=M (J ta ts.length tc):=qr;have k2:(w.alloc (O #[I n,J ta ts.length tc,J ra rs.length rc] 26)).cell? ⟨w.heap.size,2,N⟩=M (J ra rs.length rc):=qr;have HI:Hd (Jy w ta ts ra rs):=h;have HT:Hd (Tf w):=hT;clear h hT;go_enter func10,ntmps10;go_wp2_with fail;refine(Me n ta ra tc rc ts rs _ (HT.o.bl ba) (HI.o.bl ba)).mono ?_;rintro e w1 ⟨ah,⟨hg,v,rfl⟩|⟨hg,g,sg,rfl,dx,du,_⟩⟩
 ·have db:=bt ba ah
  have HR:Hd (GetP n ts rs t ⟨#[]⟩ false):=Or.inr ⟨hg,rfl,rfl⟩;clear hg ba ah k0 k1 k2;go_wp2_with fail
  go_ret2
  exact⟨db,⟨#[]⟩,false,rfl,HR.o⟩
 ·obtain⟨m,rfl⟩:=Int.eq_ofNat_of_zero_le (show 0≤n by have:=hg.1;omega)
  have db:=bt ba ah;have HG:Hd (Cz m ts rs):=hg;have HGE:Hd (Calls prog 27 #[.pointer (p_ g),S t] w1 λe w'=>w1=w'∧∃A ok,e=H (Y #[S A,F ok])∧Dt m ts t A ok):=get_any m g sg ta ra tc rs.length rc ts t w1 dx du (HI.o.st.bl db) HI.o.lt hg.2.2.1.2.2;clear hg ba ah k0 k1 k2 dx du;go_wp2_with fail;refine HGE.o.mono ?_;rintro e w2 ⟨rfl,AN,ok,rfl,hr⟩;have HR:Hd (GetP m ts rs t AN ok):=Or.inl ⟨HG.o,hr⟩;clear hr;go_wp2_with fail
  go_ret2
  exact⟨db,AN,ok,rfl,HR.o⟩
end Go.Proofs.YtoihflimijabjaaGreatDoor
