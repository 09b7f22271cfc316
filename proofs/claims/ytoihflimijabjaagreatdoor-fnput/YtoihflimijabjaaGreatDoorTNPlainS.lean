import Derived.Test.YtoihflimijabjaaGreatDoorTClB
namespace Go.Proofs.YtoihflimijabjaaGreatDoor
open _root_.Go.Proofs.Tryz Go.RowKit
open Value renaming slice->J,string->S,agg->G
open Obj renaming cells->O
open Go renaming World->E
open Ending renaming returned->H
open _root_ renaming List->L,Nat->X
set_option linter.unusedVariables false
set_option maxHeartbeats 8000000
set_option maxRecDepth 100000
set_option linter.unusedSimpArgs false
section
open Go.Deep
theorem Lr(V:E)(o:Obj):Bw V (V.alloc o):=aN _ _
end
theorem Ps(sa ta:Option Addr)(n2 c1 c2:X)(ts:L S2)(s:By)(w:E)(hc:Hz w sa ts)(hl:ts.length<=1048576):Calls prog 88 #[G #[J sa ts.length c1,J ta n2 c2],S s] w λe w'=>Bw w w'/\((∃i:X,e=H (I i)/\i<ts.length/\(sx ts i).name=s)\/(e=H (I (-1))/\¬ Hs (Av ts) s)):=by
 have ba:Bw w (w.alloc (O #[J sa ts.length c1,J ta n2 c2] 44)):=aN _ _
 have k1:(w.alloc (O #[J sa ts.length c1,J ta n2 c2] 44)).cell? ⟨w.heap.size,0,none⟩=some (J sa ts.length c1):=qr
 have HC:Hd (Hz (w.alloc (O #[J sa ts.length c1,J ta n2 c2] 44)) sa ts):=hc.bl ba
 clear hc
 go_enter func88,ntmps88
 go_wp2
 go_loopw [5] (λi wr=>∃k:X,k<=ts.length/\i=I k/\Hd (∀j,j<k->(sx ts j).name≠s)/\(w.alloc (O #[J sa ts.length c1,J ta n2 c2] 44))=wr) (λi _=>ts.length-(intOf i).toNat)
 case atStart=>exact⟨0,Nat.zero_le _,rfl,(λj hj=>by omega:∀j,j<0->(sx ts j).name≠s),rfl⟩
 case round=>
  obtain⟨k,hk,rfl,HA,rfl⟩:=hrel
  by_cases au:k<ts.length
  ·obtain⟨b,off,rfl,mu,ml⟩:=HC.o k au;have gi:(k:Int)<(ts.length:Int):=qg;obtain⟨nm,en⟩:=Aj ((sx ts k).name);have EN:Hd ((sx ts k).name=nm):=en;rw[en]at mu;clear en ml;exact qic
  ·go_wp2;go_ret;exact⟨ba,Or.inr ⟨rfl,λ⟨j,hj,e⟩=>by rw[Bo]at hj;rw[Dk]at e;exact HA.o j qg e⟩⟩
theorem Pr(sa ta:Option Addr)(n1 c1 c2:X)(ts:L T2)(s:By)(w:E)(hc:Jq w ta ts)(hl:ts.length<=1048576):Calls prog 86 #[G #[J sa n1 c1,J ta ts.length c2],S s] w λe w'=>Bw w w'/\((∃i:X,e=H (I i)/\i<ts.length/\(tx ts i).name=s)\/(e=H (I (-1))/\¬ Hs (Au ts) s)):=by
 have ba:Bw w (w.alloc (O #[J sa n1 c1,J ta ts.length c2] 44)):=aN _ _
 have k1:(w.alloc (O #[J sa n1 c1,J ta ts.length c2] 44)).cell? ⟨w.heap.size,1,none⟩=some (J ta ts.length c2):=qr
 have HC:Hd (Jq (w.alloc (O #[J sa n1 c1,J ta ts.length c2] 44)) ta ts):=hc.bl ba
 clear hc
 go_enter func86,ntmps86
 go_wp2
 go_loopw [5] (λi wr=>∃k:X,k<=ts.length/\i=I k/\Hd (∀j,j<k->(tx ts j).name≠s)/\(w.alloc (O #[J sa n1 c1,J ta ts.length c2] 44))=wr) (λi _=>ts.length-(intOf i).toNat)
 case atStart=>exact⟨0,Nat.zero_le _,rfl,(λj hj=>by omega:∀j,j<0->(tx ts j).name≠s),rfl⟩
 case round=>
  obtain⟨k,hk,rfl,HA,rfl⟩:=hrel
  by_cases au:k<ts.length
  ·obtain⟨b,off,rfl,mu,x,p,ml,uy⟩:=HC.o k au;have gi:(k:Int)<(ts.length:Int):=qg;obtain⟨nm,en⟩:=Aj ((tx ts k).name);have EN:Hd ((tx ts k).name=nm):=en;rw[en]at mu;clear en ml uy;exact qic
  ·go_wp2;go_ret;exact⟨ba,Or.inr ⟨rfl,λ⟨j,hj,e⟩=>by rw[Cb]at hj;rw[Dy]at e;exact HA.o j qg e⟩⟩
theorem Pm{ss:L S2}{ts:L T2}{nm:By}(h:Ye ss ts nm):Du ss ts nm=true:=by simp[Du,h]
theorem Ul{ss:L S2}{ts:L T2}{nm:By}(h:¬ Ye ss ts nm):Du ss ts nm=false:=by simp[Du,h]
section
theorem Xx(x:By):x.extract 0 x.size=x:=by
 apply WideShapes.bytes_inj
 simp
theorem Vq(x:By):x.extract x.size x.size=⟨#[]⟩:=by
 apply WideShapes.bytes_inj
 simp
def Kt(w:E)(e:Ending)(outs:L By):Prop:=∃g cap:X,e=H (J (p_ g) outs.length cap)/\∀j,j<outs.length->w.cell? ⟨g,j,none⟩=some (S (outs.getD j ByteArray.empty))
theorem Wt(w:E)(x:By)(ty:TypeId):Kt (w.alloc (O #[S x] ty)) (H (J (p_ w.heap.size) 1 1)) [x]:=
 ⟨_,_,rfl,λj hj=>by obtain rfl:j=0:=(by simp at hj;omega);simp[go_sem]⟩
theorem out2(w:E)(x y:By)(ty:TypeId):Kt (w.alloc (O #[S x,S y] ty)) (H (J (p_ w.heap.size) 2 2)) [x,y]:=
 ⟨_,_,rfl,λj hj=>by
  rcases(show j=0\/j=1 by simp at hj;omega)with rfl|rfl
  ·simp[go_sem]
  ·simp[go_sem]⟩
variable (t:By) (n:X) (a b:By) (w:E)
theorem plain_1(ha:a.size<=2000)(hb:b.size<=2000)(hn:n<=2000):Calls prog 113 #[G #[I 1,S t,I n],S a,S b] w λe w'=>Bw w w'/\Kt w' e (El 1 t n a b):=by
 go_enter func113,ntmps113
 go_wp2
 go_ret
 exact⟨(aN _ _).alloc qi _,by have h:=Wt (w.alloc (O #[I 1,S t,I n] 103)) (t) 9;simpa [El] using h⟩
theorem plain_2(ha:a.size<=2000)(hb:b.size<=2000)(hn:n<=2000):Calls prog 113 #[G #[I 2,S t,I n],S a,S b] w λe w'=>Bw w w'/\Kt w' e (El 2 t n a b):=by
 have hc:(b++a).size=b.size+a.size:=ByteArray.size_append
 go_enter func113,ntmps113
 go_wp2
 go_ret
 exact⟨(aN _ _).alloc qi _,by have h:=Wt (w.alloc (O #[I 2,S t,I n] 103)) (b++a) 9;simpa [El] using h⟩
theorem plain_3(ha:a.size<=2000)(hb:b.size<=2000)(hn:n<=2000):Calls prog 113 #[G #[I 3,S t,I n],S a,S b] w λe w'=>Bw w w'/\Kt w' e (El 3 t n a b):=by
 by_cases h:n<a.size
 ·have hI:(n:Int)<(a.size:Int):=qg;have e:min n a.size=n:=qg;have l5:El 3 t n a b=[a.extract 0 n]:=by simp only[El,e]
  rw[l5];clear e l5;go_enter func113,ntmps113;go_wp2;go_ret;exact⟨(aN _ _).alloc qi _,by have h:=Wt (w.alloc (O #[I 3,S t,I n] 103)) (a.extract 0 n) 9;simpa using h⟩
 ·have hI:¬ (n:Int)<(a.size:Int):=qg;have e:min n a.size=a.size:=qg;have l5:El 3 t n a b=[a]:=by simp only[El,e,Xx]
  rw[l5];clear e l5;go_enter func113,ntmps113;go_wp2;go_ret;exact⟨(aN _ _).alloc qi _,by have h:=Wt (w.alloc (O #[I 3,S t,I n] 103)) (a) 9;simpa using h⟩
theorem plain_4(ha:a.size<=2000)(hb:b.size<=2000)(hn:n<=2000):Calls prog 113 #[G #[I 4,S t,I n],S a,S b] w λe w'=>Bw w w'/\Kt w' e (El 4 t n a b):=by
 by_cases h:n<a.size
 ·have hI:(n:Int)<(a.size:Int):=qg;have e:min n a.size=n:=qg;have l5:El 4 t n a b=[a.extract n a.size]:=by simp only[El,e]
  rw[l5];clear e l5;go_enter func113,ntmps113;go_wp2;go_ret;exact⟨(aN _ _).alloc qi _,by have h:=Wt (w.alloc (O #[I 4,S t,I n] 103)) (a.extract n a.size) 9;simpa using h⟩
 ·have hI:¬ (n:Int)<(a.size:Int):=qg;have e:min n a.size=a.size:=qg;have l5:El 4 t n a b=[⟨#[]⟩]:=by simp only[El,e,Vq]
  rw[l5];clear e l5;go_enter func113,ntmps113;go_wp2;go_ret;exact⟨(aN _ _).alloc qi _,by have h:=Wt (w.alloc (O #[I 4,S t,I n] 103)) (⟨#[]⟩) 9;simpa using h⟩
theorem plain_5(ha:a.size<=2000)(hb:b.size<=2000)(hn:n<=2000):Calls prog 113 #[G #[I 5,S t,I n],S a,S b] w λe w'=>Bw w w'/\Kt w' e (El 5 t n a b):=by
 go_enter func113,ntmps113
 go_wp2_with (go_at_call 114;refine(Xf a n _ ha hn).mono ?_;rintro e w9 ⟨rfl,rfl⟩)
 go_ret
 exact⟨(aN _ _).alloc qi _,by have h:=Wt (w.alloc (O #[I 5,S t,I n] 103)) (Uz a n) 9;simpa [El] using h⟩
theorem plain_6(ha:a.size<=2000)(hb:b.size<=2000)(hn:n<=2000):Calls prog 113 #[G #[I 6,S t,I n],S a,S b] w λe w'=>Bw w w'/\Kt w' e (El 6 t n a b):=by
 have hsym:(a.toList == b.toList)=(b.toList == a.toList):=BEq.comm
 obtain⟨f,ef⟩:=Aj (De (a.toList == b.toList))
 have EF:Hd (De (a.toList == b.toList)=f):=ef
 have l5:El 6 t n a b=[f]:=by simp only[El,<- hsym,ef]
 rw[l5]
 clear hsym l5 ef
 go_enter func113,ntmps113
 go_wp2_with (go_at_call 56;refine(Ey _ _).mono ?_;rintro e w9 ⟨rfl,rfl⟩;rw[EF.o])
 go_ret
 exact⟨(aN _ _).alloc qi _,by have h:=Wt (w.alloc (O #[I 6,S t,I n] 103)) f 9;simpa using h⟩
theorem plain_7(ha:a.size<=2000)(hb:b.size<=2000)(hn:n<=2000):Calls prog 113 #[G #[I 7,S t,I n],S a,S b] w λe w'=>Bw w w'/\Kt w' e (El 7 t n a b):=by
 go_enter func113,ntmps113
 go_wp2
 go_ret
 exact⟨(aN _ _).alloc qi _,by have h:=out2 (w.alloc (O #[I 7,S t,I n] 103)) a a 9;simpa [El] using h⟩
theorem plain_8(ha:a.size<=2000)(hb:b.size<=2000)(hn:n<=2000):Calls prog 113 #[G #[I 8,S t,I n],S a,S b] w λe w'=>Bw w w'/\Kt w' e (El 8 t n a b):=by
 go_enter func113,ntmps113
 go_wp2
 go_ret
 exact⟨(aN _ _).alloc qi _,by have h:=out2 (w.alloc (O #[I 8,S t,I n] 103)) a b 9;simpa [El] using h⟩
theorem plain_any(o:X)(ha:a.size<=2000)(hb:b.size<=2000)(hn:n<=2000)(h1:1<=o)(h2:o<=8):Calls prog 113 #[G #[I (o:Int),S t,I n],S a,S b] w λe w'=>Bw w w'/\Kt w' e (El o t n a b):=by
 rcases(show o=1\/o=2\/o=3\/o=4\/o=5\/o=6\/o=7\/o=8 from qg)with rfl|rfl|rfl|rfl|rfl|rfl|rfl|rfl
 ·exact plain_1 t n a b w ha hb hn
 ·exact plain_2 t n a b w ha hb hn
 ·exact plain_3 t n a b w ha hb hn
 ·exact plain_4 t n a b w ha hb hn
 ·exact plain_5 t n a b w ha hb hn
 ·exact plain_6 t n a b w ha hb hn
 ·exact plain_7 t n a b w ha hb hn
 ·exact plain_8 t n a b w ha hb hn
end
end Go.Proofs.YtoihflimijabjaaGreatDoor
