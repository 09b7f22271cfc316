import Derived.Test.YtbkkjodaaijimaaGreatDoorTImI
namespace Go.Proofs.YtbkkjodaaijimaaGreatDoor
open _root_.Go.Proofs.Tryz Go.RowKit
open Value renaming slice->J,string->S,agg->G
open Option renaming some->M,none->N
open Obj renaming cells->O
open Go renaming Value->Z,World->E
open Ending renaming returned->H
open _root_ renaming List->L,Nat->X
set_option linter.unusedVariables false
set_option maxHeartbeats 8000000
set_option maxRecDepth 100000
set_option linter.unusedSimpArgs false
section
open Go.Deep
theorem Ii{w:E}{b:X}{u0 u1 u2 u3 u4 u5:Z}{T:TypeId}(h:w.heap[b]?=M (O #[u0,u1,u2,u3,u4,u5] T (0,0)))(v0 v1 v2 v3 v4 v5:Z):((((((w.setCell ⟨b,0,N⟩ v0).setCell ⟨b,1,N⟩ v1).setCell ⟨b,2,N⟩ v2).setCell ⟨b,3,N⟩ v3).setCell ⟨b,4,N⟩ v4).setCell ⟨b,5,N⟩ v5).heap[b]?=M (O #[v0,v1,v2,v3,v4,v5] T (0,0)):=by
 rw[jB (jB (jB (jB (jB (jB h v0) v1) v2) v3) v4) v5]
 rfl
theorem Rm{w:E}{b:X}{v0 v1 v2 v3 v4 v5:Z}{T:TypeId}(h:w.heap[b]?=M (O #[v0,v1,v2,v3,v4,v5] T (0,0))):(w.cell? ⟨b,0,N⟩=M v0/\w.cell? ⟨b,1,N⟩=M v1/\w.cell? ⟨b,2,N⟩=M v2/\w.cell? ⟨b,3,N⟩=M v3/\w.cell? ⟨b,4,N⟩=M v4/\w.cell? ⟨b,5,N⟩=M v5)/\∀j,w.frozen? ⟨b,j,N⟩=false:=by
 refine⟨⟨?_,?_,?_,?_,?_,?_⟩,λj=>fH h j⟩<;>rw[cH h]<;>rfl
theorem KP.set6{B h mb b:X}{av kv:Z}{w w':E}(k:KP B h mb av kv w w')(hB:B<=b)(hn:w.heap.size<=b)(v0 v1 v2 v3 v4 v5:Z):KP B h mb av kv w ((((((w'.setCell ⟨b,0,N⟩ v0).setCell ⟨b,1,N⟩ v1).setCell ⟨b,2,N⟩ v2).setCell ⟨b,3,N⟩ v3).setCell ⟨b,4,N⟩ v4).setCell ⟨b,5,N⟩ v5):=(((((k.setN hB hn).setN hB hn).setN hB hn).setN hB hn).setN hB hn).setN hB hn
def mkW(sv tv:Z)(w:E):E:=((w.alloc (O #[sv,tv] 40)).alloc (.map #[] 0)).alloc (O #[sv,tv,.map (M (w.heap.size+1)),nS,nS,.nilFunc] 211)
theorem Ys(sa ta:Option Addr)(n1 n2 c1 c2:X)(w:E):Calls prog 127 #[G #[J sa n1 c1,J ta n2 c2]] w λe w'=>e=H (.pointer (p_ (w.heap.size+1+1)))/\w'=mkW (J sa n1 c1) (J ta n2 c2) w:=by
 have hmm:∀w:E,(Instr.makeMap 209 N).run prog w=.ok (.map (M w.heap.size)) (w.alloc (.map #[] 0)):=λw=>qi
 go_enter func127,ntmps127
 exact qaf
theorem mkW_blk(sv tv:Z)(w:E):(mkW sv tv w).heap[w.heap.size+1+1]?=M (O #[sv,tv,.map (M (w.heap.size+1)),nS,nS,.nilFunc] 211 (0,0)):=by
 unfold mkW
 have h:=Bf ((w.alloc (O #[sv,tv] 40)).alloc (.map #[] 0)) (O #[sv,tv,.map (M (w.heap.size+1)),nS,nS,.nilFunc] 211)
 rw[show((w.alloc (O #[sv,tv] 40)).alloc (.map #[] 0)).heap.size=w.heap.size+1+1 from qg]at h
 exact h
theorem mkW_map(sv tv:Z)(w:E):Jb (mkW sv tv w) (w.heap.size+1) 0 (λ_=>N):=by
 have h:=Jb.made (w.alloc (O #[sv,tv] 40))
 rw[show(w.alloc (O #[sv,tv] 40)).heap.size=w.heap.size+1 from qg]at h
 unfold mkW
 exact h.same (Lib.alloc_old _ _ _ qg)
theorem mkW_below(sv tv:Z)(w:E):Bw w (mkW sv tv w):=by
 unfold mkW
 exact((aN _ _).alloc qg _).alloc qh _
theorem blk_keep'{w w':E}{b:X}{cs:Array Z}{T:TypeId}(hb:Bw w w')(h:w.heap[b]?=M (O cs T (0,0))):w'.heap[b]?=M (O cs T (0,0)):=by
 rw[hb.block _ (Ag h)];exact h
theorem strV_get'(l:L By)(i:X)(h:i<l.length):(Aq l)[i]?=M (S (l.getD i ByteArray.empty)):=by
 unfold Aq
 rw[List.getElem?_map,Ix h,gG,Ix h]
 rfl
theorem own_base'{w:E}{B B' e sz n:X}{v:Z}{xs:L Z}(h:w.ownsRow B e sz v n xs)(hB:B'<=B):w.ownsRow B' e sz v n xs:=by
 exact qke
theorem Ai(V:E)(o:Obj):Bw V (V.alloc o):=aN _ _
end
theorem Rd(sa ta:Option Addr)(n2 c1 c2:X)(ts:L S2)(s:By)(w:E)(hc:Ho w sa ts)(hl:ts.length<=1048576):Calls prog 85 #[G #[J sa ts.length c1,J ta n2 c2],S s] w λe w'=>Bw w w'/\((∃i:X,e=H (I i)/\i<ts.length/\(sx ts i).name=s)\/(e=H (I (-1))/\¬ Ed (Am ts) s)):=by
 have ak:Bw w (w.alloc (O #[J sa ts.length c1,J ta n2 c2] 40)):=aN _ _
 have k1:(w.alloc (O #[J sa ts.length c1,J ta n2 c2] 40)).cell? ⟨w.heap.size,0,N⟩=M (J sa ts.length c1):=qk
 have HC:Hd (Ho (w.alloc (O #[J sa ts.length c1,J ta n2 c2] 40)) sa ts):=hc.bl ak
 clear hc
 go_enter func85,ntmps85
 go_wp2
 go_loopw [5] (λi wr=>∃k:X,k<=ts.length/\i=I k/\Hd (∀j,j<k->(sx ts j).name≠s)/\(w.alloc (O #[J sa ts.length c1,J ta n2 c2] 40))=wr) (λi _=>ts.length-(intOf i).toNat)
 case atStart=>exact⟨0,Nat.zero_le _,rfl,(λj hj=>by omega:∀j,j<0->(sx ts j).name≠s),rfl⟩
 case round=>
  obtain⟨k,hk,rfl,HA,rfl⟩:=hrel
  by_cases aj:k<ts.length
  ·obtain⟨b,off,rfl,D1,yl⟩:=HC.o k aj;have io:(k:Int)<(ts.length:Int):=qb;obtain⟨nm,en⟩:=Aj ((sx ts k).name);have EN:Hd ((sx ts k).name=nm):=en;rw[en]at D1;clear en yl;exact qhu
  ·go_wp2;go_ret;exact⟨ak,Or.inr ⟨rfl,λ⟨j,hj,e⟩=>by rw[Bs]at hj;rw[Dv]at e;exact HA.o j qb e⟩⟩
theorem Rc(sa ta:Option Addr)(n1 c1 c2:X)(ts:L T2)(s:By)(w:E)(hc:Gu w ta ts)(hl:ts.length<=1048576):Calls prog 60 #[G #[J sa n1 c1,J ta ts.length c2],S s] w λe w'=>Bw w w'/\((∃i:X,e=H (I i)/\i<ts.length/\(tx ts i).name=s)\/(e=H (I (-1))/\¬ Ed (Ak ts) s)):=by
 have ak:Bw w (w.alloc (O #[J sa n1 c1,J ta ts.length c2] 40)):=aN _ _
 have k1:(w.alloc (O #[J sa n1 c1,J ta ts.length c2] 40)).cell? ⟨w.heap.size,1,N⟩=M (J ta ts.length c2):=qk
 have HC:Hd (Gu (w.alloc (O #[J sa n1 c1,J ta ts.length c2] 40)) ta ts):=hc.bl ak
 clear hc
 go_enter func60,ntmps60
 go_wp2
 go_loopw [5] (λi wr=>∃k:X,k<=ts.length/\i=I k/\Hd (∀j,j<k->(tx ts j).name≠s)/\(w.alloc (O #[J sa n1 c1,J ta ts.length c2] 40))=wr) (λi _=>ts.length-(intOf i).toNat)
 case atStart=>exact⟨0,Nat.zero_le _,rfl,(λj hj=>by omega:∀j,j<0->(tx ts j).name≠s),rfl⟩
 case round=>
  obtain⟨k,hk,rfl,HA,rfl⟩:=hrel
  by_cases aj:k<ts.length
  ·obtain⟨b,off,rfl,D1,x,p,yl,c3'⟩:=HC.o k aj;have io:(k:Int)<(ts.length:Int):=qb;obtain⟨nm,en⟩:=Aj ((tx ts k).name);have EN:Hd ((tx ts k).name=nm):=en;rw[en]at D1;clear en yl c3';exact qhu
  ·go_wp2;go_ret;exact⟨ak,Or.inr ⟨rfl,λ⟨j,hj,e⟩=>by rw[Bp]at hj;rw[Dk]at e;exact HA.o j qb e⟩⟩
theorem Qw{ss:L S2}{ts:L T2}{nm:By}(h:Xf ss ts nm):Cf ss ts nm=true:=by simp[Cf,h]
theorem Xp{ss:L S2}{ts:L T2}{nm:By}(h:¬ Xf ss ts nm):Cf ss ts nm=false:=by simp[Cf,h]
section
theorem extract_all(x:By):x.extract 0 x.size=x:=by
 apply WideShapes.bytes_inj
 simp
theorem Zg(x:By):x.extract x.size x.size=⟨#[]⟩:=by
 apply WideShapes.bytes_inj
 simp
def Mg(w:E)(e:Ending)(outs:L By):Prop:=∃g cap:X,e=H (J (p_ g) outs.length cap)/\∀j,j<outs.length->w.cell? ⟨g,j,N⟩=M (S (outs.getD j ByteArray.empty))
theorem out1(w:E)(x:By)(ty:TypeId):Mg (w.alloc (O #[S x] ty)) (H (J (p_ w.heap.size) 1 1)) [x]:=
 ⟨_,_,rfl,λj hj=>by obtain rfl:j=0:=(by simp at hj;omega);simp[go_sem]⟩
theorem out2(w:E)(x y:By)(ty:TypeId):Mg (w.alloc (O #[S x,S y] ty)) (H (J (p_ w.heap.size) 2 2)) [x,y]:=
 ⟨_,_,rfl,λj hj=>by
  rcases(show j=0\/j=1 by simp at hj;omega)with rfl|rfl
  ·simp[go_sem]
  ·simp[go_sem]⟩
variable (t:By) (n:X) (a b:By) (w:E)
theorem plain_1(ha:a.size<=2000)(hb:b.size<=2000)(hn:n<=2000):Calls prog 153 #[G #[I 1,S t,I n],S a,S b] w λe w'=>Bw w w'/\Mg w' e (Cr 1 t n a b):=by
 go_enter func153,ntmps153
 go_wp2
 go_ret
 exact⟨(aN _ _).alloc qg _,by have h:=out1 (w.alloc (O #[I 1,S t,I n] 143)) (t) 9;simpa [Cr] using h⟩
theorem plain_2(ha:a.size<=2000)(hb:b.size<=2000)(hn:n<=2000):Calls prog 153 #[G #[I 2,S t,I n],S a,S b] w λe w'=>Bw w w'/\Mg w' e (Cr 2 t n a b):=by
 have hc:(b++a).size=b.size+a.size:=ByteArray.size_append
 go_enter func153,ntmps153
 go_wp2
 go_ret
 exact⟨(aN _ _).alloc qg _,by have h:=out1 (w.alloc (O #[I 2,S t,I n] 143)) (b++a) 9;simpa [Cr] using h⟩
theorem plain_3(ha:a.size<=2000)(hb:b.size<=2000)(hn:n<=2000):Calls prog 153 #[G #[I 3,S t,I n],S a,S b] w λe w'=>Bw w w'/\Mg w' e (Cr 3 t n a b):=by
 by_cases h:n<a.size
 ·have hI:(n:Int)<(a.size:Int):=qb;have e:min n a.size=n:=qb;have nz:Cr 3 t n a b=[a.extract 0 n]:=by simp only[Cr,e]
  rw[nz];clear e nz;go_enter func153,ntmps153;go_wp2;go_ret;exact⟨(aN _ _).alloc qg _,by have h:=out1 (w.alloc (O #[I 3,S t,I n] 143)) (a.extract 0 n) 9;simpa using h⟩
 ·have hI:¬ (n:Int)<(a.size:Int):=qb;have e:min n a.size=a.size:=qb;have nz:Cr 3 t n a b=[a]:=by simp only[Cr,e,extract_all]
  rw[nz];clear e nz;go_enter func153,ntmps153;go_wp2;go_ret;exact⟨(aN _ _).alloc qg _,by have h:=out1 (w.alloc (O #[I 3,S t,I n] 143)) (a) 9;simpa using h⟩
theorem plain_4(ha:a.size<=2000)(hb:b.size<=2000)(hn:n<=2000):Calls prog 153 #[G #[I 4,S t,I n],S a,S b] w λe w'=>Bw w w'/\Mg w' e (Cr 4 t n a b):=by
 by_cases h:n<a.size
 ·have hI:(n:Int)<(a.size:Int):=qb;have e:min n a.size=n:=qb;have nz:Cr 4 t n a b=[a.extract n a.size]:=by simp only[Cr,e]
  rw[nz];clear e nz;go_enter func153,ntmps153;go_wp2;go_ret;exact⟨(aN _ _).alloc qg _,by have h:=out1 (w.alloc (O #[I 4,S t,I n] 143)) (a.extract n a.size) 9;simpa using h⟩
 ·have hI:¬ (n:Int)<(a.size:Int):=qb;have e:min n a.size=a.size:=qb;have nz:Cr 4 t n a b=[⟨#[]⟩]:=by simp only[Cr,e,Zg]
  rw[nz];clear e nz;go_enter func153,ntmps153;go_wp2;go_ret;exact⟨(aN _ _).alloc qg _,by have h:=out1 (w.alloc (O #[I 4,S t,I n] 143)) (⟨#[]⟩) 9;simpa using h⟩
theorem plain_5(ha:a.size<=2000)(hb:b.size<=2000)(hn:n<=2000):Calls prog 153 #[G #[I 5,S t,I n],S a,S b] w λe w'=>Bw w w'/\Mg w' e (Cr 5 t n a b):=by
 go_enter func153,ntmps153
 go_wp2_with (go_at_call 171;refine(l2Piece_any a n _ ha hn).mono ?_;rintro e w9 ⟨rfl,rfl⟩)
 go_ret
 exact⟨(aN _ _).alloc qg _,by have h:=out1 (w.alloc (O #[I 5,S t,I n] 143)) (Kr a n) 9;simpa [Cr] using h⟩
theorem plain_6(ha:a.size<=2000)(hb:b.size<=2000)(hn:n<=2000):Calls prog 153 #[G #[I 6,S t,I n],S a,S b] w λe w'=>Bw w w'/\Mg w' e (Cr 6 t n a b):=by
 have hsym:(a.toList == b.toList)=(b.toList == a.toList):=BEq.comm
 obtain⟨f,ef⟩:=Aj (Cl (a.toList == b.toList))
 have EF:Hd (Cl (a.toList == b.toList)=f):=ef
 have nz:Cr 6 t n a b=[f]:=by simp only[Cr,<- hsym,ef]
 rw[nz]
 clear hsym nz ef
 go_enter func153,ntmps153
 go_wp2_with (go_at_call 113;refine(Ln _ _).mono ?_;rintro e w9 ⟨rfl,rfl⟩;rw[EF.o])
 go_ret
 exact⟨(aN _ _).alloc qg _,by have h:=out1 (w.alloc (O #[I 6,S t,I n] 143)) f 9;simpa using h⟩
theorem plain_7(ha:a.size<=2000)(hb:b.size<=2000)(hn:n<=2000):Calls prog 153 #[G #[I 7,S t,I n],S a,S b] w λe w'=>Bw w w'/\Mg w' e (Cr 7 t n a b):=by
 go_enter func153,ntmps153
 go_wp2
 go_ret
 exact⟨(aN _ _).alloc qg _,by have h:=out2 (w.alloc (O #[I 7,S t,I n] 143)) a a 9;simpa [Cr] using h⟩
theorem plain_8(ha:a.size<=2000)(hb:b.size<=2000)(hn:n<=2000):Calls prog 153 #[G #[I 8,S t,I n],S a,S b] w λe w'=>Bw w w'/\Mg w' e (Cr 8 t n a b):=by
 go_enter func153,ntmps153
 go_wp2
 go_ret
 exact⟨(aN _ _).alloc qg _,by have h:=out2 (w.alloc (O #[I 8,S t,I n] 143)) a b 9;simpa [Cr] using h⟩
theorem plain_any(o:X)(ha:a.size<=2000)(hb:b.size<=2000)(hn:n<=2000)(h1:1<=o)(h2:o<=8):Calls prog 153 #[G #[I (o:Int),S t,I n],S a,S b] w λe w'=>Bw w w'/\Mg w' e (Cr o t n a b):=by
 rcases(show o=1\/o=2\/o=3\/o=4\/o=5\/o=6\/o=7\/o=8 from qb)with rfl|rfl|rfl|rfl|rfl|rfl|rfl|rfl
 ·exact plain_1 t n a b w ha hb hn
 ·exact plain_2 t n a b w ha hb hn
 ·exact plain_3 t n a b w ha hb hn
 ·exact plain_4 t n a b w ha hb hn
 ·exact plain_5 t n a b w ha hb hn
 ·exact plain_6 t n a b w ha hb hn
 ·exact plain_7 t n a b w ha hb hn
 ·exact plain_8 t n a b w ha hb hn
end
end Go.Proofs.YtbkkjodaaijimaaGreatDoor
