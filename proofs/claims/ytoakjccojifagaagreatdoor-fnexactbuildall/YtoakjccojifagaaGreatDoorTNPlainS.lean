import Derived.Test.YtoakjccojifagaaGreatDoorTImI
namespace Go.Proofs.YtoakjccojifagaaGreatDoor
open _root_.Go.Proofs.Tryz Go.RowKit
open Value renaming slice->J,string->S,agg->G
open Option renaming some->M,none->N
open Obj renaming cells->O
open Go renaming Value->Z,World->E
open Ending renaming returned->H
open _root_ renaming List->L,Nat->X
set_option linter.unusedVariables false
set_option maxHeartbeats 8000000
set_option maxRecDepth 100000
set_option linter.unusedSimpArgs false
section
open Go.Deep
theorem Iq{w:E}{b:X}{u0 u1 u2 u3 u4 u5:Z}{T:TypeId}(h:w.heap[b]?=M (O #[u0,u1,u2,u3,u4,u5] T (0,0)))(v0 v1 v2 v3 v4 v5:Z):((((((w.setCell ⟨b,0,N⟩ v0).setCell ⟨b,1,N⟩ v1).setCell ⟨b,2,N⟩ v2).setCell ⟨b,3,N⟩ v3).setCell ⟨b,4,N⟩ v4).setCell ⟨b,5,N⟩ v5).heap[b]?=M (O #[v0,v1,v2,v3,v4,v5] T (0,0)):=by
 rw[jB (jB (jB (jB (jB (jB h v0) v1) v2) v3) v4) v5]
 rfl
theorem Sf{w:E}{b:X}{v0 v1 v2 v3 v4 v5:Z}{T:TypeId}(h:w.heap[b]?=M (O #[v0,v1,v2,v3,v4,v5] T (0,0))):(w.cell? ⟨b,0,N⟩=M v0/\w.cell? ⟨b,1,N⟩=M v1/\w.cell? ⟨b,2,N⟩=M v2/\w.cell? ⟨b,3,N⟩=M v3/\w.cell? ⟨b,4,N⟩=M v4/\w.cell? ⟨b,5,N⟩=M v5)/\∀j,w.frozen? ⟨b,j,N⟩=false:=by
 refine⟨⟨?_,?_,?_,?_,?_,?_⟩,λj=>fH h j⟩<;>rw[cH h]<;>rfl
def mkW(sv tv:Z)(w:E):E:=((w.alloc (O #[sv,tv] 43)).alloc (.map #[] 0)).alloc (O #[sv,tv,.map (M (w.heap.size+1)),nS,nS,.nilFunc] 153)
theorem Zl(sa ta:Option Addr)(n1 n2 c1 c2:X)(w:E):Calls prog 84 #[G #[J sa n1 c1,J ta n2 c2]] w λe w'=>e=H (.pointer (p_ (w.heap.size+1+1)))/\w'=mkW (J sa n1 c1) (J ta n2 c2) w:=by
 have hmm:∀w:E,(Instr.makeMap 151 N).run prog w=.ok (.map (M w.heap.size)) (w.alloc (.map #[] 0)):=λw=>qi
 go_enter func84,ntmps84
 exact qag
theorem mkW_blk(sv tv:Z)(w:E):(mkW sv tv w).heap[w.heap.size+1+1]?=M (O #[sv,tv,.map (M (w.heap.size+1)),nS,nS,.nilFunc] 153 (0,0)):=by
 unfold mkW
 have h:=Bg ((w.alloc (O #[sv,tv] 43)).alloc (.map #[] 0)) (O #[sv,tv,.map (M (w.heap.size+1)),nS,nS,.nilFunc] 153)
 rw[show((w.alloc (O #[sv,tv] 43)).alloc (.map #[] 0)).heap.size=w.heap.size+1+1 from qg]at h
 exact h
theorem mkW_map(sv tv:Z)(w:E):Jl (mkW sv tv w) (w.heap.size+1) 0 (λ_=>N):=by
 have h:=Jl.made (w.alloc (O #[sv,tv] 43))
 rw[show(w.alloc (O #[sv,tv] 43)).heap.size=w.heap.size+1 from qg]at h
 unfold mkW
 exact h.same (Lib.alloc_old _ _ _ qg)
theorem mkW_below(sv tv:Z)(w:E):Bw w (mkW sv tv w):=by
 unfold mkW
 exact((aN _ _).alloc qg _).alloc qh _
theorem blk_keep'{w w':E}{b:X}{cs:Array Z}{T:TypeId}(hb:Bw w w')(h:w.heap[b]?=M (O cs T (0,0))):w'.heap[b]?=M (O cs T (0,0)):=by
 rw[hb.block _ (Ag h)];exact h
theorem strV_get'(l:L By)(i:X)(h:i<l.length):(Av l)[i]?=M (S (l.getD i ByteArray.empty)):=by
 unfold Av
 rw[List.getElem?_map,Jr h,gG,Jr h]
 rfl
theorem own_base'{w:E}{B B' e sz n:X}{v:Z}{xs:L Z}(h:w.ownsRow B e sz v n xs)(hB:B'<=B):w.ownsRow B' e sz v n xs:=by
 exact qks
theorem Ai(V:E)(o:Obj):Bw V (V.alloc o):=aN _ _
end
theorem Ru(sa ta:Option Addr)(n2 c1 c2:X)(ts:L S2)(s:By)(w:E)(hc:Hr w sa ts)(hl:ts.length<=1048576):Calls prog 94 #[G #[J sa ts.length c1,J ta n2 c2],S s] w λe w'=>Bw w w'/\((∃i:X,e=H (I i)/\i<ts.length/\(sx ts i).name=s)\/(e=H (I (-1))/\¬ Eg (Am ts) s)):=by
 have ak:Bw w (w.alloc (O #[J sa ts.length c1,J ta n2 c2] 43)):=aN _ _
 have k1:(w.alloc (O #[J sa ts.length c1,J ta n2 c2] 43)).cell? ⟨w.heap.size,0,N⟩=M (J sa ts.length c1):=qk
 have HC:Hd (Hr (w.alloc (O #[J sa ts.length c1,J ta n2 c2] 43)) sa ts):=hc.bl ak
 clear hc
 go_enter func94,ntmps94
 go_wp2
 go_loopw [5] (λi wr=>∃k:X,k<=ts.length/\i=I k/\Hd (∀j,j<k->(sx ts j).name≠s)/\(w.alloc (O #[J sa ts.length c1,J ta n2 c2] 43))=wr) (λi _=>ts.length-(intOf i).toNat)
 case atStart=>exact⟨0,Nat.zero_le _,rfl,(λj hj=>by omega:∀j,j<0->(sx ts j).name≠s),rfl⟩
 case round=>
  obtain⟨k,hk,rfl,HA,rfl⟩:=hrel
  by_cases aj:k<ts.length
  ·obtain⟨b,off,rfl,In,B9⟩:=HC.o k aj;have iy:(k:Int)<(ts.length:Int):=qb;obtain⟨nm,en⟩:=Aj ((sx ts k).name);have EN:Hd ((sx ts k).name=nm):=en;rw[en]at In;clear en B9;exact qij
  ·go_wp2;go_ret;exact⟨ak,Or.inr ⟨rfl,λ⟨j,hj,e⟩=>by rw[Cb]at hj;rw[Dy]at e;exact HA.o j qb e⟩⟩
theorem Rt(sa ta:Option Addr)(n1 c1 c2:X)(ts:L T2)(s:By)(w:E)(hc:Hb w ta ts)(hl:ts.length<=1048576):Calls prog 48 #[G #[J sa n1 c1,J ta ts.length c2],S s] w λe w'=>Bw w w'/\((∃i:X,e=H (I i)/\i<ts.length/\(tx ts i).name=s)\/(e=H (I (-1))/\¬ Eg (Ak ts) s)):=by
 have ak:Bw w (w.alloc (O #[J sa n1 c1,J ta ts.length c2] 43)):=aN _ _
 have k1:(w.alloc (O #[J sa n1 c1,J ta ts.length c2] 43)).cell? ⟨w.heap.size,1,N⟩=M (J ta ts.length c2):=qk
 have HC:Hd (Hb (w.alloc (O #[J sa n1 c1,J ta ts.length c2] 43)) ta ts):=hc.bl ak
 clear hc
 go_enter func48,ntmps48
 go_wp2
 go_loopw [5] (λi wr=>∃k:X,k<=ts.length/\i=I k/\Hd (∀j,j<k->(tx ts j).name≠s)/\(w.alloc (O #[J sa n1 c1,J ta ts.length c2] 43))=wr) (λi _=>ts.length-(intOf i).toNat)
 case atStart=>exact⟨0,Nat.zero_le _,rfl,(λj hj=>by omega:∀j,j<0->(tx ts j).name≠s),rfl⟩
 case round=>
  obtain⟨k,hk,rfl,HA,rfl⟩:=hrel
  by_cases aj:k<ts.length
  ·obtain⟨b,off,rfl,In,x,p,B9,c3'⟩:=HC.o k aj;have iy:(k:Int)<(ts.length:Int):=qb;obtain⟨nm,en⟩:=Aj ((tx ts k).name);have EN:Hd ((tx ts k).name=nm):=en;rw[en]at In;clear en B9 c3';exact qij
  ·go_wp2;go_ret;exact⟨ak,Or.inr ⟨rfl,λ⟨j,hj,e⟩=>by rw[Bs]at hj;rw[Dr]at e;exact HA.o j qb e⟩⟩
theorem Ro{ss:L S2}{ts:L T2}{nm:By}(h:Xy ss ts nm):Ck ss ts nm=true:=by simp[Ck,h]
theorem Yj{ss:L S2}{ts:L T2}{nm:By}(h:¬ Xy ss ts nm):Ck ss ts nm=false:=by simp[Ck,h]
section
theorem extract_all(x:By):x.extract 0 x.size=x:=by
 apply WideShapes.bytes_inj
 simp
theorem Qab(x:By):x.extract x.size x.size=⟨#[]⟩:=by
 apply WideShapes.bytes_inj
 simp
def Mk(w:E)(e:Ending)(outs:L By):Prop:=∃g cap:X,e=H (J (p_ g) outs.length cap)/\∀j,j<outs.length->w.cell? ⟨g,j,N⟩=M (S (outs.getD j ByteArray.empty))
theorem out1(w:E)(x:By)(ty:TypeId):Mk (w.alloc (O #[S x] ty)) (H (J (p_ w.heap.size) 1 1)) [x]:=
 ⟨_,_,rfl,λj hj=>by obtain rfl:j=0:=(by simp at hj;omega);simp[go_sem]⟩
theorem out2(w:E)(x y:By)(ty:TypeId):Mk (w.alloc (O #[S x,S y] ty)) (H (J (p_ w.heap.size) 2 2)) [x,y]:=
 ⟨_,_,rfl,λj hj=>by
  rcases(show j=0\/j=1 by simp at hj;omega)with rfl|rfl
  ·simp[go_sem]
  ·simp[go_sem]⟩
variable (t:By) (n:X) (a b:By) (w:E)
theorem plain_1(ha:a.size<=2000)(hb:b.size<=2000)(hn:n<=2000):Calls prog 167 #[G #[I 1,S t,I n],S a,S b] w λe w'=>Bw w w'/\Mk w' e (Da 1 t n a b):=by
 go_enter func167,ntmps167
 go_wp2
 go_ret
 exact⟨(aN _ _).alloc qg _,by have h:=out1 (w.alloc (O #[I 1,S t,I n] 139)) (t) 9;simpa [Da] using h⟩
theorem plain_2(ha:a.size<=2000)(hb:b.size<=2000)(hn:n<=2000):Calls prog 167 #[G #[I 2,S t,I n],S a,S b] w λe w'=>Bw w w'/\Mk w' e (Da 2 t n a b):=by
 have hc:(b++a).size=b.size+a.size:=ByteArray.size_append
 go_enter func167,ntmps167
 go_wp2
 go_ret
 exact⟨(aN _ _).alloc qg _,by have h:=out1 (w.alloc (O #[I 2,S t,I n] 139)) (b++a) 9;simpa [Da] using h⟩
theorem plain_3(ha:a.size<=2000)(hb:b.size<=2000)(hn:n<=2000):Calls prog 167 #[G #[I 3,S t,I n],S a,S b] w λe w'=>Bw w w'/\Mk w' e (Da 3 t n a b):=by
 by_cases h:n<a.size
 ·have hI:(n:Int)<(a.size:Int):=qb;have e:min n a.size=n:=qb;have pi:Da 3 t n a b=[a.extract 0 n]:=by simp only[Da,e]
  rw[pi];clear e pi;go_enter func167,ntmps167;go_wp2;go_ret;exact⟨(aN _ _).alloc qg _,by have h:=out1 (w.alloc (O #[I 3,S t,I n] 139)) (a.extract 0 n) 9;simpa using h⟩
 ·have hI:¬ (n:Int)<(a.size:Int):=qb;have e:min n a.size=a.size:=qb;have pi:Da 3 t n a b=[a]:=by simp only[Da,e,extract_all]
  rw[pi];clear e pi;go_enter func167,ntmps167;go_wp2;go_ret;exact⟨(aN _ _).alloc qg _,by have h:=out1 (w.alloc (O #[I 3,S t,I n] 139)) (a) 9;simpa using h⟩
theorem plain_4(ha:a.size<=2000)(hb:b.size<=2000)(hn:n<=2000):Calls prog 167 #[G #[I 4,S t,I n],S a,S b] w λe w'=>Bw w w'/\Mk w' e (Da 4 t n a b):=by
 by_cases h:n<a.size
 ·have hI:(n:Int)<(a.size:Int):=qb;have e:min n a.size=n:=qb;have pi:Da 4 t n a b=[a.extract n a.size]:=by simp only[Da,e]
  rw[pi];clear e pi;go_enter func167,ntmps167;go_wp2;go_ret;exact⟨(aN _ _).alloc qg _,by have h:=out1 (w.alloc (O #[I 4,S t,I n] 139)) (a.extract n a.size) 9;simpa using h⟩
 ·have hI:¬ (n:Int)<(a.size:Int):=qb;have e:min n a.size=a.size:=qb;have pi:Da 4 t n a b=[⟨#[]⟩]:=by simp only[Da,e,Qab]
  rw[pi];clear e pi;go_enter func167,ntmps167;go_wp2;go_ret;exact⟨(aN _ _).alloc qg _,by have h:=out1 (w.alloc (O #[I 4,S t,I n] 139)) (⟨#[]⟩) 9;simpa using h⟩
theorem plain_5(ha:a.size<=2000)(hb:b.size<=2000)(hn:n<=2000):Calls prog 167 #[G #[I 5,S t,I n],S a,S b] w λe w'=>Bw w w'/\Mk w' e (Da 5 t n a b):=by
 go_enter func167,ntmps167
 go_wp2_with (go_at_call 182;refine(l2Piece_any a n _ ha hn).mono ?_;rintro e w9 ⟨rfl,rfl⟩)
 go_ret
 exact⟨(aN _ _).alloc qg _,by have h:=out1 (w.alloc (O #[I 5,S t,I n] 139)) (Kx a n) 9;simpa [Da] using h⟩
theorem plain_6(ha:a.size<=2000)(hb:b.size<=2000)(hn:n<=2000):Calls prog 167 #[G #[I 6,S t,I n],S a,S b] w λe w'=>Bw w w'/\Mk w' e (Da 6 t n a b):=by
 have hsym:(a.toList == b.toList)=(b.toList == a.toList):=BEq.comm
 obtain⟨f,ef⟩:=Aj (Cq (a.toList == b.toList))
 have EF:Hd (Cq (a.toList == b.toList)=f):=ef
 have pi:Da 6 t n a b=[f]:=by simp only[Da,<- hsym,ef]
 rw[pi]
 clear hsym pi ef
 go_enter func167,ntmps167
 go_wp2_with (go_at_call 124;refine(Lv _ _).mono ?_;rintro e w9 ⟨rfl,rfl⟩;rw[EF.o])
 go_ret
 exact⟨(aN _ _).alloc qg _,by have h:=out1 (w.alloc (O #[I 6,S t,I n] 139)) f 9;simpa using h⟩
theorem plain_7(ha:a.size<=2000)(hb:b.size<=2000)(hn:n<=2000):Calls prog 167 #[G #[I 7,S t,I n],S a,S b] w λe w'=>Bw w w'/\Mk w' e (Da 7 t n a b):=by
 go_enter func167,ntmps167
 go_wp2
 go_ret
 exact⟨(aN _ _).alloc qg _,by have h:=out2 (w.alloc (O #[I 7,S t,I n] 139)) a a 9;simpa [Da] using h⟩
theorem plain_8(ha:a.size<=2000)(hb:b.size<=2000)(hn:n<=2000):Calls prog 167 #[G #[I 8,S t,I n],S a,S b] w λe w'=>Bw w w'/\Mk w' e (Da 8 t n a b):=by
 go_enter func167,ntmps167
 go_wp2
 go_ret
 exact⟨(aN _ _).alloc qg _,by have h:=out2 (w.alloc (O #[I 8,S t,I n] 139)) a b 9;simpa [Da] using h⟩
theorem plain_any(o:X)(ha:a.size<=2000)(hb:b.size<=2000)(hn:n<=2000)(h1:1<=o)(h2:o<=8):Calls prog 167 #[G #[I (o:Int),S t,I n],S a,S b] w λe w'=>Bw w w'/\Mk w' e (Da o t n a b):=by
 rcases(show o=1\/o=2\/o=3\/o=4\/o=5\/o=6\/o=7\/o=8 from qb)with rfl|rfl|rfl|rfl|rfl|rfl|rfl|rfl
 ·exact plain_1 t n a b w ha hb hn
 ·exact plain_2 t n a b w ha hb hn
 ·exact plain_3 t n a b w ha hb hn
 ·exact plain_4 t n a b w ha hb hn
 ·exact plain_5 t n a b w ha hb hn
 ·exact plain_6 t n a b w ha hb hn
 ·exact plain_7 t n a b w ha hb hn
 ·exact plain_8 t n a b w ha hb hn
end
end Go.Proofs.YtoakjccojifagaaGreatDoor
