import Derived.Lib.SmallJoins
import Derived.Lib.Builder
import Derived.Below
import Derived.Test.YtnflkpmmfpfhlaaGreatDoorProg
import Derived.Test.YtnflkpmmfpfhlaaGreatDoorQ
namespace Go.Proofs
open Go.Shelf
def Tryz.lays106_ren:Go.Shelf.Ren:=⟨fun|106=>185|213=>192|265=>198|n=>n,fun|9=>9|3=>3|n=>n,fun|n=>n⟩
theorem Tryz.lays106:Go.Proofs.Lays.n106 Tryz.prog Tryz.lays106_ren:={
 mixed:=by kernel_rfl
 f106:=Tryz.func185.trans (congrArg some (by kernel_rfl))
 f213:=Tryz.func192.trans (congrArg some (by kernel_rfl))
 f265:=Tryz.func198.trans (congrArg some (by kernel_rfl))
 t3:=Tryz.underlying3
 a3:=Tryz.isAgg3
 z3:=Tryz.sizeOf3
 v3:=Tryz.zeroValue3
 t9:=Tryz.underlying9
 a9:=Tryz.isAgg9
 z9:=Tryz.sizeOf9
 v9:=Tryz.zeroValue9 }
open Go.RowKit in
theorem Tryz.strings_Compare (a b:ByteArray) (w:World) :
  Calls Tryz.prog 185 #[.string a,.string b] w fun e w'=>e=.returned (.int .i64 (Lib.compareBytes a.data.toList b.data.toList))/\w'=w:=Any.strings_Compare Tryz.lays106 a b w
def Tryz.laysM171_ren:Go.Shelf.Ren:=⟨fun|171=>170|243=>182|246=>191|283=>194|284=>195|285=>196|286=>197|129=>201|317=>200|318=>202|319=>203|320=>204|337=>205|338=>206|n=>n,fun|3=>3|9=>9|2=>2|4=>4|171=>271|0=>0|53=>117|37=>118|5=>5|173=>274|212=>278|51=>279|20=>20|213=>280|46=>170|232=>283|233=>284|n=>n,fun|17=>2|18=>3|19=>4|n=>n⟩
theorem Tryz.laysM171:Go.Proofs.LaysM.n171 Tryz.prog Tryz.laysM171_ren:={
 mixed:=by kernel_rfl
 f129:=Tryz.func201.trans (congrArg some (by kernel_rfl))
 f171:=Tryz.func170.trans (congrArg some (by kernel_rfl))
 f243:=Tryz.func182.trans (congrArg some (by kernel_rfl))
 f246:=Tryz.func191.trans (congrArg some (by kernel_rfl))
 f283:=Tryz.func194.trans (congrArg some (by kernel_rfl))
 f284:=Tryz.func195.trans (congrArg some (by kernel_rfl))
 f285:=Tryz.func196.trans (congrArg some (by kernel_rfl))
 f286:=Tryz.func197.trans (congrArg some (by kernel_rfl))
 f317:=Tryz.func200.trans (congrArg some (by kernel_rfl))
 f318:=Tryz.func202.trans (congrArg some (by kernel_rfl))
 f319:=Tryz.func203.trans (congrArg some (by kernel_rfl))
 f320:=Tryz.func204.trans (congrArg some (by kernel_rfl))
 f337:=Tryz.func205.trans (congrArg some (by kernel_rfl))
 f338:=Tryz.func206.trans (congrArg some (by kernel_rfl))
 t0:=Tryz.underlying0
 a0:=Tryz.isAgg0
 z0:=Tryz.sizeOf0
 v0:=Tryz.zeroValue0
 t2:=Tryz.underlying2
 a2:=Tryz.isAgg2
 z2:=Tryz.sizeOf2
 v2:=Tryz.zeroValue2
 t3:=Tryz.underlying3
 a3:=Tryz.isAgg3
 z3:=Tryz.sizeOf3
 v3:=Tryz.zeroValue3
 t4:=Tryz.underlying4
 a4:=Tryz.isAgg4
 z4:=Tryz.sizeOf4
 v4:=Tryz.zeroValue4
 t5:=Tryz.underlying5
 a5:=Tryz.isAgg5
 z5:=Tryz.sizeOf5
 v5:=Tryz.zeroValue5
 t9:=Tryz.underlying9
 a9:=Tryz.isAgg9
 z9:=Tryz.sizeOf9
 v9:=Tryz.zeroValue9
 t20:=Tryz.underlying20
 a20:=Tryz.isAgg20
 z20:=Tryz.sizeOf20
 v20:=Tryz.zeroValue20
 t37:=Tryz.underlying118
 a37:=Tryz.isAgg118
 z37:=Tryz.sizeOf118
 v37:=Tryz.zeroValue118
 t46:=Tryz.underlying170
 a46:=Tryz.isAgg170
 z46:=Tryz.sizeOf170
 v46:=Tryz.zeroValue170
 t51:=Tryz.underlying279
 a51:=Tryz.isAgg279
 z51:=Tryz.sizeOf279
 v51:=Tryz.zeroValue279
 t53:=Tryz.underlying117
 a53:=Tryz.isAgg117
 z53:=Tryz.sizeOf117
 v53:=Tryz.zeroValue117
 t171:=Tryz.underlying271
 a171:=Tryz.isAgg271
 z171:=Tryz.sizeOf271
 v171:=Tryz.zeroValue271
 t173:=Tryz.underlying274
 a173:=Tryz.isAgg274
 z173:=Tryz.sizeOf274
 v173:=Tryz.zeroValue274
 t212:=Tryz.underlying278
 a212:=Tryz.isAgg278
 z212:=Tryz.sizeOf278
 v212:=Tryz.zeroValue278
 t213:=Tryz.underlying280
 a213:=Tryz.isAgg280
 z213:=Tryz.sizeOf280
 t232:=Tryz.underlying283
 a232:=Tryz.isAgg283
 z232:=Tryz.sizeOf283
 v232:=Tryz.zeroValue283
 t233:=Tryz.underlying284
 a233:=Tryz.isAgg284
 z233:=Tryz.sizeOf284
 v233:=Tryz.zeroValue284
 g17:=by kernel_rfl
 g18:=by kernel_rfl
 g19:=by kernel_rfl
 i0:=by kernel_rfl
 i2:=by kernel_rfl
 i3:=by kernel_rfl
 i4:=by kernel_rfl
 i5:=by kernel_rfl
 i9:=by kernel_rfl
 i20:=by kernel_rfl
 i37:=by kernel_rfl
 i46:=by kernel_rfl
 i51:=by kernel_rfl
 i53:=by kernel_rfl
 i171:=by kernel_rfl
 i173:=by kernel_rfl
 i212:=by kernel_rfl
 i232:=by kernel_rfl
 i233:=by kernel_rfl
 m17:=by kernel_rfl
 m18:=by kernel_rfl
 m19:=by kernel_rfl }
open Go.RowKit Go.Sort Go.Lib in
theorem Tryz.strconv_Itoa (n:Int) (h0:-9223372036854775808<=n) (h1:n<=9223372036854775807) (w:World) (htab:Lib.TabIs Tryz.prog w "internal/strconv.uint64pow10" .u64 Lib.pow10Tab) :
  Calls Tryz.prog 170 #[.int .i64 n] w fun e w'=>e=.returned (.string ⟨(Lib.itoa n).toArray⟩)/\∃ k os,w'=grow (w.drewN k) os:=Any.strconv_Itoa Tryz.laysM171 n h0 h1 w htab
def Tryz.lays109_ren:Go.Shelf.Ren:=⟨fun|109=>154|n=>n,fun|31=>22|9=>9|3=>3|0=>0|4=>4|n=>n,fun|n=>n⟩
theorem Tryz.lays109:Go.Proofs.Lays.n109 Tryz.prog Tryz.lays109_ren:={
 mixed:=by kernel_rfl
 f109:=Tryz.func154.trans (congrArg some (by kernel_rfl))
 t0:=Tryz.underlying0
 a0:=Tryz.isAgg0
 z0:=Tryz.sizeOf0
 v0:=Tryz.zeroValue0
 t3:=Tryz.underlying3
 a3:=Tryz.isAgg3
 z3:=Tryz.sizeOf3
 v3:=Tryz.zeroValue3
 t4:=Tryz.underlying4
 a4:=Tryz.isAgg4
 z4:=Tryz.sizeOf4
 v4:=Tryz.zeroValue4
 t9:=Tryz.underlying9
 a9:=Tryz.isAgg9
 z9:=Tryz.sizeOf9
 v9:=Tryz.zeroValue9
 t31:=Tryz.underlying22
 a31:=Tryz.isAgg22
 z31:=Tryz.sizeOf22
 v31:=Tryz.zeroValue22 }
open Go.Lib in
theorem Tryz.slices_Index_string (b off n c:Nat) (zs:List ByteArray) (x:ByteArray) (w:World) (hz:n<=zs.length) (hbig:n<=9223372036854775807) (hc:∀ j,j<zs.length->w.cell? ⟨b,off+j,none⟩=some (.string (zs.getD j ByteArray.empty))) :
  Calls Tryz.prog 154 #[.slice (some ⟨b,off,none⟩) n c,.string x] w fun e w'=>e=.returned (.int .i64 (Lib.idxOfS (zs.take n) x))/\w'=w:=Any.slices_Index_string Tryz.lays109 b off n c zs x w hz hbig hc
def Tryz.laysNm216_ren:Go.Shelf.Ren:=⟨fun|16=>94|n=>n,fun|24=>22|9=>9|4=>4|n=>n,fun|n=>n⟩
theorem Tryz.laysNm216:Go.Proofs.Lays2.n16 Tryz.prog Tryz.laysNm216_ren:={
 mixed:=by kernel_rfl
 f16:=Tryz.func94.trans (congrArg some (by kernel_rfl))
 t4:=Tryz.underlying4
 a4:=Tryz.isAgg4
 z4:=Tryz.sizeOf4
 v4:=Tryz.zeroValue4
 t9:=Tryz.underlying9
 a9:=Tryz.isAgg9
 z9:=Tryz.sizeOf9
 v9:=Tryz.zeroValue9
 t24:=Tryz.underlying22
 a24:=Tryz.isAgg22
 z24:=Tryz.sizeOf22
 v24:=Tryz.zeroValue22
 i9:=by kernel_rfl }
open Go.RowKit Go.Lib in
theorem Tryz.slices_Clone_string (b off n c:Nat) (zs:List ByteArray) (w:World) (hz:n<=zs.length) (hbig:n*16<=140737488355328) (hc:∀ j,j<zs.length->w.cell? ⟨b,off+j,none⟩=some (.string (zs.getD j ByteArray.empty))) :
  Calls Tryz.prog 94 #[.slice (some ⟨b,off,none⟩) n c] w fun e w'=>∃ v',e=.returned v'/\w'.ownsRow w.heap.size 9 1 v' n ((zs.take n).map (Value.string))/\v'≠.slice none 0 0/\Below w.heap.size w w':=Any.slices_Clone_string Tryz.laysNm216 b off n c zs w hz hbig hc
end Go.Proofs
namespace Go.Proofs.YtnflkpmmfpfhlaaGreatDoor
open _root_.Go.Proofs.Tryz Go.RowKit
open Value renaming slice->J,string->S,tuple->Y
open Option renaming some->M,none->N
open Obj renaming cells->O
open Go renaming Value->Z,World->E
open Ending renaming returned->H
open _root_ renaming List->L,Nat->X
set_option linter.unusedVariables false
set_option maxHeartbeats 8000000
set_option maxRecDepth 100000
set_option linter.unusedSimpArgs false
variable {w w' V:E} {b:X} {v v0 v1 v2 v3 v4 v5:Z} {cs:Array Z} {T:TypeId} {fr:X×X}
def Hd(p:Prop):Prop:=p
theorem Hd.o{p:Prop}(h:Hd p):p:=h
theorem Hd.out{p:Prop}(h:Hd p):p:=h
theorem aN(w:E)(o:Obj):Below w.heap.size w (w.alloc o):=(Below.refl _ _).alloc (Nat.le_refl _) _
theorem cH{w:E}{b:X}{cs:Array Z}{T:TypeId}{fr:X×X}(hb:w.heap[b]?=M (O cs T fr))(j:X):w.cell? ⟨b,j,N⟩=cs[j]?:=Lib.cell_of_heap hb j
theorem fH{w:E}{b:X}{cs:Array Z}{T:TypeId}(hb:w.heap[b]?=M (O cs T (0,0)))(j:X):w.frozen? ⟨b,j,N⟩=false:=Lib.frozen_of_heap hb j
theorem jB{w:E}{g i:X}{cs:Array Z}{t:TypeId}{fr:X×X}(h:w.heap[g]?=M (O cs t fr))(v:Z):(w.setCell ⟨g,i,N⟩ v).heap[g]?=M (O (cs.setIfInBounds i v) t fr):=Joins.block_setCell h v
theorem gG{α:Type}{l:L α}{i:X}{a:α}:l.getD i a=l[i]?.getD a:=List.getD_eq_getElem?_getD
theorem Hq{α:Type}{l:L α}{i:X}(h:i<l.length):l[i]?=M l[i]:=List.getElem?_eq_getElem h
theorem Dm(w:E)(a:Addr)(u:Z)(k:X)(h:k≠a.block):(w.setCell a u).heap[k]?=w.heap[k]?:=Below.heap_setCell w a u k h
theorem bR{P:Program}{fn:Func}{R:Ending->E->Prop}{a:Act}{w:E}{v:Z}(hr:(results fn a.tmps).run P w=.ok v w)(hd:a.defers=[])(hR:R (H v) w):bodyPost P fn R .ret a w:=bodyPost_ret hr hd hR
abbrev nS:Z:=J N 0 0
abbrev ze:Z:=S ⟨#[]⟩
abbrev I(n:Int):Z:=.int .i64 n
abbrev p_(b:X):Option Addr:=M ⟨b,0,N⟩
abbrev Bw(w w':E):Prop:=Below w.heap.size w w'
abbrev By:=ByteArray
structure I3 where
 op:Int
 text:By
 n:Int
def i0:I3:=⟨0,ByteArray.empty,0⟩
def ix(is:L I3)(i:X):I3:=is.getD i i0
def Cn(w:E)(a:Option Addr)(is:L I3):Prop:=
 ∀i,i<is.length->∃b off,a=M ⟨b,off,N⟩/\w.cell? ⟨b,off+i*3,N⟩=M (I (ix is i).op)/\w.cell? ⟨b,off+i*3+1,N⟩=M (S (ix is i).text)/\w.cell? ⟨b,off+i*3+2,N⟩=M (I (ix is i).n)
theorem Aa{o:X}(hb:Bw w w')(h:w.cell? ⟨b,o,N⟩=M v):w'.cell? ⟨b,o,N⟩=M v:=
 (hb.cell (p:=⟨b,o,N⟩) (World.block_lt_of_cell? w _ h)).trans h
theorem Cn.bl{a:Option Addr}{is:L I3}(h:Cn w a is)(hb:Bw w w'):Cn w' a is:=by
 exact qfo
theorem Ad{base e size n:X}{xs:L Z}(h:w.ownsRow base e size v n xs)(hb:Bw w w'):w'.ownsRow base e size v n xs:=by
 refine⟨h.1,?_⟩
 rcases h.2 with h2|⟨g,cap,cur,hv,hg,hh,r⟩
 ·exact Or.inl h2
 ·refine Or.inr ⟨g,cap,cur,hv,hg,?_,r⟩
  have ai:g<w.heap.size:=by
   rcases Nat.lt_or_ge g w.heap.size with h|h
   ·exact h
   ·rw[Array.getElem?_eq_none h]at hh;cases hh
  rw[hb.block g ai];exact hh
theorem Fk{p q:By}(h:p=q):(p.toList == q.toList)=true:=by subst h;simp
theorem Hi{p q:By}(h:p≠q):(p.toList == q.toList)=false:=by
 rw[beq_eq_false_iff_ne]
 intro e
 rw[ByteArray.toList_eq,ByteArray.toList_eq]at e
 exact h (WideShapes.bytes_inj e)
def Cs(is:L I3)(k:X)(xs:L Z):Prop:=
 ∀i,i<k->xs[i*3]?=M (I (ix is i).op)/\xs[i*3+1]?=M (S (ix is i).text)/\xs[i*3+2]?=M (I (ix is i).n)
def Er(op:Int):Int:=if op=1 then 1 else if op=3\/op=4\/op=5 then 2 else if op=10\/op=11 then 3 else 0
def Kt(k:Int):Int:=if k=1 then 2000 else 0
def Pa(k:Int):Int:=if k=2 then 2000 else if k=3 then 200 else 0
def Hk(i:I3):Bool:=decide (1<=i.op)&&decide (i.op<=15)&&decide ((i.text.size:Int)<=Kt (Er i.op))&&decide (0<=i.n)&&decide (i.n<=Pa (Er i.op))
def words:L (L UInt8):=[[],[108,105,116],[99,97,116],[99,117,116],[114,101,115,116],[119,111,114,100],[115,97,109,101],[100,117,112],[115,119,97,112],[100,114,111,112],[106,117,109,112],[117,110,108,101,115,115],[97,115,107],[104,97,115],[102,97,105,108],[101,110,100]]
def Lv:L Int:=[0,0,2,1,1,1,2,1,2,1,0,1,1,1,1,1]
def wordB(o:X):By:=⟨(words.getD o []).toArray⟩
def Mv(w:E):Prop:=∀o:X,o<16->w.cell? ⟨0,o*3,N⟩=M (S (wordB o))/\w.cell? ⟨0,o*3+1,N⟩=M (I (Er o))/\w.cell? ⟨0,o*3+2,N⟩=M (I (Lv.getD o 0))
theorem Mv.bl(h:Mv w)(hb:Bw w w'):Mv w':=λo ho=>⟨Aa hb (h o ho).1,Aa hb (h o ho).2.1,Aa hb (h o ho).2.2⟩
theorem kind_cases(o:Int):Er o=0\/Er o=1\/Er o=2\/Er o=3:=by
 unfold Er
 split
 ·simp
 ·split
  ·simp
  ·split<;>simp
theorem Ql(k:Int)(w:E):Calls prog 162 #[I k] w λe w'=>e=H (I (Kt k))/\w'=w:=by
 by_cases h:k=1
 ·subst h;go_enter func162,ntmps162;exact qam
 ·have h1:(k == 1)=false:=qbh;have e:Kt k=0:=by simp[Kt,h]
  rw[e];clear h e;go_enter func162,ntmps162;exact qam
theorem Ni(k:Int)(w:E):Calls prog 163 #[I k] w λe w'=>e=H (I (Pa k))/\w'=w:=by
 by_cases h:k=2
 ·subst h;exact qga
 ·by_cases h':k=3
  ·subst h';exact qga
  ·have h1:(k == 2)=false:=qbh;have h2:(k == 3)=false:=by simpa using h'
   have e:Pa k=0:=by simp[Pa,h,h']
   rw[e];clear h h' e;exact qga
theorem Zh(i:I3)(w:E)(h:i.op<1\/15<i.op):Calls prog 142 #[.agg #[I i.op,S i.text,I i.n]] w λe w'=>Bw w w'/\e=H (.bool false):=by
 rcases h with h|h
 ·have h1:decide (i.op<1)=true:=qbh;exact qmh
 ·have h1:decide (i.op<1)=false:=qj;exact qmh
theorem validIns_in(o:X)(t:By)(n:Int)(w:E)(k:Int)(h1:1<=o)(h2:o<=15)(ht:t.size<=9223372036854775807)(hk:w.cell? ⟨0,o*3+1,N⟩=M (I k)):Calls prog 142 #[.agg #[I o,S t,I n]] w λe w'=>Bw w w'/\e=H (.bool (decide ((t.size:Int)<=Kt k)&&decide (0<=n)&&decide (n<=Pa k))):=by
 have d1:decide ((o:Int)<1)=false:=qj
 have d2:decide (15<(o:Int))=false:=qj
 have h0:0<w.heap.size:=World.block_lt_of_cell? w _ hk
 have hka:∀x,(w.alloc x).cell? ⟨0,o*3+1,N⟩=M (I k):=λx=>by rw[World.cell?_alloc_lt _ _ _ h0];exact hk
 by_cases c1:(t.size:Int)<=Kt k
 ·have e1:decide ((t.size:Int)<=Kt k)=true:=by simpa using c1
  by_cases c2:0<=n
  ·have e2:decide (0<=n)=true:=by simpa using c2
   exact qjh
  ·have e2:decide (0<=n)=false:=by simpa using c2
   exact qjh
 ·have e1:decide ((t.size:Int)<=Kt k)=false:=by simpa using c1
  go_enter func142,ntmps142;go_wp2_with fail
  go_quiet (first|(go_at_call 162;exact Calls.quiet_of_same (Ql _ _))|(go_at_call 163;exact Calls.quiet_of_same (Ni _ _)))
  go_wp2;go_ret;exact⟨below_drewN (aN _ _) _,by simp[e1];try rfl⟩
theorem l2Word_1(w:E):Calls prog 132 #[I 1] w λe w'=>e=H (Y #[S ⟨#[108,105,116]⟩,I 1])/\w=w':=by
 exact qad
theorem l2Word_2(w:E):Calls prog 132 #[I 2] w λe w'=>e=H (Y #[S ⟨#[99,97,116]⟩,I 0])/\w=w':=by
 exact qad
theorem l2Word_3(w:E):Calls prog 132 #[I 3] w λe w'=>e=H (Y #[S ⟨#[99,117,116]⟩,I 2])/\w=w':=by
 exact qad
theorem l2Word_4(w:E):Calls prog 132 #[I 4] w λe w'=>e=H (Y #[S ⟨#[114,101,115,116]⟩,I 2])/\w=w':=by
 exact qad
theorem l2Word_5(w:E):Calls prog 132 #[I 5] w λe w'=>e=H (Y #[S ⟨#[119,111,114,100]⟩,I 2])/\w=w':=by
 exact qad
theorem l2Word_6(w:E):Calls prog 132 #[I 6] w λe w'=>e=H (Y #[S ⟨#[115,97,109,101]⟩,I 0])/\w=w':=by
 exact qad
theorem l2Word_7(w:E):Calls prog 132 #[I 7] w λe w'=>e=H (Y #[S ⟨#[100,117,112]⟩,I 0])/\w=w':=by
 exact qad
theorem l2Word_8(w:E):Calls prog 132 #[I 8] w λe w'=>e=H (Y #[S ⟨#[115,119,97,112]⟩,I 0])/\w=w':=by
 exact qad
theorem l2Word_9(w:E):Calls prog 132 #[I 9] w λe w'=>e=H (Y #[S ⟨#[100,114,111,112]⟩,I 0])/\w=w':=by
 exact qad
theorem l2Word_10(w:E):Calls prog 132 #[I 10] w λe w'=>e=H (Y #[S ⟨#[106,117,109,112]⟩,I 3])/\w=w':=by
 exact qad
theorem l2Word_11(w:E):Calls prog 132 #[I 11] w λe w'=>e=H (Y #[S ⟨#[117,110,108,101,115,115]⟩,I 3])/\w=w':=by
 exact qad
theorem l2Word_12(w:E):Calls prog 132 #[I 12] w λe w'=>e=H (Y #[S ⟨#[97,115,107]⟩,I 0])/\w=w':=by
 exact qad
theorem l2Word_13(w:E):Calls prog 132 #[I 13] w λe w'=>e=H (Y #[S ⟨#[104,97,115]⟩,I 0])/\w=w':=by
 exact qad
theorem l2Word_14(w:E):Calls prog 132 #[I 14] w λe w'=>e=H (Y #[S ⟨#[102,97,105,108]⟩,I 0])/\w=w':=by
 exact qad
theorem l2Word_15(w:E):Calls prog 132 #[I 15] w λe w'=>e=H (Y #[S ⟨#[101,110,100]⟩,I 0])/\w=w':=by
 exact qad
theorem l2Word_out(op:Int)(w:E)(h:op<1\/15<op):Calls prog 132 #[I op] w λe w'=>e=H (Y #[ze,I 0])/\w=w':=by
 rcases h with h|h
 ·exact qad
 ·exact qad
theorem l2Word_in(o:X)(w:E)(h1:1<=o)(h2:o<=15):Calls prog 132 #[I o] w λe w'=>e=H (Y #[S (wordB o),I (Er o)])/\w=w':=by
 rcases(show o=1\/o=2\/o=3\/o=4\/o=5\/o=6\/o=7\/o=8\/o=9\/o=10\/o=11\/o=12\/o=13\/o=14\/o=15 from qg)with rfl|rfl|rfl|rfl|rfl|rfl|rfl|rfl|rfl|rfl|rfl|rfl|rfl|rfl|rfl
 ·exact l2Word_1 w
 ·exact l2Word_2 w
 ·exact l2Word_3 w
 ·exact l2Word_4 w
 ·exact l2Word_5 w
 ·exact l2Word_6 w
 ·exact l2Word_7 w
 ·exact l2Word_8 w
 ·exact l2Word_9 w
 ·exact l2Word_10 w
 ·exact l2Word_11 w
 ·exact l2Word_12 w
 ·exact l2Word_13 w
 ·exact l2Word_14 w
 ·exact l2Word_15 w
theorem Wr(o:X)(h1:1<=o)(h2:o<=15):(wordB o).toList.isEmpty=false:=by
 rw[ByteArray.toList_eq]
 rcases(show o=1\/o=2\/o=3\/o=4\/o=5\/o=6\/o=7\/o=8\/o=9\/o=10\/o=11\/o=12\/o=13\/o=14\/o=15 from qg)with rfl|rfl|rfl|rfl|rfl|rfl|rfl|rfl|rfl|rfl|rfl|rfl|rfl|rfl|rfl<;>rfl
theorem Rs(t:By):t.toList.isEmpty=decide (t.size=0):=by
 rw[ByteArray.toList_eq,Bool.eq_iff_iff]
 simp only[List.isEmpty_iff,decide_eq_true_eq]
 constructor
 ·intro h;show t.data.size=0;rw[<- Array.length_toList,h];rfl
 ·intro h;apply List.eq_nil_of_length_eq_zero;rw[Array.length_toList];exact h
theorem l2InsOk_out(i:I3)(w:E)(h:i.op<1\/15<i.op):Calls prog 105 #[.agg #[I i.op,S i.text,I i.n]] w λe w'=>Bw w w'/\e=H (.bool false):=by
 go_enter func105,ntmps105
 go_wp2_with (first|(go_at_call 132;refine(l2Word_out _ _ h).mono ?_;rintro e w' ⟨rfl,rfl⟩))
 go_ret
 exact⟨aN _ _,rfl⟩
theorem Ab{p:Prop}(h:p):Hd p:=h
theorem Aj{α:Type}(a:α):∃q,a=q:=⟨_,rfl⟩
theorem zo{A P:Prop}(a:A)(h:A->P:=by intro;omega):P:=h a
theorem nW{o:Obj}(e:w.alloc o=V)(k:w.heap.size=b):V.heap[b]?=M o:=by subst e;subst k;unfold World.alloc;simp
theorem aB{o:Obj}(e:w.alloc o=V):Below w.heap.size w V:=e▸aN _ _
theorem cK(hb:w.heap[b]?=M (O cs T fr))(j:X)(h:cs.toList[j]?=M v:=by rfl):w.cell? ⟨b,j,N⟩=M v:=by rw[cH hb,←Array.getElem?_toList];exact h
theorem fZ(hb:w.heap[b]?=M (O cs T (0,0))):∀j,w.frozen? ⟨b,j,N⟩=false:=λj=>fH hb j
theorem ck2(hb:w.heap[b]?=M (O cs T fr))(h0:cs.toList[0]?=M v0:=by rfl)(h1:cs.toList[1]?=M v1:=by rfl):w.cell? ⟨b,0,N⟩=M v0∧w.cell? ⟨b,1,N⟩=M v1:=⟨cK hb 0 h0,cK hb 1 h1⟩
theorem ck3(hb:w.heap[b]?=M (O cs T fr))(h0:cs.toList[0]?=M v0:=by rfl)(h1:cs.toList[1]?=M v1:=by rfl)(h2:cs.toList[2]?=M v2:=by rfl):w.cell? ⟨b,0,N⟩=M v0∧w.cell? ⟨b,1,N⟩=M v1∧w.cell? ⟨b,2,N⟩=M v2:=⟨cK hb 0 h0,cK hb 1 h1,cK hb 2 h2⟩
theorem ck5(hb:w.heap[b]?=M (O cs T fr))(h0:cs.toList[0]?=M v0:=by rfl)(h1:cs.toList[1]?=M v1:=by rfl)(h2:cs.toList[2]?=M v2:=by rfl)(h3:cs.toList[3]?=M v3:=by rfl)(h4:cs.toList[4]?=M v4:=by rfl):w.cell? ⟨b,0,N⟩=M v0∧w.cell? ⟨b,1,N⟩=M v1∧w.cell? ⟨b,2,N⟩=M v2∧w.cell? ⟨b,3,N⟩=M v3∧w.cell? ⟨b,4,N⟩=M v4:=⟨cK hb 0 h0,cK hb 1 h1,cK hb 2 h2,cK hb 3 h3,cK hb 4 h4⟩
theorem Zc(hb:w.heap[b]?=M (O cs T fr))(h0:cs.toList[0]?=M v0:=by rfl)(h1:cs.toList[1]?=M v1:=by rfl)(h2:cs.toList[2]?=M v2:=by rfl)(h3:cs.toList[3]?=M v3:=by rfl)(h4:cs.toList[4]?=M v4:=by rfl)(h5:cs.toList[5]?=M v5:=by rfl):w.cell? ⟨b,0,N⟩=M v0∧w.cell? ⟨b,1,N⟩=M v1∧w.cell? ⟨b,2,N⟩=M v2∧w.cell? ⟨b,3,N⟩=M v3∧w.cell? ⟨b,4,N⟩=M v4∧w.cell? ⟨b,5,N⟩=M v5:=⟨cK hb 0 h0,cK hb 1 h1,cK hb 2 h2,cK hb 3 h3,cK hb 4 h4,cK hb 5 h5⟩
theorem Et{v6 v7 v8 v9:Z}(hb:w.heap[b]?=M (O cs T fr))(h0:cs.toList[0]?=M v0:=by rfl)(h1:cs.toList[1]?=M v1:=by rfl)(h2:cs.toList[2]?=M v2:=by rfl)(h3:cs.toList[3]?=M v3:=by rfl)(h4:cs.toList[4]?=M v4:=by rfl)(h5:cs.toList[5]?=M v5:=by rfl)(h6:cs.toList[6]?=M v6:=by rfl)(h7:cs.toList[7]?=M v7:=by rfl)(h8:cs.toList[8]?=M v8:=by rfl)(h9:cs.toList[9]?=M v9:=by rfl):w.cell? ⟨b,0,N⟩=M v0∧w.cell? ⟨b,1,N⟩=M v1∧w.cell? ⟨b,2,N⟩=M v2∧w.cell? ⟨b,3,N⟩=M v3∧w.cell? ⟨b,4,N⟩=M v4∧w.cell? ⟨b,5,N⟩=M v5∧w.cell? ⟨b,6,N⟩=M v6∧w.cell? ⟨b,7,N⟩=M v7∧w.cell? ⟨b,8,N⟩=M v8∧w.cell? ⟨b,9,N⟩=M v9:=⟨cK hb 0 h0,cK hb 1 h1,cK hb 2 h2,cK hb 3 h3,cK hb 4 h4,cK hb 5 h5,cK hb 6 h6,cK hb 7 h7,cK hb 8 h8,cK hb 9 h9⟩
end Go.Proofs.YtnflkpmmfpfhlaaGreatDoor
