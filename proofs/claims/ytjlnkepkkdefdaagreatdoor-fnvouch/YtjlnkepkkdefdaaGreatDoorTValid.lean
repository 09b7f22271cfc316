import Derived.Lib.SmallJoins
import Derived.Lib.Builder
import Derived.Below
import Derived.Shelf.Small.Strs
import Derived.Shelf.Strconv.Itoa0
import Derived.Shelf.Strconv.Itoa1
import Derived.Shelf.LaysM
import Derived.Shelf.Strconv.Itoa2
import Derived.Shelf.Strconv.Itoa3
import Derived.Shelf.Slices.Turned
import Derived.Ground.Names2Prog
import Derived.Shelf.Slices.Clone
import Derived.Ground.SlgnProg
import Derived.Shelf.SlicesE.Clone
import Derived.Test.YtjlnkepkkdefdaaGreatDoorProg
import Derived.WalkKit
import Derived.WalkSpells
import Derived.WalkLawsBesides
import Derived.Deep.RegionHeld3
import Derived.Deep.QuietTactic
import Derived.BigQuiet
namespace Go.Proofs
open Go.Shelf
def Tryz.lays106_ren:Go.Shelf.Ren:=⟨fun|106=>139|213=>148|265=>150|n=>n,fun|9=>9|3=>3|n=>n,fun|n=>n⟩
theorem Tryz.lays106:Go.Proofs.Lays.n106 Tryz.prog Tryz.lays106_ren:={
 mixed:=by kernel_rfl
 f106:=Tryz.func139.trans (congrArg some (by kernel_rfl))
 f213:=Tryz.func148.trans (congrArg some (by kernel_rfl))
 f265:=Tryz.func150.trans (congrArg some (by kernel_rfl))
 t3:=Tryz.underlying3
 a3:=Tryz.isAgg3
 z3:=Tryz.sizeOf3
 v3:=Tryz.zeroValue3
 t9:=Tryz.underlying9
 a9:=Tryz.isAgg9
 z9:=Tryz.sizeOf9
 v9:=Tryz.zeroValue9 }
open Go.RowKit in
theorem Tryz.strings_Compare (a b:ByteArray) (w:World) :
  Calls Tryz.prog 139 #[.string a,.string b] w fun e w'=>e=.returned (.int .i64 (Lib.compareBytes a.data.toList b.data.toList))/\w'=w:=Any.strings_Compare Tryz.lays106 a b w
def Tryz.laysM171_ren:Go.Shelf.Ren:=⟨fun|171=>31|243=>52|246=>87|283=>112|284=>113|285=>114|286=>115|129=>131|317=>130|318=>132|319=>133|320=>134|337=>146|338=>147|n=>n,fun|3=>3|9=>9|2=>2|4=>4|171=>177|0=>0|53=>87|37=>22|5=>5|173=>180|212=>197|51=>198|20=>20|213=>199|46=>147|232=>213|233=>214|n=>n,fun|17=>1|18=>2|19=>3|n=>n⟩
theorem Tryz.laysM171:Go.Proofs.LaysM.n171 Tryz.prog Tryz.laysM171_ren:={
 mixed:=by kernel_rfl
 f129:=Tryz.func131.trans (congrArg some (by kernel_rfl))
 f171:=Tryz.func31.trans (congrArg some (by kernel_rfl))
 f243:=Tryz.func52.trans (congrArg some (by kernel_rfl))
 f246:=Tryz.func87.trans (congrArg some (by kernel_rfl))
 f283:=Tryz.func112.trans (congrArg some (by kernel_rfl))
 f284:=Tryz.func113.trans (congrArg some (by kernel_rfl))
 f285:=Tryz.func114.trans (congrArg some (by kernel_rfl))
 f286:=Tryz.func115.trans (congrArg some (by kernel_rfl))
 f317:=Tryz.func130.trans (congrArg some (by kernel_rfl))
 f318:=Tryz.func132.trans (congrArg some (by kernel_rfl))
 f319:=Tryz.func133.trans (congrArg some (by kernel_rfl))
 f320:=Tryz.func134.trans (congrArg some (by kernel_rfl))
 f337:=Tryz.func146.trans (congrArg some (by kernel_rfl))
 f338:=Tryz.func147.trans (congrArg some (by kernel_rfl))
 t0:=Tryz.underlying0
 a0:=Tryz.isAgg0
 z0:=Tryz.sizeOf0
 v0:=Tryz.zeroValue0
 t2:=Tryz.underlying2
 a2:=Tryz.isAgg2
 z2:=Tryz.sizeOf2
 v2:=Tryz.zeroValue2
 t3:=Tryz.underlying3
 a3:=Tryz.isAgg3
 z3:=Tryz.sizeOf3
 v3:=Tryz.zeroValue3
 t4:=Tryz.underlying4
 a4:=Tryz.isAgg4
 z4:=Tryz.sizeOf4
 v4:=Tryz.zeroValue4
 t5:=Tryz.underlying5
 a5:=Tryz.isAgg5
 z5:=Tryz.sizeOf5
 v5:=Tryz.zeroValue5
 t9:=Tryz.underlying9
 a9:=Tryz.isAgg9
 z9:=Tryz.sizeOf9
 v9:=Tryz.zeroValue9
 t20:=Tryz.underlying20
 a20:=Tryz.isAgg20
 z20:=Tryz.sizeOf20
 v20:=Tryz.zeroValue20
 t37:=Tryz.underlying22
 a37:=Tryz.isAgg22
 z37:=Tryz.sizeOf22
 v37:=Tryz.zeroValue22
 t46:=Tryz.underlying147
 a46:=Tryz.isAgg147
 z46:=Tryz.sizeOf147
 v46:=Tryz.zeroValue147
 t51:=Tryz.underlying198
 a51:=Tryz.isAgg198
 z51:=Tryz.sizeOf198
 v51:=Tryz.zeroValue198
 t53:=Tryz.underlying87
 a53:=Tryz.isAgg87
 z53:=Tryz.sizeOf87
 v53:=Tryz.zeroValue87
 t171:=Tryz.underlying177
 a171:=Tryz.isAgg177
 z171:=Tryz.sizeOf177
 v171:=Tryz.zeroValue177
 t173:=Tryz.underlying180
 a173:=Tryz.isAgg180
 z173:=Tryz.sizeOf180
 v173:=Tryz.zeroValue180
 t212:=Tryz.underlying197
 a212:=Tryz.isAgg197
 z212:=Tryz.sizeOf197
 v212:=Tryz.zeroValue197
 t213:=Tryz.underlying199
 a213:=Tryz.isAgg199
 z213:=Tryz.sizeOf199
 t232:=Tryz.underlying213
 a232:=Tryz.isAgg213
 z232:=Tryz.sizeOf213
 v232:=Tryz.zeroValue213
 t233:=Tryz.underlying214
 a233:=Tryz.isAgg214
 z233:=Tryz.sizeOf214
 v233:=Tryz.zeroValue214
 g17:=by kernel_rfl
 g18:=by kernel_rfl
 g19:=by kernel_rfl
 i0:=by kernel_rfl
 i2:=by kernel_rfl
 i3:=by kernel_rfl
 i4:=by kernel_rfl
 i5:=by kernel_rfl
 i9:=by kernel_rfl
 i20:=by kernel_rfl
 i37:=by kernel_rfl
 i46:=by kernel_rfl
 i51:=by kernel_rfl
 i53:=by kernel_rfl
 i171:=by kernel_rfl
 i173:=by kernel_rfl
 i212:=by kernel_rfl
 i232:=by kernel_rfl
 i233:=by kernel_rfl
 m17:=by kernel_rfl
 m18:=by kernel_rfl
 m19:=by kernel_rfl }
open Go.RowKit Go.Sort Go.Lib in
theorem Tryz.strconv_Itoa (n:Int) (h0:-9223372036854775808<=n) (h1:n<=9223372036854775807) (w:World) (htab:Lib.TabIs Tryz.prog w "internal/strconv.uint64pow10" .u64 Lib.pow10Tab) :
  Calls Tryz.prog 31 #[.int .i64 n] w fun e w'=>e=.returned (.string ⟨(Lib.itoa n).toArray⟩)/\∃ k os,w'=grow (w.drewN k) os:=Any.strconv_Itoa Tryz.laysM171 n h0 h1 w htab
def Tryz.lays109_ren:Go.Shelf.Ren:=⟨fun|109=>104|n=>n,fun|31=>30|9=>9|3=>3|0=>0|4=>4|n=>n,fun|n=>n⟩
theorem Tryz.lays109:Go.Proofs.Lays.n109 Tryz.prog Tryz.lays109_ren:={
 mixed:=by kernel_rfl
 f109:=Tryz.func104.trans (congrArg some (by kernel_rfl))
 t0:=Tryz.underlying0
 a0:=Tryz.isAgg0
 z0:=Tryz.sizeOf0
 v0:=Tryz.zeroValue0
 t3:=Tryz.underlying3
 a3:=Tryz.isAgg3
 z3:=Tryz.sizeOf3
 v3:=Tryz.zeroValue3
 t4:=Tryz.underlying4
 a4:=Tryz.isAgg4
 z4:=Tryz.sizeOf4
 v4:=Tryz.zeroValue4
 t9:=Tryz.underlying9
 a9:=Tryz.isAgg9
 z9:=Tryz.sizeOf9
 v9:=Tryz.zeroValue9
 t31:=Tryz.underlying30
 a31:=Tryz.isAgg30
 z31:=Tryz.sizeOf30
 v31:=Tryz.zeroValue30 }
open Go.Lib in
theorem Tryz.slices_Index_string (b off n c:Nat) (zs:List ByteArray) (x:ByteArray) (w:World) (hz:n<=zs.length) (hbig:n<=9223372036854775807) (hc:∀ j,j<zs.length->w.cell? ⟨b,off+j,none⟩=some (.string (zs.getD j ByteArray.empty))) :
  Calls Tryz.prog 104 #[.slice (some ⟨b,off,none⟩) n c,.string x] w fun e w'=>e=.returned (.int .i64 (Lib.idxOfS (zs.take n) x))/\w'=w:=Any.slices_Index_string Tryz.lays109 b off n c zs x w hz hbig hc
def Tryz.laysNm216_ren:Go.Shelf.Ren:=⟨fun|16=>79|n=>n,fun|24=>30|9=>9|4=>4|n=>n,fun|n=>n⟩
theorem Tryz.laysNm216:Go.Proofs.Lays2.n16 Tryz.prog Tryz.laysNm216_ren:={
 mixed:=by kernel_rfl
 f16:=Tryz.func79.trans (congrArg some (by kernel_rfl))
 t4:=Tryz.underlying4
 a4:=Tryz.isAgg4
 z4:=Tryz.sizeOf4
 v4:=Tryz.zeroValue4
 t9:=Tryz.underlying9
 a9:=Tryz.isAgg9
 z9:=Tryz.sizeOf9
 v9:=Tryz.zeroValue9
 t24:=Tryz.underlying30
 a24:=Tryz.isAgg30
 z24:=Tryz.sizeOf30
 v24:=Tryz.zeroValue30
 i9:=by kernel_rfl }
open Go.RowKit Go.Lib in
theorem Tryz.slices_Clone_string (b off n c:Nat) (zs:List ByteArray) (w:World) (hz:n<=zs.length) (hbig:n*16<=140737488355328) (hc:∀ j,j<zs.length->w.cell? ⟨b,off+j,none⟩=some (.string (zs.getD j ByteArray.empty))) :
  Calls Tryz.prog 79 #[.slice (some ⟨b,off,none⟩) n c] w fun e w'=>∃ v',e=.returned v'/\w'.ownsRow w.heap.size 9 1 v' n ((zs.take n).map (Value.string))/\v'≠.slice none 0 0/\Below w.heap.size w w':=Any.slices_Clone_string Tryz.laysNm216 b off n c zs w hz hbig hc
end Go.Proofs
namespace Go.Proofs.YtjlnkepkkdefdaaGreatDoor
open Go.RowKit
set_option linter.unusedVariables false
set_option maxHeartbeats 8000000
set_option maxRecDepth 100000
set_option linter.unusedSimpArgs false
def Hd (p:Prop):Prop:=p
theorem Hd.o {p:Prop} (h:Hd p):p:=h
theorem Hd.out {p:Prop} (h:Hd p):p:=h
theorem aN (w:World) (o:Obj):Below w.heap.size w (w.alloc o):=(Below.refl _ _).alloc (Nat.le_refl _) _
theorem cH {w:World} {b:Nat} {cs:Array Value} {T:TypeId} {fr:Nat × Nat} (hb:w.heap[b]?=some (.cells cs T fr)) (j:Nat):w.cell? ⟨b,j,none⟩=cs[j]?:=Lib.cell_of_heap hb j
theorem fH {w:World} {b:Nat} {cs:Array Value} {T:TypeId} (hb:w.heap[b]?=some (.cells cs T (0,0))) (j:Nat):w.frozen? ⟨b,j,none⟩=false:=Lib.frozen_of_heap hb j
theorem jB {w:World} {g i:Nat} {cs:Array Value} {t:TypeId} {fr:Nat × Nat} (h:w.heap[g]?=some (.cells cs t fr)) (v:Value):(w.setCell ⟨g,i,none⟩ v).heap[g]?=some (.cells (cs.setIfInBounds i v) t fr):=Joins.block_setCell h v
theorem gG {α:Type} {l:List α} {i:Nat} {a:α}:l.getD i a=l[i]?.getD a:=List.getD_eq_getElem?_getD
theorem gQ {α:Type} {l:List α} {i:Nat} (h:i<l.length):l[i]?=some l[i]:=List.getElem?_eq_getElem h
theorem hC (w:World) (a:Addr) (u:Value) (k:Nat) (h:k≠a.block):(w.setCell a u).heap[k]?=w.heap[k]?:=Below.heap_setCell w a u k h
theorem bR {P:Program} {fn:Func} {R:Ending->World->Prop} {a:Act} {w:World} {v:Value} (hr:(results fn a.tmps).run P w=.ok v w) (hd:a.defers=[]) (hR:R (.returned v) w):bodyPost P fn R .ret a w:=bodyPost_ret hr hd hR
theorem hid {p:Prop} (h:p):Hd p:=h
structure I3 where
 op:Int
 text:ByteArray
 n:Int
def i0:I3:=⟨0,ByteArray.empty,0⟩
def ix (is:List I3) (i:Nat):I3:=is.getD i i0
def Dr (w:World) (a:Option Addr) (is:List I3):Prop:=
 ∀ i,i<is.length->∃ b off,a=some ⟨b,off,none⟩/\w.cell? ⟨b,off+i*3,none⟩=some (.int .i64 (ix is i).op)/\w.cell? ⟨b,off+i*3+1,none⟩=some (.string (ix is i).text)/\w.cell? ⟨b,off+i*3+2,none⟩=some (.int .i64 (ix is i).n)
theorem Ab {w w':World} {b o:Nat} {v:Value} (hb:Below w.heap.size w w') (h:w.cell? ⟨b,o,none⟩=some v):w'.cell? ⟨b,o,none⟩=some v:=
 (hb.cell (p:=⟨b,o,none⟩) (World.block_lt_of_cell? w _ h)).trans h
theorem Dr.bl {w w':World} {a:Option Addr} {is:List I3} (h:Dr w a is) (hb:Below w.heap.size w w'):Dr w' a is:=by
 intro i hi
 obtain⟨b,off,ha,h1,h2,h3⟩:=h i hi
 exact⟨b,off,ha,Ab hb h1,Ab hb h2,Ab hb h3⟩
theorem Ac {w w':World} {base e size n:Nat} {v:Value} {xs:List Value} (h:w.ownsRow base e size v n xs) (hb:Below w.heap.size w w'):w'.ownsRow base e size v n xs:=by
 refine⟨h.1,?_⟩
 rcases h.2 with h2|⟨g,cap,cur,hv,hg,hh,r⟩
 ·exact Or.inl h2
 ·refine Or.inr ⟨g,cap,cur,hv,hg,?_,r⟩
  have hlt:g<w.heap.size:=by
   rcases Nat.lt_or_ge g w.heap.size with h|h
   ·exact h
   ·rw[Array.getElem?_eq_none h] at hh;cases hh
  rw[hb.block g hlt];exact hh
theorem Eh {p q:ByteArray} (h:p=q):(p.toList == q.toList)=true:=by subst h;simp
theorem Es {p q:ByteArray} (h:p≠q):(p.toList == q.toList)=false:=by
 rw[beq_eq_false_iff_ne]
 intro e
 rw[ByteArray.toList_eq,ByteArray.toList_eq] at e
 exact h (WideShapes.bytes_inj e)
def Fw (is:List I3) (k:Nat) (xs:List Value):Prop:=
 ∀ i,i<k->xs[i*3]?=some (.int .i64 (ix is i).op)/\xs[i*3+1]?=some (.string (ix is i).text)/\xs[i*3+2]?=some (.int .i64 (ix is i).n)
def Ga (op:Int):Int:=if op=1 then 1 else if op=3\/op=4\/op=5 then 2 else if op=10\/op=11 then 3 else 0
def Lj (k:Int):Int:=if k=1 then 2000 else 0
def Nc (k:Int):Int:=if k=2 then 2000 else if k=3 then 200 else 0
def Gu (i:I3):Bool:=decide (1<=i.op) && decide (i.op<=15) && decide ((i.text.size:Int)<=Lj (Ga i.op)) && decide (0<=i.n) && decide (i.n<=Nc (Ga i.op))
def words:List (List UInt8):=[[],[108,105,116],[99,97,116],[99,117,116],[114,101,115,116],[119,111,114,100],[115,97,109,101],[100,117,112],[115,119,97,112],[100,114,111,112],[106,117,109,112],[117,110,108,101,115,115],[97,115,107],[104,97,115],[102,97,105,108],[101,110,100]]
def Fo:List Int:=[0,0,2,1,1,1,2,1,2,1,0,1,1,1,1,1]
def wordB (o:Nat):ByteArray:=⟨(words.getD o []).toArray⟩
def Jr (w:World):Prop:=∀ o:Nat,o<16->w.cell? ⟨0,o*3,none⟩=some (.string (wordB o))/\w.cell? ⟨0,o*3+1,none⟩=some (.int .i64 (Ga o))/\w.cell? ⟨0,o*3+2,none⟩=some (.int .i64 (Fo.getD o 0))
theorem Jr.bl {w w':World} (h:Jr w) (hb:Below w.heap.size w w'):Jr w':=fun o ho=>⟨Ab hb (h o ho).1,Ab hb (h o ho).2.1,Ab hb (h o ho).2.2⟩
theorem kind_cases (o:Int):Ga o=0\/Ga o=1\/Ga o=2\/Ga o=3:=by
 unfold Ga
 split
 ·simp
 ·split
  ·simp
  ·split<;>simp
theorem Kx (k:Int) (w:World):Calls Tryz.prog 85 #[.int .i64 k] w fun e w'=>e=.returned (.int .i64 (Lj k))/\w'=w:=by
 by_cases h:k=1
 ·subst h;go_enter Tryz.func85,Tryz.ntmps85;go_wp2;go_ret;exact⟨rfl,rfl⟩
 ·have h1:(k == 1)=false:=by simpa using h
  have e:Lj k=0:=by simp[Lj,h]
  rw[e];clear h e;go_enter Tryz.func85,Tryz.ntmps85;go_wp2;go_ret;exact⟨rfl,rfl⟩
theorem Jh (k:Int) (w:World):Calls Tryz.prog 86 #[.int .i64 k] w fun e w'=>e=.returned (.int .i64 (Nc k))/\w'=w:=by
 by_cases h:k=2
 ·subst h;go_enter Tryz.func86,Tryz.ntmps86;go_wp2;go_ret;exact⟨rfl,rfl⟩
 ·by_cases h':k=3
  ·subst h';go_enter Tryz.func86,Tryz.ntmps86;go_wp2;go_ret;exact⟨rfl,rfl⟩
  ·have h1:(k == 2)=false:=by simpa using h
   have h2:(k == 3)=false:=by simpa using h'
   have e:Nc k=0:=by simp[Nc,h,h']
   rw[e];clear h h' e;go_enter Tryz.func86,Tryz.ntmps86;go_wp2;go_ret;exact⟨rfl,rfl⟩
theorem Vj (i:I3) (w:World) (h:i.op<1\/15<i.op) :
  Calls Tryz.prog 49 #[.agg #[.int .i64 i.op,.string i.text,.int .i64 i.n]] w fun e w'=>Below w.heap.size w w'/\e=.returned (.bool false):=by
 rcases h with h|h
 ·have h1:decide (i.op<1)=true:=by simpa using h
  go_enter Tryz.func49,Tryz.ntmps49;go_wp2;go_ret;exact⟨aN _ _,rfl⟩
 ·have h1:decide (i.op<1)=false:=by simp;omega
  have h2:decide (15<i.op)=true:=by simpa using h
  go_enter Tryz.func49,Tryz.ntmps49;go_wp2;go_ret;exact⟨aN _ _,rfl⟩
theorem Wz (o:Nat) (t:ByteArray) (n:Int) (w:World) (k:Int) (h1:1<=o) (h2:o<=15) (ht:t.size<=9223372036854775807) (hk:w.cell? ⟨0,o*3+1,none⟩=some (.int .i64 k)) :
  Calls Tryz.prog 49 #[.agg #[.int .i64 o,.string t,.int .i64 n]] w fun e w'=>Below w.heap.size w w'/\e=.returned (.bool (decide ((t.size:Int)<=Lj k) && decide (0<=n) && decide (n<=Nc k))):=by
 have d1:decide ((o:Int)<1)=false:=by simp;omega
 have d2:decide (15<(o:Int))=false:=by simp;omega
 have h0:0<w.heap.size:=World.block_lt_of_cell? w _ hk
 have hka:∀ x,(w.alloc x).cell? ⟨0,o*3+1,none⟩=some (.int .i64 k):=fun x=>by rw[World.cell?_alloc_lt _ _ _ h0];exact hk
 by_cases c1:(t.size:Int)<=Lj k
 ·have e1:decide ((t.size:Int)<=Lj k)=true:=by simpa using c1
  by_cases c2:0<=n
  ·have e2:decide (0<=n)=true:=by simpa using c2
   go_enter Tryz.func49,Tryz.ntmps49;go_wp2_with fail
   go_quiet (first|(go_at_call 85;exact Calls.quiet_of_same (Kx _ _))|(go_at_call 86;exact Calls.quiet_of_same (Jh _ _)))
   go_wp2;go_ret;exact⟨below_drewN (aN _ _) _,by simp[e1,e2];try rfl⟩
  ·have e2:decide (0<=n)=false:=by simpa using c2
   go_enter Tryz.func49,Tryz.ntmps49;go_wp2_with fail
   go_quiet (first|(go_at_call 85;exact Calls.quiet_of_same (Kx _ _))|(go_at_call 86;exact Calls.quiet_of_same (Jh _ _)))
   go_wp2;go_ret;exact⟨below_drewN (aN _ _) _,by simp[e1,e2];try rfl⟩
 ·have e1:decide ((t.size:Int)<=Lj k)=false:=by simpa using c1
  go_enter Tryz.func49,Tryz.ntmps49;go_wp2_with fail
  go_quiet (first|(go_at_call 85;exact Calls.quiet_of_same (Kx _ _))|(go_at_call 86;exact Calls.quiet_of_same (Jh _ _)))
  go_wp2;go_ret;exact⟨below_drewN (aN _ _) _,by simp[e1];try rfl⟩
theorem l2Word_1 (w:World):Calls Tryz.prog 105 #[.int .i64 1] w fun e w'=>e=.returned (.tuple #[.string ⟨#[108,105,116]⟩,.int .i64 1])/\w=w':=by
 go_enter Tryz.func105,Tryz.ntmps105
 go_wp2
 go_ret2
 exact⟨rfl,rfl⟩
theorem l2Word_2 (w:World):Calls Tryz.prog 105 #[.int .i64 2] w fun e w'=>e=.returned (.tuple #[.string ⟨#[99,97,116]⟩,.int .i64 0])/\w=w':=by
 go_enter Tryz.func105,Tryz.ntmps105
 go_wp2
 go_ret2
 exact⟨rfl,rfl⟩
theorem l2Word_3 (w:World):Calls Tryz.prog 105 #[.int .i64 3] w fun e w'=>e=.returned (.tuple #[.string ⟨#[99,117,116]⟩,.int .i64 2])/\w=w':=by
 go_enter Tryz.func105,Tryz.ntmps105
 go_wp2
 go_ret2
 exact⟨rfl,rfl⟩
theorem l2Word_4 (w:World):Calls Tryz.prog 105 #[.int .i64 4] w fun e w'=>e=.returned (.tuple #[.string ⟨#[114,101,115,116]⟩,.int .i64 2])/\w=w':=by
 go_enter Tryz.func105,Tryz.ntmps105
 go_wp2
 go_ret2
 exact⟨rfl,rfl⟩
theorem l2Word_5 (w:World):Calls Tryz.prog 105 #[.int .i64 5] w fun e w'=>e=.returned (.tuple #[.string ⟨#[119,111,114,100]⟩,.int .i64 2])/\w=w':=by
 go_enter Tryz.func105,Tryz.ntmps105
 go_wp2
 go_ret2
 exact⟨rfl,rfl⟩
theorem l2Word_6 (w:World):Calls Tryz.prog 105 #[.int .i64 6] w fun e w'=>e=.returned (.tuple #[.string ⟨#[115,97,109,101]⟩,.int .i64 0])/\w=w':=by
 go_enter Tryz.func105,Tryz.ntmps105
 go_wp2
 go_ret2
 exact⟨rfl,rfl⟩
theorem l2Word_7 (w:World):Calls Tryz.prog 105 #[.int .i64 7] w fun e w'=>e=.returned (.tuple #[.string ⟨#[100,117,112]⟩,.int .i64 0])/\w=w':=by
 go_enter Tryz.func105,Tryz.ntmps105
 go_wp2
 go_ret2
 exact⟨rfl,rfl⟩
theorem l2Word_8 (w:World):Calls Tryz.prog 105 #[.int .i64 8] w fun e w'=>e=.returned (.tuple #[.string ⟨#[115,119,97,112]⟩,.int .i64 0])/\w=w':=by
 go_enter Tryz.func105,Tryz.ntmps105
 go_wp2
 go_ret2
 exact⟨rfl,rfl⟩
theorem l2Word_9 (w:World):Calls Tryz.prog 105 #[.int .i64 9] w fun e w'=>e=.returned (.tuple #[.string ⟨#[100,114,111,112]⟩,.int .i64 0])/\w=w':=by
 go_enter Tryz.func105,Tryz.ntmps105
 go_wp2
 go_ret2
 exact⟨rfl,rfl⟩
theorem l2Word_10 (w:World):Calls Tryz.prog 105 #[.int .i64 10] w fun e w'=>e=.returned (.tuple #[.string ⟨#[106,117,109,112]⟩,.int .i64 3])/\w=w':=by
 go_enter Tryz.func105,Tryz.ntmps105
 go_wp2
 go_ret2
 exact⟨rfl,rfl⟩
theorem l2Word_11 (w:World):Calls Tryz.prog 105 #[.int .i64 11] w fun e w'=>e=.returned (.tuple #[.string ⟨#[117,110,108,101,115,115]⟩,.int .i64 3])/\w=w':=by
 go_enter Tryz.func105,Tryz.ntmps105
 go_wp2
 go_ret2
 exact⟨rfl,rfl⟩
theorem l2Word_12 (w:World):Calls Tryz.prog 105 #[.int .i64 12] w fun e w'=>e=.returned (.tuple #[.string ⟨#[97,115,107]⟩,.int .i64 0])/\w=w':=by
 go_enter Tryz.func105,Tryz.ntmps105
 go_wp2
 go_ret2
 exact⟨rfl,rfl⟩
theorem l2Word_13 (w:World):Calls Tryz.prog 105 #[.int .i64 13] w fun e w'=>e=.returned (.tuple #[.string ⟨#[104,97,115]⟩,.int .i64 0])/\w=w':=by
 go_enter Tryz.func105,Tryz.ntmps105
 go_wp2
 go_ret2
 exact⟨rfl,rfl⟩
theorem l2Word_14 (w:World):Calls Tryz.prog 105 #[.int .i64 14] w fun e w'=>e=.returned (.tuple #[.string ⟨#[102,97,105,108]⟩,.int .i64 0])/\w=w':=by
 go_enter Tryz.func105,Tryz.ntmps105
 go_wp2
 go_ret2
 exact⟨rfl,rfl⟩
theorem l2Word_15 (w:World):Calls Tryz.prog 105 #[.int .i64 15] w fun e w'=>e=.returned (.tuple #[.string ⟨#[101,110,100]⟩,.int .i64 0])/\w=w':=by
 go_enter Tryz.func105,Tryz.ntmps105
 go_wp2
 go_ret2
 exact⟨rfl,rfl⟩
theorem l2Word_out (op:Int) (w:World) (h:op<1\/15<op):Calls Tryz.prog 105 #[.int .i64 op] w fun e w'=>e=.returned (.tuple #[.string ⟨#[]⟩,.int .i64 0])/\w=w':=by
 rcases h with h|h
 ·go_enter Tryz.func105,Tryz.ntmps105;go_wp2
  go_ret2
  exact⟨rfl,rfl⟩
 ·go_enter Tryz.func105,Tryz.ntmps105;go_wp2
  go_ret2
  exact⟨rfl,rfl⟩
theorem l2Word_in (o:Nat) (w:World) (h1:1<=o) (h2:o<=15):Calls Tryz.prog 105 #[.int .i64 o] w fun e w'=>e=.returned (.tuple #[.string (wordB o),.int .i64 (Ga o)])/\w=w':=by
 rcases (show o=1\/o=2\/o=3\/o=4\/o=5\/o=6\/o=7\/o=8\/o=9\/o=10\/o=11\/o=12\/o=13\/o=14\/o=15 from by omega) with rfl|rfl|rfl|rfl|rfl|rfl|rfl|rfl|rfl|rfl|rfl|rfl|rfl|rfl|rfl
 ·exact l2Word_1 w
 ·exact l2Word_2 w
 ·exact l2Word_3 w
 ·exact l2Word_4 w
 ·exact l2Word_5 w
 ·exact l2Word_6 w
 ·exact l2Word_7 w
 ·exact l2Word_8 w
 ·exact l2Word_9 w
 ·exact l2Word_10 w
 ·exact l2Word_11 w
 ·exact l2Word_12 w
 ·exact l2Word_13 w
 ·exact l2Word_14 w
 ·exact l2Word_15 w
theorem Tu (o:Nat) (h1:1<=o) (h2:o<=15):(wordB o).toList.isEmpty=false:=by
 rw[ByteArray.toList_eq]
 rcases (show o=1\/o=2\/o=3\/o=4\/o=5\/o=6\/o=7\/o=8\/o=9\/o=10\/o=11\/o=12\/o=13\/o=14\/o=15 from by omega) with rfl|rfl|rfl|rfl|rfl|rfl|rfl|rfl|rfl|rfl|rfl|rfl|rfl|rfl|rfl<;>rfl
theorem Qi (t:ByteArray):t.toList.isEmpty=decide (t.size=0):=by
 rw[ByteArray.toList_eq,Bool.eq_iff_iff]
 simp only[List.isEmpty_iff,decide_eq_true_eq]
 constructor
 ·intro h;show t.data.size=0;rw[<- Array.length_toList,h];rfl
 ·intro h;apply List.eq_nil_of_length_eq_zero;rw[Array.length_toList];exact h
theorem Za (i:I3) (w:World) (h:i.op<1\/15<i.op) :
  Calls Tryz.prog 76 #[.agg #[.int .i64 i.op,.string i.text,.int .i64 i.n]] w fun e w'=>Below w.heap.size w w'/\e=.returned (.bool false):=by
 go_enter Tryz.func76,Tryz.ntmps76
 go_wp2_with (first|(go_at_call 105;refine(l2Word_out _ _ h).mono ?_;rintro e w' ⟨rfl,rfl⟩))
 go_ret
 exact⟨aN _ _,rfl⟩
end Go.Proofs.YtjlnkepkkdefdaaGreatDoor
