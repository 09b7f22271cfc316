import Derived.Lib.SmallJoins
import Derived.Lib.Builder
import Derived.Below
import Derived.Test.YtfgoholldpeabaaGreatDoorProg
import Derived.Test.YtfgoholldpeabaaGreatDoorQ
namespace Go.Proofs
open Go.Shelf
def Tryz.lays106_ren:Go.Shelf.Ren:=⟨fun|106=>180|213=>187|265=>193|n=>n,fun|9=>9|3=>3|n=>n,fun|n=>n⟩
theorem Tryz.lays106:Go.Proofs.Lays.n106 Tryz.prog Tryz.lays106_ren:={
 mixed:=by kernel_rfl
 f106:=Tryz.func180.trans (congrArg some (by kernel_rfl))
 f213:=Tryz.func187.trans (congrArg some (by kernel_rfl))
 f265:=Tryz.func193.trans (congrArg some (by kernel_rfl))
 t3:=Tryz.underlying3
 a3:=Tryz.isAgg3
 z3:=Tryz.sizeOf3
 v3:=Tryz.zeroValue3
 t9:=Tryz.underlying9
 a9:=Tryz.isAgg9
 z9:=Tryz.sizeOf9
 v9:=Tryz.zeroValue9 }
open Go.RowKit in
theorem Tryz.strings_Compare (a b:ByteArray) (w:World) :
  Calls Tryz.prog 180 #[.string a,.string b] w fun e w'=>e=.returned (.int .i64 (Lib.compareBytes a.data.toList b.data.toList))/\w'=w:=Any.strings_Compare Tryz.lays106 a b w
def Tryz.laysM171_ren:Go.Shelf.Ren:=⟨fun|171=>166|243=>177|246=>186|283=>189|284=>190|285=>191|286=>192|129=>196|317=>195|318=>197|319=>198|320=>199|337=>200|338=>201|n=>n,fun|3=>3|9=>9|2=>2|4=>4|171=>263|0=>0|53=>121|37=>122|5=>5|173=>266|212=>270|51=>271|20=>20|213=>272|46=>216|232=>275|233=>276|n=>n,fun|17=>2|18=>3|19=>4|n=>n⟩
theorem Tryz.laysM171:Go.Proofs.LaysM.n171 Tryz.prog Tryz.laysM171_ren:={
 mixed:=by kernel_rfl
 f129:=Tryz.func196.trans (congrArg some (by kernel_rfl))
 f171:=Tryz.func166.trans (congrArg some (by kernel_rfl))
 f243:=Tryz.func177.trans (congrArg some (by kernel_rfl))
 f246:=Tryz.func186.trans (congrArg some (by kernel_rfl))
 f283:=Tryz.func189.trans (congrArg some (by kernel_rfl))
 f284:=Tryz.func190.trans (congrArg some (by kernel_rfl))
 f285:=Tryz.func191.trans (congrArg some (by kernel_rfl))
 f286:=Tryz.func192.trans (congrArg some (by kernel_rfl))
 f317:=Tryz.func195.trans (congrArg some (by kernel_rfl))
 f318:=Tryz.func197.trans (congrArg some (by kernel_rfl))
 f319:=Tryz.func198.trans (congrArg some (by kernel_rfl))
 f320:=Tryz.func199.trans (congrArg some (by kernel_rfl))
 f337:=Tryz.func200.trans (congrArg some (by kernel_rfl))
 f338:=Tryz.func201.trans (congrArg some (by kernel_rfl))
 t0:=Tryz.underlying0
 a0:=Tryz.isAgg0
 z0:=Tryz.sizeOf0
 v0:=Tryz.zeroValue0
 t2:=Tryz.underlying2
 a2:=Tryz.isAgg2
 z2:=Tryz.sizeOf2
 v2:=Tryz.zeroValue2
 t3:=Tryz.underlying3
 a3:=Tryz.isAgg3
 z3:=Tryz.sizeOf3
 v3:=Tryz.zeroValue3
 t4:=Tryz.underlying4
 a4:=Tryz.isAgg4
 z4:=Tryz.sizeOf4
 v4:=Tryz.zeroValue4
 t5:=Tryz.underlying5
 a5:=Tryz.isAgg5
 z5:=Tryz.sizeOf5
 v5:=Tryz.zeroValue5
 t9:=Tryz.underlying9
 a9:=Tryz.isAgg9
 z9:=Tryz.sizeOf9
 v9:=Tryz.zeroValue9
 t20:=Tryz.underlying20
 a20:=Tryz.isAgg20
 z20:=Tryz.sizeOf20
 v20:=Tryz.zeroValue20
 t37:=Tryz.underlying122
 a37:=Tryz.isAgg122
 z37:=Tryz.sizeOf122
 v37:=Tryz.zeroValue122
 t46:=Tryz.underlying216
 a46:=Tryz.isAgg216
 z46:=Tryz.sizeOf216
 v46:=Tryz.zeroValue216
 t51:=Tryz.underlying271
 a51:=Tryz.isAgg271
 z51:=Tryz.sizeOf271
 v51:=Tryz.zeroValue271
 t53:=Tryz.underlying121
 a53:=Tryz.isAgg121
 z53:=Tryz.sizeOf121
 v53:=Tryz.zeroValue121
 t171:=Tryz.underlying263
 a171:=Tryz.isAgg263
 z171:=Tryz.sizeOf263
 v171:=Tryz.zeroValue263
 t173:=Tryz.underlying266
 a173:=Tryz.isAgg266
 z173:=Tryz.sizeOf266
 v173:=Tryz.zeroValue266
 t212:=Tryz.underlying270
 a212:=Tryz.isAgg270
 z212:=Tryz.sizeOf270
 v212:=Tryz.zeroValue270
 t213:=Tryz.underlying272
 a213:=Tryz.isAgg272
 z213:=Tryz.sizeOf272
 t232:=Tryz.underlying275
 a232:=Tryz.isAgg275
 z232:=Tryz.sizeOf275
 v232:=Tryz.zeroValue275
 t233:=Tryz.underlying276
 a233:=Tryz.isAgg276
 z233:=Tryz.sizeOf276
 v233:=Tryz.zeroValue276
 g17:=by kernel_rfl
 g18:=by kernel_rfl
 g19:=by kernel_rfl
 i0:=by kernel_rfl
 i2:=by kernel_rfl
 i3:=by kernel_rfl
 i4:=by kernel_rfl
 i5:=by kernel_rfl
 i9:=by kernel_rfl
 i20:=by kernel_rfl
 i37:=by kernel_rfl
 i46:=by kernel_rfl
 i51:=by kernel_rfl
 i53:=by kernel_rfl
 i171:=by kernel_rfl
 i173:=by kernel_rfl
 i212:=by kernel_rfl
 i232:=by kernel_rfl
 i233:=by kernel_rfl
 m17:=by kernel_rfl
 m18:=by kernel_rfl
 m19:=by kernel_rfl }
open Go.RowKit Go.Sort Go.Lib in
theorem Tryz.strconv_Itoa (n:Int) (h0:-9223372036854775808<=n) (h1:n<=9223372036854775807) (w:World) (htab:Lib.TabIs Tryz.prog w "internal/strconv.uint64pow10" .u64 Lib.pow10Tab) :
  Calls Tryz.prog 166 #[.int .i64 n] w fun e w'=>e=.returned (.string ⟨(Lib.itoa n).toArray⟩)/\∃ k os,w'=grow (w.drewN k) os:=Any.strconv_Itoa Tryz.laysM171 n h0 h1 w htab
def Tryz.lays109_ren:Go.Shelf.Ren:=⟨fun|109=>154|n=>n,fun|31=>22|9=>9|3=>3|0=>0|4=>4|n=>n,fun|n=>n⟩
theorem Tryz.lays109:Go.Proofs.Lays.n109 Tryz.prog Tryz.lays109_ren:={
 mixed:=by kernel_rfl
 f109:=Tryz.func154.trans (congrArg some (by kernel_rfl))
 t0:=Tryz.underlying0
 a0:=Tryz.isAgg0
 z0:=Tryz.sizeOf0
 v0:=Tryz.zeroValue0
 t3:=Tryz.underlying3
 a3:=Tryz.isAgg3
 z3:=Tryz.sizeOf3
 v3:=Tryz.zeroValue3
 t4:=Tryz.underlying4
 a4:=Tryz.isAgg4
 z4:=Tryz.sizeOf4
 v4:=Tryz.zeroValue4
 t9:=Tryz.underlying9
 a9:=Tryz.isAgg9
 z9:=Tryz.sizeOf9
 v9:=Tryz.zeroValue9
 t31:=Tryz.underlying22
 a31:=Tryz.isAgg22
 z31:=Tryz.sizeOf22
 v31:=Tryz.zeroValue22 }
open Go.Lib in
theorem Tryz.slices_Index_string (b off n c:Nat) (zs:List ByteArray) (x:ByteArray) (w:World) (hz:n<=zs.length) (wh:n<=9223372036854775807) (hc:∀ j,j<zs.length->w.cell? ⟨b,off+j,none⟩=some (.string (zs.getD j ByteArray.empty))) :
  Calls Tryz.prog 154 #[.slice (some ⟨b,off,none⟩) n c,.string x] w fun e w'=>e=.returned (.int .i64 (Lib.idxOfS (zs.take n) x))/\w'=w:=Any.slices_Index_string Tryz.lays109 b off n c zs x w hz wh hc
def Tryz.laysNm216_ren:Go.Shelf.Ren:=⟨fun|16=>104|n=>n,fun|24=>22|9=>9|4=>4|n=>n,fun|n=>n⟩
theorem Tryz.laysNm216:Go.Proofs.Lays2.n16 Tryz.prog Tryz.laysNm216_ren:={
 mixed:=by kernel_rfl
 f16:=Tryz.func104.trans (congrArg some (by kernel_rfl))
 t4:=Tryz.underlying4
 a4:=Tryz.isAgg4
 z4:=Tryz.sizeOf4
 v4:=Tryz.zeroValue4
 t9:=Tryz.underlying9
 a9:=Tryz.isAgg9
 z9:=Tryz.sizeOf9
 v9:=Tryz.zeroValue9
 t24:=Tryz.underlying22
 a24:=Tryz.isAgg22
 z24:=Tryz.sizeOf22
 v24:=Tryz.zeroValue22
 i9:=by kernel_rfl }
open Go.RowKit Go.Lib in
theorem Tryz.slices_Clone_string (b off n c:Nat) (zs:List ByteArray) (w:World) (hz:n<=zs.length) (wh:n*16<=140737488355328) (hc:∀ j,j<zs.length->w.cell? ⟨b,off+j,none⟩=some (.string (zs.getD j ByteArray.empty))) :
  Calls Tryz.prog 104 #[.slice (some ⟨b,off,none⟩) n c] w fun e w'=>∃ v',e=.returned v'/\w'.ownsRow w.heap.size 9 1 v' n ((zs.take n).map (Value.string))/\v'≠.slice none 0 0/\Below w.heap.size w w':=Any.slices_Clone_string Tryz.laysNm216 b off n c zs w hz wh hc
end Go.Proofs
namespace Go.Proofs.YtfgoholldpeabaaGreatDoor
open _root_.Go.Proofs.Tryz Go.RowKit
set_option linter.unusedVariables false
set_option maxHeartbeats 8000000
set_option maxRecDepth 100000
set_option linter.unusedSimpArgs false
variable {w V w':World} {b:Nat} {cs:Array Value} {T:TypeId} {fr:Nat × Nat} {v v0 v1 v2 v3 v4 v5 v6 v7 v8:Value}
def Hd (p:Prop):Prop:=p
theorem Hd.o {p:Prop} (h:Hd p):p:=h
theorem Hd.out {p:Prop} (h:Hd p):p:=h
theorem aN (w:World) (o:Obj):Below w.heap.size w (w.alloc o):=(Below.refl _ _).alloc (Nat.le_refl _) _
theorem cH {w:World} {b:Nat} {cs:Array Value} {T:TypeId} {fr:Nat × Nat} (hb:w.heap[b]?=some (.cells cs T fr)) (j:Nat):w.cell? ⟨b,j,none⟩=cs[j]?:=Lib.cell_of_heap hb j
theorem fH {w:World} {b:Nat} {cs:Array Value} {T:TypeId} (hb:w.heap[b]?=some (.cells cs T (0,0))) (j:Nat):w.frozen? ⟨b,j,none⟩=false:=Lib.frozen_of_heap hb j
theorem jB {w:World} {g i:Nat} {cs:Array Value} {t:TypeId} {fr:Nat × Nat} (h:w.heap[g]?=some (.cells cs t fr)) (v:Value):(w.setCell ⟨g,i,none⟩ v).heap[g]?=some (.cells (cs.setIfInBounds i v) t fr):=Joins.block_setCell h v
theorem gG {α:Type} {l:List α} {i:Nat} {a:α}:l.getD i a=l[i]?.getD a:=List.getD_eq_getElem?_getD
theorem Iu {α:Type} {l:List α} {i:Nat} (h:i<l.length):l[i]?=some l[i]:=List.getElem?_eq_getElem h
theorem hC (w:World) (a:Addr) (u:Value) (k:Nat) (h:k≠a.block):(w.setCell a u).heap[k]?=w.heap[k]?:=Below.heap_setCell w a u k h
theorem bR {P:Program} {fn:Func} {R:Ending->World->Prop} {a:Act} {w:World} {v:Value} (hr:(results fn a.tmps).run P w=.ok v w) (hd:a.defers=[]) (hR:R (.returned v) w):bodyPost P fn R .ret a w:=bodyPost_ret hr hd hR
abbrev nS:Value:=.slice none 0 0
abbrev ze:Value:=.string ⟨#[]⟩
abbrev I (n:Int):Value:=.int .i64 n
abbrev p_ (b:Nat):Option Addr:=some ⟨b,0,none⟩
abbrev Bw (w w':World):Prop:=Below w.heap.size w w'
abbrev By:=ByteArray
theorem hid {p:Prop} (h:p):Hd p:=h
theorem Ai {α:Type} (a:α):∃ q,a=q:=⟨_,rfl⟩
theorem zo {A P:Prop} (a:A) (h:A->P:=by intro;omega):P:=h a
theorem nW {o:Obj} (e:w.alloc o=V) (k:w.heap.size=b):V.heap[b]?=some o:=by subst e;subst k;unfold World.alloc;simp
theorem aB {o:Obj} (e:w.alloc o=V):Below w.heap.size w V:=e▸aN _ _
theorem cK (hb:w.heap[b]?=some (.cells cs T fr)) (j:Nat) (h:cs.toList[j]?=some v:=by rfl):w.cell? ⟨b,j,none⟩=some v:=by rw[cH hb,← Array.getElem?_toList];exact h
theorem fZ (hb:w.heap[b]?=some (.cells cs T (0,0))):∀ j,w.frozen? ⟨b,j,none⟩=false:=fun j=>fH hb j
theorem ck2 (hb:w.heap[b]?=some (.cells cs T fr)) (h0:cs.toList[0]?=some v0:=by rfl) (h1:cs.toList[1]?=some v1:=by rfl):w.cell? ⟨b,0,none⟩=some v0∧w.cell? ⟨b,1,none⟩=some v1:=⟨cK hb 0 h0,cK hb 1 h1⟩
theorem ck3 (hb:w.heap[b]?=some (.cells cs T fr)) (h0:cs.toList[0]?=some v0:=by rfl) (h1:cs.toList[1]?=some v1:=by rfl) (h2:cs.toList[2]?=some v2:=by rfl):w.cell? ⟨b,0,none⟩=some v0∧w.cell? ⟨b,1,none⟩=some v1∧w.cell? ⟨b,2,none⟩=some v2:=⟨cK hb 0 h0,cK hb 1 h1,cK hb 2 h2⟩
theorem ck5 (hb:w.heap[b]?=some (.cells cs T fr)) (h0:cs.toList[0]?=some v0:=by rfl) (h1:cs.toList[1]?=some v1:=by rfl) (h2:cs.toList[2]?=some v2:=by rfl) (h3:cs.toList[3]?=some v3:=by rfl) (h4:cs.toList[4]?=some v4:=by rfl):w.cell? ⟨b,0,none⟩=some v0∧w.cell? ⟨b,1,none⟩=some v1∧w.cell? ⟨b,2,none⟩=some v2∧w.cell? ⟨b,3,none⟩=some v3∧w.cell? ⟨b,4,none⟩=some v4:=⟨cK hb 0 h0,cK hb 1 h1,cK hb 2 h2,cK hb 3 h3,cK hb 4 h4⟩
theorem Zo (hb:w.heap[b]?=some (.cells cs T fr)) (h0:cs.toList[0]?=some v0:=by rfl) (h1:cs.toList[1]?=some v1:=by rfl) (h2:cs.toList[2]?=some v2:=by rfl) (h3:cs.toList[3]?=some v3:=by rfl) (h4:cs.toList[4]?=some v4:=by rfl) (h5:cs.toList[5]?=some v5:=by rfl):w.cell? ⟨b,0,none⟩=some v0∧w.cell? ⟨b,1,none⟩=some v1∧w.cell? ⟨b,2,none⟩=some v2∧w.cell? ⟨b,3,none⟩=some v3∧w.cell? ⟨b,4,none⟩=some v4∧w.cell? ⟨b,5,none⟩=some v5:=⟨cK hb 0 h0,cK hb 1 h1,cK hb 2 h2,cK hb 3 h3,cK hb 4 h4,cK hb 5 h5⟩
theorem ck9 (hb:w.heap[b]?=some (.cells cs T fr)) (h0:cs.toList[0]?=some v0:=by rfl) (h1:cs.toList[1]?=some v1:=by rfl) (h2:cs.toList[2]?=some v2:=by rfl) (h3:cs.toList[3]?=some v3:=by rfl) (h4:cs.toList[4]?=some v4:=by rfl) (h5:cs.toList[5]?=some v5:=by rfl) (h6:cs.toList[6]?=some v6:=by rfl) (h7:cs.toList[7]?=some v7:=by rfl) (h8:cs.toList[8]?=some v8:=by rfl):w.cell? ⟨b,0,none⟩=some v0∧w.cell? ⟨b,1,none⟩=some v1∧w.cell? ⟨b,2,none⟩=some v2∧w.cell? ⟨b,3,none⟩=some v3∧w.cell? ⟨b,4,none⟩=some v4∧w.cell? ⟨b,5,none⟩=some v5∧w.cell? ⟨b,6,none⟩=some v6∧w.cell? ⟨b,7,none⟩=some v7∧w.cell? ⟨b,8,none⟩=some v8:=⟨cK hb 0 h0,cK hb 1 h1,cK hb 2 h2,cK hb 3 h3,cK hb 4 h4,cK hb 5 h5,cK hb 6 h6,cK hb 7 h7,cK hb 8 h8⟩
theorem Fc {v9:Value} (hb:w.heap[b]?=some (.cells cs T fr)) (h0:cs.toList[0]?=some v0:=by rfl) (h1:cs.toList[1]?=some v1:=by rfl) (h2:cs.toList[2]?=some v2:=by rfl) (h3:cs.toList[3]?=some v3:=by rfl) (h4:cs.toList[4]?=some v4:=by rfl) (h5:cs.toList[5]?=some v5:=by rfl) (h6:cs.toList[6]?=some v6:=by rfl) (h7:cs.toList[7]?=some v7:=by rfl) (h8:cs.toList[8]?=some v8:=by rfl) (h9:cs.toList[9]?=some v9:=by rfl):w.cell? ⟨b,0,none⟩=some v0∧w.cell? ⟨b,1,none⟩=some v1∧w.cell? ⟨b,2,none⟩=some v2∧w.cell? ⟨b,3,none⟩=some v3∧w.cell? ⟨b,4,none⟩=some v4∧w.cell? ⟨b,5,none⟩=some v5∧w.cell? ⟨b,6,none⟩=some v6∧w.cell? ⟨b,7,none⟩=some v7∧w.cell? ⟨b,8,none⟩=some v8∧w.cell? ⟨b,9,none⟩=some v9:=⟨cK hb 0 h0,cK hb 1 h1,cK hb 2 h2,cK hb 3 h3,cK hb 4 h4,cK hb 5 h5,cK hb 6 h6,cK hb 7 h7,cK hb 8 h8,cK hb 9 h9⟩
structure I3 where
 op:Int
 text:By
 n:Int
def i0:I3:=⟨0,ByteArray.empty,0⟩
def ix (is:List I3) (i:Nat):I3:=is.getD i i0
def Cj (w:World) (a:Option Addr) (is:List I3):Prop:=
 ∀ i,i<is.length->∃ b off,a=some ⟨b,off,none⟩/\w.cell? ⟨b,off+i*3,none⟩=some (I (ix is i).op)/\w.cell? ⟨b,off+i*3+1,none⟩=some (.string (ix is i).text)/\w.cell? ⟨b,off+i*3+2,none⟩=some (I (ix is i).n)
theorem Aa {o:Nat} (hb:Bw w w') (h:w.cell? ⟨b,o,none⟩=some v):w'.cell? ⟨b,o,none⟩=some v:=
 (hb.cell (p:=⟨b,o,none⟩) (World.block_lt_of_cell? w _ h)).trans h
theorem Cj.bl {a:Option Addr} {is:List I3} (h:Cj w a is) (hb:Bw w w'):Cj w' a is:=by
 exact qey
theorem Ac {base e size n:Nat} {xs:List Value} (h:w.ownsRow base e size v n xs) (hb:Bw w w'):w'.ownsRow base e size v n xs:=by
 refine⟨h.1,?_⟩
 rcases h.2 with h2|⟨g,cap,cur,hv,hg,hh,r⟩
 ·exact Or.inl h2
 ·refine Or.inr ⟨g,cap,cur,hv,hg,?_,r⟩
  have aj:g<w.heap.size:=by
   rcases Nat.lt_or_ge g w.heap.size with h|h
   ·exact h
   ·rw[Array.getElem?_eq_none h] at hh;cases hh
  rw[hb.block g aj];exact hh
theorem Cw {p q:By} (h:p=q):(p.toList == q.toList)=true:=by subst h;simp
theorem Gl {p q:By} (h:p≠q):(p.toList == q.toList)=false:=by
 rw[beq_eq_false_iff_ne]
 intro e
 rw[ByteArray.toList_eq,ByteArray.toList_eq] at e
 exact h (WideShapes.bytes_inj e)
def Cl (is:List I3) (k:Nat) (xs:List Value):Prop:=
 ∀ i,i<k->xs[i*3]?=some (I (ix is i).op)/\xs[i*3+1]?=some (.string (ix is i).text)/\xs[i*3+2]?=some (I (ix is i).n)
def Ek (op:Int):Int:=if op=1 then 1 else if op=3\/op=4\/op=5 then 2 else if op=10\/op=11 then 3 else 0
def Lq (k:Int):Int:=if k=1 then 2000 else 0
def Nx (k:Int):Int:=if k=2 then 2000 else if k=3 then 200 else 0
def Hc (i:I3):Bool:=decide (1<=i.op) && decide (i.op<=15) && decide ((i.text.size:Int)<=Lq (Ek i.op)) && decide (0<=i.n) && decide (i.n<=Nx (Ek i.op))
def words:List (List UInt8):=[[],[108,105,116],[99,97,116],[99,117,116],[114,101,115,116],[119,111,114,100],[115,97,109,101],[100,117,112],[115,119,97,112],[100,114,111,112],[106,117,109,112],[117,110,108,101,115,115],[97,115,107],[104,97,115],[102,97,105,108],[101,110,100]]
def La:List Int:=[0,0,2,1,1,1,2,1,2,1,0,1,1,1,1,1]
def Qac (o:Nat):By:=⟨(words.getD o []).toArray⟩
def Lr (w:World):Prop:=∀ o:Nat,o<16->w.cell? ⟨0,o*3,none⟩=some (.string (Qac o))/\w.cell? ⟨0,o*3+1,none⟩=some (I (Ek o))/\w.cell? ⟨0,o*3+2,none⟩=some (I (La.getD o 0))
theorem Lr.bl (h:Lr w) (hb:Bw w w'):Lr w':=fun o ho=>⟨Aa hb (h o ho).1,Aa hb (h o ho).2.1,Aa hb (h o ho).2.2⟩
theorem kind_cases (o:Int):Ek o=0\/Ek o=1\/Ek o=2\/Ek o=3:=by
 unfold Ek
 split
 ·simp
 ·split
  ·simp
  ·split<;>simp
theorem Pi (k:Int) (w:World):Calls prog 158 #[I k] w fun e w'=>e=.returned (I (Lq k))/\w'=w:=by
 by_cases h:k=1
 ·subst h;go_enter func158,ntmps158;exact qah
 ·have h1:(k == 1)=false:=qas;have e:Lq k=0:=by simp[Lq,h]
  rw[e];clear h e;go_enter func158,ntmps158;exact qah
theorem Mn (k:Int) (w:World):Calls prog 159 #[I k] w fun e w'=>e=.returned (I (Nx k))/\w'=w:=by
 by_cases h:k=2
 ·subst h;exact qfi
 ·by_cases h':k=3
  ·subst h';exact qfi
  ·have h1:(k == 2)=false:=qas;have h2:(k == 3)=false:=by simpa using h'
   have e:Nx k=0:=by simp[Nx,h,h']
   rw[e];clear h h' e;exact qfi
theorem Xm (i:I3) (w:World) (h:i.op<1\/15<i.op) :
  Calls prog 142 #[.agg #[I i.op,.string i.text,I i.n]] w fun e w'=>Bw w w'/\e=.returned (.bool false):=by
 rcases h with h|h
 ·have h1:decide (i.op<1)=true:=qas;exact qlt
 ·have h1:decide (i.op<1)=false:=qh;have h2:decide (15<i.op)=true:=qas;exact qlt
theorem Qae (o:Nat) (t:By) (n:Int) (w:World) (k:Int) (h1:1<=o) (h2:o<=15) (ht:t.size<=9223372036854775807) (hk:w.cell? ⟨0,o*3+1,none⟩=some (I k)) :
  Calls prog 142 #[.agg #[I o,.string t,I n]] w fun e w'=>Bw w w'/\e=.returned (.bool (decide ((t.size:Int)<=Lq k) && decide (0<=n) && decide (n<=Nx k))):=by
 have d1:decide ((o:Int)<1)=false:=qh
 have d2:decide (15<(o:Int))=false:=qh
 have h0:0<w.heap.size:=World.block_lt_of_cell? w _ hk
 have hka:∀ x,(w.alloc x).cell? ⟨0,o*3+1,none⟩=some (I k):=fun x=>by rw[World.cell?_alloc_lt _ _ _ h0];exact hk
 by_cases c1:(t.size:Int)<=Lq k
 ·have e1:decide ((t.size:Int)<=Lq k)=true:=by simpa using c1
  by_cases c2:0<=n
  ·have e2:decide (0<=n)=true:=by simpa using c2
   exact qii
  ·have e2:decide (0<=n)=false:=by simpa using c2
   exact qii
 ·have e1:decide ((t.size:Int)<=Lq k)=false:=by simpa using c1
  go_enter func142,ntmps142;go_wp2_with fail
  go_quiet (first|(go_at_call 158;exact Calls.quiet_of_same (Pi _ _))|(go_at_call 159;exact Calls.quiet_of_same (Mn _ _)))
  go_wp2;go_ret;exact⟨below_drewN (aN _ _) _,by simp[e1];try rfl⟩
theorem l2Word_1 (w:World):Calls prog 84 #[I 1] w fun e w'=>e=.returned (.tuple #[.string ⟨#[108,105,116]⟩,I 1])/\w=w':=by
 exact qz
theorem l2Word_2 (w:World):Calls prog 84 #[I 2] w fun e w'=>e=.returned (.tuple #[.string ⟨#[99,97,116]⟩,I 0])/\w=w':=by
 exact qz
theorem l2Word_3 (w:World):Calls prog 84 #[I 3] w fun e w'=>e=.returned (.tuple #[.string ⟨#[99,117,116]⟩,I 2])/\w=w':=by
 exact qz
theorem l2Word_4 (w:World):Calls prog 84 #[I 4] w fun e w'=>e=.returned (.tuple #[.string ⟨#[114,101,115,116]⟩,I 2])/\w=w':=by
 exact qz
theorem l2Word_5 (w:World):Calls prog 84 #[I 5] w fun e w'=>e=.returned (.tuple #[.string ⟨#[119,111,114,100]⟩,I 2])/\w=w':=by
 exact qz
theorem l2Word_6 (w:World):Calls prog 84 #[I 6] w fun e w'=>e=.returned (.tuple #[.string ⟨#[115,97,109,101]⟩,I 0])/\w=w':=by
 exact qz
theorem l2Word_7 (w:World):Calls prog 84 #[I 7] w fun e w'=>e=.returned (.tuple #[.string ⟨#[100,117,112]⟩,I 0])/\w=w':=by
 exact qz
theorem l2Word_8 (w:World):Calls prog 84 #[I 8] w fun e w'=>e=.returned (.tuple #[.string ⟨#[115,119,97,112]⟩,I 0])/\w=w':=by
 exact qz
theorem l2Word_9 (w:World):Calls prog 84 #[I 9] w fun e w'=>e=.returned (.tuple #[.string ⟨#[100,114,111,112]⟩,I 0])/\w=w':=by
 exact qz
theorem l2Word_10 (w:World):Calls prog 84 #[I 10] w fun e w'=>e=.returned (.tuple #[.string ⟨#[106,117,109,112]⟩,I 3])/\w=w':=by
 exact qz
theorem l2Word_11 (w:World):Calls prog 84 #[I 11] w fun e w'=>e=.returned (.tuple #[.string ⟨#[117,110,108,101,115,115]⟩,I 3])/\w=w':=by
 exact qz
theorem l2Word_12 (w:World):Calls prog 84 #[I 12] w fun e w'=>e=.returned (.tuple #[.string ⟨#[97,115,107]⟩,I 0])/\w=w':=by
 exact qz
theorem l2Word_13 (w:World):Calls prog 84 #[I 13] w fun e w'=>e=.returned (.tuple #[.string ⟨#[104,97,115]⟩,I 0])/\w=w':=by
 exact qz
theorem l2Word_14 (w:World):Calls prog 84 #[I 14] w fun e w'=>e=.returned (.tuple #[.string ⟨#[102,97,105,108]⟩,I 0])/\w=w':=by
 exact qz
theorem l2Word_15 (w:World):Calls prog 84 #[I 15] w fun e w'=>e=.returned (.tuple #[.string ⟨#[101,110,100]⟩,I 0])/\w=w':=by
 exact qz
theorem l2Word_out (op:Int) (w:World) (h:op<1\/15<op):Calls prog 84 #[I op] w fun e w'=>e=.returned (.tuple #[ze,I 0])/\w=w':=by
 rcases h with h|h
 ·exact qz
 ·exact qz
theorem l2Word_in (o:Nat) (w:World) (h1:1<=o) (h2:o<=15):Calls prog 84 #[I o] w fun e w'=>e=.returned (.tuple #[.string (Qac o),I (Ek o)])/\w=w':=by
 rcases (show o=1\/o=2\/o=3\/o=4\/o=5\/o=6\/o=7\/o=8\/o=9\/o=10\/o=11\/o=12\/o=13\/o=14\/o=15 from qb) with rfl|rfl|rfl|rfl|rfl|rfl|rfl|rfl|rfl|rfl|rfl|rfl|rfl|rfl|rfl
 ·exact l2Word_1 w
 ·exact l2Word_2 w
 ·exact l2Word_3 w
 ·exact l2Word_4 w
 ·exact l2Word_5 w
 ·exact l2Word_6 w
 ·exact l2Word_7 w
 ·exact l2Word_8 w
 ·exact l2Word_9 w
 ·exact l2Word_10 w
 ·exact l2Word_11 w
 ·exact l2Word_12 w
 ·exact l2Word_13 w
 ·exact l2Word_14 w
 ·exact l2Word_15 w
theorem Uz (o:Nat) (h1:1<=o) (h2:o<=15):(Qac o).toList.isEmpty=false:=by
 rw[ByteArray.toList_eq]
 rcases (show o=1\/o=2\/o=3\/o=4\/o=5\/o=6\/o=7\/o=8\/o=9\/o=10\/o=11\/o=12\/o=13\/o=14\/o=15 from qb) with rfl|rfl|rfl|rfl|rfl|rfl|rfl|rfl|rfl|rfl|rfl|rfl|rfl|rfl|rfl<;>rfl
theorem Qp (t:By):t.toList.isEmpty=decide (t.size=0):=by
 rw[ByteArray.toList_eq,Bool.eq_iff_iff]
 simp only[List.isEmpty_iff,decide_eq_true_eq]
 constructor
 ·intro h;show t.data.size=0;rw[<- Array.length_toList,h];rfl
 ·intro h;apply List.eq_nil_of_length_eq_zero;rw[Array.length_toList];exact h
theorem Qbi (i:I3) (w:World) (h:i.op<1\/15<i.op) :
  Calls prog 65 #[.agg #[I i.op,.string i.text,I i.n]] w fun e w'=>Bw w w'/\e=.returned (.bool false):=by
 go_enter func65,ntmps65
 go_wp2_with (first|(go_at_call 84;refine(l2Word_out _ _ h).mono ?_;rintro e w' ⟨rfl,rfl⟩))
 go_ret
 exact⟨aN _ _,rfl⟩
end Go.Proofs.YtfgoholldpeabaaGreatDoor
