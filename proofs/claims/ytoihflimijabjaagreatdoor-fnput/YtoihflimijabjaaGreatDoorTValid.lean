import Derived.Lib.SmallJoins
import Derived.Lib.Builder
import Derived.Below
import Derived.Test.YtoihflimijabjaaGreatDoorProg
import Derived.Test.YtoihflimijabjaaGreatDoorQ
namespace Go.Proofs
open Go.Shelf
end Go.Proofs
namespace Go.Proofs.YtoihflimijabjaaGreatDoor
open _root_.Go.Proofs.Tryz Go.RowKit
open Option renaming some->M,none->N
open Value renaming string->S,tuple->Y
open Obj renaming cells->O
open Go renaming Value->Z,World->E
open Ending renaming returned->H
open _root_ renaming List->L,Nat->X
set_option linter.unusedVariables false
set_option maxHeartbeats 8000000
set_option maxRecDepth 100000
set_option linter.unusedSimpArgs false
variable {w' V:E} {b:X} {v v0 v1 v2 v3 v4 v5 v6 v7 v8:Z} {cs:Array Z} {T:TypeId} {fr:X×X}
def Hd(p:Prop):Prop:=p
theorem Hd.o{p:Prop}(h:Hd p):p:=h
theorem Hd.out{p:Prop}(h:Hd p):p:=h
theorem aN(w:E)(o:Obj):Below w.heap.size w (w.alloc o):=(Below.refl _ _).alloc (Nat.le_refl _) _
theorem cH{w:E}{b:X}{cs:Array Z}{T:TypeId}{fr:X×X}(hb:w.heap[b]?=M (O cs T fr))(j:X):w.cell? ⟨b,j,N⟩=cs[j]?:=Lib.cell_of_heap hb j
theorem fH{w:E}{b:X}{cs:Array Z}{T:TypeId}(hb:w.heap[b]?=M (O cs T (0,0)))(j:X):w.frozen? ⟨b,j,N⟩=false:=Lib.frozen_of_heap hb j
theorem jB{w:E}{g i:X}{cs:Array Z}{t:TypeId}{fr:X×X}(h:w.heap[g]?=M (O cs t fr))(v:Z):(w.setCell ⟨g,i,N⟩ v).heap[g]?=M (O (cs.setIfInBounds i v) t fr):=Joins.block_setCell h v
theorem gG{α:Type}{l:L α}{i:X}{a:α}:l.getD i a=l[i]?.getD a:=List.getD_eq_getElem?_getD
theorem gQ{α:Type}{l:L α}{i:X}(h:i<l.length):l[i]?=M l[i]:=List.getElem?_eq_getElem h
theorem hC(w:E)(a:Addr)(u:Z)(k:X)(h:k≠a.block):(w.setCell a u).heap[k]?=w.heap[k]?:=Below.heap_setCell w a u k h
theorem bR{P:Program}{fn:Func}{R:Ending->E->Prop}{a:Act}{w:E}{v:Z}(hr:(results fn a.tmps).run P w=.ok v w)(hd:a.defers=[])(hR:R (H v) w):bodyPost P fn R .ret a w:=bodyPost_ret hr hd hR
abbrev nS:Z:=.slice N 0 0
abbrev ze:Z:=S ⟨#[]⟩
abbrev I(n:Int):Z:=.int .i64 n
abbrev p_(b:X):Option Addr:=M ⟨b,0,N⟩
abbrev Bw(w w':E):Prop:=Below w.heap.size w w'
abbrev By:=ByteArray
structure I3 where
 op:Int
 text:By
 n:Int
def i0:I3:=⟨0,ByteArray.empty,0⟩
def ix(is:L I3)(i:X):I3:=is.getD i i0
def Dl(w:E)(a:Option Addr)(is:L I3):Prop:=
 ∀i,i<is.length->∃b off,a=M ⟨b,off,N⟩/\w.cell? ⟨b,off+i*3,N⟩=M (I (ix is i).op)/\w.cell? ⟨b,off+i*3+1,N⟩=M (S (ix is i).text)/\w.cell? ⟨b,off+i*3+2,N⟩=M (I (ix is i).n)
theorem Aa{w:E}{o:X}(hb:Bw w w')(h:w.cell? ⟨b,o,N⟩=M v):w'.cell? ⟨b,o,N⟩=M v:=
 (hb.cell (p:=⟨b,o,N⟩) (World.block_lt_of_cell? w _ h)).trans h
theorem Dl.bl{w:E}{a:Option Addr}{is:L I3}(h:Dl w a is)(hb:Bw w w'):Dl w' a is:=by
 exact qeg
theorem Ae{w:E}{base e size n:X}{xs:L Z}(h:w.ownsRow base e size v n xs)(hb:Bw w w'):w'.ownsRow base e size v n xs:=by
 refine⟨h.1,?_⟩
 rcases h.2 with h2|⟨g,cap,cur,hv,hg,hh,r⟩
 ·exact Or.inl h2
 ·refine Or.inr ⟨g,cap,cur,hv,hg,?_,r⟩
  have au:g<w.heap.size:=by
   rcases Nat.lt_or_ge g w.heap.size with h|h
   ·exact h
   ·rw[Array.getElem?_eq_none h]at hh;cases hh
  rw[hb.block g au];exact hh
theorem Eu{p q:By}(h:p=q):(p.toList == q.toList)=true:=by subst h;simp
theorem Fx{p q:By}(h:p≠q):(p.toList == q.toList)=false:=by
 rw[beq_eq_false_iff_ne]
 intro e
 rw[ByteArray.toList_eq,ByteArray.toList_eq]at e
 exact h (WideShapes.bytes_inj e)
def Cf(is:L I3)(k:X)(xs:L Z):Prop:=
 ∀i,i<k->xs[i*3]?=M (I (ix is i).op)/\xs[i*3+1]?=M (S (ix is i).text)/\xs[i*3+2]?=M (I (ix is i).n)
def Dv(op:Int):Int:=if op=1 then 1 else if op=3\/op=4\/op=5 then 2 else if op=10\/op=11 then 3 else 0
def Ie(k:Int):Int:=if k=1 then 2000 else 0
def Mg(k:Int):Int:=if k=2 then 2000 else if k=3 then 200 else 0
def Ev(i:I3):Bool:=decide (1<=i.op)&&decide (i.op<=15)&&decide ((i.text.size:Int)<=Ie (Dv i.op))&&decide (0<=i.n)&&decide (i.n<=Mg (Dv i.op))
def words:L (L UInt8):=[[],[108,105,116],[99,97,116],[99,117,116],[114,101,115,116],[119,111,114,100],[115,97,109,101],[100,117,112],[115,119,97,112],[100,114,111,112],[106,117,109,112],[117,110,108,101,115,115],[97,115,107],[104,97,115],[102,97,105,108],[101,110,100]]
def Kd:L Int:=[0,0,2,1,1,1,2,1,2,1,0,1,1,1,1,1]
def Vy(o:X):By:=⟨(words.getD o []).toArray⟩
def Tf(w:E):Prop:=∀o:X,o<16->w.cell? ⟨0,o*3,N⟩=M (S (Vy o))/\w.cell? ⟨0,o*3+1,N⟩=M (I (Dv o))/\w.cell? ⟨0,o*3+2,N⟩=M (I (Kd.getD o 0))
theorem Tf.bl{w:E}(h:Tf w)(hb:Bw w w'):Tf w':=λo ho=>⟨Aa hb (h o ho).1,Aa hb (h o ho).2.1,Aa hb (h o ho).2.2⟩
theorem Qan(o:Int):Dv o=0\/Dv o=1\/Dv o=2\/Dv o=3:=by
 unfold Dv
 split
 ·simp
 ·split
  ·simp
  ·split<;>simp
theorem Ng(k:Int)(w:E):Calls prog 98 #[I k] w λe w'=>e=H (I (Ie k))/\w'=w:=by
 by_cases h:k=1
 ·subst h;go_enter func98,ntmps98;exact qan
 ·have h1:(k == 1)=false:=Zl;have e:Ie k=0:=by simp[Ie,h]
  rw[e];clear h e;go_enter func98,ntmps98;exact qan
theorem Lh(k:Int)(w:E):Calls prog 99 #[I k] w λe w'=>e=H (I (Mg k))/\w'=w:=by
 by_cases h:k=2
 ·subst h;exact qep
 ·by_cases h':k=3
  ·subst h';exact qep
  ·have h1:(k == 2)=false:=Zl;have h2:(k == 3)=false:=by simpa using h'
   have e:Mg k=0:=by simp[Mg,h,h']
   rw[e];clear h h' e;exact qep
theorem Uj(i:I3)(w:E)(h:i.op<1\/15<i.op):Calls prog 92 #[.agg #[I i.op,S i.text,I i.n]] w λe w'=>Bw w w'/\e=H (.bool false):=by
 rcases h with h|h
 ·have h1:decide (i.op<1)=true:=Zl;exact qkm
 ·have h1:decide (i.op<1)=false:=qj;have h2:decide (15<i.op)=true:=Zl;exact qkm
theorem Wb(o:X)(t:By)(n:Int)(w:E)(k:Int)(h1:1<=o)(h2:o<=15)(ht:t.size<=9223372036854775807)(hk:w.cell? ⟨0,o*3+1,N⟩=M (I k)):Calls prog 92 #[.agg #[I o,S t,I n]] w λe w'=>Bw w w'/\e=H (.bool (decide ((t.size:Int)<=Ie k)&&decide (0<=n)&&decide (n<=Mg k))):=by
 have d1:decide ((o:Int)<1)=false:=qj
 have d2:decide (15<(o:Int))=false:=qj
 have h0:0<w.heap.size:=World.block_lt_of_cell? w _ hk
 have hka:∀x,(w.alloc x).cell? ⟨0,o*3+1,N⟩=M (I k):=λx=>by rw[World.cell?_alloc_lt _ _ _ h0];exact hk
 by_cases c1:(t.size:Int)<=Ie k
 ·have e1:decide ((t.size:Int)<=Ie k)=true:=by simpa using c1
  by_cases c2:0<=n
  ·have e2:decide (0<=n)=true:=by simpa using c2
   exact qih
  ·have e2:decide (0<=n)=false:=by simpa using c2
   exact qih
 ·have e1:decide ((t.size:Int)<=Ie k)=false:=by simpa using c1
  go_enter func92,ntmps92;go_wp2_with fail
  go_quiet (first|(go_at_call 98;exact Calls.quiet_of_same (Ng _ _))|(go_at_call 99;exact Calls.quiet_of_same (Lh _ _)))
  go_wp2;go_ret;exact⟨below_drewN (aN _ _) _,by simp[e1];try rfl⟩
theorem l2Word_1(w:E):Calls prog 77 #[I 1] w λe w'=>e=H (Y #[S ⟨#[108,105,116]⟩,I 1])/\w=w':=by
 exact Wq
theorem l2Word_2(w:E):Calls prog 77 #[I 2] w λe w'=>e=H (Y #[S ⟨#[99,97,116]⟩,I 0])/\w=w':=by
 exact Wq
theorem l2Word_3(w:E):Calls prog 77 #[I 3] w λe w'=>e=H (Y #[S ⟨#[99,117,116]⟩,I 2])/\w=w':=by
 exact Wq
theorem l2Word_4(w:E):Calls prog 77 #[I 4] w λe w'=>e=H (Y #[S ⟨#[114,101,115,116]⟩,I 2])/\w=w':=by
 exact Wq
theorem l2Word_5(w:E):Calls prog 77 #[I 5] w λe w'=>e=H (Y #[S ⟨#[119,111,114,100]⟩,I 2])/\w=w':=by
 exact Wq
theorem l2Word_6(w:E):Calls prog 77 #[I 6] w λe w'=>e=H (Y #[S ⟨#[115,97,109,101]⟩,I 0])/\w=w':=by
 exact Wq
theorem l2Word_7(w:E):Calls prog 77 #[I 7] w λe w'=>e=H (Y #[S ⟨#[100,117,112]⟩,I 0])/\w=w':=by
 exact Wq
theorem l2Word_8(w:E):Calls prog 77 #[I 8] w λe w'=>e=H (Y #[S ⟨#[115,119,97,112]⟩,I 0])/\w=w':=by
 exact Wq
theorem l2Word_9(w:E):Calls prog 77 #[I 9] w λe w'=>e=H (Y #[S ⟨#[100,114,111,112]⟩,I 0])/\w=w':=by
 exact Wq
theorem l2Word_10(w:E):Calls prog 77 #[I 10] w λe w'=>e=H (Y #[S ⟨#[106,117,109,112]⟩,I 3])/\w=w':=by
 exact Wq
theorem l2Word_11(w:E):Calls prog 77 #[I 11] w λe w'=>e=H (Y #[S ⟨#[117,110,108,101,115,115]⟩,I 3])/\w=w':=by
 exact Wq
theorem l2Word_12(w:E):Calls prog 77 #[I 12] w λe w'=>e=H (Y #[S ⟨#[97,115,107]⟩,I 0])/\w=w':=by
 exact Wq
theorem l2Word_13(w:E):Calls prog 77 #[I 13] w λe w'=>e=H (Y #[S ⟨#[104,97,115]⟩,I 0])/\w=w':=by
 exact Wq
theorem l2Word_14(w:E):Calls prog 77 #[I 14] w λe w'=>e=H (Y #[S ⟨#[102,97,105,108]⟩,I 0])/\w=w':=by
 exact Wq
theorem l2Word_15(w:E):Calls prog 77 #[I 15] w λe w'=>e=H (Y #[S ⟨#[101,110,100]⟩,I 0])/\w=w':=by
 exact Wq
theorem Zz(op:Int)(w:E)(h:op<1\/15<op):Calls prog 77 #[I op] w λe w'=>e=H (Y #[ze,I 0])/\w=w':=by
 rcases h with h|h
 ·exact Wq
 ·exact Wq
theorem l2Word_in(o:X)(w:E)(h1:1<=o)(h2:o<=15):Calls prog 77 #[I o] w λe w'=>e=H (Y #[S (Vy o),I (Dv o)])/\w=w':=by
 rcases(show o=1\/o=2\/o=3\/o=4\/o=5\/o=6\/o=7\/o=8\/o=9\/o=10\/o=11\/o=12\/o=13\/o=14\/o=15 from qg)with rfl|rfl|rfl|rfl|rfl|rfl|rfl|rfl|rfl|rfl|rfl|rfl|rfl|rfl|rfl
 ·exact l2Word_1 w
 ·exact l2Word_2 w
 ·exact l2Word_3 w
 ·exact l2Word_4 w
 ·exact l2Word_5 w
 ·exact l2Word_6 w
 ·exact l2Word_7 w
 ·exact l2Word_8 w
 ·exact l2Word_9 w
 ·exact l2Word_10 w
 ·exact l2Word_11 w
 ·exact l2Word_12 w
 ·exact l2Word_13 w
 ·exact l2Word_14 w
 ·exact l2Word_15 w
theorem Sr(o:X)(h1:1<=o)(h2:o<=15):(Vy o).toList.isEmpty=false:=by
 rw[ByteArray.toList_eq]
 rcases(show o=1\/o=2\/o=3\/o=4\/o=5\/o=6\/o=7\/o=8\/o=9\/o=10\/o=11\/o=12\/o=13\/o=14\/o=15 from qg)with rfl|rfl|rfl|rfl|rfl|rfl|rfl|rfl|rfl|rfl|rfl|rfl|rfl|rfl|rfl<;>rfl
theorem Pc(t:By):t.toList.isEmpty=decide (t.size=0):=by
 rw[ByteArray.toList_eq,Bool.eq_iff_iff]
 simp only[List.isEmpty_iff,decide_eq_true_eq]
 constructor
 ·intro h;show t.data.size=0;rw[<- Array.length_toList,h];rfl
 ·intro h;apply List.eq_nil_of_length_eq_zero;rw[Array.length_toList];exact h
theorem Xg(i:I3)(w:E)(h:i.op<1\/15<i.op):Calls prog 58 #[.agg #[I i.op,S i.text,I i.n]] w λe w'=>Bw w w'/\e=H (.bool false):=by
 go_enter func58,ntmps58
 go_wp2_with (first|(go_at_call 77;refine(Zz _ _ h).mono ?_;rintro e w' ⟨rfl,rfl⟩))
 go_ret
 exact⟨aN _ _,rfl⟩
theorem Ad{p:Prop}(h:p):Hd p:=h
theorem Aj{α:Type}(a:α):∃q,a=q:=⟨_,rfl⟩
theorem zo{A P:Prop}(a:A)(h:A->P:=by intro;omega):P:=h a
theorem nW{w:E}{o:Obj}(e:w.alloc o=V)(k:w.heap.size=b):V.heap[b]?=M o:=by subst e;subst k;unfold World.alloc;simp
theorem aB{w:E}{o:Obj}(e:w.alloc o=V):Below w.heap.size w V:=e▸aN _ _
theorem cK{w:E}(hb:w.heap[b]?=M (O cs T fr))(j:X)(h:cs.toList[j]?=M v:=by rfl):w.cell? ⟨b,j,N⟩=M v:=by rw[cH hb,←Array.getElem?_toList];exact h
theorem fZ{w:E}(hb:w.heap[b]?=M (O cs T (0,0))):∀j,w.frozen? ⟨b,j,N⟩=false:=λj=>fH hb j
theorem ck2{w:E}(hb:w.heap[b]?=M (O cs T fr))(h0:cs.toList[0]?=M v0:=by rfl)(h1:cs.toList[1]?=M v1:=by rfl):w.cell? ⟨b,0,N⟩=M v0∧w.cell? ⟨b,1,N⟩=M v1:=⟨cK hb 0 h0,cK hb 1 h1⟩
theorem ck3{w:E}(hb:w.heap[b]?=M (O cs T fr))(h0:cs.toList[0]?=M v0:=by rfl)(h1:cs.toList[1]?=M v1:=by rfl)(h2:cs.toList[2]?=M v2:=by rfl):w.cell? ⟨b,0,N⟩=M v0∧w.cell? ⟨b,1,N⟩=M v1∧w.cell? ⟨b,2,N⟩=M v2:=⟨cK hb 0 h0,cK hb 1 h1,cK hb 2 h2⟩
theorem ck5{w:E}(hb:w.heap[b]?=M (O cs T fr))(h0:cs.toList[0]?=M v0:=by rfl)(h1:cs.toList[1]?=M v1:=by rfl)(h2:cs.toList[2]?=M v2:=by rfl)(h3:cs.toList[3]?=M v3:=by rfl)(h4:cs.toList[4]?=M v4:=by rfl):w.cell? ⟨b,0,N⟩=M v0∧w.cell? ⟨b,1,N⟩=M v1∧w.cell? ⟨b,2,N⟩=M v2∧w.cell? ⟨b,3,N⟩=M v3∧w.cell? ⟨b,4,N⟩=M v4:=⟨cK hb 0 h0,cK hb 1 h1,cK hb 2 h2,cK hb 3 h3,cK hb 4 h4⟩
theorem ck6{w:E}(hb:w.heap[b]?=M (O cs T fr))(h0:cs.toList[0]?=M v0:=by rfl)(h1:cs.toList[1]?=M v1:=by rfl)(h2:cs.toList[2]?=M v2:=by rfl)(h3:cs.toList[3]?=M v3:=by rfl)(h4:cs.toList[4]?=M v4:=by rfl)(h5:cs.toList[5]?=M v5:=by rfl):w.cell? ⟨b,0,N⟩=M v0∧w.cell? ⟨b,1,N⟩=M v1∧w.cell? ⟨b,2,N⟩=M v2∧w.cell? ⟨b,3,N⟩=M v3∧w.cell? ⟨b,4,N⟩=M v4∧w.cell? ⟨b,5,N⟩=M v5:=⟨cK hb 0 h0,cK hb 1 h1,cK hb 2 h2,cK hb 3 h3,cK hb 4 h4,cK hb 5 h5⟩
theorem ck9{w:E}(hb:w.heap[b]?=M (O cs T fr))(h0:cs.toList[0]?=M v0:=by rfl)(h1:cs.toList[1]?=M v1:=by rfl)(h2:cs.toList[2]?=M v2:=by rfl)(h3:cs.toList[3]?=M v3:=by rfl)(h4:cs.toList[4]?=M v4:=by rfl)(h5:cs.toList[5]?=M v5:=by rfl)(h6:cs.toList[6]?=M v6:=by rfl)(h7:cs.toList[7]?=M v7:=by rfl)(h8:cs.toList[8]?=M v8:=by rfl):w.cell? ⟨b,0,N⟩=M v0∧w.cell? ⟨b,1,N⟩=M v1∧w.cell? ⟨b,2,N⟩=M v2∧w.cell? ⟨b,3,N⟩=M v3∧w.cell? ⟨b,4,N⟩=M v4∧w.cell? ⟨b,5,N⟩=M v5∧w.cell? ⟨b,6,N⟩=M v6∧w.cell? ⟨b,7,N⟩=M v7∧w.cell? ⟨b,8,N⟩=M v8:=⟨cK hb 0 h0,cK hb 1 h1,cK hb 2 h2,cK hb 3 h3,cK hb 4 h4,cK hb 5 h5,cK hb 6 h6,cK hb 7 h7,cK hb 8 h8⟩
theorem Km{w:E}{v9:Z}(hb:w.heap[b]?=M (O cs T fr))(h0:cs.toList[0]?=M v0:=by rfl)(h1:cs.toList[1]?=M v1:=by rfl)(h2:cs.toList[2]?=M v2:=by rfl)(h3:cs.toList[3]?=M v3:=by rfl)(h4:cs.toList[4]?=M v4:=by rfl)(h5:cs.toList[5]?=M v5:=by rfl)(h6:cs.toList[6]?=M v6:=by rfl)(h7:cs.toList[7]?=M v7:=by rfl)(h8:cs.toList[8]?=M v8:=by rfl)(h9:cs.toList[9]?=M v9:=by rfl):w.cell? ⟨b,0,N⟩=M v0∧w.cell? ⟨b,1,N⟩=M v1∧w.cell? ⟨b,2,N⟩=M v2∧w.cell? ⟨b,3,N⟩=M v3∧w.cell? ⟨b,4,N⟩=M v4∧w.cell? ⟨b,5,N⟩=M v5∧w.cell? ⟨b,6,N⟩=M v6∧w.cell? ⟨b,7,N⟩=M v7∧w.cell? ⟨b,8,N⟩=M v8∧w.cell? ⟨b,9,N⟩=M v9:=⟨cK hb 0 h0,cK hb 1 h1,cK hb 2 h2,cK hb 3 h3,cK hb 4 h4,cK hb 5 h5,cK hb 6 h6,cK hb 7 h7,cK hb 8 h8,cK hb 9 h9⟩
end Go.Proofs.YtoihflimijabjaaGreatDoor
