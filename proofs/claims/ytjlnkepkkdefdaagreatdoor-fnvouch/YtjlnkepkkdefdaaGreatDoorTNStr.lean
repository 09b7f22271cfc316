import Derived.Test.YtjlnkepkkdefdaaGreatDoorTNStepJ
import Derived.Deep.CutBlock
import Derived.Deep.DeepCutAuto
import Derived.Deep.LoopGhost
namespace Go.Proofs.YtjlnkepkkdefdaaGreatDoor
open Go.RowKit
set_option linter.unusedVariables false
set_option maxHeartbeats 8000000
set_option maxRecDepth 100000
set_option linter.unusedSimpArgs false
theorem Zz {w:World} {b:Nat} {v0 v1 v2 v3 v4 v5 v6 v7 v8 v9:Value} {T:TypeId} (h:w.heap[b]?=some (.cells #[v0,v1,v2,v3,v4,v5,v6,v7,v8,v9] T (0,0))):w.cell? ⟨b,0,none⟩=some v0/\w.cell? ⟨b,1,none⟩=some v1/\w.cell? ⟨b,2,none⟩=some v2/\w.cell? ⟨b,3,none⟩=some v3/\w.cell? ⟨b,4,none⟩=some v4/\w.cell? ⟨b,5,none⟩=some v5/\w.cell? ⟨b,6,none⟩=some v6/\w.cell? ⟨b,7,none⟩=some v7/\w.cell? ⟨b,8,none⟩=some v8/\w.cell? ⟨b,9,none⟩=some v9:=by
 refine⟨?_,?_,?_,?_,?_,?_,?_,?_,?_,?_⟩<;>rw[cH h]<;>rfl
abbrev rV (p:Int) (sv:Value) (s:Int) (l:Nat):Obj:=.cells #[.int .i64 p,sv,.int .i64 s,.int .i64 l,.bool false,.int .i64 0,.string ⟨#[]⟩,.bool false,.string ⟨#[]⟩,.bool false] 193 (0,0)
structure Sd (w W:World) (i1:Nat) (pl:Int) (sv:Value) (st:Int) (lk:Nat) (o:Nat) (tt:ByteArray) (n:Nat):Prop where
 b:Below w.heap.size w W
 r:W.heap[w.heap.size+1]?=some (rV pl sv st lk)
 z:W.heap[w.heap.size+1+1]?=some zR
 i:W.heap[i1]?=some (.cells #[.int .i64 o,.string tt,.int .i64 n] 106 (0,0))
theorem Sd.bl {w W W':World} {i1:Nat} {pl:Int} {sv:Value} {st:Int} {lk o:Nat} {tt:ByteArray} {n:Nat} (h:Sd w W i1 pl sv st lk o tt n) (hb:Below W.heap.size W W'):Sd w W' i1 pl sv st lk o tt n:=⟨bN h.b hb,Nt hb h.r,Nt hb h.z,Nt hb h.i⟩
theorem Sd.at {w W:World} {i1:Nat} {pl:Int} {sv:Value} {st:Int} {lk o:Nat} {tt:ByteArray} {n:Nat} (h:Sd w W i1 pl sv st lk o tt n) (hne:i1≠w.heap.size+1) (p:Int):Sd w (W.setCell ⟨w.heap.size+1,0,none⟩ (.int .i64 p)) i1 p sv st lk o tt n:=
 ⟨h.b.setCell (p:=⟨w.heap.size+1,0,none⟩) (Nat.le_succ _) _,by rw[jB h.r];rfl,by rw[hC W ⟨w.heap.size+1,0,none⟩ _ _ (by simp)];exact h.z,by rw[hC W ⟨w.heap.size+1,0,none⟩ _ _ hne];exact h.i⟩
theorem Sd.grown {w W W':World} {i1:Nat} {pl:Int} {sv:Value} {st:Int} {lk o:Nat} {tt:ByteArray} {n:Nat} {x:Obj} {B m:Nat} {v:Value} {xs:List Value} (h:Sd w W i1 pl sv st lk o tt n) (ho:(W.alloc x).ownsRow B 9 1 v m xs) (hB:w.heap.size<=B) (hg:(W.alloc x).grownBy W' v.ownBlock):Sd w W' i1 pl sv st lk o tt n:=by
 have HM:∀(b':Nat) (cs':Array Value) (T':Nat),T'≠9->W.heap[b']?=some (.cells cs' T' (0,0))->some b'≠v.ownBlock:=fun b' cs' T' hT' hb'=>Hh hT' (by rw[Lib.alloc_old _ _ _ (Af hb')];exact hb') ho
 have hs:=h.b.size
 exact⟨(h.b.alloc hs _).grown hg (by simp;omega) (fun k hk=>Nat.le_trans hB (ho.lt k hk).1),Fl hg HM _ _ 193 (by decide) h.r,Fl hg HM _ _ 193 (by decide) h.z,Fl hg HM _ _ 106 (by decide) h.i⟩
theorem Sd.c {w W:World} {i1:Nat} {pl:Int} {sv:Value} {st:Int} {lk o:Nat} {tt:ByteArray} {n:Nat} (h:Sd w W i1 pl sv st lk o tt n):W.cell? ⟨i1,0,none⟩=some (.int .i64 o)/\W.cell? ⟨i1,1,none⟩=some (.string tt)/\W.cell? ⟨i1,2,none⟩=some (.int .i64 n):=by
 refine⟨?_,?_,?_⟩<;>rw[cH h.i]<;>rfl
theorem out_tk {o:Nat} (ho1:1<=o) (ho:o<=11) (tt:ByteArray) (n:Nat) (x y:ByteArray):Cl o tt n (if 0<An o then x else ⟨#[]⟩) (if 1<An o then y else ⟨#[]⟩)=Cl o tt n x y:=by
 rcases (show o=1\/o=2\/o=3\/o=4\/o=5\/o=6\/o=7\/o=8\/o=9\/o=10\/o=11 from by omega) with rfl|rfl|rfl|rfl|rfl|rfl|rfl|rfl|rfl|rfl|rfl<;>rfl
theorem next_tk {o:Nat} (ho1:1<=o) (ho:o<=11) (n p:Nat) (x:ByteArray):Eu o n p (if 0<An o then x else ⟨#[]⟩)=Eu o n p x:=by
 rcases (show o=1\/o=2\/o=3\/o=4\/o=5\/o=6\/o=7\/o=8\/o=9\/o=10\/o=11 from by omega) with rfl|rfl|rfl|rfl|rfl|rfl|rfl|rfl|rfl|rfl|rfl<;>rfl
theorem puts_pos {o:Nat} (ho:o<=11) (h:0<Jv o):o<=8:=by
 rcases (show o<=8\/o=9\/o=10\/o=11 from by omega) with h|rfl|rfl|rfl
 ·exact h
 all_goals exact absurd h (by decide)
theorem stB {is:List I3} {s:St} {a:Option Addr} {cap:Nat} {sv:Value} {w w1:World} {o n:Nat} {tt:ByteArray} (hb1:Below (((w.alloc (.cells #[.slice a is.length cap] 37)).alloc (rV s.pl sv s.steps s.looks)).alloc zR).heap.size (((w.alloc (.cells #[.slice a is.length cap] 37)).alloc (rV s.pl sv s.steps s.looks)).alloc zR) w1) (hcode:Dr w a is) (hpl:s.pl<is.length) (EI:Hd (ix is s.pl=⟨o,tt,n⟩)) :
  ∃(W1:World) (b off:Nat),w1.setCell ⟨w.heap.size+1,2,none⟩ (.int .i64 ((s.steps:Int)+1))=W1/\a=some ⟨b,off,none⟩/\w1.heap[w.heap.size+1]?=some (rV s.pl sv s.steps s.looks)/\w1.cell? ⟨w.heap.size,0,none⟩=some (.slice a is.length cap)/\W1.heap.size=w1.heap.size/\W1.cell? ⟨b,off+s.pl*3,none⟩=some (.int .i64 o)/\W1.cell? ⟨b,off+s.pl*3+1,none⟩=some (.string tt)/\W1.cell? ⟨b,off+s.pl*3+2,none⟩=some (.int .i64 n)/\W1.cell? ⟨w.heap.size,0,none⟩=some (.slice a is.length cap)/\W1.heap[w.heap.size+1]?=some (rV s.pl sv ((s.steps:Int)+1) s.looks)/\Below w.heap.size w W1/\Sd w (W1.alloc (.cells #[.int .i64 o,.string tt,.int .i64 n] 106)) w1.heap.size s.pl sv ((s.steps:Int)+1) s.looks o tt n:=by
 obtain⟨hb0,hz,hr,hc⟩:=op3 w a is.length cap s.pl sv s.steps s.looks
 have hB1:Below w.heap.size w w1:=bN hb0 hb1
 have hz1:=Nt hb1 hz
 have hr1:=Nt hb1 hr
 have hc1:=Nt hb1 hc
 obtain⟨W1,eW1⟩:∃ W1,w1.setCell ⟨w.heap.size+1,2,none⟩ (.int .i64 ((s.steps:Int)+1))=W1:=⟨_,rfl⟩
 have hBW:Below w.heap.size w W1:=by rw[<- eW1];exact hB1.setCell (p:=⟨w.heap.size+1,2,none⟩) (Nat.le_succ _) _
 have hzW:W1.heap[w.heap.size+1+1]?=some zR:=by rw[<- eW1,hC w1 ⟨w.heap.size+1,2,none⟩ _ _ (by simp)];exact hz1
 have hrW:W1.heap[w.heap.size+1]?=some (rV s.pl sv ((s.steps:Int)+1) s.looks):=by rw[<- eW1,jB hr1];rfl
 have hcW:W1.heap[w.heap.size]?=some (.cells #[.slice a is.length cap] 37 (0,0)):=by rw[<- eW1,hC w1 ⟨w.heap.size+1,2,none⟩ _ _ (by simp)];exact hc1
 have hl1:W1.heap.size=w1.heap.size:=by rw[<- eW1];simp[go_sem]
 obtain⟨b,off,rfl,e1,e2,e3⟩:=(hcode.bl hBW) s.pl hpl
 rw[EI.o] at e1 e2 e3
 exact⟨W1,b,off,eW1,rfl,hr1,by rw[cH hc1];rfl,hl1,e1,e2,e3,by rw[cH hcW];rfl,hrW,hBW,hBW.alloc hBW.size _,by rw[Lib.alloc_old _ _ _ (Af hrW)];exact hrW,by rw[Lib.alloc_old _ _ _ (Af hzW)];exact hzW,by rw[<- hl1];exact Aj _ _⟩
theorem Qb {B:Nat} {w:World} {a:Option Addr} {cp:Nat} {ss:List ByteArray} (h:Pn B w a cp ss):(a=none/\cp=0/\ss=[])\/∃ g,a=some ⟨g,0,none⟩/\ss.length<=cp:=by
 rcases h.2 with ⟨hv,h0⟩|⟨g,cap,cur,hv,_,_,hc,_⟩
 ·simp only[Value.slice.injEq] at hv;exact Or.inl ⟨hv.1,hv.2.2,List.length_eq_zero_iff.mp h0⟩
 ·simp only[Value.slice.injEq] at hv;exact Or.inr ⟨g,hv.1,by omega⟩
theorem own_at {B:Nat} {w:World} {g cp:Nat} {ss:List ByteArray} (h:Pn B w (some ⟨g,0,none⟩) cp ss) (i:Nat) (hi:i<ss.length):w.cell? ⟨g,i,none⟩=some (.string (ss.getD i ByteArray.empty)):=by
 rw[World.ownsRow.cellAt h i (by omega)]
 unfold Bf
 rw[List.getElem?_map,gQ hi,gG,gQ hi]
 rfl
theorem Pn.belowN {B:Nat} {w w':World} {a:Option Addr} {cp:Nat} {ss:List ByteArray} (h:Pn B w a cp ss) (hb:Below w.heap.size w w'):Pn B w' a cp ss:=Ac h hb
theorem step_in (a:Option Addr) (cap:Nat) (is:List I3) (s:St) (sa:Option Addr) (cp:Nat) (ra:Option Addr) (rcap:Nat) (ys:List R3) (w:World) (B0:Nat) (hv:Ah is=true) (hs:Ec is s) (hcode:Dr w a is) (hpl:s.pl<is.length) (hst2:s.steps≠2000) (hsk:Pn B0 w sa cp s.stack) (o:Nat) (tt:ByteArray) (n:Nat) (ei:ix is s.pl=⟨o,tt,n⟩) (ho1:1<=o) (ho:o<=15) (hn:n<=2000) (hyl:ys.length<=200) (hr0:Nx w ra ys) :
  Calls Tryz.prog 128 #[.agg #[.slice a is.length cap],Ds s.pl (.slice sa s.stack.length cp) s.steps s.looks,.slice ra ys.length rcap] w fun e w'=>Below w.heap.size w w'/\Ce w.heap.size is ys s w' e:=by
 have EI:Hd (ix is s.pl=⟨o,tt,n⟩):=ei
 clear ei
 have hplI:(s.pl:Int)<(is.length:Int):=by omega
 have hst3:((s.steps:Int) == 2000)=false:=by simp;omega
 have hlen:=Ed hv
 have hp200:=hs.pl
 have hst:=hs.steps
 have hlk:=hs.looks
 have hln:=hs.len
 obtain⟨q,eq⟩:∃ q,Dx s.pl=q:=⟨_,rfl⟩
 have EQ:Hd (Dx s.pl=q):=eq
 have HD:Hd _:=dcH eq (by omega)
 clear eq
 obtain⟨htk2,hpt2⟩:=tp_le o ho
 have HT0:Hd _:=tkH ho1 ho
 have hOe:=fun h=>out_tk ho1 (h:o<=11) tt n (Bq s.stack) (Ij s.stack)
 have hNe:=fun h=>next_tk ho1 (h:o<=11) n s.pl (Bq s.stack)
 have hPp:o<=11->0<Jv o->o<=8:=puts_pos
 have hPl:=fun (h:o<=11) a b=>Yd o ho1 h tt n a b
 have hTm:∀ {l:List ByteArray},l.length<=50->¬ l.length<An o->50<l.length-An o+Jv o->o<=11:=Rm ho1 ho
 have h1t:12<=o->An o=1:=fun h=>by rcases (show o=12\/o=13\/o=14\/o=15 by omega) with rfl|rfl|rfl|rfl<;>rfl
 have hBad:=fun (hf:¬ s.stack.length<An o) (hm:50<s.stack.length-An o+Jv o)=>(Fj hpl hst2 EI.o).trans (Hp hf (Rm ho1 ho hs.len hf hm) (Or.inl (by rw[Yd o ho1 (Rm ho1 ho hs.len hf hm)];unfold Be;rw[List.length_take];omega)))
 have hFew:=fun (hf:s.stack.length<An o)=>(Fj hpl hst2 EI.o).trans (Mq hf)
 obtain⟨tk,etk⟩:∃ tk,An o=tk:=⟨_,rfl⟩
 obtain⟨pt,ept⟩:∃ pt,Jv o=pt:=⟨_,rfl⟩
 rw[etk] at htk2 HT0 hOe hNe h1t hBad hFew
 rw[ept] at hpt2 HT0 hPp hBad
 have HBD:Hd (s.stack.length<tk\/(¬ s.stack.length<tk/\50<s.stack.length-tk+pt)->Bk is s=.over 2 q (s.steps+1)):=fun h=>by rw[<- EQ.o];exact h.elim hFew (fun h=>hBad h.1 h.2)
 have ET:Hd (An o=tk):=etk
 have H1T:Hd (12<=o->tk=1):=h1t
 clear hBad hFew hTm etk h1t
 unfold Ds
 go_enter Tryz.func128,Tryz.ntmps128
 go_wp2_with fail
 refine(HD.o _).mono ?_
 rintro e w1 ⟨rfl,hb1⟩
 obtain⟨W1,b,off,eW1,rfl,hr1,x0,hl1,e1,e2,e3,xW,hrW,hBW,HS⟩:=stB hb1 hcode hpl EI
 clear hb1 HD
 obtain⟨W2,eW2⟩:∃ W2,W1.alloc (.cells #[.int .i64 o,.string tt,.int .i64 n] 106)=W2:=⟨_,rfl⟩
 rw[eW2] at HS
 obtain⟨r0,r1,r2,r3,r4,r5,r6,r7,r8,r9⟩:=Zz hr1
 obtain⟨y0,y1,y2,y3,y4,y5,y6,y7,y8,y9⟩:=Zz hrW
 have fr:∀ j,w1.frozen? ⟨w.heap.size+1,j,none⟩=false:=fun j=>fH hr1 j
 obtain⟨b0,b1,b2,b3,b4,b5,b6,b7,b8,b9⟩:=Zz HS.r
 obtain⟨i0,i1,i2⟩:=HS.c
 have hb2:Below w.heap.size w W2:=HS.b
 have HSK:Hd (Pn B0 W2 sa cp s.stack):=hsk.belowN hb2
 have HS2:Hd _:=HS
 have hR2:w.heap.size<=w.heap.size+1+1:=by omega
 clear HS hrW hr1 hsk
 go_upto_region 9 with (first|(go_at_call 143;refine(HT0.o _).mono ?_;rintro e w9 ⟨rfl,rfl⟩))
 by_cases hbad:s.stack.length<tk\/(¬ s.stack.length<tk/\50<s.stack.length-tk+pt)
 ·have HST:=hid (HBD.o hbad)
  rcases hbad with h|⟨h,h'⟩
  case inl=>
   have hfI:(s.stack.length:Int)<(tk:Int):=by omega
   clear h;go_wp2_with fail;have hl:=Ew (s.pl:Int) sa s.stack.length cp ((s.steps:Int)+1) s.looks 2 q;unfold Ds at hl;refine(hl _).mono ?_;rintro e w4 ⟨rfl,hb4⟩;have HS4:=hid (HS2.o.bl hb4);obtain⟨z0,z1,z2,z3,z4,z5,z6,z7,z8,z9⟩:=Zz HS4.o.z;have fz:∀ j,w4.frozen? ⟨w.heap.size+1+1,j,none⟩=false:=fun j=>fH HS4.o.z j;clear hl hb4;unfold Ct;go_wp2_with fail;exact bR (v:=Ct (s.pl:Int) (.slice sa s.stack.length cp) ((s.steps:Int)+1) s.looks 2 q) (by simp[results,Tryz.results128,go_sem,Ct,z0,z1,z2,z3,z4,z5,z6,z7,z8,z9]) rfl ⟨b10 HS4.o.b hR2,Or.inl ⟨2,q,s.steps+1,HST.o,_,_,_,_,_,rfl⟩⟩
  case inr=>
   have hfI:(tk:Int)<=(s.stack.length:Int):=by omega
   have hmI:50<(s.stack.length:Int)-(tk:Int)+(pt:Int):=by omega
   clear h h';go_wp2_with fail;have hl:=Ew (s.pl:Int) sa s.stack.length cp ((s.steps:Int)+1) s.looks 2 q;unfold Ds at hl;refine(hl _).mono ?_;rintro e w4 ⟨rfl,hb4⟩;have HS4:=hid (HS2.o.bl hb4);obtain⟨z0,z1,z2,z3,z4,z5,z6,z7,z8,z9⟩:=Zz HS4.o.z;have fz:∀ j,w4.frozen? ⟨w.heap.size+1+1,j,none⟩=false:=fun j=>fH HS4.o.z j;clear hl hb4;unfold Ct;go_wp2_with fail;exact bR (v:=Ct (s.pl:Int) (.slice sa s.stack.length cp) ((s.steps:Int)+1) s.looks 2 q) (by simp[results,Tryz.results128,go_sem,Ct,z0,z1,z2,z3,z4,z5,z6,z7,z8,z9]) rfl ⟨b10 HS4.o.b hR2,Or.inl ⟨2,q,s.steps+1,HST.o,_,_,_,_,_,rfl⟩⟩
 obtain⟨m,em⟩:∃ m,s.stack.length=m+tk:=⟨s.stack.length-tk,by omega⟩
 have hmany:m+pt<=50:=by omega
 obtain⟨A,eA⟩:∃ A,(if 0<tk then Bq s.stack else ⟨#[]⟩)=A:=⟨_,rfl⟩
 obtain⟨Bv,eBv⟩:∃ A,(if 1<tk then Ij s.stack else ⟨#[]⟩)=A:=⟨_,rfl⟩
 have hA:A.size<=2000:=by
  rw[<- eA];split
  ·exact top_le hs (by omega)
  ·decide
 have hBv:Bv.size<=2000:=by
  rw[<- eBv];split
  ·exact sub_le hs (by omega)
  ·decide
 rw[eA,eBv] at hOe
 rw[eA] at hNe
 have HP:Hd (o<=11->0<pt->∀ W:World,Calls Tryz.prog 145 #[.agg #[.int .i64 (o:Int),.string tt,.int .i64 n],.string A,.string Bv] W fun e w'=>Below W.heap.size W w'/\Lo w' e (Cl o tt n A Bv)):=fun h h' W=>plain_any tt n A Bv W o hA hBv hn ho1 (hPp h h')
 have hOl:=fun h=>hPl h A Bv
 obtain⟨outs,eO⟩:∃ l,Cl o tt n A Bv=l:=⟨_,rfl⟩
 obtain⟨np,eN⟩:∃ l,Eu o n s.pl A=l:=⟨_,rfl⟩
 rw[ept,eO] at hOl
 rw[eO] at hOe HP
 rw[eN] at hNe
 have OL:Hd (o<=11->outs.length=pt):=hOl
 have NE:Hd (Eu o n s.pl A=np):=eN
 have NT:Hd _:=hNe
 have hfI:(tk:Int)<=(s.stack.length:Int):=by omega
 have hmI:(s.stack.length:Int)-(tk:Int)+(pt:Int)<=50:=by omega
 have EM:Hd (s.stack.length=m+tk):=em
 have EA:Hd _:=eA
 have EBv:Hd _:=eBv
 have OE:Hd _:=hOe
 clear hPl hPp eO hOl eN hNe em eA eBv hOe ept hbad HBD
 go_upto_if 68 with fail
 go_cut [11] (fun x wx=>x=.string A/\wx=W2)
 case first=>
  by_cases h0I:(0:Int)<(tk:Int)
  ·rcases Qb HSK.o with ⟨_,_,h⟩|⟨d,rfl,hcp⟩
   ·have:=EM.o;rw[h] at this;simp at this;omega
   ·obtain⟨l,el⟩:∃ l,s.stack.length=l+1:=⟨s.stack.length-1,by omega⟩;have hk:=own_at HSK.o l (by omega);(have eT:Hd (s.stack.getD l ByteArray.empty=A):=by show _=_;rw[<- EA.o,if_pos (by omega)];unfold Bq;rw[el,Nat.add_sub_cancel]);rw[eT.out] at hk;rw[el] at b1;(have hlI:(l:Int)+1<=50:=by omega);clear el;go_wp2_with fail;go_meet
    case rel=>exact⟨rfl,rfl⟩
  ·have hA0:(⟨#[]⟩:ByteArray)=A:=by rw[<- EA.o,if_neg (by omega)]
   have HA0:Hd _:=hA0;clear hA0;go_wp2_with fail;go_meet
   case rel=>exact⟨congrArg Value.string HA0.o,rfl⟩
 case rest=>
 obtain⟨rfl,rfl⟩:=hcut
 go_upto_if 78 with fail
 go_cut [12] (fun x wx=>x=.string Bv/\wx=wc)
 case first=>
  by_cases h0I:(1:Int)<(tk:Int)
  ·rcases Qb HSK.o with ⟨_,_,h⟩|⟨d,rfl,hcp⟩
   ·have:=EM.o;rw[h] at this;simp at this;omega
   ·obtain⟨l,el⟩:∃ l,s.stack.length=l+1+1:=⟨s.stack.length-2,by omega⟩;have hk:=own_at HSK.o l (by omega);(have eT:Hd (s.stack.getD l ByteArray.empty=Bv):=by show _=_;rw[<- EBv.o,if_pos (by omega)];unfold Ij;rw[el];rfl);rw[eT.out] at hk;rw[el] at b1;(have hlI:(l:Int)+1<=50:=by omega);clear el;go_wp2_with fail;go_meet
    case rel=>exact⟨rfl,rfl⟩
  ·have hA0:(⟨#[]⟩:ByteArray)=Bv:=by rw[<- EBv.o,if_neg (by omega)]
   have HA0:Hd _:=hA0;clear hA0;go_wp2_with fail;go_meet
   case rel=>exact⟨congrArg Value.string HA0.o,rfl⟩
 case rest=>
 obtain⟨rfl,rfl⟩:=hcut
 go_upto_region 17 with fail
 obtain⟨wk,rfl⟩:∃ wk,wk=wc:=⟨_,rfl⟩
 obtain⟨k0,hi,hz0,hzz1,hzz2⟩:=info_parts Tryz.info9b
 have hw1:w.heap.size<=wk.heap.size:=hb2.size
 have hz1s:w.heap.size+1+1<wk.heap.size:=Af HS2.o.z
 rw[EM.o] at b1
 have hmtI:(m:Int)+(tk:Int)<=50:=by have:=EM.o;omega
 have hown0:(wk.alloc (.cells #[] 9)).ownsRow wk.heap.size 9 1 (.slice (some ⟨wk.heap.size,0,none⟩) 0 0) 0 []:=World.ownsRow_lit (base:=wk.heap.size) (e:=9) (size:=1) wk #[] 0 (Nat.le_refl _) (by unfold maxLen;omega) (by simp)
 go_cut [13] (fun x wx=>∃ g c:Nat,x=.slice (some ⟨g,0,none⟩) m c/\Hd (Sd w wx w1.heap.size s.pl (.slice sa s.stack.length cp) ((s.steps:Int)+1) s.looks o tt n)/\Hd (wx.ownsRow wk.heap.size 9 1 (.slice (some ⟨g,0,none⟩) m c) m (Bf (s.stack.take m))))
 case first=>
  rcases Qb HSK.o with ⟨rfl,rfl,h⟩|⟨d,rfl,hcp⟩
  ·have e0:s.stack.length=0:=by rw[h];rfl
   have hm0:m=0:=by have:=EM.o;omega
   have ht0:tk=0:=by have:=EM.o;omega
   subst hm0;subst ht0;have HW:Hd ((wk.alloc (.cells #[] 9)).ownsRow wk.heap.size 9 1 (.slice (some ⟨wk.heap.size,0,none⟩) 0 0) 0 (Bf (s.stack.take 0))):=hown0;have HSd:=hid (HS2.o.bl ((Below.refl wk.heap.size wk).alloc (Nat.le_refl _) (.cells #[] 9)));have c1:∀ x,(wk.alloc x).cell? ⟨w.heap.size+1,1,none⟩=some (.slice none 0 0):=fun x=>alK wk _ _ x b1;clear b1 h e0
   go_wp2_with (at_builtin;refine wpList_append_own_none rfl (.tmp 87) (.tmp 95) 30 rfl wk.heap.size 9 k0 1 Tryz.underlying30 hi _ 0 [] rfl hown0 rfl ?_)
   go_meet
   case rel=>exact⟨_,_,rfl,HSd,HW⟩
  ·have c1:=fun x=>alK wk _ _ x b1;have hcp2:m+tk<=cp:=by rw[<- EM.o];exact hcp
   have hnews:∀ j u,((s.stack.take m).map Value.string)[j]?=some u->(wk.alloc (.cells #[] 9)).cell? ((⟨d,0,none⟩:Addr).add j)=some u:=fun j u hu=>by
    rw[List.getElem?_map] at hu;have hlm:=EM.o
    have hj:j<m:=by
     rcases Nat.lt_or_ge j m with h|h
     ·exact h
     ·rw[List.getElem?_eq_none (by simp;omega)] at hu;simp at hu
    have hk3:=own_at HSK.o j (by omega);rw[Addr.add_lit,Nat.zero_add,World.cell?_alloc_lt _ _ _ (World.block_lt_of_cell? _ _ hk3),hk3,<- hu,List.getElem?_take,if_pos hj,gG,gQ (show j<s.stack.length by omega)];rfl
   have hlen2:((s.stack.take m).map Value.string).length=m*1:=by have:=EM.o;simp;omega
   have HN:Hd _:=hnews;have HLN:Hd _:=hlen2;clear hnews hlen2 hcp
   go_wp2_with (at_builtin;refine wpList_append_own _ rfl (.tmp 87) (.tmp 95) 30 rfl wk.heap.size 9 k0 (.string ⟨#[]⟩) 1 16 Tryz.underlying30 hi hz0 hzz1 hzz2 rfl (by decide) _ 0 [] rfl hown0 ⟨d,0,none⟩ m cp ((s.stack.take m).map .string) rfl HLN.o HN.o (by intro u hu;obtain⟨z,_,rfl⟩:=List.mem_map.mp hu;rfl) (by unfold maxLen;omega) (by omega) (by simp) ?_;intro v' w2 hown' hgrow hnil;obtain⟨g,cpn,rfl,hown2⟩:=own_out hown' hnil;have HSd:=hid (HS2.o.grown hown0 hw1 hgrow);have HW:=hid hown2;clear hown' hgrow hnil hown2)
   go_meet
   case rel=>exact⟨_,_,rfl,HSd,HW⟩
 case rest=>
 obtain⟨g,c,rfl,HSd,HW⟩:=hcut
 clear b0 b1 b2 b3 b4 b5 b6 b7 b8 b9 i0 i1 i2 e1 e2 e3 r0 r1 r2 r3 r4 r5 r6 r7 r8 r9 y0 y1 y2 y3 y4 y5 y6 y7 y8 y9 x0 xW fr eW1 hcode eW2 hl1 hBW hown0 HS2 HSK
 have hne:w1.heap.size≠w.heap.size+1:=fun h=>by have h1:=HSd.o.i;rw[h,HSd.o.r] at h1;cases h1
 have HS5:=hid (HSd.o.at hne ((s.pl:Int)+1))
 have HW5:=hid (Eg ⟨HW.o,_,HSd.o.r⟩ 0 (.int .i64 ((s.pl:Int)+1))).1
 obtain⟨b0,b1,b2,b3,b4,b5,b6,b7,b8,b9⟩:=Zz HSd.o.r
 have fr:∀ j,wc.frozen? ⟨w.heap.size+1,j,none⟩=false:=fun j=>fH HSd.o.r j
 obtain⟨W5,eW5⟩:∃ W5,wc.setCell ⟨w.heap.size+1,0,none⟩ (.int .i64 ((s.pl:Int)+1))=W5:=⟨_,rfl⟩
 rw[eW5] at HS5 HW5
 obtain⟨i0,i1,i2⟩:=HS5.o.c
 have f5:∀ j,W5.frozen? ⟨w.heap.size+1,j,none⟩=false:=fun j=>fH HS5.o.r j
 obtain⟨v0,v1,v2,v3,v4,v5,v6,v7,v8,v9⟩:=Zz HS5.o.r
 go_upto_block 0 with fail
 go_cut [13] (fun x wx=>x=.slice (some ⟨g,0,none⟩) m c/\o<=11/\Hd (Sd w wx w1.heap.size (np:Int) (.slice sa s.stack.length cp) ((s.steps:Int)+1) s.looks o tt n)/\Hd (wx.ownsRow wk.heap.size 9 1 (.slice (some ⟨g,0,none⟩) m c) m (Bf (s.stack.take m))))
 case first=>
  have HS6:=hid (HS5.o.at hne (n:Int));have HW6:=hid (Eg ⟨HW5.o,_,HS5.o.r⟩ 0 (.int .i64 (n:Int))).1;have ht:∀ k:Nat,o≠k->((o:Int) == (k:Int))=false:=fun k h=>by simp;omega
  rcases (show o<=9\/o=10\/o=11\/o=12\/o=13\/o=14\/o=15 by omega) with h|h|h|h|h|h|h
  ·have ho11:o<=11:=by omega
   have ht5:=ht 15 (by omega);have ht4:=ht 14 (by omega);have ht3:=ht 13 (by omega);have ht2:=ht 12 (by omega);have ht1:((o:Int) == 11)=false:=by simp;omega
   have ht0:((o:Int) == 10)=false:=by simp;omega
   have e:np=s.pl+1:=by rw[<- NE.o];unfold Eu;rw[if_neg (by omega),if_neg (by omega)]
   have E:Hd _:=e;clear e;go_wp2_with fail;go_meet
   case rel=>exact⟨rfl,ho11,by rw[E.o];exact HS5,HW5⟩
  ·have ho11:o<=11:=by omega
   have ht5:=ht 15 (by omega);have ht4:=ht 14 (by omega);have ht3:=ht 13 (by omega);have ht2:=ht 12 (by omega);have ht0:((o:Int) == 10)=true:=by simp;omega
   have e:np=n:=by rw[<- NE.o];unfold Eu;rw[if_pos h]
   have E:Hd _:=e;clear e h;go_wp2_with fail;go_meet
   case rel=>exact⟨rfl,ho11,by rw[E.o];exact HS6,HW6⟩
  ·have ho11:o<=11:=by omega
   have ht5:=ht 15 (by omega);have ht4:=ht 14 (by omega);have ht3:=ht 13 (by omega);have ht2:=ht 12 (by omega);have ht1:((o:Int) == 11)=true:=by simp;omega
   have ht0:((o:Int) == 10)=false:=by simp;omega
   cases hx1:A.toList.isEmpty with
   | true=>
    (have e:np=n:=by rw[<- NE.o];unfold Eu;rw[if_neg (by omega),if_pos ⟨h,by simp[Lc,hx1]⟩]);have E:Hd _:=e;clear e h;go_wp2_with fail;go_meet
    case rel=>exact⟨rfl,ho11,by rw[E.o];exact HS6,HW6⟩
   | false=>
    cases hx2:A.toList == [48] with
    | true=>
     (have e:np=n:=by rw[<- NE.o];unfold Eu;rw[if_neg (by omega),if_pos ⟨h,by simp[Lc,hx1,hx2]⟩]);have E:Hd _:=e;clear e h;go_wp2_with fail;go_meet
     case rel=>exact⟨rfl,ho11,by rw[E.o];exact HS6,HW6⟩
    | false=>
     (have e:np=s.pl+1:=by rw[<- NE.o];unfold Eu;rw[if_neg (by omega),if_neg (by simp[Lc,hx1,hx2])]);have E:Hd _:=e;clear e h;go_wp2_with fail;go_meet
     case rel=>exact⟨rfl,ho11,by rw[E.o];exact HS5,HW5⟩
  ·have ht5:=ht 15 (by omega);have ht4:=ht 14 (by omega);have ht2:((o:Int) == 12)=true:=by simp;omega
   have e1:=H1T.o (by omega);have hmt:(s.stack.take m).length=m:=by have:=EM.o;rw[List.length_take];omega
   obtain⟨W7,eW7⟩:∃ W7,W5.setCell ⟨w.heap.size+1,1,none⟩ (.slice (some ⟨g,0,none⟩) m c)=W7:=⟨_,rfl⟩;have hrW7:W7.heap[w.heap.size+1]?=some (rV ((s.pl:Int)+1) (.slice (some ⟨g,0,none⟩) m c) ((s.steps:Int)+1) s.looks):=by rw[<- eW7,jB HS5.o.r];rfl
   have hB7:Below w.heap.size w W7:=by rw[<- eW7];exact HS5.o.b.setCell (p:=⟨w.heap.size+1,1,none⟩) (Nat.le_succ _) _
   have hz7:W7.heap[w.heap.size+1+1]?=some zR:=by rw[<- eW7,hC _ ⟨w.heap.size+1,1,none⟩ _ _ (by simp)];exact HS5.o.z
   have hi7:W7.heap[w1.heap.size]?=some (.cells #[.int .i64 o,.string tt,.int .i64 n] 106 (0,0)):=by rw[<- eW7,hC _ ⟨w.heap.size+1,1,none⟩ _ _ hne];exact HS5.o.i
   have HS7:Hd (Sd w W7 w1.heap.size ((s.pl:Int)+1) (.slice (some ⟨g,0,none⟩) m c) ((s.steps:Int)+1) s.looks o tt n):=⟨hB7,hrW7,hz7,hi7⟩;have ho7:=(Eg ⟨HW5.o,_,HS5.o.r⟩ 1 (.slice (some ⟨g,0,none⟩) m c)).1;rw[eW7] at ho7;have hown7:Pn wk.heap.size W7 (some ⟨g,0,none⟩) c (s.stack.take m):=by unfold Pn;rw[hmt];exact ho7
   have hsz7:wk.heap.size<=W7.heap.size:=by have:=(ho7.lt g rfl);omega
   have hl:=Yp wk.heap.size tt n is s (some ⟨g,0,none⟩) c (s.stack.take m) A q ra rcap ys W7 hsz7 hs hpl (by omega) hst2 (by rw[EI.o,h];rfl) (by have:=EM.o;omega) (by unfold Be;rw[EM.o,e1,Nat.add_sub_cancel]) (by rw[<- EA.o,if_pos (by omega)]) EQ.o.symm hyl (hr0.bl hB7) hown7 (by have:=EM.o;omega);unfold Ds at hl;rw[hmt,show ((12:Int))=(o:Int) from by rw[h];rfl] at hl;have HL:=hid hl;obtain⟨c0,c1,c2,c3,c4,c5,c6,c7,c8,c9⟩:=Zz hrW7;obtain⟨k1,k2,k3⟩:=HS7.o.c;clear hl hown7 ho7 hrW7 hz7 hi7 h e1;go_wp2_with fail;refine HL.o.mono ?_;rintro e w4 ⟨hb4,x0,ax,nx,cx,x2,x3,x4,x5,x6,x7,x8,x9,rfl,hpost⟩;have hB2:Below w.heap.size w w4:=hB7.trans (hb4.mono hw1);have hz2:w4.heap[w.heap.size+1+1]?=some zR:=by rw[hb4.block _ hz1s];exact HS7.o.z
   have HPO:=hid hpost;have HZ2:=hid hz2;have HB2:=hid hB2;obtain⟨z0,z1,z2,z3,z4,z5,z6,z7,z8,z9⟩:=Zz hz2;have fz:∀ j,w4.frozen? ⟨w.heap.size+1+1,j,none⟩=false:=fun j=>fH HZ2.o j;clear hz2 hb4 HL hpost hsz7 hB2 hB7 HS7;unfold r10;go_wp2_with fail;exact bR (v:=r10 x0 ax nx cx x2 x3 x4 x5 x6 x7 x8 x9) (by simp[results,Tryz.results128,go_sem,r10,z0,z1,z2,z3,z4,z5,z6,z7,z8,z9]) rfl ⟨b10 HB2.o hR2,(Np HPO.o ⟨_,HZ2.o⟩ _ _ _ _ _ _ _ _ _ _).mono hw1⟩
  ·have ht5:=ht 15 (by omega);have ht4:=ht 14 (by omega);have ht2:=ht 12 (by omega);have ht3:((o:Int) == 13)=true:=by simp;omega
   have e1:=H1T.o (by omega);have hmt:(s.stack.take m).length=m:=by have:=EM.o;rw[List.length_take];omega
   obtain⟨W7,eW7⟩:∃ W7,W5.setCell ⟨w.heap.size+1,1,none⟩ (.slice (some ⟨g,0,none⟩) m c)=W7:=⟨_,rfl⟩;have hrW7:W7.heap[w.heap.size+1]?=some (rV ((s.pl:Int)+1) (.slice (some ⟨g,0,none⟩) m c) ((s.steps:Int)+1) s.looks):=by rw[<- eW7,jB HS5.o.r];rfl
   have hB7:Below w.heap.size w W7:=by rw[<- eW7];exact HS5.o.b.setCell (p:=⟨w.heap.size+1,1,none⟩) (Nat.le_succ _) _
   have hz7:W7.heap[w.heap.size+1+1]?=some zR:=by rw[<- eW7,hC _ ⟨w.heap.size+1,1,none⟩ _ _ (by simp)];exact HS5.o.z
   have hi7:W7.heap[w1.heap.size]?=some (.cells #[.int .i64 o,.string tt,.int .i64 n] 106 (0,0)):=by rw[<- eW7,hC _ ⟨w.heap.size+1,1,none⟩ _ _ hne];exact HS5.o.i
   have HS7:Hd (Sd w W7 w1.heap.size ((s.pl:Int)+1) (.slice (some ⟨g,0,none⟩) m c) ((s.steps:Int)+1) s.looks o tt n):=⟨hB7,hrW7,hz7,hi7⟩;have ho7:=(Eg ⟨HW5.o,_,HS5.o.r⟩ 1 (.slice (some ⟨g,0,none⟩) m c)).1;rw[eW7] at ho7;have hown7:Pn wk.heap.size W7 (some ⟨g,0,none⟩) c (s.stack.take m):=by unfold Pn;rw[hmt];exact ho7
   have hsz7:wk.heap.size<=W7.heap.size:=by have:=(ho7.lt g rfl);omega
   have hl:=Yo wk.heap.size tt n is s (some ⟨g,0,none⟩) c (s.stack.take m) A q ra rcap ys W7 hsz7 hs hpl (by omega) hst2 (by rw[EI.o,h];rfl) (by have:=EM.o;omega) (by unfold Be;rw[EM.o,e1,Nat.add_sub_cancel]) (by rw[<- EA.o,if_pos (by omega)]) EQ.o.symm hyl (hr0.bl hB7) hown7 (by have:=EM.o;omega);unfold Ds at hl;rw[hmt,show ((13:Int))=(o:Int) from by rw[h];rfl] at hl;have HL:=hid hl;obtain⟨c0,c1,c2,c3,c4,c5,c6,c7,c8,c9⟩:=Zz hrW7;obtain⟨k1,k2,k3⟩:=HS7.o.c;clear hl hown7 ho7 hrW7 hz7 hi7 h e1;go_wp2_with fail;refine HL.o.mono ?_;rintro e w4 ⟨hb4,x0,ax,nx,cx,x2,x3,x4,x5,x6,x7,x8,x9,rfl,hpost⟩;have hB2:Below w.heap.size w w4:=hB7.trans (hb4.mono hw1);have hz2:w4.heap[w.heap.size+1+1]?=some zR:=by rw[hb4.block _ hz1s];exact HS7.o.z
   have HPO:=hid hpost;have HZ2:=hid hz2;have HB2:=hid hB2;obtain⟨z0,z1,z2,z3,z4,z5,z6,z7,z8,z9⟩:=Zz hz2;have fz:∀ j,w4.frozen? ⟨w.heap.size+1+1,j,none⟩=false:=fun j=>fH HZ2.o j;clear hz2 hb4 HL hpost hsz7 hB2 hB7 HS7;unfold r10;go_wp2_with fail;exact bR (v:=r10 x0 ax nx cx x2 x3 x4 x5 x6 x7 x8 x9) (by simp[results,Tryz.results128,go_sem,r10,z0,z1,z2,z3,z4,z5,z6,z7,z8,z9]) rfl ⟨b10 HB2.o hR2,(Np HPO.o ⟨_,HZ2.o⟩ _ _ _ _ _ _ _ _ _ _).mono hw1⟩
  ·have ht5:=ht 15 (by omega);have ht4:((o:Int) == 14)=true:=by simp;omega
   have e1:=H1T.o (by omega)
   have HST:Hd (Bk is s=.over 1 A (s.steps+1)):=by
    show _=_;rw[<- EA.o,if_pos (by omega)];exact(Fj hpl hst2 EI.o).trans (Ko (by rw[ET.o];have:=EM.o;omega) h)
   clear e1 h;go_wp2_with fail;have hl:=Ew ((s.pl:Int)+1) sa s.stack.length cp ((s.steps:Int)+1) s.looks 1 A;unfold Ds at hl;refine(hl _).mono ?_;rintro e w4 ⟨rfl,hb4⟩;have HS4:=hid (HS5.o.bl hb4);obtain⟨z0,z1,z2,z3,z4,z5,z6,z7,z8,z9⟩:=Zz HS4.o.z;have fz:∀ j,w4.frozen? ⟨w.heap.size+1+1,j,none⟩=false:=fun j=>fH HS4.o.z j;clear hl hb4;unfold Ct;go_wp2_with fail;exact bR (v:=Ct ((s.pl:Int)+1) (.slice sa s.stack.length cp) ((s.steps:Int)+1) s.looks 1 A) (by simp[results,Tryz.results128,go_sem,Ct,z0,z1,z2,z3,z4,z5,z6,z7,z8,z9]) rfl ⟨b10 HS4.o.b hR2,Or.inl ⟨1,A,s.steps+1,HST.o,_,_,_,_,_,rfl⟩⟩
  ·have ht5:((o:Int) == 15)=true:=by simp;omega
   have e1:=H1T.o (by omega)
   have HST:Hd (Bk is s=.over 0 A (s.steps+1)):=by
    show _=_;rw[<- EA.o,if_pos (by omega)];exact(Fj hpl hst2 EI.o).trans (La (by rw[ET.o];have:=EM.o;omega) h)
   clear e1 h;go_wp2_with fail;have hl:=Ew ((s.pl:Int)+1) sa s.stack.length cp ((s.steps:Int)+1) s.looks 0 A;unfold Ds at hl;refine(hl _).mono ?_;rintro e w4 ⟨rfl,hb4⟩;have HS4:=hid (HS5.o.bl hb4);obtain⟨z0,z1,z2,z3,z4,z5,z6,z7,z8,z9⟩:=Zz HS4.o.z;have fz:∀ j,w4.frozen? ⟨w.heap.size+1+1,j,none⟩=false:=fun j=>fH HS4.o.z j;clear hl hb4;unfold Ct;go_wp2_with fail;exact bR (v:=Ct ((s.pl:Int)+1) (.slice sa s.stack.length cp) ((s.steps:Int)+1) s.looks 0 A) (by simp[results,Tryz.results128,go_sem,Ct,z0,z1,z2,z3,z4,z5,z6,z7,z8,z9]) rfl ⟨b10 HS4.o.b hR2,Or.inl ⟨0,A,s.steps+1,HST.o,_,_,_,_,_,rfl⟩⟩
 case rest=>
 obtain⟨rfl,ho11,HS7,HW7⟩:=hcut
 replace OE:=hid (OE.o ho11)
 replace OL:=hid (OL.o ho11)
 replace NT:=hid (NT.o ho11)
 replace HP:=hid (HP.o ho11)
 clear b0 b1 b2 b3 b4 b5 b6 b7 b8 b9 i0 i1 i2 v0 v1 v2 v3 v4 v5 v6 v7 v8 v9 f5 fr eW5 HS5 HW5 HSd HW
 obtain⟨wl,rfl⟩:∃ wl,wl=wc:=⟨_,rfl⟩
 go_wp2_with fail
 go_loopw [13,14] (fun x k wr=>∃(j g c:Nat),j<=pt/\k=.int .i64 j/\x=.slice (some ⟨g,0,none⟩) (m+j) c/\Hd (Sd w wr w1.heap.size (np:Int) (.slice sa s.stack.length cp) ((s.steps:Int)+1) s.looks o tt n)/\Hd (wr.ownsRow wk.heap.size 9 1 (.slice (some ⟨g,0,none⟩) (m+j) c) (m+j) (Bf (s.stack.take m++outs.take j)))/\Hd (∀ i,i<j->(outs.getD i ByteArray.empty).size<=2000)) (fun _ k _=>pt-(intOf k).toNat)
 case atStart=>exact⟨0,g,c,Nat.zero_le _,rfl,rfl,HS7,by rw[List.take_zero,List.append_nil];exact HW7,fun i hi=>absurd hi (Nat.not_lt_zero _)⟩
 case round=>
  obtain⟨j,g',c',hj,rfl,rfl,HS,HW,HX⟩:=hrel;clear HS7 HW7
  by_cases hlt:(j:Int)<(pt:Int)
  ·obtain⟨i0,i1,i2⟩:=HS.o.c;go_wp2_with fail;refine(HP.o (by omega) _).mono ?_;rintro e w3 ⟨hb3,g3,c3,rfl,hx⟩;have hxj:=hx j (by rw[OL.o];omega);rw[OL.o];obtain⟨x,ex⟩:∃ x,outs.getD j ByteArray.empty=x:=⟨_,rfl⟩;rw[ex] at hxj;have EX:Hd (outs.getD j ByteArray.empty=x):=ex;have HS3:=hid (HS.o.bl hb3);have HW3:=hid (Ac HW.o hb3);clear i0 i1 i2 hx hb3 HS HW ex
   by_cases hsz:(x.size:Int)<=2000
   ·have hown6:=HW3.o.alloc (.cells #[.string x] 9);have hw3:wk.heap.size<=w3.heap.size:=by have:=HW3.o.lt g' rfl;omega
    go_wp2_with (at_builtin;refine wpList_append_own _ rfl (.tmp 158) (.tmp 163) 30 rfl wk.heap.size 9 k0 (.string ⟨#[]⟩) 1 16 Tryz.underlying30 hi hz0 hzz1 hzz2 rfl (by decide) _ _ _ rfl hown6 ⟨w3.heap.size,0,none⟩ 1 1 [.string x] rfl rfl ?_ (by intro u hu;simp at hu;subst hu;rfl) (by unfold maxLen;omega) (by omega) (by simp;omega) ?_;(focus (have:=cell_one_new w3 (.string x) 9;simpa using this));intro v6 w6 hown7 hgrow6 hnil6;obtain⟨g6,c6,rfl,hown8⟩:=own_add hown7;have HS6:=hid (HS3.o.grown hown6 hw1 hgrow6);have HW6:=hid hown8;clear hnil6 hown7 hgrow6 hown8)
    (have hpI:(j:Int)+1<=2:=by omega);go_roundw
    case rel=>
     refine⟨j+1,g6,c6,by omega,by go_num,rfl,HS6,?_,fun i hi=>?_⟩
     ·(have hjl:j<outs.length:=by rw[OL.o];omega);rw[List.take_add_one,gQ hjl,<- List.append_assoc];(have e:outs[j]=x:=by rw[<- EX.o,gG,gQ hjl];rfl);rw[e];exact HW6
     ·rcases Nat.lt_or_ge i j with h|h
      ·exact HX.o i h
      ·(obtain rfl:i=j:=by omega);rw[EX.o];omega
    case measure=>simp[intOf];omega
   ·have HST:Hd (Bk is s=.over 2 q (s.steps+1)):=by
     (have hjl:j<outs.length:=by rw[OL.o];omega);(have e:outs[j]=x:=by rw[<- EX.o,gG,gQ hjl];rfl);show _=_;rw[<- EQ.o];exact(Fj hpl hst2 EI.o).trans (Hp (by rw[ET.o,EM.o];omega) ho11 (Or.inr ⟨x,by rw[<- OE.o,<- e];exact List.getElem_mem _,by omega⟩))
    obtain⟨b0,b1,b2,b3,b4,b5,b6,b7,b8,b9⟩:=Zz HS3.o.r;go_wp2_with fail;have hl:=Ew (np:Int) sa s.stack.length cp ((s.steps:Int)+1) s.looks 2 q;unfold Ds at hl;refine(hl _).mono ?_;rintro e w4 ⟨rfl,hb4⟩;have HS4:=hid (HS3.o.bl hb4);obtain⟨z0,z1,z2,z3,z4,z5,z6,z7,z8,z9⟩:=Zz HS4.o.z;have fz:∀ j,w4.frozen? ⟨w.heap.size+1+1,j,none⟩=false:=fun j=>fH HS4.o.z j;clear hl hb4 HS3 HW3 b0 b1 b2 b3 b4 b5 b6 b7 b8 b9;unfold Ct;go_wp2_with fail;exact bR (v:=Ct np (.slice sa s.stack.length cp) ((s.steps:Int)+1) s.looks 2 q) (by simp[results,Tryz.results128,go_sem,Ct,z0,z1,z2,z3,z4,z5,z6,z7,z8,z9]) rfl ⟨b10 HS4.o.b hR2,Or.inl ⟨2,q,s.steps+1,HST.o,_,_,_,_,_,rfl⟩⟩
  ·obtain rfl:j=pt:=by omega
   have HSTEP:Hd (Bk is s=.go ⟨np,s.stack.take m++outs,s.steps+1,s.looks⟩):=step_go hpl hst2 EI.o ho11 (by rw[ET.o];exact EM.o) (outs:=outs) OE.o.symm (by rw[OL.o];exact hmany) (fun x hx=>by
    obtain⟨i,hi,rfl⟩:=List.getElem_of_mem hx;have:=HX.o i (by rw[<- OL.o];exact hi);rw[gG,gQ hi] at this;exact this) NT.o.symm
   have HOW:Hd (wr.ownsRow wk.heap.size 9 1 (.slice (some ⟨g',0,none⟩) (m+j) c') (m+j) (Bf (s.stack.take m++outs))):=by
    have h:=HW.o;rw[List.take_of_length_le (Nat.le_of_eq OL.o)] at h;exact h
   obtain⟨b0,b1,b2,b3,b4,b5,b6,b7,b8,b9⟩:=Zz HS.o.r;have fp:∀ j,wr.frozen? ⟨w.heap.size+1,j,none⟩=false:=fun j=>fH HS.o.r j;obtain⟨z0,z1,z2,z3,z4,z5,z6,z7,z8,z9⟩:=Zz HS.o.z;have fz:∀ j,wr.frozen? ⟨w.heap.size+1+1,j,none⟩=false:=fun j=>fH HS.o.z j;clear HW;go_wp2_with fail;exact bR (v:=Ds (np:Int) (.slice (some ⟨g',0,none⟩) (m+j) c') ((s.steps:Int)+1) s.looks) (by simp[results,Tryz.results128,go_sem,Ds,z0,z1,z2,z3,z4,z5,z6,z7,z8,z9]) rfl ⟨b10 ((HS.o.b.setCell (p:=⟨w.heap.size+1,1,none⟩) (Nat.le_succ _) _)) hR2,(Np (go_post HSTEP.o (by have:=OL.o;have:=EM.o;simp;omega) rfl (Eg ⟨HOW.o,_,HS.o.r⟩ 1 _).1) ⟨_,by rw[hC _ ⟨w.heap.size+1,1,none⟩ _ _ (by simp)];exact HS.o.z⟩ _ _ _ _ _ _ _ _ _ _).mono hw1⟩
end Go.Proofs.YtjlnkepkkdefdaaGreatDoor
