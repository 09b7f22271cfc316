import Derived.Test.YtoihflimijabjaaGreatDoorTNPlainS
import Derived.Test.YtoihflimijabjaaGreatDoorTNStepJ
import Derived.Test.YtoihflimijabjaaGreatDoorVsA
namespace Go.Proofs.YtoihflimijabjaaGreatDoor
open Value renaming slice->J,string->S,bool->F,agg->G
open Option renaming some->M,none->N
open Obj renaming cells->O
open Go renaming Value->Z,World->E
open Ending renaming returned->H
open _root_ renaming List->L,Nat->X
set_option maxHeartbeats 8000000
set_option maxRecDepth 100000
open _root_.Go.Proofs.Tryz Go.RowKit
set_option linter.unusedVariables false
set_option linter.unusedSimpArgs false
variable {b i1 n B cp g k e kx B' sz j i P e' sz' n' hi:X} {v0 v1 v2 sv v u0 u1 u2 u nv:Z} {T:TypeId} {W W' w':E} {pl x0 x2 x3 x5:Int} {tt x6 x8:By} {x:Operand} {xs:L Z} {is:L I3} {s:T2} {a ax:Option Addr} {ss:L By} {ys:L R3} {x4 x7 x9:Bool} {cv:X->Z} {l l2:L T2} {l1:L S2} {ops:Array Oper} {Q:Exit->Act->E->Prop} {AG:Prop}
theorem c10{w:E}{v3 v4 v5 v6 v7 v8 v9:Z}(h:w.heap[b]?=M (O #[v0,v1,v2,v3,v4,v5,v6,v7,v8,v9] T (0,0))):w.cell? ⟨b,0,N⟩=M v0/\w.cell? ⟨b,1,N⟩=M v1/\w.cell? ⟨b,2,N⟩=M v2/\w.cell? ⟨b,3,N⟩=M v3/\w.cell? ⟨b,4,N⟩=M v4/\w.cell? ⟨b,5,N⟩=M v5/\w.cell? ⟨b,6,N⟩=M v6/\w.cell? ⟨b,7,N⟩=M v7/\w.cell? ⟨b,8,N⟩=M v8/\w.cell? ⟨b,9,N⟩=M v9:=by
 refine⟨?_,?_,?_,?_,?_,?_,?_,?_,?_,?_⟩<;>rw[cH h]<;>rfl
abbrev rV(p:Int)(sv:Z)(s:Int)(l:X):Obj:=O #[I p,sv,I s,I l,F false,I 0,ze,F false,ze,F false] 163 (0,0)
structure Sd (w W:E) (i1:X) (pl:Int) (sv:Z) (st:Int) (lk:X) (o:X) (tt:By) (n:X):Prop where
 b:Bw w W
 r:W.heap[w.heap.size+1]?=M (rV pl sv st lk)
 z:W.heap[w.heap.size+1+1]?=M zR
 i:W.heap[i1]?=M (O #[I o,S tt,I n] 103 (0,0))
theorem Sd.bl{w:E}{st:Int}{lk o:X}(h:Sd w W i1 pl sv st lk o tt n)(hb:Bw W W'):Sd w W' i1 pl sv st lk o tt n:=⟨bN h.b hb,Mv hb h.r,Mv hb h.z,Mv hb h.i⟩
theorem Sd.at{w:E}{st:Int}{lk o:X}(h:Sd w W i1 pl sv st lk o tt n)(aq:i1≠w.heap.size+1)(p:Int):Sd w (W.setCell ⟨w.heap.size+1,0,N⟩ (I p)) i1 p sv st lk o tt n:=
 ⟨h.b.setCell (p:=⟨w.heap.size+1,0,N⟩) (Nat.le_succ _) _,by rw[jB h.r];rfl,by rw[hC W ⟨w.heap.size+1,0,N⟩ _ _ qi];exact h.z,by rw[hC W ⟨w.heap.size+1,0,N⟩ _ _ aq];exact h.i⟩
theorem Sd.grown{w:E}{st:Int}{lk o:X}{x:Obj}{m:X}(h:Sd w W i1 pl sv st lk o tt n)(ho:(W.alloc x).ownsRow B 9 1 v m xs)(hB:w.heap.size<=B)(hg:(W.alloc x).grownBy W' v.ownBlock):Sd w W' i1 pl sv st lk o tt n:=by
 have HM:∀(b':X)(B4:Array Z)(T':X),T'≠9->W.heap[b']?=M (O B4 T' (0,0))->M b'≠v.ownBlock:=λb' B4 T' E3 nk=>Hp E3 qbq ho
 have hs:=h.b.size
 exact⟨(h.b.alloc hs _).grown hg qj (λk hk=>Nat.le_trans hB (ho.lt k hk).1),Fy hg HM _ _ 163 qh h.r,Fy hg HM _ _ 163 qh h.z,Fy hg HM _ _ 103 qh h.i⟩
theorem Sd.c{w:E}{st:Int}{lk o:X}(h:Sd w W i1 pl sv st lk o tt n):W.cell? ⟨i1,0,N⟩=M (I o)/\W.cell? ⟨i1,1,N⟩=M (S tt)/\W.cell? ⟨i1,2,N⟩=M (I n):=by
 refine⟨?_,?_,?_⟩<;>rw[cH h.i]<;>rfl
theorem out_tk{o:X}(l6:1<=o)(ho:o<=11)(tt:By)(n:X)(x y:By):El o tt n (if 0<Bd o then x else ⟨#[]⟩) (if 1<Bd o then y else ⟨#[]⟩)=El o tt n x y:=by
 exact qeb
theorem next_tk{o:X}(l6:1<=o)(ho:o<=11)(n p:X)(x:By):Iv o n p (if 0<Bd o then x else ⟨#[]⟩)=Iv o n p x:=by
 exact qeb
theorem puts_pos{o:X}(ho:o<=11)(h:0<Ji o):o<=8:=by
 rcases(show o<=8\/o=9\/o=10\/o=11 from qg)with h|rfl|rfl|rfl
 ·exact h
 all_goals exact absurd h qh
theorem stB{s:St}{cap:X}{w w1:E}{o:X}(ah:Below (((w.alloc (O #[J a is.length cap] 53)).alloc (rV s.pl sv s.steps s.looks)).alloc zR).heap.size (((w.alloc (O #[J a is.length cap] 53)).alloc (rV s.pl sv s.steps s.looks)).alloc zR) w1)(gn:Dl w a is)(dy:s.pl<is.length)(EI:Hd (ix is s.pl=⟨o,tt,n⟩)):∃(W1:E)(b off:X),w1.setCell ⟨w.heap.size+1,2,N⟩ (I ((s.steps:Int)+1))=W1/\a=M ⟨b,off,N⟩/\w1.heap[w.heap.size+1]?=M (rV s.pl sv s.steps s.looks)/\w1.cell? ⟨w.heap.size,0,N⟩=M (J a is.length cap)/\W1.heap.size=w1.heap.size/\W1.cell? ⟨b,off+s.pl*3,N⟩=M (I o)/\W1.cell? ⟨b,off+s.pl*3+1,N⟩=M (S tt)/\W1.cell? ⟨b,off+s.pl*3+2,N⟩=M (I n)/\W1.cell? ⟨w.heap.size,0,N⟩=M (J a is.length cap)/\W1.heap[w.heap.size+1]?=M (rV s.pl sv ((s.steps:Int)+1) s.looks)/\Bw w W1/\Sd w (W1.alloc (O #[I o,S tt,I n] 103)) w1.heap.size s.pl sv ((s.steps:Int)+1) s.looks o tt n:=by
 obtain⟨ba,hz,hr,hc⟩:=op3 w a is.length cap s.pl sv s.steps s.looks
 have db:Bw w w1:=bN ba ah
 have bg:=Mv ah hz
 have az:=Mv ah hr
 have yx:=Mv ah hc
 obtain⟨W1,E7⟩:=Aj (w1.setCell ⟨w.heap.size+1,2,N⟩ (I ((s.steps:Int)+1)))
 have uw:Bw w W1:=by rw[<- E7];exact db.setCell (p:=⟨w.heap.size+1,2,N⟩) (Nat.le_succ _) _
 have hzW:W1.heap[w.heap.size+1+1]?=M zR:=by rw[<- E7,hC w1 ⟨w.heap.size+1,2,N⟩ _ _ qi];exact bg
 have hrW:W1.heap[w.heap.size+1]?=M (rV s.pl sv ((s.steps:Int)+1) s.looks):=by rw[<- E7,jB az];rfl
 have hcW:W1.heap[w.heap.size]?=M (O #[J a is.length cap] 53 (0,0)):=by rw[<- E7,hC w1 ⟨w.heap.size+1,2,N⟩ _ _ qi];exact yx
 have o6:W1.heap.size=w1.heap.size:=by rw[<- E7];simp[go_sem]
 obtain⟨b,off,rfl,e1,e2,e3⟩:=(gn.bl uw) s.pl dy
 rw[EI.o]at e1 e2 e3
 exact⟨W1,b,off,E7,rfl,az,by rw[cH yx];rfl,o6,e1,e2,e3,by rw[cH hcW];rfl,hrW,uw,uw.alloc uw.size _,by rw[Lib.alloc_old _ _ _ (Bq hrW)];exact hrW,by rw[Lib.alloc_old _ _ _ (Bq hzW)];exact hzW,by rw[<- o6];exact Hn _ _⟩
theorem Oy{w:E}(h:Oi B w a cp ss):(a=N/\cp=0/\ss=[])\/∃g,a=p_ g/\ss.length<=cp:=by
 rcases h.2 with⟨hv,h0⟩|⟨g,cap,cur,hv,_,_,hc,_⟩
 ·simp only[Value.slice.injEq]at hv;exact Or.inl ⟨hv.1,hv.2.2,List.length_eq_zero_iff.mp h0⟩
 ·simp only[Value.slice.injEq]at hv;exact Or.inr ⟨g,hv.1,qg⟩
theorem Zs{w:E}(h:Oi B w (p_ g) cp ss)(i:X)(hi:i<ss.length):w.cell? ⟨g,i,N⟩=M (S (ss.getD i ByteArray.empty)):=by
 rw[World.ownsRow.cellAt h i qg]
 unfold Ar
 rw[List.getElem?_map,gQ hi,gG,gQ hi]
 rfl
theorem Oi.belowN{w:E}(h:Oi B w a cp ss)(hb:Bw w w'):Oi B w' a cp ss:=Ae h hb
theorem step_in(a:Option Addr)(cap:X)(is:L I3)(s:St)(sa:Option Addr)(cp:X)(ra:Option Addr)(rcap:X)(ys:L R3)(w:E)(B0:X)(hv:Aq is=true)(hs:Gf is s)(gn:Dl w a is)(dy:s.pl<is.length)(ib:s.steps≠2000)(jb:Oi B0 w sa cp s.stack)(o:X)(tt:By)(n:X)(ei:ix is s.pl=⟨o,tt,n⟩)(l6:1<=o)(ho:o<=15)(hn:n<=2000)(zx:ys.length<=200)(hr0:Ob w ra ys):Calls prog 107 #[G #[J a is.length cap],Df s.pl (J sa s.stack.length cp) s.steps s.looks,J ra ys.length rcap] w λe w'=>Bw w w'/\Bz w.heap.size is ys s w' e:=by
 have EI:Hd (ix is s.pl=⟨o,tt,n⟩):=ei
 clear ei
 have hplI:(s.pl:Int)<(is.length:Int):=qg
 have hst3:((s.steps:Int) == 2000)=false:=qj
 have mq:=Eo hv
 have Z7:=hs.pl
 have du:=hs.steps
 have ld:=hs.looks
 have gz:=hs.len
 obtain⟨q,eq⟩:=Aj (Gn s.pl)
 have EQ:Hd (Gn s.pl=q):=eq
 have HD:Hd _:=dcH eq qg
 clear eq
 obtain⟨htk2,hpt2⟩:=tp_le o ho
 have HT0:Hd _:=tkH l6 ho
 have hOe:=λh=>out_tk l6 (h:o<=11) tt n (Ea s.stack) (Om s.stack)
 have hNe:=λh=>next_tk l6 (h:o<=11) n s.pl (Ea s.stack)
 have hPp:o<=11->0<Ji o->o<=8:=puts_pos
 have U8:=λ(h:o<=11) a b=>Wr o l6 h tt n a b
 have hTm:∀ {l:L By},l.length<=50->¬ l.length<Bd o->50<l.length-Bd o+Ji o->o<=11:=Qv l6 ho
 have h1t:12<=o->Bd o=1:=λh=>by rcases(show o=12\/o=13\/o=14\/o=15 from qg)with rfl|rfl|rfl|rfl<;>rfl
 have U9:=λ(hf:¬ s.stack.length<Bd o) (hm:50<s.stack.length-Bd o+Ji o)=>(Ht dy ib EI.o).trans (Ir hf (Qv l6 ho hs.len hf hm) (Or.inl (by rw[Wr o l6 (Qv l6 ho hs.len hf hm)];unfold Dg;rw[List.length_take];omega)))
 have hFew:=λ(hf:s.stack.length<Bd o)=>(Ht dy ib EI.o).trans (Nl hf)
 obtain⟨tk,etk⟩:=Aj (Bd o)
 obtain⟨pt,ept⟩:=Aj (Ji o)
 rw[etk]at htk2 HT0 hOe hNe h1t U9 hFew
 rw[ept]at hpt2 HT0 hPp U9
 have HBD:Hd (s.stack.length<tk\/(¬ s.stack.length<tk/\50<s.stack.length-tk+pt)->Dn is s=.over 2 q (s.steps+1)):=λh=>by rw[<- EQ.o];exact h.elim hFew (λh=>U9 h.1 h.2)
 have ET:Hd (Bd o=tk):=etk
 have H1T:Hd (12<=o->tk=1):=h1t
 clear U9 hFew hTm etk h1t
 unfold Df
 go_enter func107,ntmps107
 go_wp2_with fail
 refine(HD.o _).mono ?_
 rintro e w1 ⟨rfl,ah⟩
 obtain⟨W1,b,off,E7,rfl,az,x0,o6,e1,e2,e3,xW,hrW,uw,HS⟩:=stB ah gn dy EI
 clear ah HD
 obtain⟨W2,eW2⟩:=Aj (W1.alloc (O #[I o,S tt,I n] 103))
 rw[eW2]at HS
 obtain⟨r0,r1,r2,r3,r4,r5,r6,r7,r8,r9⟩:=c10 az
 obtain⟨y0,y1,y2,y3,y4,y5,y6,y7,y8,y9⟩:=c10 hrW
 have fr:=fZ az
 obtain⟨b0,b1,b2,b3,b4,b5,b6,b7,b8,b9⟩:=c10 HS.r
 obtain⟨i0,i1,i2⟩:=HS.c
 have a9:Bw w W2:=HS.b
 have HSK:Hd (Oi B0 W2 sa cp s.stack):=jb.belowN a9
 have fo:Hd _:=HS
 have og:w.heap.size<=w.heap.size+1+1:=qg
 clear HS hrW az jb
 go_upto_region 9 with(first|(go_at_call 111;refine(HT0.o _).mono ?_;rintro e w9 ⟨rfl,rfl⟩))
 by_cases hbad:s.stack.length<tk\/(¬ s.stack.length<tk/\50<s.stack.length-tk+pt)
 ·have gu:=Ad (HBD.o hbad)
  rcases hbad with h|⟨h,h'⟩
  case inl=>
   have hfI:(s.stack.length:Int)<(tk:Int):=qg;clear h;exact qhw
  case inr=>
   have hfI:(tk:Int)<=(s.stack.length:Int):=qg;have hmI:50<(s.stack.length:Int)-(tk:Int)+(pt:Int):=qg;clear h h';exact qhw
 obtain⟨m,em⟩:∃m,s.stack.length=m+tk:=⟨s.stack.length-tk,qg⟩
 have hmany:m+pt<=50:=qg
 obtain⟨A,eA⟩:=Aj ((if 0<tk then Ea s.stack else ⟨#[]⟩))
 obtain⟨Bv,eBv⟩:=Aj ((if 1<tk then Om s.stack else ⟨#[]⟩))
 have hA:A.size<=2000:=by
  rw[<- eA];split
  ·exact Yn hs qg
  ·decide
 have hBv:Bv.size<=2000:=by
  rw[<- eBv];split
  ·exact sub_le hs qg
  ·decide
 rw[eA,eBv]at hOe
 rw[eA]at hNe
 have HP:Hd (o<=11->0<pt->∀W:E,Calls prog 113 #[G #[I (o:Int),S tt,I n],S A,S Bv] W λe w'=>Bw W w'/\Kt w' e (El o tt n A Bv)):=λh h' W=>plain_any tt n A Bv W o hA hBv hn l6 (hPp h h')
 have hOl:=λh=>U8 h A Bv
 obtain⟨outs,eO⟩:=Aj (El o tt n A Bv)
 obtain⟨np,eN⟩:=Aj (Iv o n s.pl A)
 rw[ept,eO]at hOl
 rw[eO]at hOe HP
 rw[eN]at hNe
 have OL:Hd (o<=11->outs.length=pt):=hOl
 have NE:Hd (Iv o n s.pl A=np):=eN
 have NT:Hd _:=hNe
 have hfI:(tk:Int)<=(s.stack.length:Int):=qg
 have hmI:(s.stack.length:Int)-(tk:Int)+(pt:Int)<=50:=qg
 have EM:Hd (s.stack.length=m+tk):=em
 have EA:Hd _:=eA
 have EBv:Hd _:=eBv
 have OE:Hd _:=hOe
 clear U8 hPp eO hOl eN hNe em eA eBv hOe ept hbad HBD
 go_upto_if 68 with fail
 go_cut [11] (λx wx=>x=S A/\wx=W2)
 case first=>
  by_cases h0I:(0:Int)<(tk:Int)
  ·rcases Oy HSK.o with⟨_,_,h⟩|⟨d,rfl,O7⟩
   ·have:=EM.o;rw[h]at this;simp at this;omega
   ·obtain⟨l,el⟩:∃l,s.stack.length=l+1:=⟨s.stack.length-1,qg⟩;have hk:=Zs HSK.o l qg;(have eT:Hd (s.stack.getD l ByteArray.empty=A):=by show _=_;rw[<- EA.o,if_pos qg];unfold Ea;rw[el,Nat.add_sub_cancel]);exact qjs
  ·have hA0:(⟨#[]⟩:By)=A:=by rw[<- EA.o,if_neg qg]
   exact qke
 case rest=>
 obtain⟨rfl,rfl⟩:=hcut
 go_upto_if 78 with fail
 go_cut [12] (λx wx=>x=S Bv/\wx=wc)
 case first=>
  by_cases h0I:(1:Int)<(tk:Int)
  ·rcases Oy HSK.o with⟨_,_,h⟩|⟨d,rfl,O7⟩
   ·have:=EM.o;rw[h]at this;simp at this;omega
   ·obtain⟨l,el⟩:∃l,s.stack.length=l+1+1:=⟨s.stack.length-2,qg⟩;have hk:=Zs HSK.o l qg;(have eT:Hd (s.stack.getD l ByteArray.empty=Bv):=by show _=_;rw[<- EBv.o,if_pos qg];unfold Om;rw[el];rfl);exact qjs
  ·have hA0:(⟨#[]⟩:By)=Bv:=by rw[<- EBv.o,if_neg qg]
   exact qke
 case rest=>
 obtain⟨rfl,rfl⟩:=hcut
 go_upto_region 17 with fail
 obtain⟨wk,rfl⟩:∃wk,wk=wc:=⟨_,rfl⟩
 obtain⟨k0,hi,bm,yl,yk⟩:=info_parts Tryz.info9b
 have Z3:w.heap.size<=wk.heap.size:=a9.size
 have hz1s:w.heap.size+1+1<wk.heap.size:=Bq fo.o.z
 rw[EM.o]at b1
 have hmtI:(m:Int)+(tk:Int)<=50:=zo EM.o
 have de:(wk.alloc (O #[] 9)).ownsRow wk.heap.size 9 1 (J (p_ wk.heap.size) 0 0) 0 []:=World.ownsRow_lit (base:=wk.heap.size) (e:=9) (size:=1) wk #[] 0 (Nat.le_refl _) qn qi
 go_cut [13] (λx wx=>∃g c:X,x=J (p_ g) m c/\Hd (Sd w wx w1.heap.size s.pl (J sa s.stack.length cp) ((s.steps:Int)+1) s.looks o tt n)/\Hd (wx.ownsRow wk.heap.size 9 1 (J (p_ g) m c) m (Ar (s.stack.take m))))
 case first=>
  rcases Oy HSK.o with⟨rfl,rfl,h⟩|⟨d,rfl,O7⟩
  ·have e0:s.stack.length=0:=by rw[h];rfl
   have hm0:m=0:=zo EM.o;have O1:tk=0:=zo EM.o;subst hm0;subst O1;have HW:Hd ((wk.alloc (O #[] 9)).ownsRow wk.heap.size 9 1 (J (p_ wk.heap.size) 0 0) 0 (Ar (s.stack.take 0))):=de;have L2:=Ad (fo.o.bl ((Below.refl wk.heap.size wk).alloc (Nat.le_refl _) (O #[] 9)));have c1:∀x,(wk.alloc x).cell? ⟨w.heap.size+1,1,N⟩=M nS:=λx=>alK wk _ _ x b1;clear b1 h e0
   go_wp2_with (at_builtin;refine wpList_append_own_none rfl (.tmp 87) (.tmp 95) 23 rfl wk.heap.size 9 k0 1 underlying23 hi _ 0 [] rfl de rfl ?_)
   go_meet
   case rel=>exact⟨_,_,rfl,L2,HW⟩
  ·have c1:=λx=>alK wk _ _ x b1;have K3:m+tk<=cp:=by rw[<- EM.o];exact O7
   have A0:∀j u,((s.stack.take m).map Value.string)[j]?=M u->(wk.alloc (O #[] 9)).cell? ((⟨d,0,N⟩:Addr).add j)=M u:=λj u hu=>by
    rw[List.getElem?_map]at hu;have hlm:=EM.o
    have hj:j<m:=by
     rcases Nat.lt_or_ge j m with h|h
     ·exact h
     ·rw[List.getElem?_eq_none qj]at hu;simp at hu
    have o7:=Zs HSK.o j qg;rw[Addr.add_lit,Nat.zero_add,World.cell?_alloc_lt _ _ _ (World.block_lt_of_cell? _ _ o7),o7,<- hu,List.getElem?_take,if_pos hj,gG,gQ (show j<s.stack.length from qg)];rfl
   have hlen2:((s.stack.take m).map Value.string).length=m*1:=by have:=EM.o;simp;omega
   have HN:Hd _:=A0;have wz:Hd _:=hlen2;clear A0 hlen2 O7
   go_wp2_with (at_builtin;refine wpList_append_own _ rfl (.tmp 87) (.tmp 95) 23 rfl wk.heap.size 9 k0 ze 1 16 underlying23 hi bm yl yk rfl qh _ 0 [] rfl de ⟨d,0,N⟩ m cp ((s.stack.take m).map .string) rfl wz.o HN.o (by intro u hu;obtain⟨z,_,rfl⟩:=List.mem_map.mp hu;rfl) qn qg qi ?_;intro v' w2 af ae bn;obtain⟨g,cpn,rfl,gh⟩:=own_out af bn;have L2:=Ad (fo.o.grown de Z3 ae);have HW:=Ad gh;clear af ae bn gh)
   go_meet
   case rel=>exact⟨_,_,rfl,L2,HW⟩
 case rest=>
 obtain⟨g,c,rfl,L2,HW⟩:=hcut
 clear b0 b1 b2 b3 b4 b5 b6 b7 b8 b9 i0 i1 i2 e1 e2 e3 r0 r1 r2 r3 r4 r5 r6 r7 r8 r9 y0 y1 y2 y3 y4 y5 y6 y7 y8 y9 x0 xW fr E7 gn eW2 o6 uw de fo HSK
 have aq:w1.heap.size≠w.heap.size+1:=λh=>by have h1:=L2.o.i;rw[h,L2.o.r]at h1;cases h1
 have km:=Ad (L2.o.at aq ((s.pl:Int)+1))
 have vq:=Ad (Gb ⟨HW.o,_,L2.o.r⟩ 0 (I ((s.pl:Int)+1))).1
 obtain⟨b0,b1,b2,b3,b4,b5,b6,b7,b8,b9⟩:=c10 L2.o.r
 have fr:=fZ L2.o.r
 obtain⟨W5,eW5⟩:=Aj (wc.setCell ⟨w.heap.size+1,0,N⟩ (I ((s.pl:Int)+1)))
 rw[eW5]at km vq
 obtain⟨i0,i1,i2⟩:=km.o.c
 have f5:=fZ km.o.r
 obtain⟨v0,v1,v2,v3,v4,v5,v6,v7,v8,v9⟩:=c10 km.o.r
 go_upto_block 0 with fail
 go_cut [13] (λx wx=>x=J (p_ g) m c/\o<=11/\Hd (Sd w wx w1.heap.size (np:Int) (J sa s.stack.length cp) ((s.steps:Int)+1) s.looks o tt n)/\Hd (wx.ownsRow wk.heap.size 9 1 (J (p_ g) m c) m (Ar (s.stack.take m))))
 case first=>
  have jn:=Ad (km.o.at aq (n:Int));have F3:=Ad (Gb ⟨vq.o,_,km.o.r⟩ 0 (I (n:Int))).1;have ht:∀k:X,o≠k->((o:Int) == (k:Int))=false:=λk h=>qj
  rcases(show o<=9\/o=10\/o=11\/o=12\/o=13\/o=14\/o=15 from qg)with h|h|h|h|h|h|h
  ·have po:o<=11:=qg;have Do:=ht 15 qg;have ht4:=ht 14 qg;have ht3:=ht 13 qg;have J0:=ht 12 qg;have S9:((o:Int) == 11)=false:=qj;have O1:((o:Int) == 10)=false:=qj;have e:np=s.pl+1:=by rw[<- NE.o];unfold Iv;rw[if_neg qg,if_neg qg]
   have AG:Hd _:=e;clear e;exact qlc
  ·have po:o<=11:=qg;have Do:=ht 15 qg;have ht4:=ht 14 qg;have ht3:=ht 13 qg;have J0:=ht 12 qg;have O1:((o:Int) == 10)=true:=qj;have e:np=n:=by rw[<- NE.o];unfold Iv;rw[if_pos h]
   exact qei
  ·have po:o<=11:=qg;have Do:=ht 15 qg;have ht4:=ht 14 qg;have ht3:=ht 13 qg;have J0:=ht 12 qg;have S9:((o:Int) == 11)=true:=qj;have O1:((o:Int) == 10)=false:=qj
   cases hx1:A.toList.isEmpty with
   | true=>
    (have e:np=n:=by rw[<- NE.o];unfold Iv;rw[if_neg qg,if_pos ⟨h,by simp[Vr,hx1]⟩]);exact qei
   | false=>
    cases hx2:A.toList == [48] with
    | true=>
     (have e:np=n:=by rw[<- NE.o];unfold Iv;rw[if_neg qg,if_pos ⟨h,by simp[Vr,hx1,hx2]⟩]);exact qei
    | false=>
     (have e:np=s.pl+1:=by rw[<- NE.o];unfold Iv;rw[if_neg qg,if_neg (by simp[Vr,hx1,hx2])]);have AG:Hd _:=e;clear e h;exact qlc
  ·have Do:=ht 15 qg;have ht4:=ht 14 qg;have J0:((o:Int) == 12)=true:=qj;have e1:=H1T.o qg;have hmt:(s.stack.take m).length=m:=by have:=EM.o;rw[List.length_take];omega
   obtain⟨W7,K9⟩:=Aj (W5.setCell ⟨w.heap.size+1,1,N⟩ (J (p_ g) m c));have J3:W7.heap[w.heap.size+1]?=M (rV ((s.pl:Int)+1) (J (p_ g) m c) ((s.steps:Int)+1) s.looks):=by rw[<- K9,jB km.o.r];rfl
   have hB7:Bw w W7:=by rw[<- K9];exact km.o.b.setCell (p:=⟨w.heap.size+1,1,N⟩) (Nat.le_succ _) _
   have hz7:W7.heap[w.heap.size+1+1]?=M zR:=by rw[<- K9,hC _ ⟨w.heap.size+1,1,N⟩ _ _ qi];exact km.o.z
   have hi7:W7.heap[w1.heap.size]?=M (O #[I o,S tt,I n] 103 (0,0)):=by rw[<- K9,hC _ ⟨w.heap.size+1,1,N⟩ _ _ aq];exact km.o.i
   have xw:Hd (Sd w W7 w1.heap.size ((s.pl:Int)+1) (J (p_ g) m c) ((s.steps:Int)+1) s.looks o tt n):=⟨hB7,J3,hz7,hi7⟩;have Z9:=(Gb ⟨vq.o,_,km.o.r⟩ 1 (J (p_ g) m c)).1;rw[K9]at Z9;have bw:Oi wk.heap.size W7 (p_ g) c (s.stack.take m):=by unfold Oi;rw[hmt];exact Z9
   have To:wk.heap.size<=W7.heap.size:=zo ((Z9.lt g rfl));have hl:=Wz wk.heap.size tt n is s (p_ g) c (s.stack.take m) A q ra rcap ys W7 To hs dy qg ib (by rw[EI.o,h];rfl) (zo EM.o) (by unfold Dg;rw[EM.o,e1,Nat.add_sub_cancel]) (by rw[<- EA.o,if_pos qg]) EQ.o.symm zx (hr0.bl hB7) bw (zo EM.o);unfold Df at hl;rw[hmt,show((12:Int))=(o:Int) from by rw[h];rfl]at hl;exact qhm
  ·have Do:=ht 15 qg;have ht4:=ht 14 qg;have J0:=ht 12 qg;have ht3:((o:Int) == 13)=true:=qj;have e1:=H1T.o qg;have hmt:(s.stack.take m).length=m:=by have:=EM.o;rw[List.length_take];omega
   obtain⟨W7,K9⟩:=Aj (W5.setCell ⟨w.heap.size+1,1,N⟩ (J (p_ g) m c));have J3:W7.heap[w.heap.size+1]?=M (rV ((s.pl:Int)+1) (J (p_ g) m c) ((s.steps:Int)+1) s.looks):=by rw[<- K9,jB km.o.r];rfl
   have hB7:Bw w W7:=by rw[<- K9];exact km.o.b.setCell (p:=⟨w.heap.size+1,1,N⟩) (Nat.le_succ _) _
   have hz7:W7.heap[w.heap.size+1+1]?=M zR:=by rw[<- K9,hC _ ⟨w.heap.size+1,1,N⟩ _ _ qi];exact km.o.z
   have hi7:W7.heap[w1.heap.size]?=M (O #[I o,S tt,I n] 103 (0,0)):=by rw[<- K9,hC _ ⟨w.heap.size+1,1,N⟩ _ _ aq];exact km.o.i
   have xw:Hd (Sd w W7 w1.heap.size ((s.pl:Int)+1) (J (p_ g) m c) ((s.steps:Int)+1) s.looks o tt n):=⟨hB7,J3,hz7,hi7⟩;have Z9:=(Gb ⟨vq.o,_,km.o.r⟩ 1 (J (p_ g) m c)).1;rw[K9]at Z9;have bw:Oi wk.heap.size W7 (p_ g) c (s.stack.take m):=by unfold Oi;rw[hmt];exact Z9
   have To:wk.heap.size<=W7.heap.size:=zo ((Z9.lt g rfl));have hl:=Wy wk.heap.size tt n is s (p_ g) c (s.stack.take m) A q ra rcap ys W7 To hs dy qg ib (by rw[EI.o,h];rfl) (zo EM.o) (by unfold Dg;rw[EM.o,e1,Nat.add_sub_cancel]) (by rw[<- EA.o,if_pos qg]) EQ.o.symm zx (hr0.bl hB7) bw (zo EM.o);unfold Df at hl;rw[hmt,show((13:Int))=(o:Int) from by rw[h];rfl]at hl;exact qhm
  ·have Do:=ht 15 qg;have ht4:((o:Int) == 14)=true:=qj;have e1:=H1T.o qg
   have gu:Hd (Dn is s=.over 1 A (s.steps+1)):=by
    show _=_;rw[<- EA.o,if_pos qg];exact(Ht dy ib EI.o).trans (Lk (by rw[ET.o];have:=EM.o;omega) h)
   clear e1 h;go_wp2_with fail;have hl:=Es ((s.pl:Int)+1) sa s.stack.length cp ((s.steps:Int)+1) s.looks 1 A;unfold Df at hl;refine(hl _).mono ?_;rintro e w4 ⟨rfl,bx⟩;have i8:=Ad (km.o.bl bx);obtain⟨z0,z1,z2,z3,z4,z5,z6,z7,z8,z9⟩:=c10 i8.o.z;have fz:=fZ i8.o.z;clear hl bx;unfold Dq;go_wp2_with fail;exact bR (v:=Dq ((s.pl:Int)+1) (J sa s.stack.length cp) ((s.steps:Int)+1) s.looks 1 A) qcc rfl ⟨b10 i8.o.b og,Or.inl ⟨1,A,s.steps+1,gu.o,_,_,_,_,_,rfl⟩⟩
  ·have Do:((o:Int) == 15)=true:=qj;have e1:=H1T.o qg
   have gu:Hd (Dn is s=.over 0 A (s.steps+1)):=by
    show _=_;rw[<- EA.o,if_pos qg];exact(Ht dy ib EI.o).trans (Nm (by rw[ET.o];have:=EM.o;omega) h)
   clear e1 h;go_wp2_with fail;have hl:=Es ((s.pl:Int)+1) sa s.stack.length cp ((s.steps:Int)+1) s.looks 0 A;unfold Df at hl;refine(hl _).mono ?_;rintro e w4 ⟨rfl,bx⟩;have i8:=Ad (km.o.bl bx);obtain⟨z0,z1,z2,z3,z4,z5,z6,z7,z8,z9⟩:=c10 i8.o.z;have fz:=fZ i8.o.z;clear hl bx;unfold Dq;go_wp2_with fail;exact bR (v:=Dq ((s.pl:Int)+1) (J sa s.stack.length cp) ((s.steps:Int)+1) s.looks 0 A) qcc rfl ⟨b10 i8.o.b og,Or.inl ⟨0,A,s.steps+1,gu.o,_,_,_,_,_,rfl⟩⟩
 case rest=>
 obtain⟨rfl,po,xw,HW7⟩:=hcut
 replace OE:=Ad (OE.o po)
 replace OL:=Ad (OL.o po)
 replace NT:=Ad (NT.o po)
 replace HP:=Ad (HP.o po)
 clear b0 b1 b2 b3 b4 b5 b6 b7 b8 b9 i0 i1 i2 v0 v1 v2 v3 v4 v5 v6 v7 v8 v9 f5 fr eW5 km vq L2 HW
 obtain⟨wl,rfl⟩:∃wl,wl=wc:=⟨_,rfl⟩
 go_wp2_with fail
 go_loopw [13,14] (λx k wr=>∃(j g c:X),j<=pt/\k=I j/\x=J (p_ g) (m+j) c/\Hd (Sd w wr w1.heap.size (np:Int) (J sa s.stack.length cp) ((s.steps:Int)+1) s.looks o tt n)/\Hd (wr.ownsRow wk.heap.size 9 1 (J (p_ g) (m+j) c) (m+j) (Ar (s.stack.take m++outs.take j)))/\Hd (∀i,i<j->(outs.getD i ByteArray.empty).size<=2000)) (λ_ k _=>pt-(intOf k).toNat)
 case atStart=>exact⟨0,g,c,Nat.zero_le _,rfl,rfl,xw,by rw[List.take_zero,List.append_nil];exact HW7,λi hi=>absurd hi (Nat.not_lt_zero _)⟩
 case round=>
  obtain⟨j,g',c',hj,rfl,rfl,HS,HW,HX⟩:=hrel;clear xw HW7
  by_cases au:(j:Int)<(pt:Int)
  ·obtain⟨i0,i1,i2⟩:=HS.o.c;go_wp2_with fail;refine(HP.o qg _).mono ?_;rintro e w3 ⟨bh,g3,c3,rfl,hx⟩;have hxj:=hx j (by rw[OL.o];omega);rw[OL.o];obtain⟨x,ex⟩:=Aj (outs.getD j ByteArray.empty);rw[ex]at hxj;have EX:Hd (outs.getD j ByteArray.empty=x):=ex;have L4:=Ad (HS.o.bl bh);have HW3:=Ad (Ae HW.o bh);clear i0 i1 i2 hx bh HS HW ex
   by_cases iz:(x.size:Int)<=2000
   ·have Z8:=HW3.o.alloc (O #[S x] 9);have hw3:wk.heap.size<=w3.heap.size:=zo (HW3.o.lt g' rfl)
    go_wp2_with (at_builtin;refine wpList_append_own _ rfl (.tmp 158) (.tmp 163) 23 rfl wk.heap.size 9 k0 ze 1 16 underlying23 hi bm yl yk rfl qh _ _ _ rfl Z8 ⟨w3.heap.size,0,N⟩ 1 1 [S x] rfl rfl ?_ qbe qn qg qj ?_;(focus(have:=cell_one_new w3 (S x) 9;simpa using this));intro v6 w6 bw J9 hnil6;obtain⟨g6,c6,rfl,an⟩:=own_add bw;have jn:=Ad (L4.o.grown Z8 Z3 J9);have F3:=Ad an;clear hnil6 bw J9 an)
    have hpI:(j:Int)+1<=2:=qg;go_roundw
    case rel=>
     refine⟨j+1,g6,c6,qg,qp,rfl,jn,?_,λi hi=>?_⟩
     ·(have hjl:j<outs.length:=by rw[OL.o];omega);rw[List.take_add_one,gQ hjl,<- List.append_assoc];(have e:outs[j]=x:=by rw[<- EX.o,gG,gQ hjl];rfl);rw[e];exact F3
     ·rcases Nat.lt_or_ge i j with h|h
      ·exact HX.o i h
      ·obtain rfl:i=j:=qg;rw[EX.o];omega
    case measure=>simp[intOf];omega
   ·have gu:Hd (Dn is s=.over 2 q (s.steps+1)):=by
     (have hjl:j<outs.length:=by rw[OL.o];omega);(have e:outs[j]=x:=by rw[<- EX.o,gG,gQ hjl];rfl);show _=_;rw[<- EQ.o];exact(Ht dy ib EI.o).trans (Ir (by rw[ET.o,EM.o];omega) po (Or.inr ⟨x,by rw[<- OE.o,<- e];exact List.getElem_mem _,qg⟩))
    obtain⟨b0,b1,b2,b3,b4,b5,b6,b7,b8,b9⟩:=c10 L4.o.r;go_wp2_with fail;have hl:=Es (np:Int) sa s.stack.length cp ((s.steps:Int)+1) s.looks 2 q;unfold Df at hl;refine(hl _).mono ?_;rintro e w4 ⟨rfl,bx⟩;have i8:=Ad (L4.o.bl bx);obtain⟨z0,z1,z2,z3,z4,z5,z6,z7,z8,z9⟩:=c10 i8.o.z;have fz:=fZ i8.o.z;clear hl bx L4 HW3 b0 b1 b2 b3 b4 b5 b6 b7 b8 b9;unfold Dq;go_wp2_with fail;exact bR (v:=Dq np (J sa s.stack.length cp) ((s.steps:Int)+1) s.looks 2 q) qcc rfl ⟨b10 i8.o.b og,Or.inl ⟨2,q,s.steps+1,gu.o,_,_,_,_,_,rfl⟩⟩
  ·obtain rfl:j=pt:=qg
   have HSTEP:Hd (Dn is s=.go ⟨np,s.stack.take m++outs,s.steps+1,s.looks⟩):=step_go dy ib EI.o po (by rw[ET.o];exact EM.o) (outs:=outs) OE.o.symm (by rw[OL.o];exact hmany) (λx hx=>by
    obtain⟨i,hi,rfl⟩:=List.getElem_of_mem hx;have:=HX.o i (by rw[<- OL.o];exact hi);rw[gG,gQ hi]at this;exact this) NT.o.symm
   have lp:Hd (wr.ownsRow wk.heap.size 9 1 (J (p_ g') (m+j) c') (m+j) (Ar (s.stack.take m++outs))):=by
    have h:=HW.o;rw[List.take_of_length_le (Nat.le_of_eq OL.o)]at h;exact h
   obtain⟨b0,b1,b2,b3,b4,b5,b6,b7,b8,b9⟩:=c10 HS.o.r;have fp:=fZ HS.o.r;obtain⟨z0,z1,z2,z3,z4,z5,z6,z7,z8,z9⟩:=c10 HS.o.z;have fz:=fZ HS.o.z;clear HW;go_wp2_with fail;exact bR (v:=Df (np:Int) (J (p_ g') (m+j) c') ((s.steps:Int)+1) s.looks) (by simp[results,results107,go_sem,Df,z0,z1,z2,z3,z4,z5,z6,z7,z8,z9]) rfl ⟨b10 ((HS.o.b.setCell (p:=⟨w.heap.size+1,1,N⟩) (Nat.le_succ _) _)) og,(Rk (go_post HSTEP.o (by have:=OL.o;have:=EM.o;simp;omega) rfl (Gb ⟨lp.o,_,HS.o.r⟩ 1 _).1) ⟨_,by rw[hC _ ⟨w.heap.size+1,1,N⟩ _ _ qi];exact HS.o.z⟩ _ _ _ _ _ _ _ _ _ _).mono Z3⟩
theorem Qah(a:Option Addr)(cap:X)(is:L I3)(s:St)(sa:Option Addr)(cp:X)(ra:Option Addr)(rcap:X)(ys:L R3)(w:E)(B0:X)(hv:Aq is=true)(hs:Gf is s)(gn:Dl w a is)(jb:Oi B0 w sa cp s.stack)(zx:ys.length<=200)(hr:Ob w ra ys):Calls prog 107 #[G #[J a is.length cap],Df s.pl (J sa s.stack.length cp) s.steps s.looks,J ra ys.length rcap] w λe w'=>Bw w w'/\Bz w.heap.size is ys s w' e:=by
 by_cases dy:s.pl<is.length
 ·by_cases ib:s.steps=2000
  ·exact Za a cap is s sa cp ra rcap ys w hv hs dy ib
  ·obtain⟨o,tt,n,ei,l6,ik,ht,hn,yv⟩:=Lg hv dy;exact step_in a cap is s sa cp ra rcap ys w B0 hv hs gn dy ib jb o tt n ei l6 ik hn zx hr
 ·exact Wg a cap is s sa cp ra rcap ys w hv hs dy
theorem reps_size(h:Lb ys=true)(hk:k<ys.length):(rx ys k).text.size<=2000:=by
 simp only[Lb,Bool.and_eq_true,decide_eq_true_eq]at h
 have:=h.2 k hk
 simp only[Jh,Bool.and_eq_true,decide_eq_true_eq]at this
 omega
def Fu(is:L I3)(ys:L R3)(B:X)(w:E)(kx:X)(x0:Int)(ax:Option Addr)(nx cx:X)(x2 x3:Int)(x4:Bool)(x5:Int)(x6:By)(x7:Bool)(x8:By)(x9:Bool):Prop:=
 (∃s,Gf is s/\(∀r,Cu is ys s r->Cu is ys Vu r)/\Oi B w ax cx s.stack/\2002-s.steps<=kx/\x0=s.pl/\nx=s.stack.length/\x2=s.steps/\x3=s.looks/\x4=false/\x5=0/\x6=⟨#[]⟩/\x7=false/\x8=⟨#[]⟩/\x9=false)∨
 (∃n:X,Cu is ys Vu (.over x5 x6 n)/\x2=n/\x4=true/\x9=false)∨
 (∃n:X,Cu is ys Vu (.wait x7 x8 n)/\x2=n/\x4=false/\x9=true)
theorem Wh{s s':St}(hv:Aq is=true)(hs:Gf is s)(h:Dn is s=.go s'):s'.steps=s.steps+1:=by
 by_cases hp:s.pl<is.length
 ·by_cases h2:s.steps=2000
  ·rw[Js hp h2]at h;cases h
  ·obtain⟨o,t,n,e,h3,h4,h5,h6,h7⟩:=Lg hv hp;rw[Ht hp h2 e]at h
   by_cases hf:s.stack.length<Bd o
   ·rw[Nl hf]at h;cases h
   ·rcases(show o<=11\/(o=12\/o=13)\/o=14\/o=15 from qg)with ho|ho|ho|ho
    ·by_cases hb:Bad o t n s.stack
     ·rw[Ir hf ho hb]at h;cases h
     ·rw[Rw hf ho hb]at h;cases h;rfl
    ·exact qjd
    ·rw[Lk hf ho]at h;cases h
    ·rw[Nm hf ho]at h;cases h
 ·rw[Ky hp]at h;cases h
theorem Zc{s:St}{e:Ending}(hv:Aq is=true)(hs:Gf is s)(hrep:Lb ys=true)(hF:∀r,Cu is ys s r->Cu is ys Vu r)(h:Bz B is ys s w' e):∃x0 ax nx cx x2 x3 x4 x5 x6 x7 x8 x9,e=H (r10 x0 ax nx cx x2 x3 x4 x5 x6 x7 x8 x9)/\Fu is ys B w' (2001-s.steps) x0 ax nx cx x2 x3 x4 x5 x6 x7 x8 x9:=by
 have hl:=Eo hv
 rcases h with⟨c,t,n,h,pl,va,vn,vc,lk,rfl⟩|⟨s',h,a',cp',rfl,ho⟩|⟨ask,nm,s',h,hy,pl,va,vn,vc,lk,rfl⟩|⟨ask,nm,s',s'',h,hy,ha,a',cp',rfl,ho⟩|⟨ask,nm,s',c,t,n,h,hy,ha,pl,va,vn,vc,lk,rfl⟩
 ·exact⟨_,_,_,_,_,_,_,_,_,_,_,_,rfl,Or.inr (Or.inl ⟨n,hF _ (.over h),rfl,rfl,rfl⟩)⟩
 ·have h1:=Rb hv hs h;have h2:=Wh hv hs h;exact⟨_,_,_,_,_,_,_,_,_,_,_,_,rfl,Or.inl ⟨s',h1.1,λr hr=>hF r (.go h hr),ho,qg,rfl,rfl,rfl,rfl,rfl,rfl,rfl,rfl,rfl,rfl⟩⟩
 ·exact⟨_,_,_,_,_,_,_,_,_,_,_,_,rfl,Or.inr (Or.inr ⟨s'.steps,hF _ (.wait h hy),rfl,rfl,rfl⟩)⟩
 ·obtain⟨q1,q2,q3,q4,q5,q6,q7,q8⟩:=Kf h
  have ib:s.steps≠2000:=by
   intro h2;rw[Js q5 h2]at h;cases h
  have Z4:Gf is s':=by
   have h1:=look_ok hs ib q4
   have e:s'=⟨s.pl,Dg s.stack 1,s.steps+1,s.looks+1⟩:=by
    cases s'
    simp only[St.mk.injEq];exact⟨q2,q7,q3,q1⟩
   rw[e];exact h1
  have K7:s'.stack.length<50:=by rw[q7,Ij];have:=hs.len;omega
  have G5:Gf is s''/\s''.steps=s'.steps:=by
   unfold Ql at ha
   split at ha
   ·cases ha;exact⟨Ph Z4 hl.2 qg K7 (by rw[Mt];omega),rfl⟩
   ·split at ha
    ·cases ha
    ·split at ha
     ·cases ha
     ·cases ha;exact⟨Ph Z4 hl.2 qg K7 (reps_size hrep hy),rfl⟩
  exact⟨_,_,_,_,_,_,_,_,_,_,_,_,rfl,Or.inl ⟨s'',G5.1,λr hr=>hF r (.ans h hy ha hr),ho,qg,rfl,rfl,rfl,rfl,rfl,rfl,rfl,rfl,rfl,rfl⟩⟩
 ·exact⟨_,_,_,_,_,_,_,_,_,_,_,_,rfl,Or.inr (Or.inl ⟨n,hF _ (.end h hy ha),rfl,rfl,rfl⟩)⟩
theorem Fu.set{w:E}{nx cx:X}(h:Fu is ys B w kx x0 ax nx cx x2 x3 x4 x5 x6 x7 x8 x9/\∃cs,w.heap[b]?=M (O cs 163 (0,0)))(j:X)(x:Z):Fu is ys B (w.setCell ⟨b,j,N⟩ x) kx x0 ax nx cx x2 x3 x4 x5 x6 x7 x8 x9/\∃cs,(w.setCell ⟨b,j,N⟩ x).heap[b]?=M (O cs 163 (0,0)):=by
 obtain⟨h,hc⟩:=h
 refine⟨?_,by obtain⟨cs,hb⟩:=hc;exact⟨_,jB hb x⟩⟩
 rcases h with⟨s,h1,h2,h3,h4⟩|h
 ·exact Or.inl ⟨s,h1,h2,(Gb ⟨h3,hc⟩ j x).1,h4⟩
 ·exact Or.inr h
theorem Fu.mono{w:E}{nx cx:X}(h:Fu is ys B w kx x0 ax nx cx x2 x3 x4 x5 x6 x7 x8 x9)(hB:B'<=B):Fu is ys B' w kx x0 ax nx cx x2 x3 x4 x5 x6 x7 x8 x9:=by
 rcases h with⟨s,h1,h2,h3,h4⟩|h
 ·exact Or.inl ⟨s,h1,h2,h3.mono hB,h4⟩
 ·exact Or.inr h
theorem Wi{w:E}{nx cx:X}(h:Fu is ys B w kx x0 ax nx cx x2 x3 x4 x5 x6 x7 x8 x9)(hc:∃cs,w.heap[b]?=M (O cs 163 (0,0)))(v0 v1 v2 v3 v4 v5 v6 v7 v8 v9:Z):Fu is ys B ((((((((((w.setCell ⟨b,0,N⟩ v0).setCell ⟨b,1,N⟩ v1).setCell ⟨b,2,N⟩ v2).setCell ⟨b,3,N⟩ v3).setCell ⟨b,4,N⟩ v4).setCell ⟨b,5,N⟩ v5).setCell ⟨b,6,N⟩ v6).setCell ⟨b,7,N⟩ v7).setCell ⟨b,8,N⟩ v8).setCell ⟨b,9,N⟩ v9) kx x0 ax nx cx x2 x3 x4 x5 x6 x7 x8 x9:=(Fu.set (Fu.set (Fu.set (Fu.set (Fu.set (Fu.set (Fu.set (Fu.set (Fu.set (Fu.set ⟨h,hc⟩ 0 v0) 1 v1) 2 v2) 3 v3) 4 v4) 5 v5) 6 v6) 7 v7) 8 v8) 9 v9).1
theorem Yb{w:E}{u3 u4 u5 u6 u7 u8 u9:Z}(h:w.heap[b]?=M (O #[u0,u1,u2,u3,u4,u5,u6,u7,u8,u9] 163 (0,0)))(v0 v1 v2 v3 v4 v5 v6 v7 v8 v9:Z):((((((((((w.setCell ⟨b,0,N⟩ v0).setCell ⟨b,1,N⟩ v1).setCell ⟨b,2,N⟩ v2).setCell ⟨b,3,N⟩ v3).setCell ⟨b,4,N⟩ v4).setCell ⟨b,5,N⟩ v5).setCell ⟨b,6,N⟩ v6).setCell ⟨b,7,N⟩ v7).setCell ⟨b,8,N⟩ v8).setCell ⟨b,9,N⟩ v9).heap[b]?=M (O #[v0,v1,v2,v3,v4,v5,v6,v7,v8,v9] 163 (0,0)):=by
 have h0:(w.setCell ⟨b,0,N⟩ v0).heap[b]?=M (O #[v0,u1,u2,u3,u4,u5,u6,u7,u8,u9] 163 (0,0)):=by rw[jB h];rfl
 have h1:((w.setCell ⟨b,0,N⟩ v0).setCell ⟨b,1,N⟩ v1).heap[b]?=M (O #[v0,v1,u2,u3,u4,u5,u6,u7,u8,u9] 163 (0,0)):=by rw[jB h0];rfl
 have h2:(((w.setCell ⟨b,0,N⟩ v0).setCell ⟨b,1,N⟩ v1).setCell ⟨b,2,N⟩ v2).heap[b]?=M (O #[v0,v1,v2,u3,u4,u5,u6,u7,u8,u9] 163 (0,0)):=qdl
 have h3:((((w.setCell ⟨b,0,N⟩ v0).setCell ⟨b,1,N⟩ v1).setCell ⟨b,2,N⟩ v2).setCell ⟨b,3,N⟩ v3).heap[b]?=M (O #[v0,v1,v2,v3,u4,u5,u6,u7,u8,u9] 163 (0,0)):=by rw[jB h2];rfl
 have h4:(((((w.setCell ⟨b,0,N⟩ v0).setCell ⟨b,1,N⟩ v1).setCell ⟨b,2,N⟩ v2).setCell ⟨b,3,N⟩ v3).setCell ⟨b,4,N⟩ v4).heap[b]?=M (O #[v0,v1,v2,v3,v4,u5,u6,u7,u8,u9] 163 (0,0)):=by rw[jB h3];rfl
 have h5:((((((w.setCell ⟨b,0,N⟩ v0).setCell ⟨b,1,N⟩ v1).setCell ⟨b,2,N⟩ v2).setCell ⟨b,3,N⟩ v3).setCell ⟨b,4,N⟩ v4).setCell ⟨b,5,N⟩ v5).heap[b]?=M (O #[v0,v1,v2,v3,v4,v5,u6,u7,u8,u9] 163 (0,0)):=by rw[jB h4];rfl
 have h6:(((((((w.setCell ⟨b,0,N⟩ v0).setCell ⟨b,1,N⟩ v1).setCell ⟨b,2,N⟩ v2).setCell ⟨b,3,N⟩ v3).setCell ⟨b,4,N⟩ v4).setCell ⟨b,5,N⟩ v5).setCell ⟨b,6,N⟩ v6).heap[b]?=M (O #[v0,v1,v2,v3,v4,v5,v6,u7,u8,u9] 163 (0,0)):=by rw[jB h5];rfl
 have h7:((((((((w.setCell ⟨b,0,N⟩ v0).setCell ⟨b,1,N⟩ v1).setCell ⟨b,2,N⟩ v2).setCell ⟨b,3,N⟩ v3).setCell ⟨b,4,N⟩ v4).setCell ⟨b,5,N⟩ v5).setCell ⟨b,6,N⟩ v6).setCell ⟨b,7,N⟩ v7).heap[b]?=M (O #[v0,v1,v2,v3,v4,v5,v6,v7,u8,u9] 163 (0,0)):=by rw[jB h6];rfl
 have h8:(((((((((w.setCell ⟨b,0,N⟩ v0).setCell ⟨b,1,N⟩ v1).setCell ⟨b,2,N⟩ v2).setCell ⟨b,3,N⟩ v3).setCell ⟨b,4,N⟩ v4).setCell ⟨b,5,N⟩ v5).setCell ⟨b,6,N⟩ v6).setCell ⟨b,7,N⟩ v7).setCell ⟨b,8,N⟩ v8).heap[b]?=M (O #[v0,v1,v2,v3,v4,v5,v6,v7,v8,u9] 163 (0,0)):=qga
 have h9:((((((((((w.setCell ⟨b,0,N⟩ v0).setCell ⟨b,1,N⟩ v1).setCell ⟨b,2,N⟩ v2).setCell ⟨b,3,N⟩ v3).setCell ⟨b,4,N⟩ v4).setCell ⟨b,5,N⟩ v5).setCell ⟨b,6,N⟩ v6).setCell ⟨b,7,N⟩ v7).setCell ⟨b,8,N⟩ v8).setCell ⟨b,9,N⟩ v9).heap[b]?=M (O #[v0,v1,v2,v3,v4,v5,v6,v7,v8,v9] 163 (0,0)):=by rw[jB h8];rfl
 exact h9
theorem Uu(a ra:Option Addr)(cap rcap:X)(is:L I3)(ys:L R3)(w:E)(hc:Dl w a is)(hr:Ob w ra ys)(hl:is.length<=1048576)(hs:∀i,(ix is i).text.size<=9223372036854775807)(fl:∀i,(rx ys i).text.size<=9223372036854775807)(hv1:Aq is=true)(hv2:Lb ys=true):Calls prog 103 #[G #[J a is.length cap],J ra ys.length rcap] w λe w'=>Bw w w'/\∃r,Cu is ys Vu r/\e=H (resT r):=by
 have ba:Bw w ((w.alloc (O #[J a is.length cap] 53)).alloc (O #[F false,I 0,ze,F false,ze,I 0] 154)):=(aN _ _).alloc qi _
 have hk:((w.alloc (O #[J a is.length cap] 53)).alloc (O #[F false,I 0,ze,F false,ze,I 0] 154)).heap[w.heap.size+1]?=M (O #[F false,I 0,ze,F false,ze,I 0] 154 (0,0)):=by
  have h:=Hn (w.alloc (O #[J a is.length cap] 53)) (O #[F false,I 0,ze,F false,ze,I 0] 154);rw[show(w.alloc (O #[J a is.length cap] 53)).heap.size=w.heap.size+1 from qi]at h;exact h
 have ks:((w.alloc (O #[J a is.length cap] 53)).alloc (O #[F false,I 0,ze,F false,ze,I 0] 154)).cell? ⟨w.heap.size,0,N⟩=M (J a is.length cap):=qr
 have S7:=hv2
 simp only[Lb,Bool.and_eq_true,decide_eq_true_eq]at S7
 have mq:ys.length<=200:=S7.1
 have ve:Hd (Aq is=true):=hv1
 have ww:Hd (Lb ys=true):=hv2
 have im:Hd (∀i,i<ys.length->Jh (rx ys i)=true):=S7.2
 have HC:Hd (Dl w a is):=hc
 have HR:Hd (Ob w ra ys):=hr
 clear S7 hv2
 go_enter func103,ntmps103
 go_wp2_with fail
 refine(Ci a cap is _ (HC.o.bl ba) hl hs).mono ?_
 rintro e w1 ⟨ah,rfl⟩
 have db:=bN ba ah
 have fh:=Mv ah hk
 have hbx1:=Aa ah ks
 rw[hv1]
 clear ba ah hk ks hv1 hc hr
 have d2:decide ((200:Int)<(ys.length:Int))=false:=qj
 have iq:Hd (w1.heap[w.heap.size+1]?=M (O #[F false,I 0,ze,F false,ze,I 0] 154 (0,0))):=fh
 have pg:Hd (Bw w w1):=db
 have HX1:Hd (w1.cell? ⟨w.heap.size,0,N⟩=M (J a is.length cap)):=hbx1
 have vp:w.heap.size+1<w1.heap.size:=Bq fh
 clear fh db hbx1
 go_wp2_with fail
 go_loopw [5] (λi wr=>∃k:X,k<=ys.length/\i=I k/\w1=wr) (λi _=>ys.length-(intOf i).toNat)
 case atStart=>exact⟨0,Nat.zero_le _,rfl,rfl⟩
 case round=>
  obtain⟨k,hk,rfl,rfl⟩:=hrel
  by_cases au:k<ys.length
  ·obtain⟨b,off,rfl,c1,c2,c3⟩:=(HR.o.bl pg.o) k au;have jb:=fl k;have cm:=im.o k au;clear fl HR im;generalize rx ys k=r at *;have d1:decide ((2000:Int)<(r.text.size:Int))=false:=qez;have d3:decide (r.code<0)=false:=qez;have d4:decide (7<r.code)=false:=qez;clear cm;go_wp2_with fail;go_roundw
   case rel=>exact⟨k+1,qg,qp,trivial⟩
   case measure=>simp[intOf];omega
  ·have gi:¬ (k:Int)<(ys.length:Int):=qg;go_wp2_with fail
   go_loopg [] 2002 (λkx wr=>∃(x0:Int)(ax:Option Addr)(nx cx:X)(x2 x3:Int)(x4:Bool)(x5:Int)(x6:By)(x7:Bool)(x8:By)(x9:Bool),Hd (wr.heap[w1.heap.size]?=M (O #[I x0,J ax nx cx,I x2,I x3,F x4,I x5,S x6,F x7,S x8,F x9] 163 (0,0)))/\Hd (Fu is ys w1.heap.size wr kx x0 ax nx cx x2 x3 x4 x5 x6 x7 x8 x9)/\Hd (Bw w1 wr))
   case atStart=>exact⟨0,N,0,0,0,0,false,0,⟨#[]⟩,false,⟨#[]⟩,false,Hn _ _,Or.inl ⟨Vu,Zg is,λr h=>h,⟨rfl,Or.inl ⟨rfl,rfl⟩⟩,qbx,rfl,rfl,rfl,rfl,rfl,rfl,rfl,rfl,rfl,rfl⟩,aN _ _⟩
   case round=>
    obtain⟨x0,ax,nx,cx,x2,x3,x4,x5,x6,x7,x8,x9,ft,gu,ir⟩:=hrel;(have hxw:wr.cell? ⟨w.heap.size,0,N⟩=M (J a is.length cap):=by rw[ir.o.cell (p:=⟨w.heap.size,0,N⟩) qj];exact HX1.o);(have hkw:wr.heap[w.heap.size+1]?=M (O #[F false,I 0,ze,F false,ze,I 0] 154 (0,0)):=by rw[ir.o.block _ vp];exact iq.o);have aj:Bw w wr:=pg.o.trans (ir.o.mono qg);have i5:=ft.o
    rcases gu.o with⟨s,h1,h2,h3,h4,rfl,rfl,rfl,rfl,rfl,rfl,rfl,rfl,rfl,rfl⟩|⟨n,h1,rfl,rfl,rfl⟩|⟨n,h1,rfl,rfl,rfl⟩
    ·have HS:Hd (Gf is s):=h1;have HF:Hd (∀r,Cu is ys s r->Cu is ys Vu r):=h2;have lp:Hd (Oi w1.heap.size wr ax cx s.stack):=h3;have du:=h1.steps;have hlr:w1.heap.size<wr.heap.size:=Bq i5;obtain⟨p0,p1,p2,p3,p4,p5,p6,p7,p8,p9⟩:=Km i5;have fp:=fZ i5;clear h1 h2 h3 i5 gu;go_wp2_with fail;have hl3:=Qah a cap is s ax cx ra rcap ys wr w1.heap.size ve.o HS.o (HC.o.bl aj) lp.o mq (HR.o.bl aj);unfold Df at hl3;refine hl3.mono ?_;rintro e w3 ⟨bh,wg⟩;obtain⟨y0,ay,ny,cy,y2,y3,y4,y5,y6,y7,y8,y9,rfl,hsd⟩:=Zc ve.o HS.o ww.o HF.o wg;(have T6:w3.heap[w1.heap.size]?=M (O #[I s.pl,J ax s.stack.length cx,I s.steps,I s.looks,F false,I 0,ze,F false,ze,F false] 163 (0,0)):=by rw[bh.block _ hlr];exact ft.o);have HSD:Hd (Fu is ys wr.heap.size w3 (2001-s.steps) y0 ay ny cy y2 y3 y4 y5 y6 y7 y8 y9):=hsd;have ky:Hd (w3.heap[w1.heap.size]?=M (O #[I s.pl,J ax s.stack.length cx,I s.steps,I s.looks,F false,I 0,ze,F false,ze,F false] 163 (0,0))):=T6;have i7:Bw w1 w3:=ir.o.trans (bh.mono qg);clear p0 p1 p2 p3 p4 p5 p6 p7 p8 p9 fp;obtain⟨p0,p1,p2,p3,p4,p5,p6,p7,p8,p9⟩:=Km T6;have fp:=fZ T6;clear T6 hsd wg hl3 bh;unfold r10;go_wp2_with fail
     go_roundg (2001-s.steps)
     case rel=>exact⟨y0,ay,ny,cy,y2,y3,y4,y5,y6,y7,y8,y9,Yb ky.o _ _ _ _ _ _ _ _ _ _,(Wi HSD.o ⟨_,ky.o⟩ _ _ _ _ _ _ _ _ _ _).mono qg,((((((((((i7).setCell (p:=⟨w1.heap.size,0,N⟩) (Nat.le_refl _) _).setCell (p:=⟨w1.heap.size,1,N⟩) (Nat.le_refl _) _).setCell (p:=⟨w1.heap.size,2,N⟩) (Nat.le_refl _) _).setCell (p:=⟨w1.heap.size,3,N⟩) (Nat.le_refl _) _).setCell (p:=⟨w1.heap.size,4,N⟩) (Nat.le_refl _) _).setCell (p:=⟨w1.heap.size,5,N⟩) (Nat.le_refl _) _).setCell (p:=⟨w1.heap.size,6,N⟩) (Nat.le_refl _) _).setCell (p:=⟨w1.heap.size,7,N⟩) (Nat.le_refl _) _).setCell (p:=⟨w1.heap.size,8,N⟩) (Nat.le_refl _) _).setCell (p:=⟨w1.heap.size,9,N⟩) (Nat.le_refl _) _⟩
     case measure=>omega
    ·have HF:Hd (Cu is ys Vu (.over x5 x6 n)):=h1;obtain⟨p0,p1,p2,p3,p4,p5,p6,p7,p8,p9⟩:=Km i5;have fp:=fZ i5;obtain⟨k0,k1,k2,k3,k4,k5⟩:=ck6 hkw;have f0:=fZ hkw;clear h1 i5 hkw gu;go_wp2_with fail;exact bR (v:=Pl true x5 x6 false ⟨#[]⟩ n) (by simp[results,results103,go_sem,Pl,k0,k1,k2,k3,k4,k5]) rfl ⟨((((((aj).setCell (p:=⟨w.heap.size+1,0,N⟩) qi _).setCell (p:=⟨w.heap.size+1,1,N⟩) qi _).setCell (p:=⟨w.heap.size+1,2,N⟩) qi _).setCell (p:=⟨w.heap.size+1,3,N⟩) qi _).setCell (p:=⟨w.heap.size+1,4,N⟩) qi _).setCell (p:=⟨w.heap.size+1,5,N⟩) qi _,_,HF.o,rfl⟩
    ·have HF:Hd (Cu is ys Vu (.wait x7 x8 n)):=h1;obtain⟨p0,p1,p2,p3,p4,p5,p6,p7,p8,p9⟩:=Km i5;have fp:=fZ i5;obtain⟨k0,k1,k2,k3,k4,k5⟩:=ck6 hkw;have f0:=fZ hkw;clear h1 i5 hkw gu;go_wp2_with fail;exact bR (v:=Pl false 0 ⟨#[]⟩ x7 x8 n) (by simp[results,results103,go_sem,Pl,k0,k1,k2,k3,k4,k5]) rfl ⟨((((((aj).setCell (p:=⟨w.heap.size+1,0,N⟩) qi _).setCell (p:=⟨w.heap.size+1,1,N⟩) qi _).setCell (p:=⟨w.heap.size+1,2,N⟩) qi _).setCell (p:=⟨w.heap.size+1,3,N⟩) qi _).setCell (p:=⟨w.heap.size+1,4,N⟩) qi _).setCell (p:=⟨w.heap.size+1,5,N⟩) qi _,_,HF.o,rfl⟩
theorem Jp{w:E}(h:w.heap[b]?=M (O #[v0,v1,v2] T (0,0))):w.cell? ⟨b,0,N⟩=M v0/\w.cell? ⟨b,1,N⟩=M v1/\w.cell? ⟨b,2,N⟩=M v2/\∀j,w.frozen? ⟨b,j,N⟩=false:=by
 refine⟨?_,?_,?_,λj=>fH h j⟩<;>rw[cH h]<;>rfl
theorem Hq{w:E}{cs:Array Z}(hb:Bw w w')(h:w.heap[b]?=M (O cs T (0,0))):w'.heap[b]?=M (O cs T (0,0)):=by
 rw[hb.block _ (Bq h)];exact h
theorem Cx{w:E}(h:w.heap[b]?=M (O #[u0,u1,u2] T (0,0)))(v0 v1 v2:Z):(((w.setCell ⟨b,0,N⟩ v0).setCell ⟨b,1,N⟩ v1).setCell ⟨b,2,N⟩ v2).heap[b]?=M (O #[v0,v1,v2] T (0,0)):=by
 rw[jB (jB (jB h v0) v1) v2]
 rfl
def Dp:L R3->L Z
 | []=>[]
 | y::ys=>F y.has::I y.code::S y.text::Dp ys
theorem Mf(ys:L R3)(y:R3):Dp (ys++[y])=Dp ys++[F y.has,I y.code,S y.text]:=by
 induction ys with
 | nil=>rfl
 | cons x xs ih=>simp only[List.cons_append,Dp,ih]
theorem Nc:∀(ys:L R3)(i:X),i<ys.length->(Dp ys)[i*3]?=M (F (rx ys i).has)/\(Dp ys)[i*3+1]?=M (I (rx ys i).code)/\(Dp ys)[i*3+2]?=M (S (rx ys i).text)
 | [],i,h=>qak
 | y::ys,0,h=>by simp[Dp,rx]
 | y::ys,i+1,h=>by
  have:=Nc ys i Zl;rw[show(i+1)*3=i*3+1+1+1 from qg];simpa [Dp,rx] using this
theorem rowR_of{w:E}{cap:X}(h:w.ownsRow B 158 3 (J a ys.length cap) ys.length (Dp ys)):Ob w a ys:=by
 intro i hi
 rcases h.2 with⟨hv,h0⟩|⟨g,ai,cur,hv,_⟩
 ·omega
 ·simp only[Value.slice.injEq]at hv;obtain⟨rfl,_,_⟩:=hv;obtain⟨k1,k2,k3⟩:=Nc ys i hi;exact⟨g,0,rfl,by rw[Nat.zero_add,h.cellAt _ qg];exact k1,by rw[Nat.zero_add,h.cellAt _ qg];exact k2,by rw[Nat.zero_add,h.cellAt _ qg];exact k3⟩
theorem Sf(w:E)(v0 v1 v2:Z)(ty:TypeId):∀j u,[v0,v1,v2][j]?=M u->(w.alloc (O #[v0,v1,v2] ty)).cell? ((⟨w.heap.size,0,N⟩:Addr).add j)=M u:=by
 intro j u hu
 match j with
 | 0=>simp at hu;subst hu;simp[go_sem,Addr.add]
 | 1=>simp at hu;subst hu;simp[go_sem,Addr.add]
 | 2=>simp at hu;subst hu;simp[go_sem,Addr.add]
 | j+3=>simp at hu
def lenV:Z->X
 | J _ n _=>n
 | _=>0
theorem reps_of{gs:L G3}(h:∀i,i<ys.length->Jh (rx ys i)=true)(hk:ys.length<=200):Lb ys=true:=by
 simp only[Lb,Bool.and_eq_true,decide_eq_true_eq]
 exact⟨hk,h⟩
theorem rx_any(h:∀i,i<ys.length->Jh (rx ys i)=true):∀i,(rx ys i).text.size<=9223372036854775807:=λi=>by
 rcases Nat.lt_or_ge i ys.length with h1|h1
 ·have:=Ri h i h1;omega
 ·unfold rx;rw[gG,List.getElem?_eq_none h1];decide
def Vv:L G3->L Z
 | []=>[]
 | g::gs=>S g.name::F g.ask::S g.sum::Vv gs
theorem gC_get:∀(gs:L G3)(i:X),i<gs.length->(Vv gs)[i*3]?=M (S (gx gs i).name)/\(Vv gs)[i*3+1]?=M (F (gx gs i).ask)/\(Vv gs)[i*3+2]?=M (S (gx gs i).sum)
 | [],i,h=>qak
 | y::ys,0,h=>by simp[Vv,gx]
 | y::ys,i+1,h=>by
  have:=gC_get ys i Zl;rw[show(i+1)*3=i*3+1+1+1 from qg];simpa [Vv,gx] using this
theorem Al{w:E}(h:w.ownsRow B e sz v n xs)(hB:B'<=B):w.ownsRow B' e sz v n xs:=by
 refine⟨h.1,?_⟩
 rcases h.2 with k|⟨g,cap,cur,e,hg,r⟩
 ·exact Or.inl k
 ·exact Or.inr ⟨g,cap,cur,e,qg,r⟩
theorem La(c:Int)(t:By)(w:E)(h0:0<=c)(h5:c<=5)(ht:t.size<=2000):Calls prog 106 #[G #[I c,S t,nS]] w λe w'=>e=H (S (Co c t))/\Bw w w':=by
 obtain⟨m,rfl⟩:=Int.eq_ofNat_of_zero_le h0
 exact Nb m t N 0 w qg ht
theorem Ld{w:E}{cap:X}(h:w.ownsRow B e sz (J (p_ g) n cap) n xs)(hb:b≠g)(v:Z):(w.setCell ⟨b,j,N⟩ v).ownsRow B e sz (J (p_ g) n cap) n xs:=by
 refine⟨h.1,?_⟩
 rcases h.2 with⟨h2,_⟩|⟨g',cap,cur,hv,hg,hh,r⟩
 ·cases h2
 ·cases hv;refine Or.inr ⟨g,cap,cur,rfl,hg,?_,r⟩;rw[hC w ⟨b,j,N⟩ v g (λe=>hb e.symm)];exact hh
open Go.RowKit
set_option linter.unusedVariables false
def insJ(is:L I3)(j:X):Z:=if j % 3=0 then I (ix is (j / 3)).op else if j % 3=1 then S (ix is (j / 3)).text else I (ix is (j / 3)).n
def Cy(is:L I3):L Z:=(List.range (is.length*3)).map (insJ is)
theorem Gc(is:L I3):(Cy is).length=is.length*3:=by simp[Cy]
theorem Nr(is:L I3)(j:X)(h:j<is.length*3):(Cy is)[j]?=M (insJ is j):=by
 unfold Cy
 rw[List.getElem?_map,List.getElem?_range h];rfl
theorem Ez(is:L I3):Cf is is.length (Cy is):=by
 intro i hi
 rw[Nr is _ qg,Nr is _ qg,Nr is _ qg]
 unfold insJ
 exact qit
theorem Nq(is:L I3):∀u∈Cy is,u.oneCell'=true:=by
 intro u hu
 obtain⟨j,_,rfl⟩:=List.mem_map.mp hu
 unfold insJ
 split
 ·rfl
 ·split<;>rfl
theorem Lw{w:E}{off:X}(h:Dl w (M ⟨b,off,N⟩) is):∀j u,(Cy is)[j]?=M u->w.cell? ((⟨b,off,N⟩:Addr).add j)=M u:=by
 intro j u hu
 rw[Addr.add_lit]
 have hj:j<is.length*3:=by
  rcases Nat.lt_or_ge j (is.length*3)with h|h
  ·exact h
  ·rw[List.getElem?_eq_none (by rw[Gc];exact h)]at hu;cases hu
 rw[Nr is j hj]at hu
 obtain rfl:=Option.some.inj hu
 obtain⟨b',bq,ha,c1,c2,c3⟩:=h (j / 3) qg
 cases ha
 unfold insJ
 split
 ·rename_i hm
  rw[show off+j=off+j / 3*3 from qg];exact c1
 ·split
  ·rename_i hm
   rw[show off+j=off+j / 3*3+1 from qg];exact c2
  ·rw[show off+j=off+j / 3*3+2 from qg];exact c3
theorem Tryz.info165b:(prog.info? 103).map (λi=>(i.zero,i.size,i.bytes))=M (M (G #[I 0,ze,I 0]),3,32):=qk
open Go.RowKit
set_option linter.unusedVariables false
open Go.RowKit
set_option linter.unusedVariables false
open Go.RowKit
set_option linter.unusedVariables false
open Go.RowKit Go.Deep
set_option linter.unusedVariables false
open Go.RowKit
set_option linter.unusedVariables false
theorem Ed.bl{w:E}{lo:X}{is:L T2}(h:Ed w lo is k xs cv)(hb:Bw w w'):Ed w' lo is k xs cv:=h.same λb _ hl=>hb.block b hl
open Go.RowKit
set_option linter.unusedVariables false
open Go.RowKit
set_option linter.unusedVariables false
open Go.RowKit Go.Deep
set_option linter.unusedVariables false
theorem Bn{w:E}{p:Addr}{o:Obj}(h:w.cell? p=M v):(w.alloc o).cell? p=M v:=qfa
open Classical in
noncomputable def Bl (t:By) (ss:L S2):L S2:=ss.filter λs=>decide (s.name≠t)
open Classical in
noncomputable def Bj (t:By) (ss:L T2):L T2:=ss.filter λs=>decide (s.name≠t)
theorem Ol{ss:L S2}(h:k<ss.length):sx ss k=ss[k]:=by simp[sx,gG,h]
theorem Mk{ss:L T2}(h:k<ss.length):tx ss k=ss[k]:=by simp[tx,gG,h]
theorem fltS_yes{t:By}{ss:L S2}(h:k<ss.length)(hn:(sx ss k).name≠t):Bl t (ss.take (k+1))=Bl t (ss.take k)++[sx ss k]:=by
 exact qku
theorem fltS_no{t:By}{ss:L S2}(h:k<ss.length)(hn:(sx ss k).name=t):Bl t (ss.take (k+1))=Bl t (ss.take k):=by
 exact qku
theorem fltT_yes{t:By}{ss:L T2}(h:k<ss.length)(hn:(tx ss k).name≠t):Bj t (ss.take (k+1))=Bj t (ss.take k)++[tx ss k]:=by
 exact qkt
theorem fltT_no{t:By}{ss:L T2}(h:k<ss.length)(hn:(tx ss k).name=t):Bj t (ss.take (k+1))=Bj t (ss.take k):=by
 exact qkt
theorem Nw(t:By)(ss:L S2):(Bl t ss).length<=ss.length:=List.length_filter_le _ _
theorem Nv(t:By)(ss:L T2):(Bj t ss).length<=ss.length:=List.length_filter_le _ _
theorem fltS_take(t:By)(ss:L S2)(k:X)(h:k<=ss.length):(Bl t (ss.take k)).length<=k:=by
 have:=Nw t (ss.take k)
 rw[List.length_take]at this;omega
theorem fltT_take(t:By)(ss:L T2)(k:X)(h:k<=ss.length):(Bj t (ss.take k)).length<=k:=by
 have:=Nv t (ss.take k)
 rw[List.length_take]at this;omega
theorem sx_old{l:L S2}{s:S2}(h:i<l.length):sx (l++[s]) i=sx l i:=by
 unfold sx
 exact qlf
theorem sx_new{l:L S2}{s:S2}:sx (l++[s]) l.length=s:=by
 unfold sx
 rw[gG,List.getElem?_append_right (Nat.le_refl _)]
 simp
theorem tx_old(h:i<l.length):tx (l++[s]) i=tx l i:=by
 unfold tx
 exact qlf
theorem Ym:tx (l++[s]) l.length=s:=by
 unfold tx
 rw[gG,List.getElem?_append_right (Nat.le_refl _)]
 simp
theorem Xu{l:L S2}{s:S2}{ys:L Z}(h:Ip l l.length ys)(hl:ys.length=l.length*2):Ip (l++[s]) (l.length+1) (ys++[S s.name,S s.text]):=by
 intro i hi
 rcases Nat.lt_or_ge i l.length with hk|hk
 ·obtain⟨h1,h2⟩:=h i hk;rw[List.getElem?_append_left qg,List.getElem?_append_left qg,sx_old hk];exact⟨h1,h2⟩
 ·obtain rfl:i=l.length:=qg;rw[List.getElem?_append_right qg,List.getElem?_append_right qg,hl,Nat.sub_self,show l.length*2+1-l.length*2=1 from qg,sx_new];exact⟨rfl,rfl⟩
theorem Ed.ext{w:E}{lo:X}(h:Ed w lo l l.length xs cv):Ed w lo (l++[s]) l.length xs cv:=
 ⟨λi hi=>by rw[tx_old hi];exact h.fil i hi,λi hi=>by rw[tx_old hi];exact h.code i hi,h.apart⟩
theorem Ed.app{w w2:E}{lo:X}(h:Ed w lo l l.length xs cv)(hx:xs.length=l.length*2)(hb:Bw w w2)(hl:lo<=w.heap.size){c:Z}{ys:L Z}(ho:w2.ownsRow w.heap.size 103 3 c s.code.length ys)(hf:Cf s.code s.code.length ys):Ed w2 lo (l++[s]) (l.length+1) (xs++[S s.name,c]) (λi=>if i=l.length then c else cv i):=by
 refine(h.ext (s:=s)).add hb hl (ys:=ys) (by rw[Ym];exact ho) (by rw[Ym];exact hf) (λj hj=>List.getElem?_append_left qg) ?_ ?_
 ·rw[List.getElem?_append_right qg,hx,Nat.sub_self,Ym];rfl
 ·rw[List.getElem?_append_right qg,hx,show l.length*2+1-l.length*2=1 from qg];rfl
structure WS (w:E) (P:X) (v1 v2:Z) (l1:L S2) (l2:L T2):Prop where
 blk:w.heap[P]?=M (O #[v1,v2] 44 (0,0))
 s:∃xs,w.ownsRow (P+1) 110 2 v1 l1.length xs/\Ip l1 l1.length xs
 t:∃xs cv,w.ownsRow (P+1) 113 2 v2 l2.length xs/\Ed w (P+1) l2 l2.length xs cv
theorem WS.cell{w:E}(h:WS w P v1 v2 l1 l2):w.cell? ⟨P,0,N⟩=M v1/\w.cell? ⟨P,1,N⟩=M v2:=
 ⟨qcq,qcq⟩
theorem WS.bl{w:E}(h:WS w P v1 v2 l1 l2)(hb:Bw w w'):WS w' P v1 v2 l1 l2:=by
 obtain⟨xs,h1,h2⟩:=h.s
 obtain⟨zs,cv,h3,h4⟩:=h.t
 exact⟨by rw[hb.block P (An h.blk)];exact h.blk,⟨xs,Ae h1 hb,h2⟩,zs,cv,Ae h3 hb,h4.bl hb⟩
theorem WS.zero{w:E}(h:w.heap[P]?=M (O #[nS,nS] 44 (0,0))):WS w P nS nS [] []:=
 ⟨h,⟨[],World.ownsRow_nil _ _ _ _,λi hi=>Zk⟩,[],λ_=>nS,World.ownsRow_nil _ _ _ _,Ed.zero _ _ _ _⟩
theorem Dz{ys:L Z}(h:W.ownsRow B e sz v n xs)(hu:W.ownsRow B' e' sz' u n' ys)(aq:e≠e')(hg:W.grownBy w' u.ownBlock):w'.ownsRow B e sz v n xs:=
 Cc h λb eb=>hg.block b (h.lt b eb).2 (λe'=>neT h hu aq b eb e'.symm)
open Go.RowKit Go.Deep
set_option linter.unusedVariables false
set_option linter.unusedSimpArgs false
open Go.RowKit
set_option linter.unusedVariables false
open Go.RowKit
set_option linter.unusedVariables false
open Go.RowKit
set_option linter.unusedVariables false
theorem Rz{lo:X}{ys:L Z}(h:Ed W lo l k xs cv)(hu:W.ownsRow B' e' sz' u n' ys)(aq:103≠e')(hg:W.grownBy w' u.ownBlock):Ed w' lo l k xs cv:=
 ⟨h.fil,λi hi=>by obtain⟨zs,h1,h2⟩:=h.code i hi;exact⟨zs,Dz h1 hu aq hg,h2⟩,h.apart⟩
theorem Nd{w:E}(h:w.ownsRow (P+1) e sz v n xs)(u:Z):(w.setCell ⟨P,j,N⟩ u).ownsRow (P+1) e sz v n xs:=
 Cc h λb eb=>hC w ⟨P,j,N⟩ u b (by have:=(h.lt b eb).1;show b≠P;omega)
theorem WS.putS{s:S2}{ys:L Z}(h:WS W P v1 v2 l1 l2)(hy:W.ownsRow (P+1) 110 2 v1 l1.length ys)(hf:Ip l1 l1.length ys)(hg:W.grownBy w' v1.ownBlock)(hn:w'.ownsRow (P+1) 110 2 nv (l1.length+1) (ys++[S s.name,S s.text])):WS (w'.setCell ⟨P,0,N⟩ nv) P nv v2 (l1++[s]) l2:=by
 have hbk:w'.heap[P]?=M (O #[v1,v2] 44 (0,0)):=by
  rw[hg.block P (An h.blk) (λe=>by have:=(hy.lt P e.symm).1;omega)];exact h.blk
 obtain⟨zs,cv,h3,h4⟩:=h.t
 have mq:(l1++[s]).length=l1.length+1:=qi
 refine⟨qfy,⟨ys++[S s.name,S s.text],?_,?_⟩,zs,cv,Nd (Dz h3 hy qh hg) _,(Rz h4 hy qh hg).set (Nat.lt_succ_self _) _⟩
 ·rw[mq];exact Nd hn _
 ·rw[mq];exact Xu hf hy.1
theorem WS.putT{W0:E}{c:Z}{ys zs:L Z}(h:WS W0 P v1 v2 l1 l2)(hb:Bw W0 W)(hP:P+1<=W0.heap.size)(hy:W0.ownsRow (P+1) 113 2 v2 l2.length ys)(hp:Ed W0 (P+1) l2 l2.length ys cv)(hc:W.ownsRow W0.heap.size 103 3 c s.code.length zs)(hz:Cf s.code s.code.length zs)(hg:W.grownBy w' v2.ownBlock)(hn:w'.ownsRow (P+1) 113 2 nv (l2.length+1) (ys++[S s.name,c])):WS (w'.setCell ⟨P,1,N⟩ nv) P v1 nv l1 (l2++[s]):=by
 have hW:=h.bl hb
 have Z2:=Ae hy hb
 have hbk:w'.heap[P]?=M (O #[v1,v2] 44 (0,0)):=by
  rw[hg.block P (An hW.blk) (λe=>by have:=(Z2.lt P e.symm).1;omega)];exact hW.blk
 obtain⟨xs,h1,h2⟩:=hW.s
 have hpa:=Rz (hp.app hy.1 hb hP hc hz) Z2 qh hg
 have mq:(l2++[s]).length=l2.length+1:=qi
 refine⟨qfy,⟨xs,Nd (Dz h1 Z2 qh hg) _,h2⟩,ys++[S s.name,c],λi=>if i=l2.length then c else cv i,?_,?_⟩
 ·rw[mq];exact Nd hn _
 ·rw[mq];exact hpa.set (Nat.lt_succ_self _) _
theorem WS.own{w:E}{lo:X}(h:WS w P v1 v2 l1 l2)(hl:lo<=P+1)(hh:w.heap.size<=hi):Dm w lo hi v1 l1/\Ec w lo hi v2 l2:=by
 obtain⟨xs,h1,h2⟩:=h.s
 obtain⟨zs,cv,h3,h4⟩:=h.t
 exact⟨⟨xs,⟨Al h1 hl,λb e=>by have:=(h1.lt b e).2;omega⟩,h2⟩,h4.own (Al h3 hl) hl hh⟩
theorem Tryz.info103b:(prog.info? 110).map (λi=>(i.zero,i.size,i.bytes))=M (M (G #[ze,ze]),2,32):=qk
theorem Tryz.info118b:(prog.info? 113).map (λi=>(i.zero,i.size,i.bytes))=M (M (G #[ze,nS]),2,40):=qk
theorem Ls{s:Operand}{o:Oper}{a:Act}{K:Act->E->Prop}(mg:o.guard=N)(ho:o.op=.call { callee:=.builtin .append,args:=#[s,x],argTypes:=#[42,42] })(B:X)(v:Z)(nn:X)(xs:L Z)(hs:a.eval s=v)(ak:W.ownsRow B 113 2 v nn xs)(d:X)(t:By)(u:Z)(hu1:u.oneCell'=true)(hx:a.eval x=J (p_ d) 1 1)(hc:W.heap[d]?=M (O #[S t,u] 113 (0,0)))(hB:B<=W.heap.size)(hn:nn<=300)(h:∀g' ai w',w'.ownsRow B 113 2 (J (p_ g') (nn+1) ai) (nn+1) (xs++[S t,u])->W.grownBy w' v.ownBlock->K (a.put o.dst (J (p_ g') (nn+1) ai)) w'):if Region.wanted o (yielded ops a.tmps)=true then Oper.wp prog o a W K Q else AG:=by
 obtain⟨i0,hi,bm,bg,bi⟩:=info_parts Tryz.info118b
 refine step_append_lies (w:=W) mg s x 42 ho B 113 i0 (G #[ze,nS]) 2 40 underlying42 hi bm bg bi rfl qh _ nn xs hs ak ⟨d,0,N⟩ 1 1 [S t,u] hx rfl
  (World.news_of_block (cs:=#[S t,u]) (t:=113) (fr:=(0,0)) hc) (by intro u' hu;simp at hu;rcases hu with rfl|rfl<;>first|rfl|exact hu1) qg qn qg hB W.heap.size rfl ?_
 exact qca
theorem Qy{s:Operand}{o:Oper}{a:Act}{K:Act->E->Prop}(mg:o.guard=N)(ho:o.op=.call { callee:=.builtin .append,args:=#[s,x],argTypes:=#[41,41] })(B:X)(v:Z)(nn:X)(xs:L Z)(hs:a.eval s=v)(ak:W.ownsRow B 110 2 v nn xs)(d:X)(t u:By)(hx:a.eval x=J (p_ d) 1 1)(hc:W.heap[d]?=M (O #[S t,S u] 110 (0,0)))(hB:B<=W.heap.size)(hn:nn<=300)(h:∀g' ai w',w'.ownsRow B 110 2 (J (p_ g') (nn+1) ai) (nn+1) (xs++[S t,S u])->W.grownBy w' v.ownBlock->K (a.put o.dst (J (p_ g') (nn+1) ai)) w'):if Region.wanted o (yielded ops a.tmps)=true then Oper.wp prog o a W K Q else AG:=by
 obtain⟨i0,hi,bm,bg,bi⟩:=info_parts Tryz.info103b
 refine step_append_lies (w:=W) mg s x 41 ho B 110 i0 (G #[ze,ze]) 2 32 underlying41 hi bm bg bi rfl qh _ nn xs hs ak ⟨d,0,N⟩ 1 1 [S t,S u] hx rfl
  (World.news_of_block (cs:=#[S t,S u]) (t:=110) (fr:=(0,0)) hc) (by intro u' hu;simp at hu;rcases hu with rfl|rfl<;>rfl) qg qn qg hB W.heap.size rfl ?_
 exact qca
open Go.RowKit Go.Deep
set_option linter.unusedVariables false
set_option linter.unusedSimpArgs false
def CopyP(a:Option Addr)(cap:X)(is:L I3)(W:E):Prop:=Calls prog 66 #[G #[J a is.length cap]] W λe w'=>Bw W w'/\∃g cp,e=H (G #[J (p_ g) is.length cp])/\w'.ownsRow W.heap.size 103 3 (J (p_ g) is.length cp) is.length (Cy is)
def RowC(w:E)(a:Option Addr)(is:L T2):Prop:=
 ∀i,i<is.length->∃b off,a=M ⟨b,off,N⟩/\w.cell? ⟨b,off+i*2,N⟩=M (S (tx is i).name)/\∃a' ai,w.cell? ⟨b,off+i*2+1,N⟩=M (J a' (tx is i).code.length ai)/\∀W,Bw w W->CopyP a' ai (tx is i).code W
theorem Sz(sa ta:Option Addr)(c1 c2:X)(ss:L S2)(ts:L T2)(t:By)(w:E)(rs:Hz w sa ss)(rt:RowC w ta ts)(h1:ss.length<=300)(h2:ts.length<=300):Calls prog 89 #[G #[J sa ss.length c1,J ta ts.length c2],S t] w λe w'=>Bw w w'/\∃v1 v2,e=H (G #[v1,v2])/\Dm w' w.heap.size w'.heap.size v1 (Bl t ss)/\Ec w' w.heap.size w'.heap.size v2 (Bj t ts):=by
 obtain⟨P,eP⟩:=Aj (w.heap.size+1+1)
 obtain⟨w5,zi⟩:=Aj (((w.alloc (O #[J sa ss.length c1,J ta ts.length c2] 44)).alloc (O #[nS,nS] 44)).alloc (O #[nS,nS] 44))
 have hw5:w5.heap.size=P+1:=by rw[<- zi,<- eP];simp
 have mj:Bw w w5:=by rw[<- zi];exact((aN _ _).alloc qi _).alloc qj _
 have s0:w5.cell? ⟨w.heap.size,0,N⟩=M (J sa ss.length c1):=by rw[<- zi];simp[go_sem]
 have s1:w5.cell? ⟨w.heap.size,1,N⟩=M (J ta ts.length c2):=by rw[<- zi];simp[go_sem]
 have HW0:Hd (WS w5 P nS nS (Bl t (ss.take 0)) []):=WS.zero (by
  have h:=Am ((w.alloc (O #[J sa ss.length c1,J ta ts.length c2] 44)).alloc (O #[nS,nS] 44)) (O #[nS,nS] 44);rw[zi,show((w.alloc (O #[J sa ss.length c1,J ta ts.length c2] 44)).alloc (O #[nS,nS] 44)).heap.size=P from by rw[<- eP];simp]at h;exact h)
 have KB5:Hd (w5.heap[w.heap.size+1]?=M (O #[nS,nS] 44 (0,0))):=by
  have h:=Am (w.alloc (O #[J sa ss.length c1,J ta ts.length c2] 44)) (O #[nS,nS] 44);rw[show(w.alloc (O #[J sa ss.length c1,J ta ts.length c2] 44)).heap.size=w.heap.size+1 from qi]at h;show _=_;rw[<- zi,Lib.alloc_old _ _ _ qi];exact h
 have HRS:Hd (Hz w sa ss):=rs
 have HRT:Hd (RowC w ta ts):=rt
 have hwP:w.heap.size+1<P:=qg
 clear rs rt
 have EW5:Hd (((w.alloc (O #[J sa ss.length c1,J ta ts.length c2] 44)).alloc (O #[nS,nS] 44)).alloc (O #[nS,nS] 44)=w5):=zi
 clear zi
 go_enter func89,ntmps89
 go_wp2
 rw[EW5.o]
 clear EW5 eP
 have vq:Hd (w5.heap.size=P+1):=hw5
 clear hw5
 go_loopw [6] (λi wr=>∃(k:X)(v1:Z),k<=ss.length/\i=I k/\Hd (WS wr P v1 nS (Bl t (ss.take k)) [])/\Below P w5 wr/\P+1<=wr.heap.size) (λi _=>ss.length-(intOf i).toNat)
 case atStart=>exact⟨0,_,Nat.zero_le _,rfl,HW0.o,Below.refl _ _,by rw[vq.o];exact Nat.le_refl _⟩
 case round=>
  obtain⟨k,v1,hk,rfl,HW,bu,iz⟩:=hrel;have hw:Bw w wr:=mj.trans (bu.mono qg);have dZ:wr.cell? ⟨w.heap.size,0,N⟩=M (J sa ss.length c1):=by rw[bu.cell (p:=⟨w.heap.size,0,N⟩) qj];exact s0
  by_cases au:k<ss.length
  ·obtain⟨b,off,rfl,y1,y2⟩:=HRS.o k au;have di:b<w.heap.size:=World.block_lt_of_cell? _ _ y1;have mu:=Aa hw y1;have ml:=Aa hw y2;have jq:Hd ((sx ss k).name=t->Bl t (ss.take (k+1))=Bl t (ss.take k)):=fltS_no au;have R6:Hd ((sx ss k).name≠t->Bl t (ss.take (k+1))=Bl t (ss.take k)++[sx ss k]):=fltS_yes au;have gz:(Bl t (ss.take k)).length<=300:=zo (fltS_take t ss k hk);obtain⟨s,es⟩:=Aj (sx ss k);rw[es]at mu ml jq R6;clear es y1 y2;have gi:(k:Int)<(ss.length:Int):=qg;have fe:(0:Int)<=(k:Int):=qg
   by_cases nh:s.name=t
   ·have jj:=Eu nh;have dp:Hd (Bl t (ss.take (k+1))=Bl t (ss.take k)):=jq.o nh;clear nh jq R6;exact qjp
   ·have jj:=Fx nh;have Y1:Hd (Bl t (ss.take (k+1))=Bl t (ss.take k)++[s]):=R6.o nh;clear nh jq R6;obtain⟨AM,eL⟩:=Aj (Bl t (ss.take k));rw[eL]at Y1 HW gz;clear eL;obtain⟨ys,mz,hfy⟩:=HW.o.s;have mw:Hd (wr.ownsRow (P+1) 110 2 v1 AM.length ys):=mz;have R4:Hd (Ip AM AM.length ys):=hfy;have dP:=HW.o.cell.1;clear mz hfy;go_wp2_with fail;refine Lt.begin 10 (λw'=>w'.cell? ⟨P,0,N⟩=M v1/\w'.cell? ⟨w.heap.size,0,N⟩=M (J (M ⟨b,off,N⟩) ss.length c1)/\w'.cell? ⟨b,off+k*2,N⟩=M (S s.name)/\w'.cell? ⟨b,off+k*2+1,N⟩=M (S s.text)) qk ?_;have aw:wr.drew.cell? ⟨P,0,N⟩=M v1/\wr.drew.cell? ⟨w.heap.size,0,N⟩=M (J (M ⟨b,off,N⟩) ss.length c1)/\wr.drew.cell? ⟨b,off+k*2,N⟩=M (S s.name)/\wr.drew.cell? ⟨b,off+k*2+1,N⟩=M (S s.text):=qu;change K 0 _
    iterate 7
     refine Lt.ti (v:=?_) aw ?_ ?_;rotate_left 1
     ·exact qcl
     simp only[gX]
    obtain⟨w6,ew6⟩:=Aj wr.drew;(have bv:Bw wr w6:=by rw[<- ew6];exact(Below.refl _ _).drew);rw[ew6]at aw ⊢;clear ew6;refine Lt.sp (i:=7) (λK hK=>?_);go_simp;refine hK.out _ _ (λ_=>⟨Bn aw.1,Bn aw.2.1,Bn aw.2.2.1,Bn aw.2.2.2⟩) (λfw=>?_);replace fw:=fw qh;clear hK K aw;refine Lt.sp (i:=8) (λK hK=>?_);refine Qy rfl qo (P+1) v1 _ ys qo ((Ae mw.o bv).alloc _) w6.heap.size s.name s.text qo (Am _ _) (by have:=bv.size;simp;omega) gz ?_;intro g' ai w7 bw ae;have J1:=bv.size
    have KC:∀(p:Addr)(u:Z),p.block<=P->World.cell? (w6.alloc _) p=M u->w7.cell? p=M u:=λp u hp h=>by
     exact qkf
    have x0:=KC ⟨P,0,N⟩ _ (Nat.le_refl _) fw.1;have x1:=KC ⟨w.heap.size,0,N⟩ _ (by show w.heap.size<=P;omega) fw.2.1;have x2:=KC _ _ (by show b<=P;omega) fw.2.2.1;have x3:=KC _ _ (by show b<=P;omega) fw.2.2.2;have ou:Hd (WS (w7.setCell ⟨P,0,N⟩ (J (p_ g') (AM.length+1) ai)) P (J (p_ g') (AM.length+1) ai) nS (AM++[s]) []):=WS.putS (HW.o.bl (bv.alloc bv.size _)) ((Ae mw.o bv).alloc _) R4.o ae bw;have uq:Below P w5 w7:=((bu.trans (bv.mono qg)).alloc qg _).grown ae qj (λm hm=>by have:=(mw.o.lt m hm).1;omega);(have T4:P+1<=w7.heap.size:=by have h2:=ae.size;simp at h2;omega);(have fz:w7.frozen? ⟨P,0,N⟩=false:=by rw[ae.frozen_far ⟨P,0,N⟩ qj (λe=>by have h:=(mw.o.lt _ e.symm).1;exact absurd h (Nat.not_succ_le_self _))];exact fH (by rw[Lib.alloc_old _ _ _ qg];exact(HW.o.bl bv).blk) 0);refine hK.out _ _ (λ_=>⟨x0,x1,x2,x3⟩) (λiy=>?_);replace iy:=iy qh;clear hK K fw ae bw KC;simp only[gX];refine Lt.ti (i:=9) (v:=?_) iy ?_ ?_;rotate_left 1
    ·exact qcl
    simp only[gX];refine Lt.sp (i:=10) (λK hK=>?_);go_simp;refine hK.out _ _ (λh=>absurd rfl h) (λ_=>?_);clear hK K iy;refine Lt.done qk ?_ _;go_wp2;go_roundw
    case rel=>exact⟨k+1,_,qg,qp,(by rw[Y1.o];exact ou.o),uq.setCell (p:=⟨P,0,N⟩) (Nat.le_refl _) _,by simpa using T4⟩
    case measure=>simp[intOf];omega
  ·have ek:k=ss.length:=qg;subst ek;rw[List.take_of_length_le (Nat.le_refl _)]at HW;have W4:Hd (WS wr P v1 nS (Bl t ss) (Bj t (ts.take 0))):=HW.o;have pg:Hd (Below P w5 wr):=bu;have hsz1:=iz;clear HW bu hw iz HW0 s0 HRS;go_wp2;clear dZ
   go_loopw [7] (λi wr=>∃(k:X)(v2:Z),k<=ts.length/\i=I k/\Hd (WS wr P v1 v2 (Bl t ss) (Bj t (ts.take k)))/\Below P w5 wr/\P+1<=wr.heap.size) (λi _=>ts.length-(intOf i).toNat)
   case atStart=>exact⟨0,_,Nat.zero_le _,rfl,W4.o,pg.o,hsz1⟩
   case round=>
    obtain⟨k,v2,hk,rfl,HW,bu,iz⟩:=hrel;have hw:Bw w wr:=mj.trans (bu.mono qg);have dZ:wr.cell? ⟨w.heap.size,1,N⟩=M (J ta ts.length c2):=by rw[bu.cell (p:=⟨w.heap.size,1,N⟩) qj];exact s1
    by_cases au:k<ts.length
    ·obtain⟨b,off,rfl,y1,x,p,y2,y3⟩:=HRT.o k au;have di:b<w.heap.size:=World.block_lt_of_cell? _ _ y1;have mu:=Aa hw y1;have ml:=Aa hw y2;have uy:∀W':E,Bw wr W'->CopyP x p (tx ts k).code W':=λW' P1=>y3 W' (bt hw P1);have jq:Hd ((tx ts k).name=t->Bj t (ts.take (k+1))=Bj t (ts.take k)):=fltT_no au;have R6:Hd ((tx ts k).name≠t->Bj t (ts.take (k+1))=Bj t (ts.take k)++[tx ts k]):=fltT_yes au;have gz:(Bj t (ts.take k)).length<=300:=zo (fltT_take t ts k hk);obtain⟨s,es⟩:=Aj (tx ts k);rw[es]at mu ml uy jq R6;clear es y1 y2 y3;have gi:(k:Int)<(ts.length:Int):=qg;have fe:(0:Int)<=(k:Int):=qg
     by_cases nh:s.name=t
     ·have jj:=Eu nh;have dp:Hd (Bj t (ts.take (k+1))=Bj t (ts.take k)):=jq.o nh;clear nh jq R6 uy;exact qjp
     ·have jj:=Fx nh;have Y1:Hd (Bj t (ts.take (k+1))=Bj t (ts.take k)++[s]):=R6.o nh;clear nh jq R6;obtain⟨AM,eL⟩:=Aj (Bj t (ts.take k));rw[eL]at Y1 HW gz;clear eL;obtain⟨ys,cv,mz,vm⟩:=HW.o.t;have mw:Hd (wr.ownsRow (P+1) 113 2 v2 AM.length ys):=mz;have M0:Hd (Ed wr (P+1) AM AM.length ys cv):=vm;have dP:=HW.o.cell.2;have I0:Hd (∀W':E,Bw wr W'->Calls prog 66 #[G #[J x s.code.length p]] W' λe w'=>Bw W' w'/\∃g cp,e=H (G #[J (p_ g) s.code.length cp])/\w'.ownsRow W'.heap.size 103 3 (J (p_ g) s.code.length cp) s.code.length (Cy s.code)):=uy;clear mz vm uy;go_wp2_with fail;refine Lt.begin 19 (λw'=>w'.cell? ⟨P,1,N⟩=M v2/\w'.cell? ⟨w.heap.size,1,N⟩=M (J (M ⟨b,off,N⟩) ts.length c2)/\w'.cell? ⟨b,off+k*2,N⟩=M (S s.name)/\w'.cell? ⟨b,off+k*2+1,N⟩=M (J x s.code.length p)) qk ?_;have aw:wr.drew.cell? ⟨P,1,N⟩=M v2/\wr.drew.cell? ⟨w.heap.size,1,N⟩=M (J (M ⟨b,off,N⟩) ts.length c2)/\wr.drew.cell? ⟨b,off+k*2,N⟩=M (S s.name)/\wr.drew.cell? ⟨b,off+k*2+1,N⟩=M (J x s.code.length p):=qu;change K 0 _
      iterate 14
       refine Lt.ti (v:=?_) aw ?_ ?_;rotate_left 1
       ·exact qcl
       simp only[gX]
      refine Lt.sp (i:=14) (λK hK=>?_);go_simp;refine(I0.o _ ((Below.refl _ _).drew)).mono ?_;rintro e w6 ⟨cj,gc,cpc,rfl,zz⟩;have bv:Bw wr w6:=(Below.drew (Below.refl _ _)).trans (cj.mono qi);have t7:Hd (w6.ownsRow wr.heap.size 103 3 (J (p_ gc) s.code.length cpc) s.code.length (Cy s.code)):=Al zz qi;refine hK.out _ _ (λ_=>⟨Aa bv dP,Aa bv dZ,Aa bv mu,Aa bv ml⟩) (λia=>?_);replace ia:=ia qh;clear hK K aw cj zz;refine Lt.ti (i:=15) (v:=?_) ia ?_ ?_;rotate_left 1
      ·exact qcl
      simp only[gX];refine Lt.sp (i:=16) (λK hK=>?_);go_simp;refine hK.out _ _ (λ_=>⟨Bn ia.1,Bn ia.2.1,Bn ia.2.2.1,Bn ia.2.2.2⟩) (λfw=>?_);replace fw:=fw qh;clear hK K ia;refine Lt.sp (i:=17) (λK hK=>?_);refine Ls rfl qo (P+1) v2 _ ys qo ((Ae mw.o bv).alloc _) w6.heap.size s.name (J (p_ gc) s.code.length cpc) rfl qo (Am _ _) (by have:=bv.size;simp;omega) gz ?_;intro g' ai w7 bw ae;have J1:=bv.size
      have KC:∀(p:Addr)(u:Z),p.block<=P->World.cell? (w6.alloc _) p=M u->w7.cell? p=M u:=λp u hp h=>by
       exact qkf
      have x0:=KC ⟨P,1,N⟩ _ (Nat.le_refl _) fw.1;have x1:=KC ⟨w.heap.size,1,N⟩ _ (by show w.heap.size<=P;omega) fw.2.1;have x2:=KC _ _ (by show b<=P;omega) fw.2.2.1;have x3:=KC _ _ (by show b<=P;omega) fw.2.2.2;have ou:Hd (WS (w7.setCell ⟨P,1,N⟩ (J (p_ g') (AM.length+1) ai)) P v1 (J (p_ g') (AM.length+1) ai) (Bl t ss) (AM++[s])):=WS.putT HW.o (bv.alloc qg _) iz mw.o M0.o (t7.o.alloc _) (Ez _) ae bw;have uq:Below P w5 w7:=((bu.trans (bv.mono qg)).alloc qg _).grown ae qj (λm hm=>by have:=(mw.o.lt m hm).1;omega);(have T4:P+1<=w7.heap.size:=by have h2:=ae.size;simp at h2;omega);(have fz:w7.frozen? ⟨P,1,N⟩=false:=by rw[ae.frozen_far ⟨P,1,N⟩ qj (λe=>by have h:=(mw.o.lt _ e.symm).1;exact absurd h (Nat.not_succ_le_self _))];exact fH (by rw[Lib.alloc_old _ _ _ qg];exact(HW.o.bl bv).blk) 1);refine hK.out _ _ (λ_=>⟨x0,x1,x2,x3⟩) (λiy=>?_);replace iy:=iy qh;clear hK K fw ae bw KC;simp only[gX];refine Lt.ti (i:=18) (v:=?_) iy ?_ ?_;rotate_left 1
      ·exact qcl
      simp only[gX];refine Lt.sp (i:=19) (λK hK=>?_);go_simp;refine hK.out _ _ (λh=>absurd rfl h) (λ_=>?_);clear hK K iy;refine Lt.done qk ?_ _;go_wp2;go_roundw
      case rel=>exact⟨k+1,_,qg,qp,(by rw[Y1.o];exact ou.o),uq.setCell (p:=⟨P,1,N⟩) (Nat.le_refl _) _,by simpa using T4⟩
      case measure=>simp[intOf];omega
    ·have ek:k=ts.length:=qg;subst ek;rw[List.take_of_length_le (Nat.le_refl _)]at HW;have kbr:wr.heap[w.heap.size+1]?=M (O #[nS,nS] 44 (0,0)):=qfv;obtain⟨r0,r1⟩:=ck2 kbr;have fr:=fZ kbr;obtain⟨d0,d1⟩:=HW.o.cell;obtain⟨o1,o2⟩:=HW.o.own (lo:=P+1) (hi:=wr.heap.size) (Nat.le_refl _) (Nat.le_refl _);have fc:Hd (Dm wr (P+1) wr.heap.size v1 (Bl t ss)):=o1;have oq:Hd (Ec wr (P+1) wr.heap.size v2 (Bj t ts)):=o2;obtain⟨a1,p1,rfl,_⟩:=o1.sl;obtain⟨a2,p2,rfl,_⟩:=o2.sl;have hR:w.heap.size<=w.heap.size+1:=qg;clear kbr bu o1 o2 HW W4 pg;go_wp2;refine bR (v:=G #[J a1 (Bl t ss).length p1,J a2 (Bj t ts).length p2]) (by simp[results,results89,go_sem,r0,r1]) rfl ⟨(hw.setCell (p:=⟨w.heap.size+1,0,N⟩) hR _).setCell (p:=⟨w.heap.size+1,1,N⟩) hR _,_,_,rfl,?_,?_⟩
     ·exact((fc.o.set qg _).set qg _).wide qg qi
     ·exact((oq.o.set qg _).set qg _).wide qg qi
open Go.RowKit
set_option linter.unusedVariables false
open Go.RowKit
set_option linter.unusedVariables false
def Eb(l:L S2):L Z:=l.flatMap λs=>[S s.name,S s.text]
theorem Kz(l:L S2):(Eb l).length=l.length*2:=by
 induction l with
 | nil=>rfl
 | cons s l ih=>simp[Eb]at ih ⊢;omega
theorem Jf(l m:L S2):Eb (l++m)=Eb l++Eb m:=by simp[Eb]
theorem Wj(s:S2):Eb [s]=[S s.name,S s.text]:=rfl
theorem Pn(l:L S2):Ip l l.length (Eb l):=by
 intro i hi
 have e:l=l.take i++(l[i]::l.drop (i+1)):=by rw[<- List.drop_eq_getElem_cons hi,List.take_append_drop]
 have hl:(Eb (l.take i)).length=i*2:=by rw[Kz,List.length_take];omega
 have hs:Eb l=Eb (l.take i)++(S l[i].name::S l[i].text::Eb (l.drop (i+1))):=by
  conv=>lhs;rw[e]
  rw[Jf];rfl
 rw[hs,List.getElem?_append_right qg,List.getElem?_append_right qg,hl,Nat.sub_self,show i*2+1-i*2=1 from qg,Ol hi]
 exact⟨rfl,rfl⟩
open Go.RowKit
set_option linter.unusedVariables false
def Ai(w:E)(b T:X):Prop:=∃cs,w.heap[b]?=M (O cs T (0,0))
theorem Ai.set{w:E}{T c:X}(h:Ai w b T)(u:Z):Ai (w.setCell ⟨c,j,N⟩ u) b T:=by
 obtain⟨cs,h⟩:=h
 by_cases e:b=c
 ·subst e;exact⟨_,by rw[jB h]⟩
 ·exact⟨cs,by rw[hC w ⟨c,j,N⟩ u b e];exact h⟩
theorem Ai.ne{w:E}{T:X}(h:Ai w b T)(ho:w.ownsRow B e sz v n xs)(aq:T≠e):v.ownBlock≠M b:=by
 obtain⟨cs,h⟩:=h
 intro eb
 rcases ho.2 with⟨rfl,_⟩|⟨g,cap,cur,rfl,hg,hh,_⟩
 ·simp[Value.ownBlock]at eb
 ·simp only[Value.ownBlock,Option.some.injEq]at eb;rw[eb,h]at hh;simp at hh;exact aq hh.2
theorem Ak{w:E}{T:X}(ho:w.ownsRow B e sz v n xs)(h:Ai w b T)(aq:T≠e)(u:Z):(w.setCell ⟨b,j,N⟩ u).ownsRow B e sz v n xs:=
 Cc ho λc ec=>hC w ⟨b,j,N⟩ u c (λe'=>h.ne ho aq (by rw[ec,e']))
open Go.RowKit
set_option linter.unusedVariables false
structure TC where
 t:T2
 c:Z
def Jc(l:L TC):L Z:=l.flatMap λa=>[S a.t.name,a.c]
theorem Ml(l:L TC):(Jc l).length=l.length*2:=by
 induction l with
 | nil=>rfl
 | cons s l ih=>simp[Jc]at ih ⊢;omega
theorem Kc(l m:L TC):Jc (l++m)=Jc l++Jc m:=by simp[Jc]
theorem tcV_one(s:TC):Jc [s]=[S s.t.name,s.c]:=rfl
theorem Yp(l:L TC)(i:X)(hi:i<l.length):(Jc l)[i*2]?=M (S l[i].t.name)/\(Jc l)[i*2+1]?=M l[i].c:=by
 have e:l=l.take i++(l[i]::l.drop (i+1)):=by rw[<- List.drop_eq_getElem_cons hi,List.take_append_drop]
 have hl:(Jc (l.take i)).length=i*2:=by rw[Ml,List.length_take];omega
 have hs:Jc l=Jc (l.take i)++(S l[i].t.name::l[i].c::Jc (l.drop (i+1))):=by
  conv=>lhs;rw[e]
  rw[Kc];rfl
 rw[hs,List.getElem?_append_right qg,List.getElem?_append_right qg,hl,Nat.sub_self,show i*2+1-i*2=1 from qg]
 exact⟨rfl,rfl⟩
def ApC(a b:TC):Prop:=∀k,a.c.ownBlock=M k->b.c.ownBlock≠M k
structure Fv (w:E) (lo hi:X) (l:L TC):Prop where
 code:∀a∈l,∃ys,Ck w lo hi 103 3 a.c a.t.code.length ys/\Cf a.t.code a.t.code.length ys
 apart:l.Pairwise ApC
theorem Ec.toC{w:E}{lo:X}{ts:L T2}(h:Ec w lo hi v ts):∃l:L TC,l.map (·.t)=ts/\Ck w lo hi 113 2 v ts.length (Jc l)/\Fv w lo hi l:=by
 obtain⟨xs,cv,h⟩:=h
 obtain⟨l,el⟩:∃l:L TC,l=(List.range ts.length).map (λi=>⟨tx ts i,cv i⟩):=⟨_,rfl⟩
 have hl:l.length=ts.length:=qbv
 have hg:∀i (hi:i<l.length),l[i]=⟨tx ts i,cv i⟩:=λi hi=>by subst el;simp
 have hx:xs=Jc l:=by
  apply List.ext_getElem?;intro j
  rcases Nat.lt_or_ge j (ts.length*2)with hj|hj
  ·obtain⟨a1,a2⟩:=h.fil (j / 2) qg;obtain⟨b1,b2⟩:=Yp l (j / 2) qg;rw[hg]at b1 b2
   rcases Nat.mod_two_eq_zero_or_one j with hm|hm
   ·rw[show j=j / 2*2 from qg,a1,b1]
   ·rw[show j=j / 2*2+1 from qg,a2,b2]
  ·rw[List.getElem?_eq_none (by rw[h.row.own.1];omega),List.getElem?_eq_none (by rw[Ml];omega)]
 refine⟨l,?_,by rw[<- hx];exact h.row,λa ha=>?_,?_⟩
 ·apply List.ext_getElem
  ·simp[hl]
  ·intro i h1 h2;rw[List.getElem_map,hg];exact Mk h2
 ·obtain⟨i,hi,e⟩:=List.getElem_of_mem ha;rw[hg]at e;subst e;exact h.code i qg
 ·rw[List.pairwise_iff_getElem];intro i j hi hj l7;rw[hg,hg];exact h.apart i j l7 qg
open Go.RowKit Go.Deep
set_option linter.unusedVariables false
open Go.RowKit
set_option linter.unusedVariables false
def cx(l:L TC)(i:X):TC:=l.getD i ⟨⟨ByteArray.empty,[]⟩,nS⟩
theorem Mu{l:L TC}(h:k<l.length):cx l k=l[k]:=by simp[cx,gG,h]
theorem Jv{w:World}{B e sz n:Nat}{v:Value}{xs:List Value}(h:w.ownsRow B e sz v n xs)(aq:v≠.slice none 0 0):∃g cp,v=.slice (some ⟨g,0,none⟩) n cp:=by
 rcases h.2 with⟨q,_⟩|⟨g,cap,cur,q,_⟩
 ·exact absurd q aq
 ·exact⟨g,cap,q⟩
end Go.Proofs.YtoihflimijabjaaGreatDoor
