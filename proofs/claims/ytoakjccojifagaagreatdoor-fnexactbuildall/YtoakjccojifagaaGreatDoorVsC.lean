import Derived.Test.YtoakjccojifagaaGreatDoorEdD
import Derived.Test.YtoakjccojifagaaGreatDoorTNPlainS
import Derived.Test.YtoakjccojifagaaGreatDoorTNStepJ
namespace Go.Proofs.YtoakjccojifagaaGreatDoor
open Value renaming slice->J,string->S,bool->F,agg->G
open Option renaming some->M,none->N
open Obj renaming cells->O
open Go renaming Value->Z,World->E
open Ending renaming returned->H
open _root_ renaming List->L,Nat->X
set_option maxHeartbeats 8000000
set_option maxRecDepth 100000
open _root_.Go.Proofs.Tryz Go.RowKit Go.Deep
set_option linter.unusedVariables false
set_option linter.unusedSimpArgs false
variable {w W W' w':E} {b T i1 B cap cp k kx cx B' lo hi lo' hi' j off:X} {v0 v1 v2 v3 sv v u0 u1 u2:Z} {pl st x0 x2 x3 x5:Int} {tt x6 x8:By} {xs:L Z} {is:L I3} {s:St} {a ax:Option Addr} {ss ts:L By} {ys:L R3} {x4 x7 x9:Bool} {rs:L T3} {cv lv:X→Z}
theorem Mi{v4 v5 v6 v7 v8 v9:Z}{T:TypeId}(h:w.heap[b]?=M (O #[v0,v1,v2,v3,v4,v5,v6,v7,v8,v9] T (0,0))):w.cell? ⟨b,0,N⟩=M v0/\w.cell? ⟨b,1,N⟩=M v1/\w.cell? ⟨b,2,N⟩=M v2/\w.cell? ⟨b,3,N⟩=M v3/\w.cell? ⟨b,4,N⟩=M v4/\w.cell? ⟨b,5,N⟩=M v5/\w.cell? ⟨b,6,N⟩=M v6/\w.cell? ⟨b,7,N⟩=M v7/\w.cell? ⟨b,8,N⟩=M v8/\w.cell? ⟨b,9,N⟩=M v9:=by
 exact qmt
abbrev rV(p:Int)(sv:Z)(s:Int)(l:X):Obj:=O #[I p,sv,I s,I l,F false,I 0,ze,F false,ze,F false] 223 (0,0)
structure Sd (w W:E) (i1:X) (pl:Int) (sv:Z) (st:Int) (lk:X) (o:X) (tt:By) (n:X):Prop where
 b:Bw w W
 r:W.heap[w.heap.size+1]?=M (rV pl sv st lk)
 z:W.heap[w.heap.size+1+1]?=M zR
 i:W.heap[i1]?=M (O #[I o,S tt,I n] 139 (0,0))
theorem Sd.bl{lk o:X}{n:X}(h:Sd w W i1 pl sv st lk o tt n)(hb:Bw W W'):Sd w W' i1 pl sv st lk o tt n:=⟨bN h.b hb,Ph hb h.r,Ph hb h.z,Ph hb h.i⟩
theorem Sd.at{lk o:X}{n:X}(h:Sd w W i1 pl sv st lk o tt n)(hne:i1≠w.heap.size+1)(p:Int):Sd w (W.setCell ⟨w.heap.size+1,0,N⟩ (I p)) i1 p sv st lk o tt n:=
 ⟨h.b.setCell (p:=⟨w.heap.size+1,0,N⟩) (Nat.le_succ _) _,by rw[jB h.r];rfl,by rw[Dj W ⟨w.heap.size+1,0,N⟩ _ _ qg];exact h.z,by rw[Dj W ⟨w.heap.size+1,0,N⟩ _ _ hne];exact h.i⟩
theorem Sd.grown{lk o:X}{n:X}{x:Obj}{m:X}(h:Sd w W i1 pl sv st lk o tt n)(ho:(W.alloc x).ownsRow B 9 1 v m xs)(hB:w.heap.size<=B)(hg:(W.alloc x).grownBy W' v.ownBlock):Sd w W' i1 pl sv st lk o tt n:=by
 have HM:∀(b':X)(cs':Array Z)(T':X),T'≠9->W.heap[b']?=M (O cs' T' (0,0))->M b'≠v.ownBlock:=λb' cs' T' L7 H8=>Hn L7 qbf ho
 have hs:=h.b.size
 exact⟨(h.b.alloc hs _).grown hg qh (λk hk=>Nat.le_trans hB (ho.lt k hk).1),Fr hg HM _ _ 223 qd h.r,Fr hg HM _ _ 223 qd h.z,Fr hg HM _ _ 139 qd h.i⟩
theorem Sd.c{lk o:X}{n:X}(h:Sd w W i1 pl sv st lk o tt n):W.cell? ⟨i1,0,N⟩=M (I o)/\W.cell? ⟨i1,1,N⟩=M (S tt)/\W.cell? ⟨i1,2,N⟩=M (I n):=by
 refine⟨?_,?_,?_⟩<;>rw[cH h.i]<;>rfl
theorem out_tk{o:X}(jb:1<=o)(ho:o<=11)(tt:By)(n:X)(x y:By):Da o tt n (if 0<Aw o then x else ⟨#[]⟩) (if 1<Aw o then y else ⟨#[]⟩)=Da o tt n x y:=by
 exact qfg
theorem next_tk{o:X}(jb:1<=o)(ho:o<=11)(n p:X)(x:By):Ey o n p (if 0<Aw o then x else ⟨#[]⟩)=Ey o n p x:=by
 exact qfg
theorem puts_pos{o:X}(ho:o<=11)(h:0<Kn o):o<=8:=by
 rcases(show o<=8\/o=9\/o=10\/o=11 from qb)with h|rfl|rfl|rfl
 ·exact h
 all_goals exact absurd h qd
theorem stB{w1:E}{o n:X}(af:Below (((w.alloc (O #[J a is.length cap] 92)).alloc (rV s.pl sv s.steps s.looks)).alloc zR).heap.size (((w.alloc (O #[J a is.length cap] 92)).alloc (rV s.pl sv s.steps s.looks)).alloc zR) w1)(du:Ch w a is)(dy:s.pl<is.length)(EI:Hd (ix is s.pl=⟨o,tt,n⟩)):∃(W1:E)(b off:X),w1.setCell ⟨w.heap.size+1,2,N⟩ (I ((s.steps:Int)+1))=W1/\a=M ⟨b,off,N⟩/\w1.heap[w.heap.size+1]?=M (rV s.pl sv s.steps s.looks)/\w1.cell? ⟨w.heap.size,0,N⟩=M (J a is.length cap)/\W1.heap.size=w1.heap.size/\W1.cell? ⟨b,off+s.pl*3,N⟩=M (I o)/\W1.cell? ⟨b,off+s.pl*3+1,N⟩=M (S tt)/\W1.cell? ⟨b,off+s.pl*3+2,N⟩=M (I n)/\W1.cell? ⟨w.heap.size,0,N⟩=M (J a is.length cap)/\W1.heap[w.heap.size+1]?=M (rV s.pl sv ((s.steps:Int)+1) s.looks)/\Bw w W1/\Sd w (W1.alloc (O #[I o,S tt,I n] 139)) w1.heap.size s.pl sv ((s.steps:Int)+1) s.looks o tt n:=by
 obtain⟨ak,hz,hr,hc⟩:=op3 w a is.length cap s.pl sv s.steps s.looks
 have bj:Bw w w1:=bN ak af
 have bm:=Ph af hz
 have my:=Ph af hr
 have hc1:=Ph af hc
 obtain⟨W1,A0⟩:=Aj (w1.setCell ⟨w.heap.size+1,2,N⟩ (I ((s.steps:Int)+1)))
 have yp:Bw w W1:=by rw[<- A0];exact bj.setCell (p:=⟨w.heap.size+1,2,N⟩) (Nat.le_succ _) _
 have hzW:W1.heap[w.heap.size+1+1]?=M zR:=by rw[<- A0,Dj w1 ⟨w.heap.size+1,2,N⟩ _ _ qg];exact bm
 have hrW:W1.heap[w.heap.size+1]?=M (rV s.pl sv ((s.steps:Int)+1) s.looks):=by rw[<- A0,jB my];rfl
 have hcW:W1.heap[w.heap.size]?=M (O #[J a is.length cap] 92 (0,0)):=by rw[<- A0,Dj w1 ⟨w.heap.size+1,2,N⟩ _ _ qg];exact hc1
 have ww:W1.heap.size=w1.heap.size:=by rw[<- A0];simp[go_sem]
 obtain⟨b,off,rfl,e1,e2,e3⟩:=(du.bl yp) s.pl dy
 rw[EI.o]at e1 e2 e3
 exact⟨W1,b,off,A0,rfl,my,by rw[cH hc1];rfl,ww,e1,e2,e3,by rw[cH hcW];rfl,hrW,yp,yp.alloc yp.size _,by rw[Lib.alloc_old _ _ _ (Ag hrW)];exact hrW,by rw[Lib.alloc_old _ _ _ (Ag hzW)];exact hzW,by rw[<- ww];exact Bg _ _⟩
theorem Qy(h:Qp B w a cp ss):(a=N/\cp=0/\ss=[])\/∃g,a=p_ g/\ss.length<=cp:=by
 rcases h.2 with⟨hv,h0⟩|⟨g,cap,cur,hv,_,_,hc,_⟩
 ·simp only[Value.slice.injEq]at hv;exact Or.inl ⟨hv.1,hv.2.2,List.length_eq_zero_iff.mp h0⟩
 ·simp only[Value.slice.injEq]at hv;exact Or.inr ⟨g,hv.1,qb⟩
theorem own_at{g:X}(h:Qp B w (p_ g) cp ss)(i:X)(hi:i<ss.length):w.cell? ⟨g,i,N⟩=M (S (ss.getD i ByteArray.empty)):=by
 rw[World.ownsRow.cellAt h i qb]
 unfold Av
 rw[List.getElem?_map,Jr hi,gG,Jr hi]
 rfl
theorem Qp.belowN(h:Qp B w a cp ss)(hb:Bw w w'):Qp B w' a cp ss:=Ac h hb
theorem step_in(a:Option Addr)(cap:X)(is:L I3)(s:St)(sa:Option Addr)(cp:X)(ra:Option Addr)(rcap:X)(ys:L R3)(w:E)(B0:X)(hv:Ao is=true)(hs:Ef is s)(du:Ch w a is)(dy:s.pl<is.length)(f9:s.steps≠2000)(gh:Qp B0 w sa cp s.stack)(o:X)(tt:By)(n:X)(ei:ix is s.pl=⟨o,tt,n⟩)(jb:1<=o)(ho:o<=15)(hn:n<=2000)(O0:ys.length<=200)(B3:Qn w ra ys):Calls prog 146 #[G #[J a is.length cap],Dw s.pl (J sa s.stack.length cp) s.steps s.looks,J ra ys.length rcap] w λe w'=>Bw w w'/\Cg w.heap.size is ys s w' e:=by
 have EI:Hd (ix is s.pl=⟨o,tt,n⟩):=ei
 clear ei
 have hplI:(s.pl:Int)<(is.length:Int):=qb
 have hst3:((s.steps:Int) == 2000)=false:=qh
 have dr:=Eb hv
 have D8:=hs.pl
 have cw:=hs.steps
 have Eq:=hs.len
 obtain⟨q,eq⟩:=Aj (Ep s.pl)
 have EQ:Hd (Ep s.pl=q):=eq
 have HD:Hd _:=dcH eq qb
 clear eq
 obtain⟨htk2,hpt2⟩:=tp_le o ho
 have HT0:Hd _:=tkH jb ho
 have hOe:=λh=>out_tk jb (h:o<=11) tt n (Bu s.stack) (Jh s.stack)
 have wh:=λh=>next_tk jb (h:o<=11) n s.pl (Bu s.stack)
 have hPp:o<=11->0<Kn o->o<=8:=puts_pos
 have po:=λ(h:o<=11) a b=>puts_len o jb h tt n a b
 have hTm:∀ {l:L By},l.length<=50->¬ l.length<Aw o->50<l.length-Aw o+Kn o->o<=11:=Ua jb ho
 have h1t:12<=o->Aw o=1:=λh=>by rcases(show o=12\/o=13\/o=14\/o=15 from qb)with rfl|rfl|rfl|rfl<;>rfl
 have hBad:=λ(hf:¬ s.stack.length<Aw o) (hm:50<s.stack.length-Aw o+Kn o)=>(Ia dy f9 EI.o).trans (Ic hf (Ua jb ho hs.len hf hm) (Or.inl (by rw[puts_len o jb (Ua jb ho hs.len hf hm)];unfold Bo;rw[List.length_take];omega)))
 have hFew:=λ(hf:s.stack.length<Aw o)=>(Ia dy f9 EI.o).trans (Nt hf)
 obtain⟨tk,etk⟩:=Aj (Aw o)
 obtain⟨pt,ept⟩:=Aj (Kn o)
 rw[etk]at htk2 HT0 hOe wh h1t hBad hFew
 rw[ept]at hpt2 HT0 hPp hBad
 have HBD:Hd (s.stack.length<tk\/(¬ s.stack.length<tk/\50<s.stack.length-tk+pt)->Ce is s=.over 2 q (s.steps+1)):=λh=>by rw[<- EQ.o];exact h.elim hFew (λh=>hBad h.1 h.2)
 have ET:Hd (Aw o=tk):=etk
 have H1T:Hd (12<=o->tk=1):=h1t
 clear hBad hFew hTm etk h1t
 unfold Dw
 go_enter func146,ntmps146
 go_wp2_with fail
 refine(HD.o _).mono ?_
 rintro e w1 ⟨rfl,af⟩
 obtain⟨W1,b,off,A0,rfl,my,x0,ww,e1,e2,e3,xW,hrW,yp,HS⟩:=stB af du dy EI
 clear af HD
 obtain⟨W2,eW2⟩:=Aj (W1.alloc (O #[I o,S tt,I n] 139))
 rw[eW2]at HS
 obtain⟨r0,r1,r2,r3,r4,r5,r6,r7,r8,r9⟩:=Mi my
 obtain⟨y0,y1,y2,y3,y4,y5,y6,y7,y8,y9⟩:=Mi hrW
 have fr:=fZ my
 obtain⟨b0,b1,b2,b3,b4,b5,b6,b7,b8,b9⟩:=Mi HS.r
 obtain⟨i0,i1,i2⟩:=HS.c
 have ag:Bw w W2:=HS.b
 have HSK:Hd (Qp B0 W2 sa cp s.stack):=gh.belowN ag
 have cu:Hd _:=HS
 have uf:w.heap.size<=w.heap.size+1+1:=qb
 clear HS hrW my gh
 go_upto_region 9 with(first|(go_at_call 165;refine(HT0.o _).mono ?_;rintro e w9 ⟨rfl,rfl⟩))
 by_cases te:s.stack.length<tk\/(¬ s.stack.length<tk/\50<s.stack.length-tk+pt)
 ·have fc:=Ad (HBD.o te)
  rcases te with h|⟨h,h'⟩
  case inl=>
   have hfI:(s.stack.length:Int)<(tk:Int):=qb;clear h;exact qia
  case inr=>
   have hfI:(tk:Int)<=(s.stack.length:Int):=qb;have D9:50<(s.stack.length:Int)-(tk:Int)+(pt:Int):=qb;clear h h';exact qia
 obtain⟨m,em⟩:∃m,s.stack.length=m+tk:=⟨s.stack.length-tk,qb⟩
 have hmany:m+pt<=50:=qb
 obtain⟨A,eA⟩:=Aj ((if 0<tk then Bu s.stack else ⟨#[]⟩))
 obtain⟨Bv,eBv⟩:=Aj ((if 1<tk then Jh s.stack else ⟨#[]⟩))
 have hA:A.size<=2000:=by
  rw[<- eA];split
  ·exact top_le hs qb
  ·decide
 have hBv:Bv.size<=2000:=by
  rw[<- eBv];split
  ·exact sub_le hs qb
  ·decide
 rw[eA,eBv]at hOe
 rw[eA]at wh
 have HP:Hd (o<=11->0<pt->∀W:E,Calls prog 167 #[G #[I (o:Int),S tt,I n],S A,S Bv] W λe w'=>Bw W w'/\Mk w' e (Da o tt n A Bv)):=λh h' W=>plain_any tt n A Bv W o hA hBv hn jb (hPp h h')
 have hOl:=λh=>po h A Bv
 obtain⟨outs,eO⟩:=Aj (Da o tt n A Bv)
 obtain⟨np,eN⟩:=Aj (Ey o n s.pl A)
 rw[ept,eO]at hOl
 rw[eO]at hOe HP
 rw[eN]at wh
 have OL:Hd (o<=11->outs.length=pt):=hOl
 have NE:Hd (Ey o n s.pl A=np):=eN
 have NT:Hd _:=wh
 have hfI:(tk:Int)<=(s.stack.length:Int):=qb
 have D9:(s.stack.length:Int)-(tk:Int)+(pt:Int)<=50:=qb
 have EM:Hd (s.stack.length=m+tk):=em
 have EA:Hd _:=eA
 have EBv:Hd _:=eBv
 have OE:Hd _:=hOe
 clear po hPp eO hOl eN wh em eA eBv hOe ept te HBD
 go_upto_if 68 with fail
 go_cut [11] (λx wx=>x=S A/\wx=W2)
 case first=>
  by_cases h0I:(0:Int)<(tk:Int)
  ·rcases Qy HSK.o with⟨_,_,h⟩|⟨d,rfl,hcp⟩
   ·have:=EM.o;rw[h]at this;simp at this;omega
   ·obtain⟨l,el⟩:∃l,s.stack.length=l+1:=⟨s.stack.length-1,qb⟩;have hk:=own_at HSK.o l qb;(have eT:Hd (s.stack.getD l ByteArray.empty=A):=by show _=_;rw[<- EA.o,if_pos qb];unfold Bu;rw[el,Nat.add_sub_cancel]);exact qkp
  ·have hA0:(⟨#[]⟩:By)=A:=by rw[<- EA.o,if_neg qb]
   exact qli
 case rest=>
 obtain⟨rfl,rfl⟩:=hcut
 go_upto_if 78 with fail
 go_cut [12] (λx wx=>x=S Bv/\wx=wc)
 case first=>
  by_cases h0I:(1:Int)<(tk:Int)
  ·rcases Qy HSK.o with⟨_,_,h⟩|⟨d,rfl,hcp⟩
   ·have:=EM.o;rw[h]at this;simp at this;omega
   ·obtain⟨l,el⟩:∃l,s.stack.length=l+1+1:=⟨s.stack.length-2,qb⟩;have hk:=own_at HSK.o l qb;(have eT:Hd (s.stack.getD l ByteArray.empty=Bv):=by show _=_;rw[<- EBv.o,if_pos qb];unfold Jh;rw[el];rfl);exact qkp
  ·have hA0:(⟨#[]⟩:By)=Bv:=by rw[<- EBv.o,if_neg qb]
   exact qli
 case rest=>
 obtain⟨rfl,rfl⟩:=hcut
 go_upto_region 17 with fail
 obtain⟨wk,rfl⟩:∃wk,wk=wc:=⟨_,rfl⟩
 obtain⟨k0,hi,bo,J2,J1⟩:=info_parts Tryz.info9b
 have O5:w.heap.size<=wk.heap.size:=ag.size
 have hz1s:w.heap.size+1+1<wk.heap.size:=Ag cu.o.z
 rw[EM.o]at b1
 have hmtI:(m:Int)+(tk:Int)<=50:=zo EM.o
 have dm:(wk.alloc (O #[] 9)).ownsRow wk.heap.size 9 1 (J (p_ wk.heap.size) 0 0) 0 []:=World.ownsRow_lit (base:=wk.heap.size) (e:=9) (size:=1) wk #[] 0 (Nat.le_refl _) qm qg
 go_cut [13] (λx wx=>∃g c:X,x=J (p_ g) m c/\Hd (Sd w wx w1.heap.size s.pl (J sa s.stack.length cp) ((s.steps:Int)+1) s.looks o tt n)/\Hd (wx.ownsRow wk.heap.size 9 1 (J (p_ g) m c) m (Av (s.stack.take m))))
 case first=>
  rcases Qy HSK.o with⟨rfl,rfl,h⟩|⟨d,rfl,hcp⟩
  ·have e0:s.stack.length=0:=by rw[h];rfl
   have hm0:m=0:=zo EM.o;have ht0:tk=0:=zo EM.o;subst hm0;subst ht0;have HW:Hd ((wk.alloc (O #[] 9)).ownsRow wk.heap.size 9 1 (J (p_ wk.heap.size) 0 0) 0 (Av (s.stack.take 0))):=dm;have HSd:=Ad (cu.o.bl ((Below.refl wk.heap.size wk).alloc (Nat.le_refl _) (O #[] 9)));have c1:∀x,(wk.alloc x).cell? ⟨w.heap.size+1,1,N⟩=M nS:=λx=>alK wk _ _ x b1;clear b1 h e0
   go_wp2_with (at_builtin;refine wpList_append_own_none rfl (.tmp 87) (.tmp 95) 22 rfl wk.heap.size 9 k0 1 underlying22 hi _ 0 [] rfl dm rfl ?_)
   go_meet
   case rel=>exact⟨_,_,rfl,HSd,HW⟩
  ·have c1:=λx=>alK wk _ _ x b1;have hcp2:m+tk<=cp:=by rw[<- EM.o];exact hcp
   have l8:∀j u,((s.stack.take m).map Value.string)[j]?=M u->(wk.alloc (O #[] 9)).cell? ((⟨d,0,N⟩:Addr).add j)=M u:=λj u hu=>by
    rw[List.getElem?_map]at hu;have hlm:=EM.o
    have hj:j<m:=by
     rcases Nat.lt_or_ge j m with h|h
     ·exact h
     ·rw[List.getElem?_eq_none qh]at hu;simp at hu
    have gv:=own_at HSK.o j qb;rw[Addr.add_lit,Nat.zero_add,World.cell?_alloc_lt _ _ _ (World.block_lt_of_cell? _ _ gv),gv,<- hu,List.getElem?_take,if_pos hj,gG,Jr (show j<s.stack.length from qb)];rfl
   have hlen2:((s.stack.take m).map Value.string).length=m*1:=by have:=EM.o;simp;omega
   have HN:Hd _:=l8;have HLN:Hd _:=hlen2;clear l8 hlen2 hcp
   go_wp2_with (at_builtin;refine wpList_append_own _ rfl (.tmp 87) (.tmp 95) 22 rfl wk.heap.size 9 k0 ze 1 16 underlying22 hi bo J2 J1 rfl qd _ 0 [] rfl dm ⟨d,0,N⟩ m cp ((s.stack.take m).map .string) rfl HLN.o HN.o (by intro u hu;obtain⟨z,_,rfl⟩:=List.mem_map.mp hu;rfl) qm qb qg ?_;intro v' w2 ba ae dp;obtain⟨g,cpn,rfl,aq⟩:=own_out ba dp;have HSd:=Ad (cu.o.grown dm O5 ae);have HW:=Ad aq;clear ba ae dp aq)
   go_meet
   case rel=>exact⟨_,_,rfl,HSd,HW⟩
 case rest=>
 obtain⟨g,c,rfl,HSd,HW⟩:=hcut
 clear b0 b1 b2 b3 b4 b5 b6 b7 b8 b9 i0 i1 i2 e1 e2 e3 r0 r1 r2 r3 r4 r5 r6 r7 r8 r9 y0 y1 y2 y3 y4 y5 y6 y7 y8 y9 x0 xW fr A0 du eW2 ww yp dm cu HSK
 have hne:w1.heap.size≠w.heap.size+1:=λh=>by have h1:=HSd.o.i;rw[h,HSd.o.r]at h1;cases h1
 have ja:=Ad (HSd.o.at hne ((s.pl:Int)+1))
 have C6:=Ad (Gy ⟨HW.o,_,HSd.o.r⟩ 0 (I ((s.pl:Int)+1))).1
 obtain⟨b0,b1,b2,b3,b4,b5,b6,b7,b8,b9⟩:=Mi HSd.o.r
 have fr:=fZ HSd.o.r
 obtain⟨W5,eW5⟩:=Aj (wc.setCell ⟨w.heap.size+1,0,N⟩ (I ((s.pl:Int)+1)))
 rw[eW5]at ja C6
 obtain⟨i0,i1,i2⟩:=ja.o.c
 have f5:=fZ ja.o.r
 obtain⟨v0,v1,v2,v3,v4,v5,v6,v7,v8,v9⟩:=Mi ja.o.r
 go_upto_block 0 with fail
 go_cut [13] (λx wx=>x=J (p_ g) m c/\o<=11/\Hd (Sd w wx w1.heap.size (np:Int) (J sa s.stack.length cp) ((s.steps:Int)+1) s.looks o tt n)/\Hd (wx.ownsRow wk.heap.size 9 1 (J (p_ g) m c) m (Av (s.stack.take m))))
 case first=>
  have lp:=Ad (ja.o.at hne (n:Int));have V4:=Ad (Gy ⟨C6.o,_,ja.o.r⟩ 0 (I (n:Int))).1;have ht:∀k:X,o≠k->((o:Int) == (k:Int))=false:=λk h=>qh
  rcases(show o<=9\/o=10\/o=11\/o=12\/o=13\/o=14\/o=15 from qb)with h|h|h|h|h|h|h
  ·have up:o<=11:=qb;have ht1:((o:Int) == 11)=false:=qh;have ht0:((o:Int) == 10)=false:=qh;have e:np=s.pl+1:=by rw[<- NE.o];unfold Ey;rw[if_neg qb,if_neg qb]
   have AF:Hd _:=e;clear e;exact qms
  ·have up:o<=11:=qb;have ht0:((o:Int) == 10)=true:=qh;have e:np=n:=by rw[<- NE.o];unfold Ey;rw[if_pos h]
   exact qfl
  ·have up:o<=11:=qb;have ht1:((o:Int) == 11)=true:=qh;have ht0:((o:Int) == 10)=false:=qh
   cases hx1:A.toList.isEmpty with
   | true=>
    (have e:np=n:=by rw[<- NE.o];unfold Ey;rw[if_neg qb,if_pos ⟨h,by simp[Mb,hx1]⟩]);exact qfl
   | false=>
    cases hx2:A.toList == [48] with
    | true=>
     (have e:np=n:=by rw[<- NE.o];unfold Ey;rw[if_neg qb,if_pos ⟨h,by simp[Mb,hx1,hx2]⟩]);exact qfl
    | false=>
     (have e:np=s.pl+1:=by rw[<- NE.o];unfold Ey;rw[if_neg qb,if_neg (by simp[Mb,hx1,hx2])]);have AF:Hd _:=e;clear e h;exact qms
  ·have ht5:=ht 15 qb;have ht2:((o:Int) == 12)=true:=qh;have e1:=H1T.o qb;have hmt:(s.stack.take m).length=m:=by have:=EM.o;rw[List.length_take];omega
   obtain⟨W7,eW7⟩:=Aj (W5.setCell ⟨w.heap.size+1,1,N⟩ (J (p_ g) m c));have hrW7:W7.heap[w.heap.size+1]?=M (rV ((s.pl:Int)+1) (J (p_ g) m c) ((s.steps:Int)+1) s.looks):=by rw[<- eW7,jB ja.o.r];rfl
   have If:Bw w W7:=by rw[<- eW7];exact ja.o.b.setCell (p:=⟨w.heap.size+1,1,N⟩) (Nat.le_succ _) _
   have hz7:W7.heap[w.heap.size+1+1]?=M zR:=by rw[<- eW7,Dj _ ⟨w.heap.size+1,1,N⟩ _ _ qg];exact ja.o.z
   have hi7:W7.heap[w1.heap.size]?=M (O #[I o,S tt,I n] 139 (0,0)):=by rw[<- eW7,Dj _ ⟨w.heap.size+1,1,N⟩ _ _ hne];exact ja.o.i
   have A1:Hd (Sd w W7 w1.heap.size ((s.pl:Int)+1) (J (p_ g) m c) ((s.steps:Int)+1) s.looks o tt n):=⟨If,hrW7,hz7,hi7⟩;have ho7:=(Gy ⟨C6.o,_,ja.o.r⟩ 1 (J (p_ g) m c)).1;rw[eW7]at ho7;have d9:Qp wk.heap.size W7 (p_ g) c (s.stack.take m):=by unfold Qp;rw[hmt];exact ho7
   have hsz7:wk.heap.size<=W7.heap.size:=zo ((ho7.lt g rfl));have hl:=look_step12 wk.heap.size tt n is s (p_ g) c (s.stack.take m) A q ra rcap ys W7 hsz7 hs dy qb f9 (by rw[EI.o,h];rfl) (zo EM.o) (by unfold Bo;rw[EM.o,e1,Nat.add_sub_cancel]) (by rw[<- EA.o,if_pos qb]) EQ.o.symm O0 (B3.bl If) d9 (zo EM.o);unfold Dw at hl;rw[hmt,show((12:Int))=(o:Int) from by rw[h];rfl]at hl;exact qht
  ·have ht5:=ht 15 qb;have ht3:((o:Int) == 13)=true:=qh;have e1:=H1T.o qb;have hmt:(s.stack.take m).length=m:=by have:=EM.o;rw[List.length_take];omega
   obtain⟨W7,eW7⟩:=Aj (W5.setCell ⟨w.heap.size+1,1,N⟩ (J (p_ g) m c));have hrW7:W7.heap[w.heap.size+1]?=M (rV ((s.pl:Int)+1) (J (p_ g) m c) ((s.steps:Int)+1) s.looks):=by rw[<- eW7,jB ja.o.r];rfl
   have If:Bw w W7:=by rw[<- eW7];exact ja.o.b.setCell (p:=⟨w.heap.size+1,1,N⟩) (Nat.le_succ _) _
   have hz7:W7.heap[w.heap.size+1+1]?=M zR:=by rw[<- eW7,Dj _ ⟨w.heap.size+1,1,N⟩ _ _ qg];exact ja.o.z
   have hi7:W7.heap[w1.heap.size]?=M (O #[I o,S tt,I n] 139 (0,0)):=by rw[<- eW7,Dj _ ⟨w.heap.size+1,1,N⟩ _ _ hne];exact ja.o.i
   have A1:Hd (Sd w W7 w1.heap.size ((s.pl:Int)+1) (J (p_ g) m c) ((s.steps:Int)+1) s.looks o tt n):=⟨If,hrW7,hz7,hi7⟩;have ho7:=(Gy ⟨C6.o,_,ja.o.r⟩ 1 (J (p_ g) m c)).1;rw[eW7]at ho7;have d9:Qp wk.heap.size W7 (p_ g) c (s.stack.take m):=by unfold Qp;rw[hmt];exact ho7
   have hsz7:wk.heap.size<=W7.heap.size:=zo ((ho7.lt g rfl));have hl:=look_step13 wk.heap.size tt n is s (p_ g) c (s.stack.take m) A q ra rcap ys W7 hsz7 hs dy qb f9 (by rw[EI.o,h];rfl) (zo EM.o) (by unfold Bo;rw[EM.o,e1,Nat.add_sub_cancel]) (by rw[<- EA.o,if_pos qb]) EQ.o.symm O0 (B3.bl If) d9 (zo EM.o);unfold Dw at hl;rw[hmt,show((13:Int))=(o:Int) from by rw[h];rfl]at hl;exact qht
  ·have ht5:=ht 15 qb;have ht4:((o:Int) == 14)=true:=qh;have e1:=H1T.o qb
   have fc:Hd (Ce is s=.over 1 A (s.steps+1)):=by
    show _=_;rw[<- EA.o,if_pos qb];exact(Ia dy f9 EI.o).trans (Lk (by rw[ET.o];have:=EM.o;omega) h)
   clear e1 h;go_wp2_with fail;have hl:=Fc ((s.pl:Int)+1) sa s.stack.length cp ((s.steps:Int)+1) s.looks 1 A;unfold Dw at hl;refine(hl _).mono ?_;rintro e w4 ⟨rfl,ce⟩;have ie:=Ad (ja.o.bl ce);obtain⟨z0,z1,z2,z3,z4,z5,z6,z7,z8,z9⟩:=Mi ie.o.z;have fz:=fZ ie.o.z;clear hl ce;unfold Ec;go_wp2_with fail;exact bR (v:=Ec ((s.pl:Int)+1) (J sa s.stack.length cp) ((s.steps:Int)+1) s.looks 1 A) qbq rfl ⟨Ld ie.o.b uf,Or.inl ⟨1,A,s.steps+1,fc.o,_,_,_,_,_,rfl⟩⟩
  ·have ht5:((o:Int) == 15)=true:=qh;have e1:=H1T.o qb
   have fc:Hd (Ce is s=.over 0 A (s.steps+1)):=by
    show _=_;rw[<- EA.o,if_pos qb];exact(Ia dy f9 EI.o).trans (Nu (by rw[ET.o];have:=EM.o;omega) h)
   clear e1 h;go_wp2_with fail;have hl:=Fc ((s.pl:Int)+1) sa s.stack.length cp ((s.steps:Int)+1) s.looks 0 A;unfold Dw at hl;refine(hl _).mono ?_;rintro e w4 ⟨rfl,ce⟩;have ie:=Ad (ja.o.bl ce);obtain⟨z0,z1,z2,z3,z4,z5,z6,z7,z8,z9⟩:=Mi ie.o.z;have fz:=fZ ie.o.z;clear hl ce;unfold Ec;go_wp2_with fail;exact bR (v:=Ec ((s.pl:Int)+1) (J sa s.stack.length cp) ((s.steps:Int)+1) s.looks 0 A) qbq rfl ⟨Ld ie.o.b uf,Or.inl ⟨0,A,s.steps+1,fc.o,_,_,_,_,_,rfl⟩⟩
 case rest=>
 obtain⟨rfl,up,A1,HW7⟩:=hcut
 replace OE:=Ad (OE.o up)
 replace OL:=Ad (OL.o up)
 replace NT:=Ad (NT.o up)
 replace HP:=Ad (HP.o up)
 clear b0 b1 b2 b3 b4 b5 b6 b7 b8 b9 i0 i1 i2 v0 v1 v2 v3 v4 v5 v6 v7 v8 v9 f5 fr eW5 ja C6 HSd HW
 obtain⟨wl,rfl⟩:∃wl,wl=wc:=⟨_,rfl⟩
 go_wp2_with fail
 go_loopw [13,14] (λx k wr=>∃(j g c:X),j<=pt/\k=I j/\x=J (p_ g) (m+j) c/\Hd (Sd w wr w1.heap.size (np:Int) (J sa s.stack.length cp) ((s.steps:Int)+1) s.looks o tt n)/\Hd (wr.ownsRow wk.heap.size 9 1 (J (p_ g) (m+j) c) (m+j) (Av (s.stack.take m++outs.take j)))/\Hd (∀i,i<j->(outs.getD i ByteArray.empty).size<=2000)) (λ_ k _=>pt-(intOf k).toNat)
 case atStart=>exact⟨0,g,c,Nat.zero_le _,rfl,rfl,A1,by rw[List.take_zero,List.append_nil];exact HW7,λi hi=>absurd hi (Nat.not_lt_zero _)⟩
 case round=>
  obtain⟨j,g',c',hj,rfl,rfl,HS,HW,HX⟩:=hrel;clear A1 HW7
  by_cases aj:(j:Int)<(pt:Int)
  ·obtain⟨i0,i1,i2⟩:=HS.o.c;go_wp2_with fail;refine(HP.o qb _).mono ?_;rintro e w3 ⟨au,g3,c3,rfl,hx⟩;have hxj:=hx j (by rw[OL.o];omega);rw[OL.o];obtain⟨x,ex⟩:=Aj (outs.getD j ByteArray.empty);rw[ex]at hxj;have EX:Hd (outs.getD j ByteArray.empty=x):=ex;have jj:=Ad (HS.o.bl au);have HW3:=Ad (Ac HW.o au);clear i0 i1 i2 hx au HS HW ex
   by_cases cz:(x.size:Int)<=2000
   ·have hown6:=HW3.o.alloc (O #[S x] 9);have hw3:wk.heap.size<=w3.heap.size:=zo (HW3.o.lt g' rfl)
    go_wp2_with (at_builtin;refine wpList_append_own _ rfl (.tmp 158) (.tmp 163) 22 rfl wk.heap.size 9 k0 ze 1 16 underlying22 hi bo J2 J1 rfl qd _ _ _ rfl hown6 ⟨w3.heap.size,0,N⟩ 1 1 [S x] rfl rfl ?_ qaf qm qb qh ?_;(focus(have:=cell_one_new w3 (S x) 9;simpa using this));intro v6 w6 d9 hgrow6 hnil6;obtain⟨g6,c6,rfl,hown8⟩:=own_add d9;have lp:=Ad (jj.o.grown hown6 O5 hgrow6);have V4:=Ad hown8;clear hnil6 d9 hgrow6 hown8)
    have hpI:(j:Int)+1<=2:=qb;go_roundw
    case rel=>
     refine⟨j+1,g6,c6,qb,qj,rfl,lp,?_,λi hi=>?_⟩
     ·(have hjl:j<outs.length:=by rw[OL.o];omega);rw[List.take_add_one,Jr hjl,<- List.append_assoc];(have e:outs[j]=x:=by rw[<- EX.o,gG,Jr hjl];rfl);rw[e];exact V4
     ·rcases Nat.lt_or_ge i j with h|h
      ·exact HX.o i h
      ·obtain rfl:i=j:=qb;rw[EX.o];omega
    case measure=>simp[intOf];omega
   ·have fc:Hd (Ce is s=.over 2 q (s.steps+1)):=by
     (have hjl:j<outs.length:=by rw[OL.o];omega);(have e:outs[j]=x:=by rw[<- EX.o,gG,Jr hjl];rfl);show _=_;rw[<- EQ.o];exact(Ia dy f9 EI.o).trans (Ic (by rw[ET.o,EM.o];omega) up (Or.inr ⟨x,by rw[<- OE.o,<- e];exact List.getElem_mem _,qb⟩))
    obtain⟨b0,b1,b2,b3,b4,b5,b6,b7,b8,b9⟩:=Mi jj.o.r;go_wp2_with fail;have hl:=Fc (np:Int) sa s.stack.length cp ((s.steps:Int)+1) s.looks 2 q;unfold Dw at hl;refine(hl _).mono ?_;rintro e w4 ⟨rfl,ce⟩;have ie:=Ad (jj.o.bl ce);obtain⟨z0,z1,z2,z3,z4,z5,z6,z7,z8,z9⟩:=Mi ie.o.z;have fz:=fZ ie.o.z;clear hl ce jj HW3 b0 b1 b2 b3 b4 b5 b6 b7 b8 b9;unfold Ec;go_wp2_with fail;exact bR (v:=Ec np (J sa s.stack.length cp) ((s.steps:Int)+1) s.looks 2 q) qbq rfl ⟨Ld ie.o.b uf,Or.inl ⟨2,q,s.steps+1,fc.o,_,_,_,_,_,rfl⟩⟩
  ·obtain rfl:j=pt:=qb
   have HSTEP:Hd (Ce is s=.go ⟨np,s.stack.take m++outs,s.steps+1,s.looks⟩):=step_go dy f9 EI.o up (by rw[ET.o];exact EM.o) (outs:=outs) OE.o.symm (by rw[OL.o];exact hmany) (λx hx=>by
    obtain⟨i,hi,rfl⟩:=List.getElem_of_mem hx;have:=HX.o i (by rw[<- OL.o];exact hi);rw[gG,Jr hi]at this;exact this) NT.o.symm
   have M6:Hd (wr.ownsRow wk.heap.size 9 1 (J (p_ g') (m+j) c') (m+j) (Av (s.stack.take m++outs))):=by
    have h:=HW.o;rw[List.take_of_length_le (Nat.le_of_eq OL.o)]at h;exact h
   obtain⟨b0,b1,b2,b3,b4,b5,b6,b7,b8,b9⟩:=Mi HS.o.r;have fp:=fZ HS.o.r;obtain⟨z0,z1,z2,z3,z4,z5,z6,z7,z8,z9⟩:=Mi HS.o.z;have fz:=fZ HS.o.z;clear HW;go_wp2_with fail;exact bR (v:=Dw (np:Int) (J (p_ g') (m+j) c') ((s.steps:Int)+1) s.looks) (by simp[results,results146,go_sem,Dw,z0,z1,z2,z3,z4,z5,z6,z7,z8,z9]) rfl ⟨Ld ((HS.o.b.setCell (p:=⟨w.heap.size+1,1,N⟩) (Nat.le_succ _) _)) uf,(Ul (go_post HSTEP.o (by have:=OL.o;have:=EM.o;simp;omega) rfl (Gy ⟨M6.o,_,HS.o.r⟩ 1 _).1) ⟨_,by rw[Dj _ ⟨w.heap.size+1,1,N⟩ _ _ qg];exact HS.o.z⟩ _ _ _ _ _ _ _ _ _ _).mono O5⟩
theorem l2Step_any(a:Option Addr)(cap:X)(is:L I3)(s:St)(sa:Option Addr)(cp:X)(ra:Option Addr)(rcap:X)(ys:L R3)(w:E)(B0:X)(hv:Ao is=true)(hs:Ef is s)(du:Ch w a is)(gh:Qp B0 w sa cp s.stack)(O0:ys.length<=200)(hr:Qn w ra ys):Calls prog 146 #[G #[J a is.length cap],Dw s.pl (J sa s.stack.length cp) s.steps s.looks,J ra ys.length rcap] w λe w'=>Bw w w'/\Cg w.heap.size is ys s w' e:=by
 by_cases dy:s.pl<is.length
 ·by_cases f9:s.steps=2000
  ·exact step_spent a cap is s sa cp ra rcap ys w hv hs dy f9
  ·obtain⟨o,tt,n,ei,jb,kw,ht,hn,Y0⟩:=Lj hv dy;exact step_in a cap is s sa cp ra rcap ys w B0 hv hs du dy f9 gh o tt n ei jb kw hn O0 hr
 ·exact Qax a cap is s sa cp ra rcap ys w hv hs dy
theorem reps_size(h:Mz ys=true)(hk:k<ys.length):(rx ys k).text.size<=2000:=by
 simp only[Mz,Bool.and_eq_true,decide_eq_true_eq]at h
 have:=h.2 k hk
 simp only[Km,Bool.and_eq_true,decide_eq_true_eq]at this
 omega
def Gh(is:L I3)(ys:L R3)(B:X)(w:E)(kx:X)(x0:Int)(ax:Option Addr)(nx cx:X)(x2 x3:Int)(x4:Bool)(x5:Int)(x6:By)(x7:Bool)(x8:By)(x9:Bool):Prop:=
 (∃s,Ef is s/\(∀r,Ci is ys s r->Ci is ys Mh r)/\Qp B w ax cx s.stack/\2002-s.steps<=kx/\x0=s.pl/\nx=s.stack.length/\x2=s.steps/\x3=s.looks/\x4=false/\x5=0/\x6=⟨#[]⟩/\x7=false/\x8=⟨#[]⟩/\x9=false)∨
 (∃n:X,Ci is ys Mh (.over x5 x6 n)/\x2=n/\x4=true/\x9=false)∨
 (∃n:X,Ci is ys Mh (.wait x7 x8 n)/\x2=n/\x4=false/\x9=true)
theorem Qay{s':St}(hv:Ao is=true)(hs:Ef is s)(h:Ce is s=.go s'):s'.steps=s.steps+1:=by
 by_cases hp:s.pl<is.length
 ·by_cases h2:s.steps=2000
  ·rw[Jx hp h2]at h;cases h
  ·obtain⟨o,t,n,e,h3,h4,h5,h6,h7⟩:=Lj hv hp;rw[Ia hp h2 e]at h
   by_cases hf:s.stack.length<Aw o
   ·rw[Nt hf]at h;cases h
   ·rcases(show o<=11\/(o=12\/o=13)\/o=14\/o=15 from qb)with ho|ho|ho|ho
    ·by_cases hb:Tr o t n s.stack
     ·rw[Ic hf ho hb]at h;cases h
     ·rw[Rc hf ho hb]at h;cases h;rfl
    ·exact qjq
    ·rw[Lk hf ho]at h;cases h
    ·rw[Nu hf ho]at h;cases h
 ·rw[Lg hp]at h;cases h
theorem stand_step{e:Ending}(hv:Ao is=true)(hs:Ef is s)(hrep:Mz ys=true)(hF:∀r,Ci is ys s r->Ci is ys Mh r)(h:Cg B is ys s w' e):∃x0 ax nx cx x2 x3 x4 x5 x6 x7 x8 x9,e=H (r10 x0 ax nx cx x2 x3 x4 x5 x6 x7 x8 x9)/\Gh is ys B w' (2001-s.steps) x0 ax nx cx x2 x3 x4 x5 x6 x7 x8 x9:=by
 have hl:=Eb hv
 rcases h with⟨c,t,n,h,pl,va,vn,vc,lk,rfl⟩|⟨s',h,a',pp,rfl,ho⟩|⟨ask,nm,s',h,hy,pl,va,vn,vc,lk,rfl⟩|⟨ask,nm,s',s'',h,hy,ha,a',pp,rfl,ho⟩|⟨ask,nm,s',c,t,n,h,hy,ha,pl,va,vn,vc,lk,rfl⟩
 ·exact⟨_,_,_,_,_,_,_,_,_,_,_,_,rfl,Or.inr (Or.inl ⟨n,hF _ (.over h),rfl,rfl,rfl⟩)⟩
 ·have h1:=Pq hv hs h;have h2:=Qay hv hs h;exact⟨_,_,_,_,_,_,_,_,_,_,_,_,rfl,Or.inl ⟨s',h1.1,λr hr=>hF r (.go h hr),ho,qb,rfl,rfl,rfl,rfl,rfl,rfl,rfl,rfl,rfl,rfl⟩⟩
 ·exact⟨_,_,_,_,_,_,_,_,_,_,_,_,rfl,Or.inr (Or.inr ⟨s'.steps,hF _ (.wait h hy),rfl,rfl,rfl⟩)⟩
 ·obtain⟨q1,q2,q3,q4,q5,q6,q7,q8⟩:=Hz h
  have f9:s.steps≠2000:=by
   intro h2;rw[Jx q5 h2]at h;cases h
  have J7:Ef is s':=by
   have h1:=Tt hs f9 q4
   have e:s'=⟨s.pl,Bo s.stack 1,s.steps+1,s.looks+1⟩:=by
    cases s'
    simp only[St.mk.injEq];exact⟨q2,q7,q3,q1⟩
   rw[e];exact h1
  have wi:s'.stack.length<50:=by rw[q7,Bk];have:=hs.len;omega
  have To:Ef is s''/\s''.steps=s'.steps:=by
   unfold Eu at ha
   split at ha
   ·cases ha;exact⟨Lb J7 hl.2 qb wi qcw,rfl⟩
   ·split at ha
    ·cases ha
    ·split at ha
     ·cases ha
     ·cases ha;exact⟨Lb J7 hl.2 qb wi (reps_size hrep hy),rfl⟩
  exact⟨_,_,_,_,_,_,_,_,_,_,_,_,rfl,Or.inl ⟨s'',To.1,λr hr=>hF r (.ans h hy ha hr),ho,qb,rfl,rfl,rfl,rfl,rfl,rfl,rfl,rfl,rfl,rfl⟩⟩
 ·exact⟨_,_,_,_,_,_,_,_,_,_,_,_,rfl,Or.inr (Or.inl ⟨n,hF _ (.end h hy ha),rfl,rfl,rfl⟩)⟩
theorem Gh.set{nx:X}(h:Gh is ys B w kx x0 ax nx cx x2 x3 x4 x5 x6 x7 x8 x9/\∃cs,w.heap[b]?=M (O cs 223 (0,0)))(j:X)(x:Z):Gh is ys B (w.setCell ⟨b,j,N⟩ x) kx x0 ax nx cx x2 x3 x4 x5 x6 x7 x8 x9/\∃cs,(w.setCell ⟨b,j,N⟩ x).heap[b]?=M (O cs 223 (0,0)):=by
 obtain⟨h,hc⟩:=h
 refine⟨?_,by obtain⟨cs,hb⟩:=hc;exact⟨_,jB hb x⟩⟩
 rcases h with⟨s,h1,h2,h3,h4⟩|h
 ·exact Or.inl ⟨s,h1,h2,(Gy ⟨h3,hc⟩ j x).1,h4⟩
 ·exact Or.inr h
theorem Gh.mono{nx:X}(h:Gh is ys B w kx x0 ax nx cx x2 x3 x4 x5 x6 x7 x8 x9)(hB:B'<=B):Gh is ys B' w kx x0 ax nx cx x2 x3 x4 x5 x6 x7 x8 x9:=by
 rcases h with⟨s,h1,h2,h3,h4⟩|h
 ·exact Or.inl ⟨s,h1,h2,h3.mono hB,h4⟩
 ·exact Or.inr h
theorem Qaz{nx:X}(h:Gh is ys B w kx x0 ax nx cx x2 x3 x4 x5 x6 x7 x8 x9)(hc:∃cs,w.heap[b]?=M (O cs 223 (0,0)))(v0 v1 v2 v3 v4 v5 v6 v7 v8 v9:Z):Gh is ys B ((((((((((w.setCell ⟨b,0,N⟩ v0).setCell ⟨b,1,N⟩ v1).setCell ⟨b,2,N⟩ v2).setCell ⟨b,3,N⟩ v3).setCell ⟨b,4,N⟩ v4).setCell ⟨b,5,N⟩ v5).setCell ⟨b,6,N⟩ v6).setCell ⟨b,7,N⟩ v7).setCell ⟨b,8,N⟩ v8).setCell ⟨b,9,N⟩ v9) kx x0 ax nx cx x2 x3 x4 x5 x6 x7 x8 x9:=(Gh.set (Gh.set (Gh.set (Gh.set (Gh.set (Gh.set (Gh.set (Gh.set (Gh.set (Gh.set ⟨h,hc⟩ 0 v0) 1 v1) 2 v2) 3 v3) 4 v4) 5 v5) 6 v6) 7 v7) 8 v8) 9 v9).1
theorem block_set10{u3 u4 u5 u6 u7 u8 u9:Z}(h:w.heap[b]?=M (O #[u0,u1,u2,u3,u4,u5,u6,u7,u8,u9] 223 (0,0)))(v0 v1 v2 v3 v4 v5 v6 v7 v8 v9:Z):((((((((((w.setCell ⟨b,0,N⟩ v0).setCell ⟨b,1,N⟩ v1).setCell ⟨b,2,N⟩ v2).setCell ⟨b,3,N⟩ v3).setCell ⟨b,4,N⟩ v4).setCell ⟨b,5,N⟩ v5).setCell ⟨b,6,N⟩ v6).setCell ⟨b,7,N⟩ v7).setCell ⟨b,8,N⟩ v8).setCell ⟨b,9,N⟩ v9).heap[b]?=M (O #[v0,v1,v2,v3,v4,v5,v6,v7,v8,v9] 223 (0,0)):=by
 have h0:(w.setCell ⟨b,0,N⟩ v0).heap[b]?=M (O #[v0,u1,u2,u3,u4,u5,u6,u7,u8,u9] 223 (0,0)):=by rw[jB h];rfl
 have h1:((w.setCell ⟨b,0,N⟩ v0).setCell ⟨b,1,N⟩ v1).heap[b]?=M (O #[v0,v1,u2,u3,u4,u5,u6,u7,u8,u9] 223 (0,0)):=by rw[jB h0];rfl
 have h2:(((w.setCell ⟨b,0,N⟩ v0).setCell ⟨b,1,N⟩ v1).setCell ⟨b,2,N⟩ v2).heap[b]?=M (O #[v0,v1,v2,u3,u4,u5,u6,u7,u8,u9] 223 (0,0)):=by rw[jB h1];rfl
 have h3:((((w.setCell ⟨b,0,N⟩ v0).setCell ⟨b,1,N⟩ v1).setCell ⟨b,2,N⟩ v2).setCell ⟨b,3,N⟩ v3).heap[b]?=M (O #[v0,v1,v2,v3,u4,u5,u6,u7,u8,u9] 223 (0,0)):=by rw[jB h2];rfl
 have h4:(((((w.setCell ⟨b,0,N⟩ v0).setCell ⟨b,1,N⟩ v1).setCell ⟨b,2,N⟩ v2).setCell ⟨b,3,N⟩ v3).setCell ⟨b,4,N⟩ v4).heap[b]?=M (O #[v0,v1,v2,v3,v4,u5,u6,u7,u8,u9] 223 (0,0)):=by rw[jB h3];rfl
 have h5:((((((w.setCell ⟨b,0,N⟩ v0).setCell ⟨b,1,N⟩ v1).setCell ⟨b,2,N⟩ v2).setCell ⟨b,3,N⟩ v3).setCell ⟨b,4,N⟩ v4).setCell ⟨b,5,N⟩ v5).heap[b]?=M (O #[v0,v1,v2,v3,v4,v5,u6,u7,u8,u9] 223 (0,0)):=by rw[jB h4];rfl
 have h6:(((((((w.setCell ⟨b,0,N⟩ v0).setCell ⟨b,1,N⟩ v1).setCell ⟨b,2,N⟩ v2).setCell ⟨b,3,N⟩ v3).setCell ⟨b,4,N⟩ v4).setCell ⟨b,5,N⟩ v5).setCell ⟨b,6,N⟩ v6).heap[b]?=M (O #[v0,v1,v2,v3,v4,v5,v6,u7,u8,u9] 223 (0,0)):=by rw[jB h5];rfl
 have h7:((((((((w.setCell ⟨b,0,N⟩ v0).setCell ⟨b,1,N⟩ v1).setCell ⟨b,2,N⟩ v2).setCell ⟨b,3,N⟩ v3).setCell ⟨b,4,N⟩ v4).setCell ⟨b,5,N⟩ v5).setCell ⟨b,6,N⟩ v6).setCell ⟨b,7,N⟩ v7).heap[b]?=M (O #[v0,v1,v2,v3,v4,v5,v6,v7,u8,u9] 223 (0,0)):=by rw[jB h6];rfl
 have h8:(((((((((w.setCell ⟨b,0,N⟩ v0).setCell ⟨b,1,N⟩ v1).setCell ⟨b,2,N⟩ v2).setCell ⟨b,3,N⟩ v3).setCell ⟨b,4,N⟩ v4).setCell ⟨b,5,N⟩ v5).setCell ⟨b,6,N⟩ v6).setCell ⟨b,7,N⟩ v7).setCell ⟨b,8,N⟩ v8).heap[b]?=M (O #[v0,v1,v2,v3,v4,v5,v6,v7,v8,u9] 223 (0,0)):=by rw[jB h7];rfl
 have h9:((((((((((w.setCell ⟨b,0,N⟩ v0).setCell ⟨b,1,N⟩ v1).setCell ⟨b,2,N⟩ v2).setCell ⟨b,3,N⟩ v3).setCell ⟨b,4,N⟩ v4).setCell ⟨b,5,N⟩ v5).setCell ⟨b,6,N⟩ v6).setCell ⟨b,7,N⟩ v7).setCell ⟨b,8,N⟩ v8).setCell ⟨b,9,N⟩ v9).heap[b]?=M (O #[v0,v1,v2,v3,v4,v5,v6,v7,v8,v9] 223 (0,0)):=by rw[jB h8];rfl
 exact h9
theorem Yw(a ra:Option Addr)(cap rcap:X)(is:L I3)(ys:L R3)(w:E)(hc:Ch w a is)(hr:Qn w ra ys)(hl:is.length<=1048576)(hs:∀i,(ix is i).text.size<=9223372036854775807)(ik:∀i,(rx ys i).text.size<=9223372036854775807)(X8:Ao is=true)(X7:Mz ys=true):Calls prog 121 #[G #[J a is.length cap],J ra ys.length rcap] w λe w'=>Bw w w'/\∃r,Ci is ys Mh r/\e=H (resT r):=by
 have ak:Bw w ((w.alloc (O #[J a is.length cap] 92)).alloc (O #[F false,I 0,ze,F false,ze,I 0] 194)):=(aN _ _).alloc qg _
 have hk:((w.alloc (O #[J a is.length cap] 92)).alloc (O #[F false,I 0,ze,F false,ze,I 0] 194)).heap[w.heap.size+1]?=M (O #[F false,I 0,ze,F false,ze,I 0] 194 (0,0)):=by
  exact qix
 have L1:((w.alloc (O #[J a is.length cap] 92)).alloc (O #[F false,I 0,ze,F false,ze,I 0] 194)).cell? ⟨w.heap.size,0,N⟩=M (J a is.length cap):=qk
 have hv2':=X7
 simp only[Mz,Bool.and_eq_true,decide_eq_true_eq]at hv2'
 have dr:ys.length<=200:=hv2'.1
 have HV1:Hd (Ao is=true):=X8
 have HV2:Hd (Mz ys=true):=X7
 have oh:Hd (∀i,i<ys.length->Km (rx ys i)=true):=hv2'.2
 have HC:Hd (Ch w a is):=hc
 have HR:Hd (Qn w ra ys):=hr
 clear hv2' X7
 go_enter func121,ntmps121
 go_wp2_with fail
 refine(Ip a cap is _ (HC.o.bl ak) hl hs).mono ?_
 rintro e w1 ⟨af,rfl⟩
 have bj:=bN ak af
 have cq:=Ph af hk
 have hbx1:=Aa af L1
 rw[X8]
 clear ak af hk L1 X8 hc hr
 have d2:decide ((200:Int)<(ys.length:Int))=false:=qh
 have fa:Hd (w1.heap[w.heap.size+1]?=M (O #[F false,I 0,ze,F false,ze,I 0] 194 (0,0))):=cq
 have d7:Hd (Bw w w1):=bj
 have HX1:Hd (w1.cell? ⟨w.heap.size,0,N⟩=M (J a is.length cap)):=hbx1
 have hR1:w.heap.size+1<w1.heap.size:=Ag cq
 clear cq bj hbx1
 go_wp2_with fail
 go_loopw [5] (λi wr=>∃k:X,k<=ys.length/\i=I k/\w1=wr) (λi _=>ys.length-(intOf i).toNat)
 case atStart=>exact⟨0,Nat.zero_le _,rfl,rfl⟩
 case round=>
  obtain⟨k,hk,rfl,rfl⟩:=hrel
  by_cases aj:k<ys.length
  ·obtain⟨b,off,rfl,c1,c2,c3⟩:=(HR.o.bl d7.o) k aj;have gh:=ik k;have fw:=oh.o k aj;clear ik HR oh;generalize rx ys k=r at *;have d1:decide ((2000:Int)<(r.text.size:Int))=false:=qgj;have d3:decide (r.code<0)=false:=qgj;have d4:decide (7<r.code)=false:=qgj;clear fw;go_wp2_with fail;go_roundw
   case rel=>exact⟨k+1,qb,qj,trivial⟩
   case measure=>simp[intOf];omega
  ·have iy:¬ (k:Int)<(ys.length:Int):=qb;go_wp2_with fail
   go_loopg [] 2002 (λkx wr=>∃(x0:Int)(ax:Option Addr)(nx cx:X)(x2 x3:Int)(x4:Bool)(x5:Int)(x6:By)(x7:Bool)(x8:By)(x9:Bool),Hd (wr.heap[w1.heap.size]?=M (O #[I x0,J ax nx cx,I x2,I x3,F x4,I x5,S x6,F x7,S x8,F x9] 223 (0,0)))/\Hd (Gh is ys w1.heap.size wr kx x0 ax nx cx x2 x3 x4 x5 x6 x7 x8 x9)/\Hd (Bw w1 wr))
   case atStart=>exact⟨0,N,0,0,0,0,false,0,⟨#[]⟩,false,⟨#[]⟩,false,Bg _ _,Or.inl ⟨Mh,Uh is,λr h=>h,⟨rfl,Or.inl ⟨rfl,rfl⟩⟩,qbi,rfl,rfl,rfl,rfl,rfl,rfl,rfl,rfl,rfl,rfl⟩,aN _ _⟩
   case round=>
    obtain⟨x0,ax,nx,cx,x2,x3,x4,x5,x6,x7,x8,x9,lj,fc,oo⟩:=hrel;(have hxw:wr.cell? ⟨w.heap.size,0,N⟩=M (J a is.length cap):=by rw[oo.o.cell (p:=⟨w.heap.size,0,N⟩) qh];exact HX1.o);(have hkw:wr.heap[w.heap.size+1]?=M (O #[F false,I 0,ze,F false,ze,I 0] 194 (0,0)):=by rw[oo.o.block _ hR1];exact fa.o);have gi:Bw w wr:=d7.o.trans (oo.o.mono qb);have P0:=lj.o
    rcases fc.o with⟨s,h1,h2,h3,h4,rfl,rfl,rfl,rfl,rfl,rfl,rfl,rfl,rfl,rfl⟩|⟨n,h1,rfl,rfl,rfl⟩|⟨n,h1,rfl,rfl,rfl⟩
    ·have HS:Hd (Ef is s):=h1;have HF:Hd (∀r,Ci is ys s r->Ci is ys Mh r):=h2;have M6:Hd (Qp w1.heap.size wr ax cx s.stack):=h3;have cw:=h1.steps;have hlr:w1.heap.size<wr.heap.size:=Ag P0;obtain⟨p0,p1,p2,p3,p4,p5,p6,p7,p8,p9⟩:=Dz P0;have fp:=fZ P0;clear h1 h2 h3 P0 fc;go_wp2_with fail;have Y1:=l2Step_any a cap is s ax cx ra rcap ys wr w1.heap.size HV1.o HS.o (HC.o.bl gi) M6.o dr (HR.o.bl gi);unfold Dw at Y1;refine Y1.mono ?_;rintro e w3 ⟨au,gy⟩;obtain⟨y0,ay,ny,cy,y2,y3,y4,y5,y6,y7,y8,y9,rfl,O6⟩:=stand_step HV1.o HS.o HV2.o HF.o gy;(have wv:w3.heap[w1.heap.size]?=M (O #[I s.pl,J ax s.stack.length cx,I s.steps,I s.looks,F false,I 0,ze,F false,ze,F false] 223 (0,0)):=by rw[au.block _ hlr];exact lj.o);have HSD:Hd (Gh is ys wr.heap.size w3 (2001-s.steps) y0 ay ny cy y2 y3 y4 y5 y6 y7 y8 y9):=O6;have it:Hd (w3.heap[w1.heap.size]?=M (O #[I s.pl,J ax s.stack.length cx,I s.steps,I s.looks,F false,I 0,ze,F false,ze,F false] 223 (0,0))):=wv;have jn:Bw w1 w3:=oo.o.trans (au.mono qb);clear p0 p1 p2 p3 p4 p5 p6 p7 p8 p9 fp;obtain⟨p0,p1,p2,p3,p4,p5,p6,p7,p8,p9⟩:=Dz wv;have fp:=fZ wv;clear wv O6 gy Y1 au;unfold r10;go_wp2_with fail
     go_roundg (2001-s.steps)
     case rel=>exact⟨y0,ay,ny,cy,y2,y3,y4,y5,y6,y7,y8,y9,block_set10 it.o _ _ _ _ _ _ _ _ _ _,(Qaz HSD.o ⟨_,it.o⟩ _ _ _ _ _ _ _ _ _ _).mono qb,((((((((((jn).setCell (p:=⟨w1.heap.size,0,N⟩) (Nat.le_refl _) _).setCell (p:=⟨w1.heap.size,1,N⟩) (Nat.le_refl _) _).setCell (p:=⟨w1.heap.size,2,N⟩) (Nat.le_refl _) _).setCell (p:=⟨w1.heap.size,3,N⟩) (Nat.le_refl _) _).setCell (p:=⟨w1.heap.size,4,N⟩) (Nat.le_refl _) _).setCell (p:=⟨w1.heap.size,5,N⟩) (Nat.le_refl _) _).setCell (p:=⟨w1.heap.size,6,N⟩) (Nat.le_refl _) _).setCell (p:=⟨w1.heap.size,7,N⟩) (Nat.le_refl _) _).setCell (p:=⟨w1.heap.size,8,N⟩) (Nat.le_refl _) _).setCell (p:=⟨w1.heap.size,9,N⟩) (Nat.le_refl _) _⟩
     case measure=>omega
    ·have HF:Hd (Ci is ys Mh (.over x5 x6 n)):=h1;obtain⟨p0,p1,p2,p3,p4,p5,p6,p7,p8,p9⟩:=Dz P0;obtain⟨k0,k1,k2,k3,k4,k5⟩:=Xw hkw;have f0:=fZ hkw;clear h1 P0 hkw fc;go_wp2_with fail;exact bR (v:=Bc true x5 x6 false ⟨#[]⟩ n) (by simp[results,results121,go_sem,Bc,k0,k1,k2,k3,k4,k5]) rfl ⟨((((((gi).setCell (p:=⟨w.heap.size+1,0,N⟩) qg _).setCell (p:=⟨w.heap.size+1,1,N⟩) qg _).setCell (p:=⟨w.heap.size+1,2,N⟩) qg _).setCell (p:=⟨w.heap.size+1,3,N⟩) qg _).setCell (p:=⟨w.heap.size+1,4,N⟩) qg _).setCell (p:=⟨w.heap.size+1,5,N⟩) qg _,_,HF.o,rfl⟩
    ·have HF:Hd (Ci is ys Mh (.wait x7 x8 n)):=h1;obtain⟨p0,p1,p2,p3,p4,p5,p6,p7,p8,p9⟩:=Dz P0;obtain⟨k0,k1,k2,k3,k4,k5⟩:=Xw hkw;have f0:=fZ hkw;clear h1 P0 hkw fc;go_wp2_with fail;exact bR (v:=Bc false 0 ⟨#[]⟩ x7 x8 n) (by simp[results,results121,go_sem,Bc,k0,k1,k2,k3,k4,k5]) rfl ⟨((((((gi).setCell (p:=⟨w.heap.size+1,0,N⟩) qg _).setCell (p:=⟨w.heap.size+1,1,N⟩) qg _).setCell (p:=⟨w.heap.size+1,2,N⟩) qg _).setCell (p:=⟨w.heap.size+1,3,N⟩) qg _).setCell (p:=⟨w.heap.size+1,4,N⟩) qg _).setCell (p:=⟨w.heap.size+1,5,N⟩) qg _,_,HF.o,rfl⟩
theorem Dx{T:TypeId}(h:w.heap[b]?=M (O #[v0,v1,v2] T (0,0))):w.cell? ⟨b,0,N⟩=M v0/\w.cell? ⟨b,1,N⟩=M v1/\w.cell? ⟨b,2,N⟩=M v2/\∀j,w.frozen? ⟨b,j,N⟩=false:=by
 refine⟨?_,?_,?_,λj=>fH h j⟩<;>rw[cH h]<;>rfl
theorem Ab{cs:Array Z}{T:TypeId}(hb:Bw w w')(h:w.heap[b]?=M (O cs T (0,0))):w'.heap[b]?=M (O cs T (0,0)):=by
 rw[hb.block _ (Ag h)];exact h
theorem Bp{T:TypeId}(h:w.heap[b]?=M (O #[u0,u1,u2] T (0,0)))(v0 v1 v2:Z):(((w.setCell ⟨b,0,N⟩ v0).setCell ⟨b,1,N⟩ v1).setCell ⟨b,2,N⟩ v2).heap[b]?=M (O #[v0,v1,v2] T (0,0)):=by
 rw[jB (jB (jB h v0) v1) v2]
 rfl
theorem Gv(hb:Below B w w')(h:B<=b)(v0 v1 v2:Z):Below B w (((w'.setCell ⟨b,0,N⟩ v0).setCell ⟨b,1,N⟩ v1).setCell ⟨b,2,N⟩ v2):=
 ((hb.setCell (p:=⟨b,0,N⟩) h _).setCell (p:=⟨b,1,N⟩) h _).setCell (p:=⟨b,2,N⟩) h _
def Ea:L R3->L Z
 | []=>[]
 | y::ys=>F y.has::I y.code::S y.text::Ea ys
theorem Oo(ys:L R3)(y:R3):Ea (ys++[y])=Ea ys++[F y.has,I y.code,S y.text]:=by
 induction ys with
 | nil=>rfl
 | cons x xs ih=>simp only[List.cons_append,Ea,ih]
theorem Px:∀(ys:L R3)(i:X),i<ys.length->(Ea ys)[i*3]?=M (F (rx ys i).has)/\(Ea ys)[i*3+1]?=M (I (rx ys i).code)/\(Ea ys)[i*3+2]?=M (S (rx ys i).text)
 | [],i,h=>by simp at h
 | y::ys,0,h=>by simp[Ea,rx]
 | y::ys,i+1,h=>by
  have:=Px ys i qbd;rw[show(i+1)*3=i*3+1+1+1 from qb];simpa [Ea,rx] using this
theorem rowR_of(h:w.ownsRow B 198 3 (J a ys.length cap) ys.length (Ea ys)):Qn w a ys:=by
 intro i hi
 rcases h.2 with⟨hv,h0⟩|⟨g,ai,cur,hv,_⟩
 ·omega
 ·simp only[Value.slice.injEq]at hv;obtain⟨rfl,_,_⟩:=hv;obtain⟨k1,k2,k3⟩:=Px ys i hi;exact⟨g,0,rfl,by rw[Nat.zero_add,h.cellAt _ qb];exact k1,by rw[Nat.zero_add,h.cellAt _ qb];exact k2,by rw[Nat.zero_add,h.cellAt _ qb];exact k3⟩
theorem Pg(w:E)(v0 v1 v2:Z)(ty:TypeId):∀j u,[v0,v1,v2][j]?=M u->(w.alloc (O #[v0,v1,v2] ty)).cell? ((⟨w.heap.size,0,N⟩:Addr).add j)=M u:=by
 intro j u hu
 match j with
 | 0=>simp at hu;subst hu;simp[go_sem,Addr.add]
 | 1=>simp at hu;subst hu;simp[go_sem,Addr.add]
 | 2=>simp at hu;subst hu;simp[go_sem,Addr.add]
 | j+3=>simp at hu
def lenV:Z->X
 | J _ n _=>n
 | _=>0
theorem reps_of{gs:L G3}(h:∀i,i<ys.length->Km (rx ys i)=true)(hk:ys.length<=200):Mz ys=true:=by
 simp only[Mz,Bool.and_eq_true,decide_eq_true_eq]
 exact⟨hk,h⟩
theorem rx_any(h:∀i,i<ys.length->Km (rx ys i)=true):∀i,(rx ys i).text.size<=9223372036854775807:=λi=>by
 rcases Nat.lt_or_ge i ys.length with h1|h1
 ·have:=Uj h i h1;omega
 ·unfold rx;rw[gG,List.getElem?_eq_none h1];decide
def Pb:L G3->L Z
 | []=>[]
 | g::gs=>S g.name::F g.ask::S g.sum::Pb gs
theorem gC_snoc(gs:L G3)(g:G3):Pb (gs++[g])=Pb gs++[S g.name,F g.ask,S g.sum]:=by
 induction gs with
 | nil=>rfl
 | cons x xs ih=>simp only[List.cons_append,Pb,ih]
theorem gC_get:∀(gs:L G3)(i:X),i<gs.length->(Pb gs)[i*3]?=M (S (gx gs i).name)/\(Pb gs)[i*3+1]?=M (F (gx gs i).ask)/\(Pb gs)[i*3+2]?=M (S (gx gs i).sum)
 | [],i,h=>by simp at h
 | y::ys,0,h=>by simp[Pb,gx]
 | y::ys,i+1,h=>by
  have:=gC_get ys i qbd;rw[show(i+1)*3=i*3+1+1+1 from qb];simpa [Pb,gx] using this
theorem Ah{e sz n:X}(h:w.ownsRow B e sz v n xs)(hB:B'<=B):w.ownsRow B' e sz v n xs:=by
 exact qks
theorem looks_of{gs:L G3}(h:w.ownsRow B 201 3 v gs.length (Pb gs))(hB:B'<=B):Me w B' v gs:=⟨Pb gs,Ah h hB,λi hi=>gC_get gs i hi⟩
theorem My(c:Int)(t:By)(w:E)(h0:0<=c)(h5:c<=5)(ht:t.size<=2000):Calls prog 125 #[G #[I c,S t,nS]] w λe w'=>e=H (S (Bj c t))/\Bw w w':=by
 obtain⟨m,rfl⟩:=Int.eq_ofNat_of_zero_le h0
 exact Ps m t N 0 w qb ht
theorem Xi{e sz n:X}(h:w.ownsRow B e sz v n xs)(h1:1≤n):∃g cp,v=J (p_ g) n cp:=by
 rcases Cz h with⟨_,h0⟩|h
 ·omega
 ·exact h
theorem clone_any(a:Option Addr)(cap:X)(is:L I3)(w:E)(hc:Ch w a is)(h1:1≤is.length)(hl:is.length≤1048576):Calls prog 132 #[J a is.length cap] w λe w'=>Bw w w'∧∃g cp,e=H (J (p_ g) is.length cp)∧w'.ownsRow w.heap.size 139 3 (J (p_ g) is.length cp) is.length (Dp is):=by
 obtain⟨i0,hi,bo,bm,cm⟩:=info_parts Tryz.info165b;obtain⟨b,off,rfl,_⟩:=hc 0 qb;have dm:(w.alloc (O #[] 139)).ownsRow w.heap.size 139 3 (J (p_ w.heap.size) 0 0) 0 []:=World.ownsRow_lit (base:=w.heap.size) (e:=139) (size:=3) w #[] 0 (Nat.le_refl _) qm qg;have hn:=Nv (hc.bl ((Below.refl w.heap.size w).alloc (Nat.le_refl _) (O #[] 139)));have HL:Hd ((Dp is).length=is.length*3):=Iy is;have HO:Hd (∀u∈Dp is,u.oneCell'=true):=Qg is;generalize Dp is=xs at *;clear hc;have hq:∀W:E,(binOp .eql 90 (J (M ⟨b,off,N⟩) is.length cap) nS).run prog W=.ok (F false) W:=λW=>Lib.run_eql_slice_nil W 90 139 _ _ _ 0 0 underlying90;go_enter func132,ntmps132
 go_wp2_with (at_builtin;refine wpList_append_own _ rfl (.tmp 5) (.tmp 6) 90 rfl w.heap.size 139 i0 (G #[I 0,ze,I 0]) 3 32 underlying90 hi bo bm cm rfl qd _ 0 [] rfl dm ⟨b,off,N⟩ is.length cap xs rfl HL.o hn HO.o qm qb qg ?_;intro v' w2 ba ae dp;clear dp)
 have fs:Bw w w2:=(aN _ _).grown ae qg (λk hk=>(dm.lt k hk).1);rw[Nat.zero_add,List.nil_append]at ba;obtain⟨g,cp,rfl⟩:=Xi ba h1;clear ae dm hn;go_wp2;go_ret;exact⟨fs,g,cp,rfl,ba⟩
theorem Tn(a:Option Addr)(cap:X)(is:L I3)(w:E)(hc:Ch w a is)(h1:1≤is.length)(hl:is.length≤1048576):Calls prog 107 #[G #[J a is.length cap]] w λe w'=>Bw w w'∧∃g cp,e=H (G #[J (p_ g) is.length cp])∧w'.ownsRow w.heap.size 139 3 (J (p_ g) is.length cp) is.length (Dp is):=by
 have ak:Bw w ((w.alloc (O #[J a is.length cap] 92)).alloc (O #[nS] 92)):=(aN _ _).alloc qg _;go_enter func107,ntmps107;go_wp2_with fail;refine(clone_any a cap is _ (hc.bl ak) h1 hl).mono ?_;exact qhy
theorem Wk(a:Option Addr)(cap:X)(is:L I3)(w:E)(hc:Ch w a is)(h1:1≤is.length)(hl:is.length≤1048576):Calls prog 69 #[G #[J a is.length cap]] w λe w'=>Bw w w'∧∃g cp,e=H (G #[J (p_ g) is.length cp])∧w'.ownsRow w.heap.size 139 3 (J (p_ g) is.length cp) is.length (Dp is):=by
 obtain⟨i0,hi,bo,bm,cm⟩:=info_parts Tryz.info165b;obtain⟨b,off,rfl,_⟩:=hc 0 qb;have ak:Bw w ((w.alloc (O #[J (M ⟨b,off,N⟩) is.length cap] 92)).alloc (O #[nS] 92)):=(aN _ _).alloc qg _;have af:Bw w (((w.alloc (O #[J (M ⟨b,off,N⟩) is.length cap] 92)).alloc (O #[nS] 92)).alloc (O #[] 139)):=ak.alloc qh _
 have dm:(((w.alloc (O #[J (M ⟨b,off,N⟩) is.length cap] 92)).alloc (O #[nS] 92)).alloc (O #[] 139)).ownsRow (w.heap.size+1+1) 139 3 (J (p_ (w.heap.size+1+1)) 0 0) 0 []:=by
  exact qih
 have hn:=Nv (hc.bl af);have HL:Hd ((Dp is).length=is.length*3):=Iy is;have HO:Hd (∀u∈Dp is,u.oneCell'=true):=Qg is;generalize Dp is=xs at *;clear hc ak;go_enter func69,ntmps69
 go_wp2_with (at_builtin;refine wpList_append_own _ rfl (.tmp 3) (.tmp 5) 90 rfl (w.heap.size+1+1) 139 i0 (G #[I 0,ze,I 0]) 3 32 underlying90 hi bo bm cm rfl qd _ 0 [] rfl dm ⟨b,off,N⟩ is.length cap xs rfl HL.o hn HO.o qm qb qg ?_;intro v' w2 ba ae dp;clear dp;have fs:Below (w.heap.size+1+1) (((w.alloc (O #[J (M ⟨b,off,N⟩) is.length cap] 92)).alloc (O #[nS] 92)).alloc (O #[] 139)) w2:=(Below.refl _ _).grown ae qg (λk hk=>(dm.lt k hk).1);have c1:w2.cell? ⟨w.heap.size+1,0,N⟩=M nS:=(by rw[fs.cell (p:=⟨w.heap.size+1,0,N⟩) qg];simp[go_sem]);have f1:w2.frozen? ⟨w.heap.size+1,0,N⟩=false:=(by rw[fs.frozen (p:=⟨w.heap.size+1,0,N⟩) qg];simp[go_sem]);have hB:Bw w w2:=af.trans (fs.mono qb);rw[Nat.zero_add,List.nil_append]at ba;obtain⟨g,cp,rfl⟩:=Xi ba h1;have hg:=(ba.lt g rfl).1;have M6:Hd (w2.ownsRow w.heap.size 139 3 (J (p_ g) is.length cp) is.length xs):=Ah ba qb;clear ae dm hn fs ba af)
 exact qjg
def De(w:E)(lo hi:X)(v:Z)(ts:L By):Prop:=Bh w lo hi 9 1 v ts.length (ts.map Value.string)
theorem Pc(ss:L By):El ss ss.length ss.length=ss.map Value.string:=by simp[El]
theorem map_str(ss:L By)(i:X)(h:i<ss.length):(ss.map Value.string)[i]?=M (S (ss.getD i ByteArray.empty)):=by rw[←Pc];exact filled_get ss i h
theorem De.bl(h:De w lo hi v ts)(hb:Bw w w'):De w' lo hi v ts:=Bh.bl h hb
theorem De.keep(h:De w lo hi v ts)(hk:Dk lo' hi' w w')(hd:hi≤lo'∨hi'≤lo):De w' lo hi v ts:=Bh.keep h hk hd
theorem De.wide(h:De w lo hi v ts)(h1:lo'≤lo)(h2:hi≤hi'):De w lo' hi' v ts:=Bh.wide h h1 h2
theorem De.sl(h:De w lo hi v ts):∃a cap,v=J a ts.length cap∧Ca w a ts:=by
 rcases Cz (Bh.own h)with⟨rfl,h0⟩|⟨g,cap,rfl⟩
 ·exact qbn
 ·refine⟨_,cap,rfl,λi hi=>⟨g,0,rfl,?_⟩⟩
  rw[Nat.zero_add,(Bh.own h).cellAt _ qb];exact map_str ts i hi
theorem De.set(h:De w lo hi v ts)(hb:b<lo)(u:Z):De (w.setCell ⟨b,j,N⟩ u) lo hi v ts:=h.keep (Dk.set (lo:=b) (hi:=b+1) (Nat.le_refl _) (Nat.lt_succ_self _) j u) (Or.inr hb)
structure Kv (w:E) (lo hi:X) (v:Z) (rs:L T3) (xs:L Z) (cv lv:X→Z):Prop where
 row:Bh w lo hi 95 3 v rs.length xs
 fil:∀i,i<rs.length→xs[i*3]?=M (cv i)∧xs[i*3+1]?=M (lv i)∧xs[i*3+2]?=M (S (qx rs i).out)
 code:∀i,i<rs.length→∃ys,Bh w lo hi 139 3 (cv i) (qx rs i).code.length ys∧Ct (qx rs i).code (qx rs i).code.length ys
 look:∀i,i<rs.length→∃ys,Bh w lo hi 136 3 (lv i) (qx rs i).looks.length ys∧Bn (qx rs i).looks (qx rs i).looks.length ys
 apc:∀i j,i<j→j<rs.length→∀b,(cv i).ownBlock=M b→(cv j).ownBlock≠M b
 apl:∀i j,i<j→j<rs.length→∀b,(lv i).ownBlock=M b→(lv j).ownBlock≠M b
 som:∀i,i<rs.length→∃g cap,lv i=J (p_ g) (qx rs i).looks.length cap
def Ht(w:E)(lo hi:X)(v:Z)(rs:L T3):Prop:=∃xs cv lv,Kv w lo hi v rs xs cv lv
theorem Kv.bl(h:Kv w lo hi v rs xs cv lv)(hb:Bw w w'):Kv w' lo hi v rs xs cv lv:=
 ⟨h.row.bl hb,h.fil,λi hi=>by obtain⟨ys,h1,h2⟩:=h.code i hi;exact⟨ys,h1.bl hb,h2⟩,λi hi=>by obtain⟨ys,h1,h2⟩:=h.look i hi;exact⟨ys,h1.bl hb,h2⟩,h.apc,h.apl,h.som⟩
theorem Kv.keep(h:Kv w lo hi v rs xs cv lv)(hk:Dk lo' hi' w w')(hd:hi≤lo'∨hi'≤lo):Kv w' lo hi v rs xs cv lv:=
 ⟨h.row.keep hk hd,h.fil,λi hi=>by obtain⟨ys,h1,h2⟩:=h.code i hi;exact⟨ys,h1.keep hk hd,h2⟩,λi hi=>by obtain⟨ys,h1,h2⟩:=h.look i hi;exact⟨ys,h1.keep hk hd,h2⟩,h.apc,h.apl,h.som⟩
theorem Kv.wide(h:Kv w lo hi v rs xs cv lv)(h1:lo'≤lo)(h2:hi≤hi'):Kv w lo' hi' v rs xs cv lv:=
 ⟨h.row.wide h1 h2,h.fil,λi hi=>by obtain⟨ys,k1,k2⟩:=h.code i hi;exact⟨ys,k1.wide h1 h2,k2⟩,λi hi=>by obtain⟨ys,k1,k2⟩:=h.look i hi;exact⟨ys,k1.wide h1 h2,k2⟩,h.apc,h.apl,h.som⟩
theorem Ht.bl(h:Ht w lo hi v rs)(hb:Bw w w'):Ht w' lo hi v rs:=by
 obtain⟨xs,cv,lv,h⟩:=h;exact⟨xs,cv,lv,h.bl hb⟩
theorem Ht.keep(h:Ht w lo hi v rs)(hk:Dk lo' hi' w w')(hd:hi≤lo'∨hi'≤lo):Ht w' lo hi v rs:=by
 obtain⟨xs,cv,lv,h⟩:=h;exact⟨xs,cv,lv,h.keep hk hd⟩
theorem Ht.wide(h:Ht w lo hi v rs)(h1:lo'≤lo)(h2:hi≤hi'):Ht w lo' hi' v rs:=by
 obtain⟨xs,cv,lv,h⟩:=h;exact⟨xs,cv,lv,h.wide h1 h2⟩
theorem Ht.set(h:Ht w lo hi v rs)(hb:b<lo)(u:Z):Ht (w.setCell ⟨b,j,N⟩ u) lo hi v rs:=h.keep (Dk.set (lo:=b) (hi:=b+1) (Nat.le_refl _) (Nat.lt_succ_self _) j u) (Or.inr hb)
theorem Xf{is:L G3}{ys:L Z}(h:Bh w lo hi 136 3 v is.length ys)(hf:Bn is is.length ys):∃a cap,v=J a is.length cap∧Gk w a is:=by
 rcases Cz h.own with⟨rfl,h0⟩|⟨g,cap,rfl⟩
 ·exact qbn
 ·exact⟨_,cap,rfl,Qbd rfl h.own hf⟩
theorem Ht.sl(h:Ht w lo hi v rs):∃a cap,v=J a rs.length cap∧Lc w a rs:=by
 obtain⟨xs,cv,lv,h⟩:=h
 rcases Cz h.row.own with⟨rfl,h0⟩|⟨g,cap,rfl⟩
 ·exact qbn
 ·refine⟨_,cap,rfl,λi hi=>?_⟩
  obtain⟨h1,h2,h3⟩:=h.fil i hi;obtain⟨ys,k1,k2⟩:=h.code i hi;obtain⟨zs,j1,j2⟩:=h.look i hi;obtain⟨a',ai,e,r⟩:=Qw k1 k2;obtain⟨a2,oc,e2,r2⟩:=Xf j1 j2;refine⟨g,0,rfl,a',ai,a2,oc,?_,?_,?_,r,r2⟩
  ·rw[Nat.zero_add,h.row.own.cellAt _ qb,h1,e]
  ·rw[Nat.zero_add,h.row.own.cellAt _ qb,h2,e2]
  ·rw[Nat.zero_add,h.row.own.cellAt _ qb,h3]
structure Ek (w:E) (lo:X) (is:L T3) (k:X) (xs:L Z) (cv lv:X→Z):Prop where
 fil:∀i,i<k→xs[i*3]?=M (cv i)∧xs[i*3+1]?=M (lv i)∧xs[i*3+2]?=M (S (qx is i).out)
 code:∀i,i<k→∃ys,w.ownsRow lo 139 3 (cv i) (qx is i).code.length ys∧Ct (qx is i).code (qx is i).code.length ys
 look:∀i,i<k→∃ys,w.ownsRow lo 136 3 (lv i) (qx is i).looks.length ys∧Bn (qx is i).looks (qx is i).looks.length ys
 apc:∀i j,i<j→j<k→∀b,(cv i).ownBlock=M b→(cv j).ownBlock≠M b
 apl:∀i j,i<j→j<k→∀b,(lv i).ownBlock=M b→(lv j).ownBlock≠M b
 som:∀i,i<k→∃g cap,lv i=J (p_ g) (qx is i).looks.length cap
theorem Ek.same{is:L T3}(h:Ek w lo is k xs cv lv)(hk:∀b,lo≤b→b<w.heap.size→w'.heap[b]?=w.heap[b]?):Ek w' lo is k xs cv lv:=
 ⟨h.fil,λi hi=>by
  obtain⟨ys,h1,h2⟩:=h.code i hi
  exact⟨ys,Al h1 (λb e=>hk b (h1.lt b e).1 (h1.lt b e).2),h2⟩,λi hi=>by
  obtain⟨ys,h1,h2⟩:=h.look i hi;exact⟨ys,Al h1 (λb e=>hk b (h1.lt b e).1 (h1.lt b e).2),h2⟩,h.apc,h.apl,h.som⟩
theorem Ek.bl{is:L T3}(h:Ek w lo is k xs cv lv)(hb:Bw w w'):Ek w' lo is k xs cv lv:=h.same λb _ hl=>hb.block b hl
theorem Ek.set{is:L T3}(h:Ek w lo is k xs cv lv)(hb:b<lo)(u:Z):Ek (w.setCell ⟨b,j,N⟩ u) lo is k xs cv lv:=h.same λc hc _=>Dj w ⟨b,j,N⟩ u c (by show c≠b;omega)
theorem Ek.zero(w:E)(lo:X)(is:L T3)(xs:L Z):Ek w lo is 0 xs (λ_=>nS) (λ_=>nS):=⟨λi hi=>qb,λi hi=>qb,λi hi=>qb,λi j _ hj=>qb,λi j _ hj=>qb,λi hi=>qb⟩
theorem Ek.add{w2:E}{is:L T3}{xs2:L Z}(h:Ek w lo is k xs cv lv)(hk:∀b,lo≤b→b<w.heap.size→w2.heap[b]?=w.heap[b]?∨∃n zs B v,w.ownsRow B 95 3 v n zs∧v.ownBlock=M b)(hl:lo≤w.heap.size){c d:Z}{ys zs:L Z}(ho:w2.ownsRow w.heap.size 139 3 c (qx is k).code.length ys)(hf:Ct (qx is k).code (qx is k).code.length ys)(kw:w2.ownsRow w.heap.size 136 3 d (qx is k).looks.length zs)(ut:Bn (qx is k).looks (qx is k).looks.length zs)(hd:∃g cap,d=J (p_ g) (qx is k).looks.length cap)(h1:∀j,j<k*3→xs2[j]?=xs[j]?)(h2:xs2[k*3]?=M c)(h3:xs2[k*3+1]?=M d)(h4:xs2[k*3+2]?=M (S (qx is k).out)):Ek w2 lo is (k+1) xs2 (λi=>if i=k then c else cv i) (λi=>if i=k then d else lv i):=by
 have hsame:∀ {e sz n:X} {u:Z} {us:L Z},w.ownsRow lo e sz u n us→95≠e→w2.ownsRow lo e sz u n us:=fun {e sz n u us} k1 hne=>Al k1 (λb eb=>by
  rcases hk b (k1.lt b eb).1 (k1.lt b eb).2 with h|⟨n',zs',B',v',o',e'⟩
  ·exact h
  ·exact absurd eb (Ra o' k1 hne b e'))
 refine⟨λi hi=>?_,λi hi=>?_,λi hi=>?_,λi j t7 hj=>?_,λi j t7 hj=>?_,λi hi=>?_⟩
 ·rcases Nat.lt_or_ge i k with hl|hl
  ·obtain⟨k1,k2,k3⟩:=h.fil i hl
   rw[h1 _ qb,h1 _ qb,h1 _ qb,if_neg qb,if_neg qb];exact⟨k1,k2,k3⟩
  ·obtain rfl:i=k:=qb
   rw[if_pos rfl,if_pos rfl];exact⟨h2,h3,h4⟩
 ·rcases Nat.lt_or_ge i k with aj|Y4
  ·obtain⟨zs,k1,k2⟩:=h.code i aj
   exact qmw
  ·obtain rfl:i=k:=qb
   simp only[if_true];exact⟨ys,Ah ho hl,hf⟩
 ·rcases Nat.lt_or_ge i k with aj|Y4
  ·obtain⟨zs,k1,k2⟩:=h.look i aj
   exact qmw
  ·obtain rfl:i=k:=qb
   simp only[if_true];exact⟨zs,Ah kw hl,ut⟩
 ·rcases Nat.lt_or_ge j k with aj|Y4
  ·simp only[if_neg (show ¬ i=k from qb),if_neg (show ¬ j=k from qb)]
   exact h.apc i j t7 aj
  ·exact qjs
 ·rcases Nat.lt_or_ge j k with aj|Y4
  ·simp only[if_neg (show ¬ i=k from qb),if_neg (show ¬ j=k from qb)]
   exact h.apl i j t7 aj
  ·obtain rfl:j=k:=qb
   simp only[if_neg (show ¬ i=j from qb),if_true];intro b e1 e2;obtain⟨zs,k1,_⟩:=h.look i t7;have:=(k1.lt b e1).2;have:=(kw.lt b e2).1;omega
 ·rcases Nat.lt_or_ge i k with aj|Y4
  ·simp only[if_neg (show ¬ i=k from qb)]
   exact h.som i aj
  ·obtain rfl:i=k:=qb
   simp only[if_true];exact hd
theorem Ek.own{is:L T3}(h:Ek w lo' is is.length xs cv lv)(hr:w.ownsRow lo 95 3 v is.length xs)(hl:lo≤lo')(hh:w.heap.size≤hi):Ht w lo hi v is:=
 ⟨xs,cv,lv,⟨hr,λb e=>by have:=(hr.lt b e).2;omega⟩,h.fil,λi hi=>by
  obtain⟨ys,h1,h2⟩:=h.code i hi
  exact⟨ys,⟨Ah h1 hl,λb e=>by have:=(h1.lt b e).2;omega⟩,h2⟩,λi hi=>by
  obtain⟨ys,h1,h2⟩:=h.look i hi;exact⟨ys,⟨Ah h1 hl,λb e=>by have:=(h1.lt b e).2;omega⟩,h2⟩,h.apc,h.apl,h.som⟩
theorem set3_old(u v t:Z)(hj:j<k*3):(((xs.set (k*3) u).set (k*3+1) v).set (k*3+2) t)[j]?=xs[j]?:=by
 simp only[List.getElem?_set];rw[if_neg qb,if_neg qb,if_neg qb]
theorem set3_0(u v t:Z)(hx:k*3+2<xs.length):(((xs.set (k*3) u).set (k*3+1) v).set (k*3+2) t)[k*3]?=M u:=by
 simp only[List.getElem?_set];rw[if_neg qb,if_neg qb,if_pos trivial,if_pos qb]
theorem set3_1(u v t:Z)(hx:k*3+2<xs.length):(((xs.set (k*3) u).set (k*3+1) v).set (k*3+2) t)[k*3+1]?=M v:=by
 simp only[List.getElem?_set];rw[if_neg qb,if_pos trivial,if_pos qh]
theorem set3_2(u v t:Z)(hx:k*3+2<xs.length):(((xs.set (k*3) u).set (k*3+1) v).set (k*3+2) t)[k*3+2]?=M t:=by
 simp only[List.getElem?_set];rw[if_pos trivial,if_pos qh]
theorem heapW_new2(w:E)(o o2:Obj):((w.alloc o).alloc o2).heap[w.heap.size+1]?=M o2:=by
 have h:=Cu (w.alloc o) o2;rw[show(w.alloc o).heap.size=w.heap.size+1 from qg]at h;exact h
theorem heapW_old2(w:E)(o o2:Obj):((w.alloc o).alloc o2).heap[w.heap.size]?=M o:=by
 rw[Lib.alloc_old _ _ _ qg];exact Cu _ _
theorem Bb(h:w.heap[b]?=M (O #[v1,v2,v3] T (0,0))):w.cell? ⟨b,0,N⟩=M v1∧w.cell? ⟨b,1,N⟩=M v2∧w.cell? ⟨b,2,N⟩=M v3:=
 ⟨qaj,qaj,qaj⟩
theorem De.setT(ho:De w lo hi v ts)(h:Dn w b T)(h9:T≠9)(u:Z):De (w.setCell ⟨b,j,N⟩ u) lo hi v ts:=⟨Ap (Bh.own ho) h h9 u,Bh.top ho⟩
theorem Ht.setT(ho:Ht w lo hi v rs)(h:Dn w b T)(h66:T≠95)(h98:T≠139)(h88:T≠136)(u:Z):Ht (w.setCell ⟨b,j,N⟩ u) lo hi v rs:=by
 obtain⟨xs,cv,lv,k⟩:=ho
 exact⟨xs,cv,lv,⟨Ap k.row.own h h66 u,k.row.top⟩,k.fil,λi hi=>by
  obtain⟨ys,k1,k2⟩:=k.code i hi
  exact⟨ys,⟨Ap k1.own h h98 u,k1.top⟩,k2⟩,λi hi=>by
  obtain⟨ys,k1,k2⟩:=k.look i hi;exact⟨ys,⟨Ap k1.own h h88 u,k1.top⟩,k2⟩,k.apc,k.apl,k.som⟩
theorem Ek.setT{is:L T3}(h:Ek w lo is k xs cv lv)(ht:Dn w b T)(h98:T≠139)(h88:T≠136)(u:Z):Ek (w.setCell ⟨b,j,N⟩ u) lo is k xs cv lv:=
 ⟨h.fil,λi hi=>by
  obtain⟨ys,k1,k2⟩:=h.code i hi
  exact⟨ys,Ap k1 ht h98 u,k2⟩,λi hi=>by
  obtain⟨ys,k1,k2⟩:=h.look i hi;exact⟨ys,Ap k1 ht h88 u,k2⟩,h.apc,h.apl,h.som⟩
def gloC(gs:L G3)(j:X):Z:=if j % 3=0 then S (gx gs (j / 3)).name else if j % 3=1 then F (gx gs (j / 3)).ask else S (gx gs (j / 3)).sum
def Ji(gs:L G3):L Z:=(List.range (gs.length*3)).map (gloC gs)
theorem Ng(gs:L G3):(Ji gs).length=gs.length*3:=by simp[Ji]
theorem Qj(gs:L G3)(j:X)(h:j<gs.length*3):(Ji gs)[j]?=M (gloC gs j):=by
 unfold Ji;rw[List.getElem?_map,List.getElem?_range h];rfl
theorem Rz(gs:L G3):Bn gs gs.length (Ji gs):=by
 intro i hi;rw[Qj gs _ qb,Qj gs _ qb,Qj gs _ qb];unfold gloC;exact qjj
theorem gloV_one(gs:L G3):∀u∈Ji gs,u.oneCell'=true:=by
 intro u hu;obtain⟨j,_,rfl⟩:=List.mem_map.mp hu;unfold gloC;split
 ·rfl
 ·split<;>rfl
theorem Xr{gs:L G3}(h:Gk w (M ⟨b,off,N⟩) gs):∀j u,(Ji gs)[j]?=M u→w.cell? ((⟨b,off,N⟩:Addr).add j)=M u:=by
 intro j u hu;rw[Addr.add_lit]
 have hj:j<gs.length*3:=by
  rcases Nat.lt_or_ge j (gs.length*3)with h|h
  ·exact h
  ·rw[List.getElem?_eq_none (by rw[Ng];exact h)]at hu;cases hu
 rw[Qj gs j hj]at hu;obtain rfl:=Option.some.inj hu;obtain⟨b',br,ha,c1,c2,c3⟩:=h (j / 3) qb;cases ha;unfold gloC;split
 ·rename_i hm
  rw[show off+j=off+j / 3*3 from qb];exact c1
 ·split
  ·rename_i hm
   rw[show off+j=off+j / 3*3+1 from qb];exact c2
  ·rw[show off+j=off+j / 3*3+2 from qb];exact c3
theorem Np(ss:L By):∀u∈ss.map Value.string,u.oneCell'=true:=by
 intro u hu;obtain⟨s,_,rfl⟩:=List.mem_map.mp hu;rfl
theorem Pm(h:Ca w (M ⟨b,off,N⟩) ss):∀j u,(ss.map Value.string)[j]?=M u→w.cell? ((⟨b,off,N⟩:Addr).add j)=M u:=by
 intro j u hu;rw[Addr.add_lit]
 have hj:j<ss.length:=by
  rcases Nat.lt_or_ge j ss.length with h|h
  ·exact h
  ·rw[List.getElem?_eq_none qbd]at hu;cases hu
 rw[map_str ss j hj]at hu;obtain rfl:=Option.some.inj hu;obtain⟨b',br,ha,c1⟩:=h j hj;cases ha;exact c1
theorem Tryz.info88b:(prog.info? 136).map (λi=>(i.zero,i.size,i.bytes))=M (M (G #[ze,F false,ze]),3,40):=qi
theorem Tryz.info66b:(prog.info? 95).map (λi=>(i.zero,i.size,i.bytes))=M (M (G #[nS,nS,ze]),3,64):=qi
theorem cloneX_any(b off cap:X)(is:L By)(w:E)(hc:Ca w (M ⟨b,off,N⟩) is)(hl:is.length≤1048576):Calls prog 81 #[J (M ⟨b,off,N⟩) is.length cap] w λe w'=>Bw w w'∧∃g cp,e=H (J (p_ g) is.length cp)∧w'.ownsRow w.heap.size 9 1 (J (p_ g) is.length cp) is.length (is.map Value.string):=by
 obtain⟨i0,hi,bo,bm,cm⟩:=info_parts Tryz.info9b;have dm:(w.alloc (O #[] 9)).ownsRow w.heap.size 9 1 (J (p_ w.heap.size) 0 0) 0 []:=World.ownsRow_lit (base:=w.heap.size) (e:=9) (size:=1) w #[] 0 (Nat.le_refl _) qm qg;have hn:=Pm (hc.bl ((Below.refl w.heap.size w).alloc (Nat.le_refl _) (O #[] 9)));have HL:Hd ((is.map Value.string).length=is.length*1):=by show _=_;simp
 have HO:Hd (∀u∈is.map Value.string,u.oneCell'=true):=Np is;generalize is.map Value.string=xs at *;clear hc;have hq:∀W:E,(binOp .eql 22 (J (M ⟨b,off,N⟩) is.length cap) nS).run prog W=.ok (F false) W:=λW=>Lib.run_eql_slice_nil W 22 9 _ _ _ 0 0 underlying22;go_enter func81,ntmps81
 go_wp2_with (at_builtin;refine wpList_append_own _ rfl (.tmp 5) (.tmp 6) 22 rfl w.heap.size 9 i0 ze 1 16 underlying22 hi bo bm cm rfl qd _ 0 [] rfl dm ⟨b,off,N⟩ is.length cap xs rfl HL.o hn HO.o qm qb qg ?_;intro v' w2 ba ae dp)
 exact qfc
def Rm(lo:X)(w:E)(e:Ending)(is:L I3)(gs:L G3)(out:By):Prop:=∃g1 p1 g2 p2,e=H (G #[J (p_ g1) is.length p1,J (p_ g2) gs.length p2,S out])∧w.ownsRow lo 139 3 (J (p_ g1) is.length p1) is.length (Dp is)∧w.ownsRow lo 136 3 (J (p_ g2) gs.length p2) gs.length (Ji gs)

theorem Ri{P:X}{x y z:Z}(hz:w.heap[P]?=M (O #[x,y,z] T (0,0)))(u1 u2 u3:Z):(((w.setCell ⟨P,0,N⟩ u1).setCell ⟨P,1,N⟩ u2).setCell ⟨P,2,N⟩ u3).heap[P]?=M (O #[u1,u2,u3] T (0,0)):=by
 have h1:(w.setCell ⟨P,0,N⟩ u1).heap[P]?=M (O #[u1,y,z] T (0,0)):=by rw[jB hz];rfl
 have h2:((w.setCell ⟨P,0,N⟩ u1).setCell ⟨P,1,N⟩ u2).heap[P]?=M (O #[u1,u2,z] T (0,0)):=by rw[jB h1];rfl
 rw[jB h2];rfl

theorem Ir(w:E)(dT sT ty elem:TypeId)(g o dLen dCap:X)(a:Addr)(sLen sCap:X)(cur:Array Z)(t:TypeId)(cs:L Z)(hu:prog.underlying dT=M (.slice elem))(hs:(prog.info? elem).map (·.size)=M 1)(hg:w.heap[g]?=M (O cur t (0,0)))(hn:cs.length=Nat.min sLen dLen)(hsrc:∀j v,cs[j]?=M v→w.cell? (a.add j)=M v)(hfit:o+cs.length≤cur.size)(h1:∀v∈cs,v.oneCell'=true):(Builtin.copy_ #[dT,sT] ty #[J (M ⟨g,o,N⟩) dLen dCap,J (M a) sLen sCap]).run prog w =
 .ok (goInt (Nat.min sLen dLen)) (w.setRow g (cur.toList.take o++cs++cur.toList.drop (o+cs.length)).toArray):=by
 have hl:=run_loadCells_list (P:=prog) w a cs hsrc;have cw:=run_storeCells_at prog g o t cs 0 cur w hg (by simpa using hfit) h1
 cases hq:prog.info? elem with
 | none=>simp[hq]at hs
 | some i=>
   (have hi:i.size=1:=by simpa [hq] using hs);simp[Builtin.copy_,run_underlying hu,Builtin.lenOf,Builtin.firstCells,sizeOf,typeInfo,hq,hi,←hn,hl,cw]
theorem Ug{α:Type}(AL cs:L α)(o:X)(h:o≤AL.length):(AL.take o++cs++AL.drop (o+cs.length)).take (o+cs.length)=AL.take o++cs:=by
 rw[List.take_append_of_le_length qh,List.take_of_length_le qh]
theorem shift_take{α:Type}(C xs vs:L α)(i n:X)(hi:i≤n)(hx:C.take (n)=xs)(hl:(n+1)≤C.length)(hv:vs.length=1)(C1 C2:L α)(h1:C1=C.take ((i+1))++xs.drop (i)++C.drop ((i+1)+(xs.drop (i)).length))(h2:C2=C1.take (i)++vs++C1.drop (i+vs.length)):C2.length=C.length∧C2.take ((n+1))=xs.take (i)++vs++xs.drop (i):=by
 have oq:xs.length=n:=by rw[←hx,List.length_take];omega
 have E8:(xs.drop (i)).length=n-i:=by rw[List.length_drop,oq]
 have ww:C1.length=C.length:=by rw[h1];simp[E8];omega
 have e1:C1.take ((n+1))=C.take ((i+1))++xs.drop (i):=by
  have:=Ug C (xs.drop (i)) ((i+1)) qb;rw[←h1,E8,show(i+1)+(n-i)=(n+1) from qb]at this;exact this
 have e2:C1.take (i)=xs.take (i):=by
  have:=congrArg (λl=>l.take (i)) e1;simp only[List.take_take]at this;rw[Nat.min_eq_left qb,List.take_append_of_le_length qh,List.take_take,Nat.min_eq_left qb]at this;rw[this,←hx,List.take_take,Nat.min_eq_left qb]
 have e3:(C1.take ((n+1))).drop ((i+1))=xs.drop (i):=by
  rw[e1,List.drop_append_of_le_length qh,List.drop_of_length_le qh,List.nil_append]
 have K8:C2.length=C.length:=by rw[h2];simp[hv,ww];omega
 refine⟨K8,?_⟩;rw[h2,hv,show i+1=(i+1) from qb,List.take_append,List.take_of_length_le (by simp[hv,ww];omega)];rw[e2];congr 1;rw[←e3,List.drop_take];congr 1;simp[hv,oq];omega
theorem grow_take{α:Type}(R xs vs AE:L α)(i n:X)(hi:i≤n)(oq:xs.length=n)(hR:R=xs.take (i)++AE)(hZ:(n+1-i)≤AE.length)(hv:vs.length=1)(C1 C2:L α)(h1:C1=R.take (i)++vs++R.drop (i+vs.length))(h2:C2=C1.take ((i+1))++xs.drop (i)++C1.drop ((i+1)+(xs.drop (i)).length)):C2.length=R.length∧C2.take ((n+1))=xs.take (i)++vs++xs.drop (i):=by
 have E8:(xs.drop (i)).length=n-i:=by rw[List.length_drop,oq]
 have hRl:R.length=i+AE.length:=by rw[hR];simp[oq];omega
 have ww:C1.length=R.length:=by rw[h1];simp[hv];omega
 have e1:C1.take ((i+1))=xs.take (i)++vs:=by
  have:=Ug R vs (i) qb;rw[←h1,hv,show i+1=(i+1) from qb]at this;rw[this,hR,List.take_append_of_le_length (by simp[oq];omega),List.take_take,Nat.min_self]
 have e2:=Ug C1 (xs.drop (i)) ((i+1)) qb;rw[←h2,E8,show(i+1)+(n-i)=(n+1) from qb,e1]at e2;refine⟨?_,e2⟩;rw[h2];simp[E8,ww];omega
theorem one_drop(h:∀v∈xs,v.oneCell'=true)(k:X):∀v∈xs.drop k,v.oneCell'=true:=λv hv=>h v (List.mem_of_mem_drop hv)
/-! ### Text -/
theorem Tryz.size9:(prog.info? 9).map (·.size)=M 1:=qi
theorem Tryz.szrun9:∀w,(Go.sizeOf 9).run prog w=.ok 1 w:=λw=>by
 obtain⟨i0,hi,bo,bm,cm⟩:=info_parts Tryz.info9b;simp[sizeOf,typeInfo,hi,bm]
theorem Wl(g n c i vb:X)(cur:Array Z)(y:Z)(w:E)(hi:i<n)(O7:n+1≤c)(E9:c≤maxLen)(hg:w.heap[g]?=M (O cur 9 (0,0)))(hcur:cur.size=c)(hb:w.heap[vb]?=M (O #[y] 9 (0,0)))(hvb:vb≠g)(h1c:∀v∈cur.toList.take (n),v.oneCell'=true)(h1v:∀v∈[y],v.oneCell'=true)(C1 C2:L Z)(e1:C1=cur.toList.take ((i+1))++(cur.toList.take (n)).drop (i)++cur.toList.drop ((i+1)+((cur.toList.take (n)).drop (i)).length))(e2:C2=C1.take (i)++[y]++C1.drop (i+[y].length)):Calls prog 175 #[J (p_ g) n c,I i,J (p_ vb) 1 1] w λe w'=>e=H (J (p_ g) (n+1) c)∧w'=(w.drew.setRow g C1.toArray).setRow g C2.toArray:=by
 unfold maxLen at E9;have E8:((cur.toList.take (n)).drop (i)).length=(n-i):=by rw[List.length_drop,List.length_take,Array.length_toList,hcur];omega
 have ww:C1.length=cur.size:=by rw[e1];simp[E8,hcur];omega
 have hov:∀lb cb,(callFunc 184 #[J (p_ vb) 1 1,J (M ⟨g,(i+1),N⟩) lb cb]).run prog w=.ok (.value (F false)) w:=λlb cb=>by
  rw[run_callFunc_extern func184 qi qi qi (e:=Extern.SlicesOverlaps.overlaps #[22,22] #[4]) qi,
   Lib.run_overlaps_apart w 22 4 9 underlying22 1 Tryz.szrun9 ⟨vb,0,N⟩ ⟨g,(i+1),N⟩ 1 1 lb cb hvb 9 9 1 cur.size (by simp[World.shape?,hb]) (by simp[World.shape?,hg]) qb (fH hb 0) (fH hb 1)]
  rfl
 have hcp1:∀ty dc sc,(Builtin.copy_ #[22,22] ty #[J (M ⟨g,(i+1),N⟩) (n-i) dc,J (M ⟨g,i,N⟩) (n+1-i) sc]).run prog w.drew=.ok (goInt ((n-i:X):Int)) (w.drew.setRow g C1.toArray):=λty dc sc=>by
  have h:=Ir w.drew 22 22 ty 9 g ((i+1)) (n-i) dc ⟨g,i,N⟩ (n+1-i) sc cur 9 ((cur.toList.take (n)).drop (i)) underlying22 Tryz.size9 hg (by rw[E8];simp only[Nat.min_def];split<;>omega)
   (λj v hj=>by
     rw[Addr.add_lit,cH (w:=w.drew) (cs:=cur) (T:=9) (fr:=(0,0)) hg];rw[List.getElem?_drop,List.getElem?_take]at hj
     split at hj
     ·rw[←Array.getElem?_toList];exact hj
     ·cases hj) (by rw[E8];omega) (one_drop h1c _)
  rw[←e1,show Nat.min (n+1-i) (n-i)=n-i from qgz]at h;exact h
 obtain⟨W1,hW1⟩:∃W1,W1=w.drew.setRow g C1.toArray:=⟨_,rfl⟩;have hg1:W1.heap[g]?=M (O C1.toArray 9 (0,0)):=by rw[hW1];exact setRow_heap _ _ _ _ _ _ hg
 have af:W1.heap[vb]?=M (O #[y] 9 (0,0)):=by rw[hW1,setRow_other _ _ _ _ hvb];exact hb
 have hcp2:∀ty dc,(Builtin.copy_ #[22,22] ty #[J (M ⟨g,i,N⟩) (n+1-i) dc,J (p_ vb) 1 1]).run prog W1=.ok (goInt 1) (W1.setRow g C2.toArray):=λty dc=>by
  have h:=Ir W1 22 22 ty 9 g (i) (n+1-i) dc ⟨vb,0,N⟩ 1 1 C1.toArray 9 [y] underlying22 Tryz.size9 hg1 (by show 1=_;simp only[Nat.min_def];split<;>omega)
   (λj v hj=>by
     rw[Addr.add_lit,cH af,Nat.zero_add];simpa using hj) (by simp[ww,hcur];omega) h1v
  rw[←e2,show Nat.min 1 (n+1-i)=1 from qgz]at h;exact h
 rw[←hW1]at hcp1 ⊢;have hzr:¬ ((c:Int)<(n:Int)+1):=qb;have O5:IntKind.i64.wrap ((i:Int)+1)=(i:Int)+1:=qes;have O2:IntKind.i64.wrap ((n:Int)+1)=(n:Int)+1:=qes;have hbb1:(0:Int)≤(i:Int)+1:=qb;have n8:i≤n:=qb;have htn:((i:Int)+1).toNat=i+1:=qb;have htm:((n:Int)+1).toNat=n+1:=qb;have ag:¬ (c=i+1):=qb;have au:(i:Int)≤(n:Int)+1:=qb;have ce:¬ (c=i):=qb;clear hg hb hg1 af e1 e2 h1c h1v ww E8 hcur hW1;have mixed:prog.follows .mixedOrders=true:=qi;go_enter func175,ntmps175
 go_wp2_with (simp only[hov])
 go_region_law_o (refine step_copy_runI rfl _ _ 22 22 rfl _ _ qew qew (hcp1 _ _ _) ?_)
 go_wp2_with (at_builtin;refine wpList_copy_runI _ rfl _ _ 22 22 rfl _ _ rfl rfl (hcp2 _ _) ?_)
 go_ret;exact⟨rfl,rfl⟩
theorem Zv(g n c i vb:X)(cur:Array Z)(xs:L Z)(y:Z)(w:E)(hi:i<n)(hnc:n≤c)(O7:c<n+1)(hn:n≤1048576)(hg:w.heap[g]?=M (O cur 9 (0,0)))(D6:cur.toList.take (n)=xs)(oq:xs.length=n)(hb:w.heap[vb]?=M (O #[y] 9 (0,0)))(h1c:∀v∈xs,v.oneCell'=true)(h1v:∀v∈[y],v.oneCell'=true):Calls prog 175 #[J (p_ g) n c,I i,J (p_ vb) 1 1] w λe w'=>∃(AH:X)(C:L Z),e=H (J (p_ w.heap.size) (n+1) AH)∧n+1≤AH∧AH≤maxLen∧C.length=AH∧C.take ((n+1))=xs.take (i)++[y]++xs.drop (i)∧w'.heap[w.heap.size]?=M (O C.toArray 9 (0,0))∧w'.heap.size=w.heap.size+1∧(∀b,b<w.heap.size→w'.heap[b]?=w.heap[b]?)∧w'.os=w.os∧w'.tape=w.tape∧w'.output=w.output:=by
 obtain⟨i0,E5,bo,hzs,hzb⟩:=info_parts Tryz.info9b;have km:(n:Int)+1-(i:Int)=((n+1-i:X):Int):=qb;have hik:i+(n+1-i)=n+1:=qb
 have jm:∀j v,xs[j]?=M v→∀W:E,W.heap[g]?=w.heap[g]?→W.cell? ⟨g,j,N⟩=M v:=λj v hj W hW=>by
  rw[cH (w:=W) (hW.trans hg),←Array.getElem?_toList];rw[←D6,List.getElem?_take]at hj
  split at hj
  ·exact hj
  ·cases hj
 have hold:(Builtin.firstCells i0.size i (J (p_ g) i c)).run prog w.drew=.ok (xs.take (i)).toArray w.drew:=by
  rw[hzs]
  exact run_firstCells_some w.drew 1 i ⟨g,0,N⟩ i c (xs.take (i)) (by rw[List.length_take];omega) (λj v hj=>by
   rw[Addr.add_lit,Nat.zero_add];rw[List.getElem?_take]at hj
   split at hj
   ·exact jm j v hj _ rfl
   ·cases hj)
 have hrz:∀ty,(Builtin.append_ #[22,3] ty #[J (p_ g) i c,I ((n:Int)+1-(i:Int))]).run prog w =
  .ok (J (p_ w.heap.size) (n+1) (grownCap w (n+1) c 9)) (w.drew.alloc (O ((xs.take (i)).toArray++Builtin.zeroCells ze.cells (n+1-i)++Builtin.zeroCells ze.cells (grownCap w (n+1) c 9-(n+1))) 9)):=λty=>by
  have h:=Lib.run_append_grow_zeros w 22 3 ty 9 i0 _ .i64 .i64 underlying22 underlying3 E5 bo (p_ g) i c (xs.take (i)) hold (n+1-i) qb qb qb qb (by rw[hzb];omega) (by rw[hzb,hik];exact growslice_fits O7 qb);rw[hik]at h;rw[km];exact h
 obtain⟨AH,hG⟩:∃AH,AH=grownCap w (n+1) c 9:=⟨_,rfl⟩;have hGn:n+1≤AH:=by rw[hG];exact grownCap_ge w _ _ _
 have hGm:AH≤maxLen:=by rw[hG];exact grownCap_le_maxLen w (n+1) c 9 qm
 obtain⟨AE,hZ⟩:∃AE:L Z,AE=(Builtin.zeroCells ze.cells (n+1-i)).toList++(Builtin.zeroCells ze.cells (AH-(n+1))).toList:=⟨_,rfl⟩
 have hZl:AE.length=(AH-i):=by
  rw[hZ];simp[Builtin.zeroCells,Value.cells];omega
 obtain⟨R,hR⟩:∃R:L Z,R=xs.take (i)++AE:=⟨_,rfl⟩;have hRl:R.length=AH:=by rw[hR];simp[oq,hZl];omega
 have hROW:(xs.take (i)).toArray++Builtin.zeroCells ze.cells (n+1-i)++Builtin.zeroCells ze.cells (AH-(n+1))=R.toArray:=by
  apply Array.ext';rw[hR,hZ];simp
 rw[←hG,hROW]at hrz;obtain⟨C1,h1⟩:∃C1,C1=R.take (i)++[y]++R.drop (i+[y].length):=⟨_,rfl⟩;obtain⟨C2,h2⟩:∃C2,C2=C1.take ((i+1))++xs.drop (i)++C1.drop ((i+1)+(xs.drop (i)).length):=⟨_,rfl⟩;obtain⟨K8,ht2⟩:=grow_take R xs [y] AE i n qb oq hR (by rw[hZl];omega) rfl C1 C2 h1 h2;have ww:C1.length=AH:=by rw[h1];simp[hRl];omega
 have E8:(xs.drop (i)).length=(n-i):=by rw[List.length_drop,oq]
 have hvb:vb<w.heap.size:=Fl hb;have wf:g<w.heap.size:=Fl hg;have hA:(w.alloc (O R.toArray 9)).heap[w.heap.size]?=M (O R.toArray 9 (0,0)):=Cu _ _
 have hcpA:∀(W:E),W.heap=(w.alloc (O R.toArray 9)).heap→∀ty dc,(Builtin.copy_ #[22,22] ty #[J (M ⟨w.heap.size,i,N⟩) (n+1-i) dc,J (p_ vb) 1 1]).run prog W=.ok (goInt 1) (W.setRow w.heap.size C1.toArray):=λW hW ty dc=>by
  have h:=Ir W 22 22 ty 9 w.heap.size (i) (n+1-i) dc ⟨vb,0,N⟩ 1 1 R.toArray 9 [y] underlying22 Tryz.size9 (by rw[hW];exact hA) (by show 1=_;simp only[Nat.min_def];split<;>omega)
   (λj v hj=>by
     rw[Addr.add_lit,cH (w:=W) (cs:=#[y]) (T:=9) (fr:=(0,0)) (by rw[hW,Lib.alloc_old _ _ _ hvb];exact hb),Nat.zero_add];simpa using hj) (by simp[hRl];omega) h1v
  rw[←h1,show Nat.min 1 (n+1-i)=1 from qgz]at h;exact h
 have hcpB:∀(W:E),W.heap=((w.alloc (O R.toArray 9)).setRow w.heap.size C1.toArray).heap→∀ty dc sc,(Builtin.copy_ #[22,22] ty #[J (M ⟨w.heap.size,(i+1),N⟩) (n-i) dc,J (M ⟨g,i,N⟩) (n-i) sc]).run prog W=.ok (goInt ((n-i:X):Int)) (W.setRow w.heap.size C2.toArray):=λW hW ty dc sc=>by
  have h:=Ir W 22 22 ty 9 w.heap.size ((i+1)) (n-i) dc ⟨g,i,N⟩ (n-i) sc C1.toArray 9 (xs.drop (i)) underlying22 Tryz.size9 (by rw[hW];exact setRow_heap _ _ _ _ _ _ hA) (by rw[E8];simp)
   (λj v hj=>by
     rw[Addr.add_lit];rw[List.getElem?_drop]at hj;exact jm _ v hj W (by rw[hW,setRow_other _ _ _ _ qb,Lib.alloc_old _ _ _ wf])) (by simp[ww,E8];omega) (one_drop h1c _)
  rw[←h2,show Nat.min (n-i) (n-i)=n-i from qg]at h;exact h
 have hcpA':=hcpA (w.alloc (O R.toArray 9)).drew rfl;have hcpB':=hcpB ((w.alloc (O R.toArray 9)).drew.setRow w.heap.size C1.toArray).drew rfl;clear hcpA hcpB
 have HX:Hd ((((w.alloc (O R.toArray 9)).drew.setRow w.heap.size C1.toArray).drew.setRow w.heap.size C2.toArray).heap[w.heap.size]?=M (O C2.toArray 9 (0,0))∧(((w.alloc (O R.toArray 9)).drew.setRow w.heap.size C1.toArray).drew.setRow w.heap.size C2.toArray).heap.size=w.heap.size+1∧∀b,b<w.heap.size→(((w.alloc (O R.toArray 9)).drew.setRow w.heap.size C1.toArray).drew.setRow w.heap.size C2.toArray).heap[b]?=w.heap[b]?):=by
  refine⟨setRow_heap _ _ _ _ _ _ (setRow_heap (w.alloc (O R.toArray 9)).drew _ _ C1.toArray _ _ hA),qg,λb H8=>?_⟩;rw[setRow_other _ _ _ _ qb];show((w.alloc (O R.toArray 9)).drew.setRow w.heap.size C1.toArray).heap[b]?=_;rw[setRow_other _ _ _ _ qb];exact Lib.alloc_old _ _ _ H8
 have HC2:Hd (C2.length=AH∧C2.take ((n+1))=xs.take (i)++[y]++xs.drop (i)):=⟨by rw[K8,hRl],ht2⟩;have hz3:(c:Int)<(n:Int)+1:=qb;have hGi:¬ (AH=i):=qb;have hGim:¬ (AH=i+1):=qb;have hci:¬ (c=i):=qb;have O5:IntKind.i64.wrap ((i:Int)+1)=(i:Int)+1:=qes;have O2:IntKind.i64.wrap ((n:Int)+1)=(n:Int)+1:=qes;have hbb1:(0:Int)≤(i:Int)+1:=qb;have htn:((i:Int)+1).toNat=i+1:=qb;have au:(i:Int)≤(n:Int):=qb;have mixed:prog.follows .mixedOrders=true:=qi;have HGM:Hd (AH≤maxLen):=hGm;clear km hik hold hROW hG hRl hGm ww K8 ht2 h1 h2 hR hZ hZl hg hb D6 jm hA h1c h1v E8;go_enter func175,ntmps175
 go_wp2_with (first
  | (at_builtin;refine Lib.wpList_append_run _ rfl _ _ _ _ rfl _ _ rfl rfl _ _ (hrz _) ?_)
  | (at_builtin;refine wpList_copy_runI _ rfl _ _ 22 22 rfl _ _ rfl rfl (hcpA' _ _) ?_))
 go_region_law_o (refine step_copy_runI rfl _ _ 22 22 rfl _ _ qew qew (hcpB' _ _ _) ?_)
 go_wp2;go_ret;exact⟨AH,C2,rfl,hGn,HGM.o,HC2.o.1,HC2.o.2,HX.o.1,HX.o.2.1,HX.o.2.2,rfl,rfl,rfl⟩
theorem insertX_end(B n vb:X)(v:Z)(xs:L Z)(y:Z)(w:E)(ho:w.ownsRow B 9 1 v n xs)(hB:B≤w.heap.size)(hn:n≤5000)(hb:w.heap[vb]?=M (O #[y] 9 (0,0)))(h1v:∀u∈[y],u.oneCell'=true):Calls prog 175 #[v,I n,J (p_ vb) 1 1] w λe w'=>∃g' cp,e=H (J (p_ g') (n+1) cp)∧w'.ownsRow B 9 1 (J (p_ g') (n+1) cp) (n+1) (xs++[y])∧Below B w w'∧Dl v.ownBlock w w'∧(v.ownBlock=M g'∨g'=w.heap.size):=by
 obtain⟨i0,hi,bo,bm,cm⟩:=info_parts Tryz.info9b;have HB:Hd (∀(g' cp:X)(w2:E),w2.ownsRow B 9 1 (J (p_ g') (n+1) cp) (n+1) (xs++[y])→w.grownBy w2 v.ownBlock→Below B w w2∧Dl v.ownBlock w w2):=λg' cp w2 k1 k2=>⟨(Below.refl _ _).grown k2 hB (λk hk=>(ho.lt k hk).1),λb hl hne=>k2.block b hl hne⟩;have HN:Hd (∀j u,[y][j]?=M u→w.cell? ((⟨vb,0,N⟩:Addr).add j)=M u):=World.news_of_block (cs:=#[y]) (t:=9) (fr:=(0,0)) hb;have HO:Hd (w.ownsRow B 9 1 v n xs):=ho
 rcases Cz ho with⟨rfl,rfl⟩|⟨g,c,rfl⟩
 ·clear hb ho
  exact qez
 ·have pw:n≤c∧c≤maxLen:=by
   rcases ho.2 with⟨h,_⟩|⟨g',c',cur,hv,_,_,h1,h2,_⟩
   ·cases h
   ·cases hv;exact⟨h1,h2⟩
  obtain⟨hc1,hc2⟩:=pw;unfold maxLen at hc2;clear hb ho
  by_cases P7:c=n
  ·subst P7
   exact qez
  ·exact qez
theorem Rx(B n i vb:X)(v:Z)(xs:L Z)(y:Z)(w:E)(ho:w.ownsRow B 9 1 v n xs)(hB:B≤w.heap.size)(hi:i≤n)(hn:n≤5000)(hb:w.heap[vb]?=M (O #[y] 9 (0,0)))(hne:v.ownBlock≠M vb)(h1c:∀u∈xs,u.oneCell'=true)(h1v:∀u∈[y],u.oneCell'=true):Calls prog 175 #[v,I i,J (p_ vb) 1 1] w λe w'=>∃g' cp,e=H (J (p_ g') (n+1) cp)∧w'.ownsRow B 9 1 (J (p_ g') (n+1) cp) (n+1) (xs.take (i)++[y]++xs.drop (i))∧Below B w w'∧Dl v.ownBlock w w'∧(v.ownBlock=M g'∨g'=w.heap.size):=by
 have oq:xs.length=n:=zo ho.1
 rcases Nat.lt_or_ge i n with aj|Y4
 ·rcases ho.2 with⟨_,h0⟩|⟨g,c,cur,rfl,hg,hh,h1,h2,h3,h4⟩
  ·omega
  ·rw[Nat.mul_one]at h3 h4
   have hvb:vb≠g:=λe=>hne (by rw[e];rfl);have hgl:g<w.heap.size:=Fl hh
   rcases Nat.lt_or_ge c (n+1)with hr|hr
   ·refine(Zv g n c i vb cur xs y w aj h1 hr qb hh h4 oq hb h1c h1v).mono ?_
    rintro e w' ⟨AH,C,rfl,k1,k2,k3,k4,k5,k6,k7,k8,k9,k10⟩;refine⟨_,AH,rfl,⟨by simp[oq];omega,Or.inr ⟨w.heap.size,AH,C.toArray,rfl,hB,k5,k1,k2,by simpa using k3,by simpa using k4⟩⟩,⟨k8,k9,k10,qb,λb hbb=>k7 b qb⟩,λb hl _=>k7 b hl,Or.inr rfl⟩
   ·refine(Wl g n c i vb cur y w aj hr h2 hh h3 hb hvb (by rw[h4];exact h1c) h1v _ _ rfl rfl).mono ?_
    rintro e w' ⟨rfl,rfl⟩;rw[h4];obtain⟨l2,t2⟩:=shift_take cur.toList xs [y] i n hi h4 (by rw[Array.length_toList,h3];omega) rfl _ _ rfl rfl;refine⟨g,c,rfl,⟨by simp[oq];omega,Or.inr ⟨g,c,_,rfl,hg,setRow_heap _ _ _ _ _ _ (setRow_heap w.drew _ _ _ _ _ hh),hr,h2,?_,by simpa using t2⟩⟩,?_,?_,Or.inl rfl⟩
    ·rw[List.size_toArray,l2,Array.length_toList,Nat.mul_one];exact h3
    ·exact below_setRow (below_setRow (Below.refl _ _).drew hg _) hg _
    ·intro b hl hne'
     have hbg:b≠g:=λe=>hne' (by rw[e];rfl);rw[setRow_other _ _ _ _ hbg,setRow_other _ _ _ _ hbg];rfl
 ·obtain rfl:i=n:=qb
  refine(insertX_end B i vb v xs y w ho hB hn hb h1v).mono ?_;rintro e w' ⟨g',cp,rfl,k1,k2,k3,k4⟩;refine⟨g',cp,rfl,?_,k2,k3,k4⟩;rw[List.take_of_length_le qb,List.drop_of_length_le qb,List.append_nil];exact k1
end Go.Proofs.YtoakjccojifagaaGreatDoor
