import Derived.Test.YtbkkjodaaijimaaGreatDoorEdD
import Derived.Test.YtbkkjodaaijimaaGreatDoorTImD
import Derived.Test.YtbkkjodaaijimaaGreatDoorTNPlainS
import Derived.Test.YtbkkjodaaijimaaGreatDoorTNStepJ
namespace Go.Proofs.YtbkkjodaaijimaaGreatDoor
open Value renaming slice->J,string->S,bool->F,agg->G
open Option renaming some->M,none->N
open Obj renaming cells->O
open Go renaming Value->Z,World->E
open Ending renaming returned->H
open _root_ renaming List->L,Nat->X
set_option maxHeartbeats 8000000
set_option maxRecDepth 100000
open _root_.Go.Proofs.Tryz Go.RowKit Go.Deep
set_option linter.unusedVariables false
set_option linter.unusedSimpArgs false
variable {w W W' w':E} {b T i1 B cp k kx B' lo hi lo' hi' j off:X} {v0 v1 v2 v3 sv u0 u1 u2:Z} {pl st x0 x2 x3 x5:Int} {tt x6 x8:By} {xs zs:L Z} {is:L I3} {s:St} {a ax:Option Addr} {ss ts:L By} {ys:L R3} {x4 x7 x9:Bool} {rs:L T3} {cv lv:X→Z}
theorem Nj{v4 v5 v6 v7 v8 v9:Z}{T:TypeId}(h:w.heap[b]?=M (O #[v0,v1,v2,v3,v4,v5,v6,v7,v8,v9] T (0,0))):w.cell? ⟨b,0,N⟩=M v0/\w.cell? ⟨b,1,N⟩=M v1/\w.cell? ⟨b,2,N⟩=M v2/\w.cell? ⟨b,3,N⟩=M v3/\w.cell? ⟨b,4,N⟩=M v4/\w.cell? ⟨b,5,N⟩=M v5/\w.cell? ⟨b,6,N⟩=M v6/\w.cell? ⟨b,7,N⟩=M v7/\w.cell? ⟨b,8,N⟩=M v8/\w.cell? ⟨b,9,N⟩=M v9:=by
 refine⟨?_,?_,?_,?_,?_,?_,?_,?_,?_,?_⟩<;>rw[cH h]<;>rfl
abbrev rV(p:Int)(sv:Z)(s:Int)(l:X):Obj:=O #[I p,sv,I s,I l,F false,I 0,ze,F false,ze,F false] 221 (0,0)
structure Sd (w W:E) (i1:X) (pl:Int) (sv:Z) (st:Int) (lk:X) (o:X) (tt:By) (n:X):Prop where
 b:Bw w W
 r:W.heap[w.heap.size+1]?=M (rV pl sv st lk)
 z:W.heap[w.heap.size+1+1]?=M zR
 i:W.heap[i1]?=M (O #[I o,S tt,I n] 143 (0,0))
theorem Sd.bl{lk o:X}{n:X}(h:Sd w W i1 pl sv st lk o tt n)(hb:Bw W W'):Sd w W' i1 pl sv st lk o tt n:=⟨bN h.b hb,Ov hb h.r,Ov hb h.z,Ov hb h.i⟩
theorem Sd.at{lk o:X}{n:X}(h:Sd w W i1 pl sv st lk o tt n)(hne:i1≠w.heap.size+1)(p:Int):Sd w (W.setCell ⟨w.heap.size+1,0,N⟩ (I p)) i1 p sv st lk o tt n:=
 ⟨h.b.setCell (p:=⟨w.heap.size+1,0,N⟩) (Nat.le_succ _) _,by rw[jB h.r];rfl,by rw[hC W ⟨w.heap.size+1,0,N⟩ _ _ qg];exact h.z,by rw[hC W ⟨w.heap.size+1,0,N⟩ _ _ hne];exact h.i⟩
theorem Sd.grown{lk o:X}{n:X}{x:Obj}{m:X}{v:Z}(h:Sd w W i1 pl sv st lk o tt n)(ho:(W.alloc x).ownsRow B 9 1 v m xs)(hB:w.heap.size<=B)(hg:(W.alloc x).grownBy W' v.ownBlock):Sd w W' i1 pl sv st lk o tt n:=by
 have HM:∀(b':X)(cs':Array Z)(T':X),T'≠9->W.heap[b']?=M (O cs' T' (0,0))->M b'≠v.ownBlock:=λb' cs' T' G2 As=>Hi G2 qbe ho
 have hs:=h.b.size
 exact⟨(h.b.alloc hs _).grown hg qh (λk hk=>Nat.le_trans hB (ho.lt k hk).1),Fp hg HM _ _ 221 qd h.r,Fp hg HM _ _ 221 qd h.z,Fp hg HM _ _ 143 qd h.i⟩
theorem Sd.c{lk o:X}{n:X}(h:Sd w W i1 pl sv st lk o tt n):W.cell? ⟨i1,0,N⟩=M (I o)/\W.cell? ⟨i1,1,N⟩=M (S tt)/\W.cell? ⟨i1,2,N⟩=M (I n):=by
 refine⟨?_,?_,?_⟩<;>rw[cH h.i]<;>rfl
theorem out_tk{o:X}(kd:1<=o)(ho:o<=11)(tt:By)(n:X)(x y:By):Cr o tt n (if 0<Ax o then x else ⟨#[]⟩) (if 1<Ax o then y else ⟨#[]⟩)=Cr o tt n x y:=by
 exact qel
theorem next_tk{o:X}(kd:1<=o)(ho:o<=11)(n p:X)(x:By):Ev o n p (if 0<Ax o then x else ⟨#[]⟩)=Ev o n p x:=by
 exact qel
theorem puts_pos{o:X}(ho:o<=11)(h:0<Kh o):o<=8:=by
 rcases(show o<=8\/o=9\/o=10\/o=11 from qb)with h|rfl|rfl|rfl
 ·exact h
 all_goals exact absurd h qd
theorem stB{cap:X}{w1:E}{o n:X}(af:Below (((w.alloc (O #[J a is.length cap] 91)).alloc (rV s.pl sv s.steps s.looks)).alloc zR).heap.size (((w.alloc (O #[J a is.length cap] 91)).alloc (rV s.pl sv s.steps s.looks)).alloc zR) w1)(dj:Bu w a is)(dr:s.pl<is.length)(EI:Hd (ix is s.pl=⟨o,tt,n⟩)):∃(W1:E)(b off:X),w1.setCell ⟨w.heap.size+1,2,N⟩ (I ((s.steps:Int)+1))=W1/\a=M ⟨b,off,N⟩/\w1.heap[w.heap.size+1]?=M (rV s.pl sv s.steps s.looks)/\w1.cell? ⟨w.heap.size,0,N⟩=M (J a is.length cap)/\W1.heap.size=w1.heap.size/\W1.cell? ⟨b,off+s.pl*3,N⟩=M (I o)/\W1.cell? ⟨b,off+s.pl*3+1,N⟩=M (S tt)/\W1.cell? ⟨b,off+s.pl*3+2,N⟩=M (I n)/\W1.cell? ⟨w.heap.size,0,N⟩=M (J a is.length cap)/\W1.heap[w.heap.size+1]?=M (rV s.pl sv ((s.steps:Int)+1) s.looks)/\Bw w W1/\Sd w (W1.alloc (O #[I o,S tt,I n] 143)) w1.heap.size s.pl sv ((s.steps:Int)+1) s.looks o tt n:=by
 obtain⟨ak,hz,hr,hc⟩:=op3 w a is.length cap s.pl sv s.steps s.looks
 have bh:Bw w w1:=bN ak af
 have bg:=Ov af hz
 have kl:=Ov af hr
 have F9:=Ov af hc
 obtain⟨W1,xj⟩:=Aj (w1.setCell ⟨w.heap.size+1,2,N⟩ (I ((s.steps:Int)+1)))
 have vz:Bw w W1:=by rw[<- xj];exact bh.setCell (p:=⟨w.heap.size+1,2,N⟩) (Nat.le_succ _) _
 have hzW:W1.heap[w.heap.size+1+1]?=M zR:=by rw[<- xj,hC w1 ⟨w.heap.size+1,2,N⟩ _ _ qg];exact bg
 have hrW:W1.heap[w.heap.size+1]?=M (rV s.pl sv ((s.steps:Int)+1) s.looks):=by rw[<- xj,jB kl];rfl
 have hcW:W1.heap[w.heap.size]?=M (O #[J a is.length cap] 91 (0,0)):=by rw[<- xj,hC w1 ⟨w.heap.size+1,2,N⟩ _ _ qg];exact F9
 have ws:W1.heap.size=w1.heap.size:=by rw[<- xj];simp[go_sem]
 obtain⟨b,off,rfl,e1,e2,e3⟩:=(dj.bl vz) s.pl dr
 rw[EI.o]at e1 e2 e3
 exact⟨W1,b,off,xj,rfl,kl,by rw[cH F9];rfl,ws,e1,e2,e3,by rw[cH hcW];rfl,hrW,vz,vz.alloc vz.size _,by rw[Lib.alloc_old _ _ _ (Ag hrW)];exact hrW,by rw[Lib.alloc_old _ _ _ (Ag hzW)];exact hzW,by rw[<- ws];exact Bf _ _⟩
theorem Qj(h:Py B w a cp ss):(a=N/\cp=0/\ss=[])\/∃g,a=p_ g/\ss.length<=cp:=by
 rcases h.2 with⟨hv,h0⟩|⟨g,cap,cur,hv,_,_,hc,_⟩
 ·simp only[Value.slice.injEq]at hv;exact Or.inl ⟨hv.1,hv.2.2,List.length_eq_zero_iff.mp h0⟩
 ·simp only[Value.slice.injEq]at hv;exact Or.inr ⟨g,hv.1,qb⟩
theorem own_at{g:X}(h:Py B w (p_ g) cp ss)(i:X)(hi:i<ss.length):w.cell? ⟨g,i,N⟩=M (S (ss.getD i ByteArray.empty)):=by
 rw[World.ownsRow.cellAt h i qb]
 unfold Aq
 rw[List.getElem?_map,Ix hi,gG,Ix hi]
 rfl
theorem Py.belowN(h:Py B w a cp ss)(hb:Bw w w'):Py B w' a cp ss:=Ab h hb
theorem step_in(a:Option Addr)(cap:X)(is:L I3)(s:St)(sa:Option Addr)(cp:X)(ra:Option Addr)(rcap:X)(ys:L R3)(w:E)(B0:X)(hv:Au is=true)(hs:Ec is s)(dj:Bu w a is)(dr:s.pl<is.length)(fm:s.steps≠2000)(fx:Py B0 w sa cp s.stack)(o:X)(tt:By)(n:X)(ei:ix is s.pl=⟨o,tt,n⟩)(kd:1<=o)(ho:o<=15)(hn:n<=2000)(I6:ys.length<=200)(zk:Pw w ra ys):Calls prog 133 #[G #[J a is.length cap],Ds s.pl (J sa s.stack.length cp) s.steps s.looks,J ra ys.length rcap] w λe w'=>Bw w w'/\Cd w.heap.size is ys s w' e:=by
 have EI:Hd (ix is s.pl=⟨o,tt,n⟩):=ei
 clear ei
 have hplI:(s.pl:Int)<(is.length:Int):=qb
 have hst3:((s.steps:Int) == 2000)=false:=qh
 have dh:=Dh hv
 have zl:=hs.pl
 have de:=hs.steps
 have o6:=hs.looks
 have wo:=hs.len
 obtain⟨q,eq⟩:=Aj (En s.pl)
 have EQ:Hd (En s.pl=q):=eq
 have HD:Hd _:=dcH eq qb
 clear eq
 obtain⟨htk2,hpt2⟩:=tp_le o ho
 have HT0:Hd _:=tkH kd ho
 have hOe:=λh=>out_tk kd (h:o<=11) tt n (Bq s.stack) (Iy s.stack)
 have hNe:=λh=>next_tk kd (h:o<=11) n s.pl (Bq s.stack)
 have hPp:o<=11->0<Kh o->o<=8:=puts_pos
 have Y0:=λ(h:o<=11) a b=>puts_len o kd h tt n a b
 have hTm:∀ {l:L By},l.length<=50->¬ l.length<Ax o->50<l.length-Ax o+Kh o->o<=11:=Td kd ho
 have h1t:12<=o->Ax o=1:=λh=>by rcases(show o=12\/o=13\/o=14\/o=15 from qb)with rfl|rfl|rfl|rfl<;>rfl
 have hBad:=λ(hf:¬ s.stack.length<Ax o) (hm:50<s.stack.length-Ax o+Kh o)=>(Ht dr fm EI.o).trans (Hu hf (Td kd ho hs.len hf hm) (Or.inl (by rw[puts_len o kd (Td kd ho hs.len hf hm)];unfold Bl;rw[List.length_take];omega)))
 have hFew:=λ(hf:s.stack.length<Ax o)=>(Ht dr fm EI.o).trans (Nq hf)
 obtain⟨tk,etk⟩:=Aj (Ax o)
 obtain⟨pt,ept⟩:=Aj (Kh o)
 rw[etk]at htk2 HT0 hOe hNe h1t hBad hFew
 rw[ept]at hpt2 HT0 hPp hBad
 have HBD:Hd (s.stack.length<tk\/(¬ s.stack.length<tk/\50<s.stack.length-tk+pt)->Cb is s=.over 2 q (s.steps+1)):=λh=>by rw[<- EQ.o];exact h.elim hFew (λh=>hBad h.1 h.2)
 have ET:Hd (Ax o=tk):=etk
 have H1T:Hd (12<=o->tk=1):=h1t
 clear hBad hFew hTm etk h1t
 unfold Ds
 go_enter func133,ntmps133
 go_wp2_with fail
 refine(HD.o _).mono ?_
 rintro e w1 ⟨rfl,af⟩
 obtain⟨W1,b,off,xj,rfl,kl,x0,ws,e1,e2,e3,xW,hrW,vz,HS⟩:=stB af dj dr EI
 clear af HD
 obtain⟨W2,eW2⟩:=Aj (W1.alloc (O #[I o,S tt,I n] 143))
 rw[eW2]at HS
 obtain⟨r0,r1,r2,r3,r4,r5,r6,r7,r8,r9⟩:=Nj kl
 obtain⟨y0,y1,y2,y3,y4,y5,y6,y7,y8,y9⟩:=Nj hrW
 have fr:=fZ kl
 obtain⟨b0,b1,b2,b3,b4,b5,b6,b7,b8,b9⟩:=Nj HS.r
 obtain⟨i0,i1,i2⟩:=HS.c
 have ag:Bw w W2:=HS.b
 have HSK:Hd (Py B0 W2 sa cp s.stack):=fx.belowN ag
 have cr:Hd _:=HS
 have ru:w.heap.size<=w.heap.size+1+1:=qb
 clear HS hrW kl fx
 go_upto_region 9 with(first|(go_at_call 151;refine(HT0.o _).mono ?_;rintro e w9 ⟨rfl,rfl⟩))
 by_cases pq:s.stack.length<tk\/(¬ s.stack.length<tk/\50<s.stack.length-tk+pt)
 ·have fh:=Ac (HBD.o pq)
  rcases pq with h|⟨h,h'⟩
  case inl=>
   have hfI:(s.stack.length:Int)<(tk:Int):=qb;clear h;exact qhl
  case inr=>
   have hfI:(tk:Int)<=(s.stack.length:Int):=qb;have V4:50<(s.stack.length:Int)-(tk:Int)+(pt:Int):=qb;clear h h';exact qhl
 obtain⟨m,em⟩:∃m,s.stack.length=m+tk:=⟨s.stack.length-tk,qb⟩
 have hmany:m+pt<=50:=qb
 obtain⟨A,eA⟩:=Aj ((if 0<tk then Bq s.stack else ⟨#[]⟩))
 obtain⟨Bv,eBv⟩:=Aj ((if 1<tk then Iy s.stack else ⟨#[]⟩))
 have hA:A.size<=2000:=by
  rw[<- eA];split
  ·exact top_le hs qb
  ·decide
 have hBv:Bv.size<=2000:=by
  rw[<- eBv];split
  ·exact sub_le hs qb
  ·decide
 rw[eA,eBv]at hOe
 rw[eA]at hNe
 have HP:Hd (o<=11->0<pt->∀W:E,Calls prog 153 #[G #[I (o:Int),S tt,I n],S A,S Bv] W λe w'=>Bw W w'/\Mg w' e (Cr o tt n A Bv)):=λh h' W=>plain_any tt n A Bv W o hA hBv hn kd (hPp h h')
 have hOl:=λh=>Y0 h A Bv
 obtain⟨outs,eO⟩:=Aj (Cr o tt n A Bv)
 obtain⟨np,eN⟩:=Aj (Ev o n s.pl A)
 rw[ept,eO]at hOl
 rw[eO]at hOe HP
 rw[eN]at hNe
 have OL:Hd (o<=11->outs.length=pt):=hOl
 have NE:Hd (Ev o n s.pl A=np):=eN
 have NT:Hd _:=hNe
 have hfI:(tk:Int)<=(s.stack.length:Int):=qb
 have V4:(s.stack.length:Int)-(tk:Int)+(pt:Int)<=50:=qb
 have EM:Hd (s.stack.length=m+tk):=em
 have EA:Hd _:=eA
 have EBv:Hd _:=eBv
 have OE:Hd _:=hOe
 clear Y0 hPp eO hOl eN hNe em eA eBv hOe ept pq HBD
 go_upto_if 68 with fail
 go_cut [11] (λx wx=>x=S A/\wx=W2)
 case first=>
  by_cases h0I:(0:Int)<(tk:Int)
  ·rcases Qj HSK.o with⟨_,_,h⟩|⟨d,rfl,W9⟩
   ·have:=EM.o;rw[h]at this;simp at this;omega
   ·obtain⟨l,el⟩:∃l,s.stack.length=l+1:=⟨s.stack.length-1,qb⟩;have hk:=own_at HSK.o l qb;(have eT:Hd (s.stack.getD l ByteArray.empty=A):=by show _=_;rw[<- EA.o,if_pos qb];unfold Bq;rw[el,Nat.add_sub_cancel]);exact qkb
  ·have hA0:(⟨#[]⟩:By)=A:=by rw[<- EA.o,if_neg qb]
   exact qkw
 case rest=>
 obtain⟨rfl,rfl⟩:=hcut
 go_upto_if 78 with fail
 go_cut [12] (λx wx=>x=S Bv/\wx=wc)
 case first=>
  by_cases h0I:(1:Int)<(tk:Int)
  ·rcases Qj HSK.o with⟨_,_,h⟩|⟨d,rfl,W9⟩
   ·have:=EM.o;rw[h]at this;simp at this;omega
   ·obtain⟨l,el⟩:∃l,s.stack.length=l+1+1:=⟨s.stack.length-2,qb⟩;have hk:=own_at HSK.o l qb;(have eT:Hd (s.stack.getD l ByteArray.empty=Bv):=by show _=_;rw[<- EBv.o,if_pos qb];unfold Iy;rw[el];rfl);exact qkb
  ·have hA0:(⟨#[]⟩:By)=Bv:=by rw[<- EBv.o,if_neg qb]
   exact qkw
 case rest=>
 obtain⟨rfl,rfl⟩:=hcut
 go_upto_region 17 with fail
 obtain⟨wk,rfl⟩:∃wk,wk=wc:=⟨_,rfl⟩
 obtain⟨k0,hi,bq,E6,E5⟩:=info_parts Tryz.info9b
 have E8:w.heap.size<=wk.heap.size:=ag.size
 have hz1s:w.heap.size+1+1<wk.heap.size:=Ag cr.o.z
 rw[EM.o]at b1
 have hmtI:(m:Int)+(tk:Int)<=50:=zo EM.o
 have di:(wk.alloc (O #[] 9)).ownsRow wk.heap.size 9 1 (J (p_ wk.heap.size) 0 0) 0 []:=World.ownsRow_lit (base:=wk.heap.size) (e:=9) (size:=1) wk #[] 0 (Nat.le_refl _) qm qg
 go_cut [13] (λx wx=>∃g c:X,x=J (p_ g) m c/\Hd (Sd w wx w1.heap.size s.pl (J sa s.stack.length cp) ((s.steps:Int)+1) s.looks o tt n)/\Hd (wx.ownsRow wk.heap.size 9 1 (J (p_ g) m c) m (Aq (s.stack.take m))))
 case first=>
  rcases Qj HSK.o with⟨rfl,rfl,h⟩|⟨d,rfl,W9⟩
  ·have e0:s.stack.length=0:=by rw[h];rfl
   have hm0:m=0:=zo EM.o;have ht0:tk=0:=zo EM.o;subst hm0;subst ht0;have HW:Hd ((wk.alloc (O #[] 9)).ownsRow wk.heap.size 9 1 (J (p_ wk.heap.size) 0 0) 0 (Aq (s.stack.take 0))):=di;have Y8:=Ac (cr.o.bl ((Below.refl wk.heap.size wk).alloc (Nat.le_refl _) (O #[] 9)));have c1:∀x,(wk.alloc x).cell? ⟨w.heap.size+1,1,N⟩=M nS:=λx=>alK wk _ _ x b1;clear b1 h e0
   go_wp2_with (at_builtin;refine wpList_append_own_none rfl (.tmp 87) (.tmp 95) 22 rfl wk.heap.size 9 k0 1 underlying22 hi _ 0 [] rfl di rfl ?_)
   go_meet
   case rel=>exact⟨_,_,rfl,Y8,HW⟩
  ·have c1:=λx=>alK wk _ _ x b1;have hcp2:m+tk<=cp:=by rw[<- EM.o];exact W9
   have lz:∀j u,((s.stack.take m).map Value.string)[j]?=M u->(wk.alloc (O #[] 9)).cell? ((⟨d,0,N⟩:Addr).add j)=M u:=λj u hu=>by
    rw[List.getElem?_map]at hu;have hlm:=EM.o
    have hj:j<m:=by
     rcases Nat.lt_or_ge j m with h|h
     ·exact h
     ·rw[List.getElem?_eq_none qh]at hu;simp at hu
    have ia:=own_at HSK.o j qb;rw[Addr.add_lit,Nat.zero_add,World.cell?_alloc_lt _ _ _ (World.block_lt_of_cell? _ _ ia),ia,<- hu,List.getElem?_take,if_pos hj,gG,Ix (show j<s.stack.length from qb)];rfl
   have hlen2:((s.stack.take m).map Value.string).length=m*1:=by have:=EM.o;simp;omega
   have HN:Hd _:=lz;have HLN:Hd _:=hlen2;clear lz hlen2 W9
   go_wp2_with (at_builtin;refine wpList_append_own _ rfl (.tmp 87) (.tmp 95) 22 rfl wk.heap.size 9 k0 ze 1 16 underlying22 hi bq E6 E5 rfl qd _ 0 [] rfl di ⟨d,0,N⟩ m cp ((s.stack.take m).map .string) rfl HLN.o HN.o (by intro u hu;obtain⟨z,_,rfl⟩:=List.mem_map.mp hu;rfl) qm qb qg ?_;intro v' w2 au ae cu;obtain⟨g,cpn,rfl,aq⟩:=own_out au cu;have Y8:=Ac (cr.o.grown di E8 ae);have HW:=Ac aq;clear au ae cu aq)
   go_meet
   case rel=>exact⟨_,_,rfl,Y8,HW⟩
 case rest=>
 obtain⟨g,c,rfl,Y8,HW⟩:=hcut
 clear b0 b1 b2 b3 b4 b5 b6 b7 b8 b9 i0 i1 i2 e1 e2 e3 r0 r1 r2 r3 r4 r5 r6 r7 r8 r9 y0 y1 y2 y3 y4 y5 y6 y7 y8 y9 x0 xW fr xj dj eW2 ws vz di cr HSK
 have hne:w1.heap.size≠w.heap.size+1:=λh=>by have h1:=Y8.o.i;rw[h,Y8.o.r]at h1;cases h1
 have ie:=Ac (Y8.o.at hne ((s.pl:Int)+1))
 have yn:=Ac (Gp ⟨HW.o,_,Y8.o.r⟩ 0 (I ((s.pl:Int)+1))).1
 obtain⟨b0,b1,b2,b3,b4,b5,b6,b7,b8,b9⟩:=Nj Y8.o.r
 have fr:=fZ Y8.o.r
 obtain⟨W5,eW5⟩:=Aj (wc.setCell ⟨w.heap.size+1,0,N⟩ (I ((s.pl:Int)+1)))
 rw[eW5]at ie yn
 obtain⟨i0,i1,i2⟩:=ie.o.c
 have f5:=fZ ie.o.r
 obtain⟨v0,v1,v2,v3,v4,v5,v6,v7,v8,v9⟩:=Nj ie.o.r
 go_upto_block 0 with fail
 go_cut [13] (λx wx=>x=J (p_ g) m c/\o<=11/\Hd (Sd w wx w1.heap.size (np:Int) (J sa s.stack.length cp) ((s.steps:Int)+1) s.looks o tt n)/\Hd (wx.ownsRow wk.heap.size 9 1 (J (p_ g) m c) m (Aq (s.stack.take m))))
 case first=>
  have jz:=Ac (ie.o.at hne (n:Int));have N8:=Ac (Gp ⟨yn.o,_,ie.o.r⟩ 0 (I (n:Int))).1;have ht:∀k:X,o≠k->((o:Int) == (k:Int))=false:=λk h=>qh
  rcases(show o<=9\/o=10\/o=11\/o=12\/o=13\/o=14\/o=15 from qb)with h|h|h|h|h|h|h
  ·have si:o<=11:=qb;have ht5:=ht 15 qb;have ht4:=ht 14 qb;have ht3:=ht 13 qb;have M1:=ht 12 qb;have ht1:((o:Int) == 11)=false:=qh;have ht0:((o:Int) == 10)=false:=qh;have e:np=s.pl+1:=by rw[<- NE.o];unfold Ev;rw[if_neg qb,if_neg qb]
   have AF:Hd _:=e;clear e;exact qml
  ·have si:o<=11:=qb;have ht5:=ht 15 qb;have ht4:=ht 14 qb;have ht3:=ht 13 qb;have M1:=ht 12 qb;have ht0:((o:Int) == 10)=true:=qh;have e:np=n:=by rw[<- NE.o];unfold Ev;rw[if_pos h]
   exact qeq
  ·have si:o<=11:=qb;have ht5:=ht 15 qb;have ht4:=ht 14 qb;have ht3:=ht 13 qb;have M1:=ht 12 qb;have ht1:((o:Int) == 11)=true:=qh;have ht0:((o:Int) == 10)=false:=qh
   cases hx1:A.toList.isEmpty with
   | true=>
    (have e:np=n:=by rw[<- NE.o];unfold Ev;rw[if_neg qb,if_pos ⟨h,by simp[Ls,hx1]⟩]);exact qeq
   | false=>
    cases hx2:A.toList == [48] with
    | true=>
     (have e:np=n:=by rw[<- NE.o];unfold Ev;rw[if_neg qb,if_pos ⟨h,by simp[Ls,hx1,hx2]⟩]);exact qeq
    | false=>
     (have e:np=s.pl+1:=by rw[<- NE.o];unfold Ev;rw[if_neg qb,if_neg (by simp[Ls,hx1,hx2])]);have AF:Hd _:=e;clear e h;exact qml
  ·have ht5:=ht 15 qb;have ht4:=ht 14 qb;have M1:((o:Int) == 12)=true:=qh;have e1:=H1T.o qb;have V0:(s.stack.take m).length=m:=by have:=EM.o;rw[List.length_take];omega
   obtain⟨W7,Y5⟩:=Aj (W5.setCell ⟨w.heap.size+1,1,N⟩ (J (p_ g) m c));have T7:W7.heap[w.heap.size+1]?=M (rV ((s.pl:Int)+1) (J (p_ g) m c) ((s.steps:Int)+1) s.looks):=by rw[<- Y5,jB ie.o.r];rfl
   have D0:Bw w W7:=by rw[<- Y5];exact ie.o.b.setCell (p:=⟨w.heap.size+1,1,N⟩) (Nat.le_succ _) _
   have hz7:W7.heap[w.heap.size+1+1]?=M zR:=by rw[<- Y5,hC _ ⟨w.heap.size+1,1,N⟩ _ _ qg];exact ie.o.z
   have hi7:W7.heap[w1.heap.size]?=M (O #[I o,S tt,I n] 143 (0,0)):=by rw[<- Y5,hC _ ⟨w.heap.size+1,1,N⟩ _ _ hne];exact ie.o.i
   have D6:Hd (Sd w W7 w1.heap.size ((s.pl:Int)+1) (J (p_ g) m c) ((s.steps:Int)+1) s.looks o tt n):=⟨D0,T7,hz7,hi7⟩;have ho7:=(Gp ⟨yn.o,_,ie.o.r⟩ 1 (J (p_ g) m c)).1;rw[Y5]at ho7;have dw:Py wk.heap.size W7 (p_ g) c (s.stack.take m):=by unfold Py;rw[V0];exact ho7
   have hsz7:wk.heap.size<=W7.heap.size:=zo ((ho7.lt g rfl));have hl:=look_step12 wk.heap.size tt n is s (p_ g) c (s.stack.take m) A q ra rcap ys W7 hsz7 hs dr qb fm (by rw[EI.o,h];rfl) (zo EM.o) (by unfold Bl;rw[EM.o,e1,Nat.add_sub_cancel]) (by rw[<- EA.o,if_pos qb]) EQ.o.symm I6 (zk.bl D0) dw (zo EM.o);unfold Ds at hl;rw[V0,show((12:Int))=(o:Int) from by rw[h];rfl]at hl;exact qha
  ·have ht5:=ht 15 qb;have ht4:=ht 14 qb;have M1:=ht 12 qb;have ht3:((o:Int) == 13)=true:=qh;have e1:=H1T.o qb;have V0:(s.stack.take m).length=m:=by have:=EM.o;rw[List.length_take];omega
   obtain⟨W7,Y5⟩:=Aj (W5.setCell ⟨w.heap.size+1,1,N⟩ (J (p_ g) m c));have T7:W7.heap[w.heap.size+1]?=M (rV ((s.pl:Int)+1) (J (p_ g) m c) ((s.steps:Int)+1) s.looks):=by rw[<- Y5,jB ie.o.r];rfl
   have D0:Bw w W7:=by rw[<- Y5];exact ie.o.b.setCell (p:=⟨w.heap.size+1,1,N⟩) (Nat.le_succ _) _
   have hz7:W7.heap[w.heap.size+1+1]?=M zR:=by rw[<- Y5,hC _ ⟨w.heap.size+1,1,N⟩ _ _ qg];exact ie.o.z
   have hi7:W7.heap[w1.heap.size]?=M (O #[I o,S tt,I n] 143 (0,0)):=by rw[<- Y5,hC _ ⟨w.heap.size+1,1,N⟩ _ _ hne];exact ie.o.i
   have D6:Hd (Sd w W7 w1.heap.size ((s.pl:Int)+1) (J (p_ g) m c) ((s.steps:Int)+1) s.looks o tt n):=⟨D0,T7,hz7,hi7⟩;have ho7:=(Gp ⟨yn.o,_,ie.o.r⟩ 1 (J (p_ g) m c)).1;rw[Y5]at ho7;have dw:Py wk.heap.size W7 (p_ g) c (s.stack.take m):=by unfold Py;rw[V0];exact ho7
   have hsz7:wk.heap.size<=W7.heap.size:=zo ((ho7.lt g rfl));have hl:=look_step13 wk.heap.size tt n is s (p_ g) c (s.stack.take m) A q ra rcap ys W7 hsz7 hs dr qb fm (by rw[EI.o,h];rfl) (zo EM.o) (by unfold Bl;rw[EM.o,e1,Nat.add_sub_cancel]) (by rw[<- EA.o,if_pos qb]) EQ.o.symm I6 (zk.bl D0) dw (zo EM.o);unfold Ds at hl;rw[V0,show((13:Int))=(o:Int) from by rw[h];rfl]at hl;exact qha
  ·have ht5:=ht 15 qb;have ht4:((o:Int) == 14)=true:=qh;have e1:=H1T.o qb
   have fh:Hd (Cb is s=.over 1 A (s.steps+1)):=by
    show _=_;rw[<- EA.o,if_pos qb];exact(Ht dr fm EI.o).trans (Lg (by rw[ET.o];have:=EM.o;omega) h)
   clear e1 h;go_wp2_with fail;have hl:=Fb ((s.pl:Int)+1) sa s.stack.length cp ((s.steps:Int)+1) s.looks 1 A;unfold Ds at hl;refine(hl _).mono ?_;rintro e w4 ⟨rfl,co⟩;have gw:=Ac (ie.o.bl co);obtain⟨z0,z1,z2,z3,z4,z5,z6,z7,z8,z9⟩:=Nj gw.o.z;have fz:=fZ gw.o.z;clear hl co;unfold Dz;go_wp2_with fail;exact bR (v:=Dz ((s.pl:Int)+1) (J sa s.stack.length cp) ((s.steps:Int)+1) s.looks 1 A) qbm rfl ⟨b10 gw.o.b ru,Or.inl ⟨1,A,s.steps+1,fh.o,_,_,_,_,_,rfl⟩⟩
  ·have ht5:((o:Int) == 15)=true:=qh;have e1:=H1T.o qb
   have fh:Hd (Cb is s=.over 0 A (s.steps+1)):=by
    show _=_;rw[<- EA.o,if_pos qb];exact(Ht dr fm EI.o).trans (Nr (by rw[ET.o];have:=EM.o;omega) h)
   clear e1 h;go_wp2_with fail;have hl:=Fb ((s.pl:Int)+1) sa s.stack.length cp ((s.steps:Int)+1) s.looks 0 A;unfold Ds at hl;refine(hl _).mono ?_;rintro e w4 ⟨rfl,co⟩;have gw:=Ac (ie.o.bl co);obtain⟨z0,z1,z2,z3,z4,z5,z6,z7,z8,z9⟩:=Nj gw.o.z;have fz:=fZ gw.o.z;clear hl co;unfold Dz;go_wp2_with fail;exact bR (v:=Dz ((s.pl:Int)+1) (J sa s.stack.length cp) ((s.steps:Int)+1) s.looks 0 A) qbm rfl ⟨b10 gw.o.b ru,Or.inl ⟨0,A,s.steps+1,fh.o,_,_,_,_,_,rfl⟩⟩
 case rest=>
 obtain⟨rfl,si,D6,HW7⟩:=hcut
 replace OE:=Ac (OE.o si)
 replace OL:=Ac (OL.o si)
 replace NT:=Ac (NT.o si)
 replace HP:=Ac (HP.o si)
 clear b0 b1 b2 b3 b4 b5 b6 b7 b8 b9 i0 i1 i2 v0 v1 v2 v3 v4 v5 v6 v7 v8 v9 f5 fr eW5 ie yn Y8 HW
 obtain⟨wl,rfl⟩:∃wl,wl=wc:=⟨_,rfl⟩
 go_wp2_with fail
 go_loopw [13,14] (λx k wr=>∃(j g c:X),j<=pt/\k=I j/\x=J (p_ g) (m+j) c/\Hd (Sd w wr w1.heap.size (np:Int) (J sa s.stack.length cp) ((s.steps:Int)+1) s.looks o tt n)/\Hd (wr.ownsRow wk.heap.size 9 1 (J (p_ g) (m+j) c) (m+j) (Aq (s.stack.take m++outs.take j)))/\Hd (∀i,i<j->(outs.getD i ByteArray.empty).size<=2000)) (λ_ k _=>pt-(intOf k).toNat)
 case atStart=>exact⟨0,g,c,Nat.zero_le _,rfl,rfl,D6,by rw[List.take_zero,List.append_nil];exact HW7,λi hi=>absurd hi (Nat.not_lt_zero _)⟩
 case round=>
  obtain⟨j,g',c',hj,rfl,rfl,HS,HW,HX⟩:=hrel;clear D6 HW7
  by_cases aj:(j:Int)<(pt:Int)
  ·obtain⟨i0,i1,i2⟩:=HS.o.c;go_wp2_with fail;refine(HP.o qb _).mono ?_;rintro e w3 ⟨ba,g3,c3,rfl,hx⟩;have hxj:=hx j (by rw[OL.o];omega);rw[OL.o];obtain⟨x,ex⟩:=Aj (outs.getD j ByteArray.empty);rw[ex]at hxj;have EX:Hd (outs.getD j ByteArray.empty=x):=ex;have ks:=Ac (HS.o.bl ba);have HW3:=Ac (Ab HW.o ba);clear i0 i1 i2 hx ba HS HW ex
   by_cases cz:(x.size:Int)<=2000
   ·have hown6:=HW3.o.alloc (O #[S x] 9);have hw3:wk.heap.size<=w3.heap.size:=zo (HW3.o.lt g' rfl)
    go_wp2_with (at_builtin;refine wpList_append_own _ rfl (.tmp 158) (.tmp 163) 22 rfl wk.heap.size 9 k0 ze 1 16 underlying22 hi bq E6 E5 rfl qd _ _ _ rfl hown6 ⟨w3.heap.size,0,N⟩ 1 1 [S x] rfl rfl ?_ qae qm qb qh ?_;(focus(have:=cell_one_new w3 (S x) 9;simpa using this));intro v6 w6 dw W6 hnil6;obtain⟨g6,c6,rfl,hown8⟩:=own_add dw;have jz:=Ac (ks.o.grown hown6 E8 W6);have N8:=Ac hown8;clear hnil6 dw W6 hown8)
    have hpI:(j:Int)+1<=2:=qb;go_roundw
    case rel=>
     refine⟨j+1,g6,c6,qb,qj,rfl,jz,?_,λi hi=>?_⟩
     ·(have hjl:j<outs.length:=by rw[OL.o];omega);rw[List.take_add_one,Ix hjl,<- List.append_assoc];(have e:outs[j]=x:=by rw[<- EX.o,gG,Ix hjl];rfl);rw[e];exact N8
     ·rcases Nat.lt_or_ge i j with h|h
      ·exact HX.o i h
      ·obtain rfl:i=j:=qb;rw[EX.o];omega
    case measure=>simp[intOf];omega
   ·have fh:Hd (Cb is s=.over 2 q (s.steps+1)):=by
     (have hjl:j<outs.length:=by rw[OL.o];omega);(have e:outs[j]=x:=by rw[<- EX.o,gG,Ix hjl];rfl);show _=_;rw[<- EQ.o];exact(Ht dr fm EI.o).trans (Hu (by rw[ET.o,EM.o];omega) si (Or.inr ⟨x,by rw[<- OE.o,<- e];exact List.getElem_mem _,qb⟩))
    obtain⟨b0,b1,b2,b3,b4,b5,b6,b7,b8,b9⟩:=Nj ks.o.r;go_wp2_with fail;have hl:=Fb (np:Int) sa s.stack.length cp ((s.steps:Int)+1) s.looks 2 q;unfold Ds at hl;refine(hl _).mono ?_;rintro e w4 ⟨rfl,co⟩;have gw:=Ac (ks.o.bl co);obtain⟨z0,z1,z2,z3,z4,z5,z6,z7,z8,z9⟩:=Nj gw.o.z;have fz:=fZ gw.o.z;clear hl co ks HW3 b0 b1 b2 b3 b4 b5 b6 b7 b8 b9;unfold Dz;go_wp2_with fail;exact bR (v:=Dz np (J sa s.stack.length cp) ((s.steps:Int)+1) s.looks 2 q) qbm rfl ⟨b10 gw.o.b ru,Or.inl ⟨2,q,s.steps+1,fh.o,_,_,_,_,_,rfl⟩⟩
  ·obtain rfl:j=pt:=qb
   have HSTEP:Hd (Cb is s=.go ⟨np,s.stack.take m++outs,s.steps+1,s.looks⟩):=step_go dr fm EI.o si (by rw[ET.o];exact EM.o) (outs:=outs) OE.o.symm (by rw[OL.o];exact hmany) (λx hx=>by
    obtain⟨i,hi,rfl⟩:=List.getElem_of_mem hx;have:=HX.o i (by rw[<- OL.o];exact hi);rw[gG,Ix hi]at this;exact this) NT.o.symm
   have yr:Hd (wr.ownsRow wk.heap.size 9 1 (J (p_ g') (m+j) c') (m+j) (Aq (s.stack.take m++outs))):=by
    have h:=HW.o;rw[List.take_of_length_le (Nat.le_of_eq OL.o)]at h;exact h
   obtain⟨b0,b1,b2,b3,b4,b5,b6,b7,b8,b9⟩:=Nj HS.o.r;have fp:=fZ HS.o.r;obtain⟨z0,z1,z2,z3,z4,z5,z6,z7,z8,z9⟩:=Nj HS.o.z;have fz:=fZ HS.o.z;clear HW;go_wp2_with fail;exact bR (v:=Ds (np:Int) (J (p_ g') (m+j) c') ((s.steps:Int)+1) s.looks) (by simp[results,results133,go_sem,Ds,z0,z1,z2,z3,z4,z5,z6,z7,z8,z9]) rfl ⟨b10 ((HS.o.b.setCell (p:=⟨w.heap.size+1,1,N⟩) (Nat.le_succ _) _)) ru,(Tp (go_post HSTEP.o (by have:=OL.o;have:=EM.o;simp;omega) rfl (Gp ⟨yr.o,_,HS.o.r⟩ 1 _).1) ⟨_,by rw[hC _ ⟨w.heap.size+1,1,N⟩ _ _ qg];exact HS.o.z⟩ _ _ _ _ _ _ _ _ _ _).mono E8⟩
theorem l2Step_any(a:Option Addr)(cap:X)(is:L I3)(s:St)(sa:Option Addr)(cp:X)(ra:Option Addr)(rcap:X)(ys:L R3)(w:E)(B0:X)(hv:Au is=true)(hs:Ec is s)(dj:Bu w a is)(fx:Py B0 w sa cp s.stack)(I6:ys.length<=200)(hr:Pw w ra ys):Calls prog 133 #[G #[J a is.length cap],Ds s.pl (J sa s.stack.length cp) s.steps s.looks,J ra ys.length rcap] w λe w'=>Bw w w'/\Cd w.heap.size is ys s w' e:=by
 by_cases dr:s.pl<is.length
 ·by_cases fm:s.steps=2000
  ·exact step_spent a cap is s sa cp ra rcap ys w hv hs dr fm
  ·obtain⟨o,tt,n,ei,kd,jq,ht,hn,hn2⟩:=Ld hv dr;exact step_in a cap is s sa cp ra rcap ys w B0 hv hs dj dr fm fx o tt n ei kd jq hn I6 hr
 ·exact Qae a cap is s sa cp ra rcap ys w hv hs dr
theorem reps_size(h:Mx ys=true)(hk:k<ys.length):(rx ys k).text.size<=2000:=by
 simp only[Mx,Bool.and_eq_true,decide_eq_true_eq]at h
 have:=h.2 k hk
 simp only[Kg,Bool.and_eq_true,decide_eq_true_eq]at this
 omega
def Gd(is:L I3)(ys:L R3)(B:X)(w:E)(kx:X)(x0:Int)(ax:Option Addr)(nx cx:X)(x2 x3:Int)(x4:Bool)(x5:Int)(x6:By)(x7:Bool)(x8:By)(x9:Bool):Prop:=
 (∃s,Ec is s/\(∀r,Ce is ys s r->Ce is ys Lz r)/\Py B w ax cx s.stack/\2002-s.steps<=kx/\x0=s.pl/\nx=s.stack.length/\x2=s.steps/\x3=s.looks/\x4=false/\x5=0/\x6=⟨#[]⟩/\x7=false/\x8=⟨#[]⟩/\x9=false)∨
 (∃n:X,Ce is ys Lz (.over x5 x6 n)/\x2=n/\x4=true/\x9=false)∨
 (∃n:X,Ce is ys Lz (.wait x7 x8 n)/\x2=n/\x4=false/\x9=true)
theorem Qaf{s':St}(hv:Au is=true)(hs:Ec is s)(h:Cb is s=.go s'):s'.steps=s.steps+1:=by
 by_cases hp:s.pl<is.length
 ·by_cases h2:s.steps=2000
  ·rw[Jm hp h2]at h;cases h
  ·obtain⟨o,t,n,e,h3,h4,h5,h6,h7⟩:=Ld hv hp;rw[Ht hp h2 e]at h
   by_cases hf:s.stack.length<Ax o
   ·rw[Nq hf]at h;cases h
   ·rcases(show o<=11\/(o=12\/o=13)\/o=14\/o=15 from qb)with ho|ho|ho|ho
    ·by_cases hb:Su o t n s.stack
     ·rw[Hu hf ho hb]at h;cases h
     ·rw[Qm hf ho hb]at h;cases h;rfl
    ·exact qja
    ·rw[Lg hf ho]at h;cases h
    ·rw[Nr hf ho]at h;cases h
 ·rw[Kz hp]at h;cases h
theorem stand_step{e:Ending}(hv:Au is=true)(hs:Ec is s)(hrep:Mx ys=true)(hF:∀r,Ce is ys s r->Ce is ys Lz r)(h:Cd B is ys s w' e):∃x0 ax nx cx x2 x3 x4 x5 x6 x7 x8 x9,e=H (r10 x0 ax nx cx x2 x3 x4 x5 x6 x7 x8 x9)/\Gd is ys B w' (2001-s.steps) x0 ax nx cx x2 x3 x4 x5 x6 x7 x8 x9:=by
 have hl:=Dh hv
 rcases h with⟨c,t,n,h,pl,va,vn,vc,lk,rfl⟩|⟨s',h,a',l8,rfl,ho⟩|⟨ask,nm,s',h,hy,pl,va,vn,vc,lk,rfl⟩|⟨ask,nm,s',s'',h,hy,ha,a',l8,rfl,ho⟩|⟨ask,nm,s',c,t,n,h,hy,ha,pl,va,vn,vc,lk,rfl⟩
 ·exact⟨_,_,_,_,_,_,_,_,_,_,_,_,rfl,Or.inr (Or.inl ⟨n,hF _ (.over h),rfl,rfl,rfl⟩)⟩
 ·have h1:=Pa hv hs h;have h2:=Qaf hv hs h;exact⟨_,_,_,_,_,_,_,_,_,_,_,_,rfl,Or.inl ⟨s',h1.1,λr hr=>hF r (.go h hr),ho,qb,rfl,rfl,rfl,rfl,rfl,rfl,rfl,rfl,rfl,rfl⟩⟩
 ·exact⟨_,_,_,_,_,_,_,_,_,_,_,_,rfl,Or.inr (Or.inr ⟨s'.steps,hF _ (.wait h hy),rfl,rfl,rfl⟩)⟩
 ·obtain⟨q1,q2,q3,q4,q5,q6,q7,q8⟩:=Hs h
  have fm:s.steps≠2000:=by
   intro h2;rw[Jm q5 h2]at h;cases h
  have yb:Ec is s':=by
   have h1:=Sx hs fm q4
   have e:s'=⟨s.pl,Bl s.stack 1,s.steps+1,s.looks+1⟩:=by
    cases s'
    simp only[St.mk.injEq];exact⟨q2,q7,q3,q1⟩
   rw[e];exact h1
  have ur:s'.stack.length<50:=by rw[q7,Bj];have:=hs.len;omega
  have hso:Ec is s''/\s''.steps=s'.steps:=by
   unfold Et at ha
   split at ha
   ·cases ha;exact⟨Kw yb hl.2 qb ur qcr,rfl⟩
   ·split at ha
    ·cases ha
    ·split at ha
     ·cases ha
     ·cases ha;exact⟨Kw yb hl.2 qb ur (reps_size hrep hy),rfl⟩
  exact⟨_,_,_,_,_,_,_,_,_,_,_,_,rfl,Or.inl ⟨s'',hso.1,λr hr=>hF r (.ans h hy ha hr),ho,qb,rfl,rfl,rfl,rfl,rfl,rfl,rfl,rfl,rfl,rfl⟩⟩
 ·exact⟨_,_,_,_,_,_,_,_,_,_,_,_,rfl,Or.inr (Or.inl ⟨n,hF _ (.end h hy ha),rfl,rfl,rfl⟩)⟩
theorem Gd.set{nx cx:X}(h:Gd is ys B w kx x0 ax nx cx x2 x3 x4 x5 x6 x7 x8 x9/\∃cs,w.heap[b]?=M (O cs 221 (0,0)))(j:X)(x:Z):Gd is ys B (w.setCell ⟨b,j,N⟩ x) kx x0 ax nx cx x2 x3 x4 x5 x6 x7 x8 x9/\∃cs,(w.setCell ⟨b,j,N⟩ x).heap[b]?=M (O cs 221 (0,0)):=by
 obtain⟨h,hc⟩:=h
 refine⟨?_,by obtain⟨cs,hb⟩:=hc;exact⟨_,jB hb x⟩⟩
 rcases h with⟨s,h1,h2,h3,h4⟩|h
 ·exact Or.inl ⟨s,h1,h2,(Gp ⟨h3,hc⟩ j x).1,h4⟩
 ·exact Or.inr h
theorem Gd.mono{nx cx:X}(h:Gd is ys B w kx x0 ax nx cx x2 x3 x4 x5 x6 x7 x8 x9)(hB:B'<=B):Gd is ys B' w kx x0 ax nx cx x2 x3 x4 x5 x6 x7 x8 x9:=by
 rcases h with⟨s,h1,h2,h3,h4⟩|h
 ·exact Or.inl ⟨s,h1,h2,h3.mono hB,h4⟩
 ·exact Or.inr h
theorem Qag{nx cx:X}(h:Gd is ys B w kx x0 ax nx cx x2 x3 x4 x5 x6 x7 x8 x9)(hc:∃cs,w.heap[b]?=M (O cs 221 (0,0)))(v0 v1 v2 v3 v4 v5 v6 v7 v8 v9:Z):Gd is ys B ((((((((((w.setCell ⟨b,0,N⟩ v0).setCell ⟨b,1,N⟩ v1).setCell ⟨b,2,N⟩ v2).setCell ⟨b,3,N⟩ v3).setCell ⟨b,4,N⟩ v4).setCell ⟨b,5,N⟩ v5).setCell ⟨b,6,N⟩ v6).setCell ⟨b,7,N⟩ v7).setCell ⟨b,8,N⟩ v8).setCell ⟨b,9,N⟩ v9) kx x0 ax nx cx x2 x3 x4 x5 x6 x7 x8 x9:=(Gd.set (Gd.set (Gd.set (Gd.set (Gd.set (Gd.set (Gd.set (Gd.set (Gd.set (Gd.set ⟨h,hc⟩ 0 v0) 1 v1) 2 v2) 3 v3) 4 v4) 5 v5) 6 v6) 7 v7) 8 v8) 9 v9).1
theorem block_set10{u3 u4 u5 u6 u7 u8 u9:Z}(h:w.heap[b]?=M (O #[u0,u1,u2,u3,u4,u5,u6,u7,u8,u9] 221 (0,0)))(v0 v1 v2 v3 v4 v5 v6 v7 v8 v9:Z):((((((((((w.setCell ⟨b,0,N⟩ v0).setCell ⟨b,1,N⟩ v1).setCell ⟨b,2,N⟩ v2).setCell ⟨b,3,N⟩ v3).setCell ⟨b,4,N⟩ v4).setCell ⟨b,5,N⟩ v5).setCell ⟨b,6,N⟩ v6).setCell ⟨b,7,N⟩ v7).setCell ⟨b,8,N⟩ v8).setCell ⟨b,9,N⟩ v9).heap[b]?=M (O #[v0,v1,v2,v3,v4,v5,v6,v7,v8,v9] 221 (0,0)):=by
 have h0:(w.setCell ⟨b,0,N⟩ v0).heap[b]?=M (O #[v0,u1,u2,u3,u4,u5,u6,u7,u8,u9] 221 (0,0)):=by rw[jB h];rfl
 have h1:((w.setCell ⟨b,0,N⟩ v0).setCell ⟨b,1,N⟩ v1).heap[b]?=M (O #[v0,v1,u2,u3,u4,u5,u6,u7,u8,u9] 221 (0,0)):=by rw[jB h0];rfl
 have h2:(((w.setCell ⟨b,0,N⟩ v0).setCell ⟨b,1,N⟩ v1).setCell ⟨b,2,N⟩ v2).heap[b]?=M (O #[v0,v1,v2,u3,u4,u5,u6,u7,u8,u9] 221 (0,0)):=by rw[jB h1];rfl
 have h3:((((w.setCell ⟨b,0,N⟩ v0).setCell ⟨b,1,N⟩ v1).setCell ⟨b,2,N⟩ v2).setCell ⟨b,3,N⟩ v3).heap[b]?=M (O #[v0,v1,v2,v3,u4,u5,u6,u7,u8,u9] 221 (0,0)):=by rw[jB h2];rfl
 have h4:(((((w.setCell ⟨b,0,N⟩ v0).setCell ⟨b,1,N⟩ v1).setCell ⟨b,2,N⟩ v2).setCell ⟨b,3,N⟩ v3).setCell ⟨b,4,N⟩ v4).heap[b]?=M (O #[v0,v1,v2,v3,v4,u5,u6,u7,u8,u9] 221 (0,0)):=by rw[jB h3];rfl
 have h5:((((((w.setCell ⟨b,0,N⟩ v0).setCell ⟨b,1,N⟩ v1).setCell ⟨b,2,N⟩ v2).setCell ⟨b,3,N⟩ v3).setCell ⟨b,4,N⟩ v4).setCell ⟨b,5,N⟩ v5).heap[b]?=M (O #[v0,v1,v2,v3,v4,v5,u6,u7,u8,u9] 221 (0,0)):=by rw[jB h4];rfl
 have h6:(((((((w.setCell ⟨b,0,N⟩ v0).setCell ⟨b,1,N⟩ v1).setCell ⟨b,2,N⟩ v2).setCell ⟨b,3,N⟩ v3).setCell ⟨b,4,N⟩ v4).setCell ⟨b,5,N⟩ v5).setCell ⟨b,6,N⟩ v6).heap[b]?=M (O #[v0,v1,v2,v3,v4,v5,v6,u7,u8,u9] 221 (0,0)):=by rw[jB h5];rfl
 have h7:((((((((w.setCell ⟨b,0,N⟩ v0).setCell ⟨b,1,N⟩ v1).setCell ⟨b,2,N⟩ v2).setCell ⟨b,3,N⟩ v3).setCell ⟨b,4,N⟩ v4).setCell ⟨b,5,N⟩ v5).setCell ⟨b,6,N⟩ v6).setCell ⟨b,7,N⟩ v7).heap[b]?=M (O #[v0,v1,v2,v3,v4,v5,v6,v7,u8,u9] 221 (0,0)):=by rw[jB h6];rfl
 have h8:(((((((((w.setCell ⟨b,0,N⟩ v0).setCell ⟨b,1,N⟩ v1).setCell ⟨b,2,N⟩ v2).setCell ⟨b,3,N⟩ v3).setCell ⟨b,4,N⟩ v4).setCell ⟨b,5,N⟩ v5).setCell ⟨b,6,N⟩ v6).setCell ⟨b,7,N⟩ v7).setCell ⟨b,8,N⟩ v8).heap[b]?=M (O #[v0,v1,v2,v3,v4,v5,v6,v7,v8,u9] 221 (0,0)):=by rw[jB h7];rfl
 have h9:((((((((((w.setCell ⟨b,0,N⟩ v0).setCell ⟨b,1,N⟩ v1).setCell ⟨b,2,N⟩ v2).setCell ⟨b,3,N⟩ v3).setCell ⟨b,4,N⟩ v4).setCell ⟨b,5,N⟩ v5).setCell ⟨b,6,N⟩ v6).setCell ⟨b,7,N⟩ v7).setCell ⟨b,8,N⟩ v8).setCell ⟨b,9,N⟩ v9).heap[b]?=M (O #[v0,v1,v2,v3,v4,v5,v6,v7,v8,v9] 221 (0,0)):=by rw[jB h8];rfl
 exact h9
theorem Yd(a ra:Option Addr)(cap rcap:X)(is:L I3)(ys:L R3)(w:E)(hc:Bu w a is)(hr:Pw w ra ys)(hl:is.length<=1048576)(hs:∀i,(ix is i).text.size<=9223372036854775807)(gj:∀i,(rx ys i).text.size<=9223372036854775807)(hv1:Au is=true)(hv2:Mx ys=true):Calls prog 110 #[G #[J a is.length cap],J ra ys.length rcap] w λe w'=>Bw w w'/\∃r,Ce is ys Lz r/\e=H (resT r):=by
 have ak:Bw w ((w.alloc (O #[J a is.length cap] 91)).alloc (O #[F false,I 0,ze,F false,ze,I 0] 192)):=(aN _ _).alloc qg _
 have hk:((w.alloc (O #[J a is.length cap] 91)).alloc (O #[F false,I 0,ze,F false,ze,I 0] 192)).heap[w.heap.size+1]?=M (O #[F false,I 0,ze,F false,ze,I 0] 192 (0,0)):=by
  exact qih
 have wz:((w.alloc (O #[J a is.length cap] 91)).alloc (O #[F false,I 0,ze,F false,ze,I 0] 192)).cell? ⟨w.heap.size,0,N⟩=M (J a is.length cap):=qk
 have hv2':=hv2
 simp only[Mx,Bool.and_eq_true,decide_eq_true_eq]at hv2'
 have dh:ys.length<=200:=hv2'.1
 have HV1:Hd (Au is=true):=hv1
 have HV2:Hd (Mx ys=true):=hv2
 have xm:Hd (∀i,i<ys.length->Kg (rx ys i)=true):=hv2'.2
 have HC:Hd (Bu w a is):=hc
 have HR:Hd (Pw w ra ys):=hr
 clear hv2' hv2
 go_enter func110,ntmps110
 go_wp2_with fail
 refine(Ih a cap is _ (HC.o.bl ak) hl hs).mono ?_
 rintro e w1 ⟨af,rfl⟩
 have bh:=bN ak af
 have cq:=Ov af hk
 have hbx1:=Aa af wz
 rw[hv1]
 clear ak af hk wz hv1 hc hr
 have d2:decide ((200:Int)<(ys.length:Int))=false:=qh
 have du:Hd (w1.heap[w.heap.size+1]?=M (O #[F false,I 0,ze,F false,ze,I 0] 192 (0,0))):=cq
 have ff:Hd (Bw w w1):=bh
 have HX1:Hd (w1.cell? ⟨w.heap.size,0,N⟩=M (J a is.length cap)):=hbx1
 have hR1:w.heap.size+1<w1.heap.size:=Ag cq
 clear cq bh hbx1
 go_wp2_with fail
 go_loopw [5] (λi wr=>∃k:X,k<=ys.length/\i=I k/\w1=wr) (λi _=>ys.length-(intOf i).toNat)
 case atStart=>exact⟨0,Nat.zero_le _,rfl,rfl⟩
 case round=>
  obtain⟨k,hk,rfl,rfl⟩:=hrel
  by_cases aj:k<ys.length
  ·obtain⟨b,off,rfl,c1,c2,c3⟩:=(HR.o.bl ff.o) k aj;have fx:=gj k;have ft:=xm.o k aj;clear gj HR xm;generalize rx ys k=r at *;have d1:decide ((2000:Int)<(r.text.size:Int))=false:=qfo;have d3:decide (r.code<0)=false:=qfo;have d4:decide (7<r.code)=false:=qfo;clear ft;go_wp2_with fail;go_roundw
   case rel=>exact⟨k+1,qb,qj,trivial⟩
   case measure=>simp[intOf];omega
  ·have io:¬ (k:Int)<(ys.length:Int):=qb;go_wp2_with fail
   go_loopg [] 2002 (λkx wr=>∃(x0:Int)(ax:Option Addr)(nx cx:X)(x2 x3:Int)(x4:Bool)(x5:Int)(x6:By)(x7:Bool)(x8:By)(x9:Bool),Hd (wr.heap[w1.heap.size]?=M (O #[I x0,J ax nx cx,I x2,I x3,F x4,I x5,S x6,F x7,S x8,F x9] 221 (0,0)))/\Hd (Gd is ys w1.heap.size wr kx x0 ax nx cx x2 x3 x4 x5 x6 x7 x8 x9)/\Hd (Bw w1 wr))
   case atStart=>exact⟨0,N,0,0,0,0,false,0,⟨#[]⟩,false,⟨#[]⟩,false,Bf _ _,Or.inl ⟨Lz,Tj is,λr h=>h,⟨rfl,Or.inl ⟨rfl,rfl⟩⟩,qbh,rfl,rfl,rfl,rfl,rfl,rfl,rfl,rfl,rfl,rfl⟩,aN _ _⟩
   case round=>
    obtain⟨x0,ax,nx,cx,x2,x3,x4,x5,x6,x7,x8,x9,jv,fh,my⟩:=hrel;(have hxw:wr.cell? ⟨w.heap.size,0,N⟩=M (J a is.length cap):=by rw[my.o.cell (p:=⟨w.heap.size,0,N⟩) qh];exact HX1.o);(have hkw:wr.heap[w.heap.size+1]?=M (O #[F false,I 0,ze,F false,ze,I 0] 192 (0,0)):=by rw[my.o.block _ hR1];exact du.o);have fy:Bw w wr:=ff.o.trans (my.o.mono qb);have B9:=jv.o
    rcases fh.o with⟨s,h1,h2,h3,h4,rfl,rfl,rfl,rfl,rfl,rfl,rfl,rfl,rfl,rfl⟩|⟨n,h1,rfl,rfl,rfl⟩|⟨n,h1,rfl,rfl,rfl⟩
    ·have HS:Hd (Ec is s):=h1;have HF:Hd (∀r,Ce is ys s r->Ce is ys Lz r):=h2;have yr:Hd (Py w1.heap.size wr ax cx s.stack):=h3;have de:=h1.steps;have hlr:w1.heap.size<wr.heap.size:=Ag B9;obtain⟨p0,p1,p2,p3,p4,p5,p6,p7,p8,p9⟩:=Fz B9;have fp:=fZ B9;clear h1 h2 h3 B9 fh;go_wp2_with fail;have Q1:=l2Step_any a cap is s ax cx ra rcap ys wr w1.heap.size HV1.o HS.o (HC.o.bl fy) yr.o dh (HR.o.bl fy);unfold Ds at Q1;refine Q1.mono ?_;rintro e w3 ⟨ba,ge⟩;obtain⟨y0,ay,ny,cy,y2,y3,y4,y5,y6,y7,y8,y9,rfl,I7⟩:=stand_step HV1.o HS.o HV2.o HF.o ge;(have ve:w3.heap[w1.heap.size]?=M (O #[I s.pl,J ax s.stack.length cx,I s.steps,I s.looks,F false,I 0,ze,F false,ze,F false] 221 (0,0)):=by rw[ba.block _ hlr];exact jv.o);have HSD:Hd (Gd is ys wr.heap.size w3 (2001-s.steps) y0 ay ny cy y2 y3 y4 y5 y6 y7 y8 y9):=I7;have gz:Hd (w3.heap[w1.heap.size]?=M (O #[I s.pl,J ax s.stack.length cx,I s.steps,I s.looks,F false,I 0,ze,F false,ze,F false] 221 (0,0))):=ve;have ii:Bw w1 w3:=my.o.trans (ba.mono qb);clear p0 p1 p2 p3 p4 p5 p6 p7 p8 p9 fp;obtain⟨p0,p1,p2,p3,p4,p5,p6,p7,p8,p9⟩:=Fz ve;have fp:=fZ ve;clear ve I7 ge Q1 ba;unfold r10;go_wp2_with fail
     go_roundg (2001-s.steps)
     case rel=>exact⟨y0,ay,ny,cy,y2,y3,y4,y5,y6,y7,y8,y9,block_set10 gz.o _ _ _ _ _ _ _ _ _ _,(Qag HSD.o ⟨_,gz.o⟩ _ _ _ _ _ _ _ _ _ _).mono qb,((((((((((ii).setCell (p:=⟨w1.heap.size,0,N⟩) (Nat.le_refl _) _).setCell (p:=⟨w1.heap.size,1,N⟩) (Nat.le_refl _) _).setCell (p:=⟨w1.heap.size,2,N⟩) (Nat.le_refl _) _).setCell (p:=⟨w1.heap.size,3,N⟩) (Nat.le_refl _) _).setCell (p:=⟨w1.heap.size,4,N⟩) (Nat.le_refl _) _).setCell (p:=⟨w1.heap.size,5,N⟩) (Nat.le_refl _) _).setCell (p:=⟨w1.heap.size,6,N⟩) (Nat.le_refl _) _).setCell (p:=⟨w1.heap.size,7,N⟩) (Nat.le_refl _) _).setCell (p:=⟨w1.heap.size,8,N⟩) (Nat.le_refl _) _).setCell (p:=⟨w1.heap.size,9,N⟩) (Nat.le_refl _) _⟩
     case measure=>omega
    ·have HF:Hd (Ce is ys Lz (.over x5 x6 n)):=h1;obtain⟨p0,p1,p2,p3,p4,p5,p6,p7,p8,p9⟩:=Fz B9;have fp:=fZ B9;obtain⟨k0,k1,k2,k3,k4,k5⟩:=Xd hkw;have f0:=fZ hkw;clear h1 B9 hkw fh;go_wp2_with fail;exact bR (v:=Bb true x5 x6 false ⟨#[]⟩ n) (by simp[results,results110,go_sem,Bb,k0,k1,k2,k3,k4,k5]) rfl ⟨((((((fy).setCell (p:=⟨w.heap.size+1,0,N⟩) qg _).setCell (p:=⟨w.heap.size+1,1,N⟩) qg _).setCell (p:=⟨w.heap.size+1,2,N⟩) qg _).setCell (p:=⟨w.heap.size+1,3,N⟩) qg _).setCell (p:=⟨w.heap.size+1,4,N⟩) qg _).setCell (p:=⟨w.heap.size+1,5,N⟩) qg _,_,HF.o,rfl⟩
    ·have HF:Hd (Ce is ys Lz (.wait x7 x8 n)):=h1;obtain⟨p0,p1,p2,p3,p4,p5,p6,p7,p8,p9⟩:=Fz B9;have fp:=fZ B9;obtain⟨k0,k1,k2,k3,k4,k5⟩:=Xd hkw;have f0:=fZ hkw;clear h1 B9 hkw fh;go_wp2_with fail;exact bR (v:=Bb false 0 ⟨#[]⟩ x7 x8 n) (by simp[results,results110,go_sem,Bb,k0,k1,k2,k3,k4,k5]) rfl ⟨((((((fy).setCell (p:=⟨w.heap.size+1,0,N⟩) qg _).setCell (p:=⟨w.heap.size+1,1,N⟩) qg _).setCell (p:=⟨w.heap.size+1,2,N⟩) qg _).setCell (p:=⟨w.heap.size+1,3,N⟩) qg _).setCell (p:=⟨w.heap.size+1,4,N⟩) qg _).setCell (p:=⟨w.heap.size+1,5,N⟩) qg _,_,HF.o,rfl⟩
theorem Dw{T:TypeId}(h:w.heap[b]?=M (O #[v0,v1,v2] T (0,0))):w.cell? ⟨b,0,N⟩=M v0/\w.cell? ⟨b,1,N⟩=M v1/\w.cell? ⟨b,2,N⟩=M v2/\∀j,w.frozen? ⟨b,j,N⟩=false:=by
 refine⟨?_,?_,?_,λj=>fH h j⟩<;>rw[cH h]<;>rfl
theorem Ad{cs:Array Z}{T:TypeId}(hb:Bw w w')(h:w.heap[b]?=M (O cs T (0,0))):w'.heap[b]?=M (O cs T (0,0)):=by
 rw[hb.block _ (Ag h)];exact h
theorem Bn{T:TypeId}(h:w.heap[b]?=M (O #[u0,u1,u2] T (0,0)))(v0 v1 v2:Z):(((w.setCell ⟨b,0,N⟩ v0).setCell ⟨b,1,N⟩ v1).setCell ⟨b,2,N⟩ v2).heap[b]?=M (O #[v0,v1,v2] T (0,0)):=by
 rw[jB (jB (jB h v0) v1) v2]
 rfl
theorem Gl(hb:Below B w w')(h:B<=b)(v0 v1 v2:Z):Below B w (((w'.setCell ⟨b,0,N⟩ v0).setCell ⟨b,1,N⟩ v1).setCell ⟨b,2,N⟩ v2):=
 ((hb.setCell (p:=⟨b,0,N⟩) h _).setCell (p:=⟨b,1,N⟩) h _).setCell (p:=⟨b,2,N⟩) h _
def Dx:L R3->L Z
 | []=>[]
 | y::ys=>F y.has::I y.code::S y.text::Dx ys
theorem Od(ys:L R3)(y:R3):Dx (ys++[y])=Dx ys++[F y.has,I y.code,S y.text]:=by
 induction ys with
 | nil=>rfl
 | cons x xs ih=>simp only[List.cons_append,Dx,ih]
theorem Pf:∀(ys:L R3)(i:X),i<ys.length->(Dx ys)[i*3]?=M (F (rx ys i).has)/\(Dx ys)[i*3+1]?=M (I (rx ys i).code)/\(Dx ys)[i*3+2]?=M (S (rx ys i).text)
 | [],i,h=>by simp at h
 | y::ys,0,h=>by simp[Dx,rx]
 | y::ys,i+1,h=>by
  have:=Pf ys i qar;rw[show(i+1)*3=i*3+1+1+1 from qb];simpa [Dx,rx] using this
theorem rowR_of{cap:X}(h:w.ownsRow B 196 3 (J a ys.length cap) ys.length (Dx ys)):Pw w a ys:=by
 intro i hi
 rcases h.2 with⟨hv,h0⟩|⟨g,ai,cur,hv,_⟩
 ·omega
 ·simp only[Value.slice.injEq]at hv;obtain⟨rfl,_,_⟩:=hv;obtain⟨k1,k2,k3⟩:=Pf ys i hi;exact⟨g,0,rfl,by rw[Nat.zero_add,h.cellAt _ qb];exact k1,by rw[Nat.zero_add,h.cellAt _ qb];exact k2,by rw[Nat.zero_add,h.cellAt _ qb];exact k3⟩
theorem Ou(w:E)(v0 v1 v2:Z)(ty:TypeId):∀j u,[v0,v1,v2][j]?=M u->(w.alloc (O #[v0,v1,v2] ty)).cell? ((⟨w.heap.size,0,N⟩:Addr).add j)=M u:=by
 intro j u hu
 match j with
 | 0=>simp at hu;subst hu;simp[go_sem,Addr.add]
 | 1=>simp at hu;subst hu;simp[go_sem,Addr.add]
 | 2=>simp at hu;subst hu;simp[go_sem,Addr.add]
 | j+3=>simp at hu
def lenV:Z->X
 | J _ n _=>n
 | _=>0
theorem reps_of{gs:L G3}(h:∀i,i<ys.length->Kg (rx ys i)=true)(hk:ys.length<=200):Mx ys=true:=by
 simp only[Mx,Bool.and_eq_true,decide_eq_true_eq]
 exact⟨hk,h⟩
theorem rx_any(h:∀i,i<ys.length->Kg (rx ys i)=true):∀i,(rx ys i).text.size<=9223372036854775807:=λi=>by
 rcases Nat.lt_or_ge i ys.length with h1|h1
 ·have:=Tm h i h1;omega
 ·unfold rx;rw[gG,List.getElem?_eq_none h1];decide
def Oo:L G3->L Z
 | []=>[]
 | g::gs=>S g.name::F g.ask::S g.sum::Oo gs
theorem gC_snoc(gs:L G3)(g:G3):Oo (gs++[g])=Oo gs++[S g.name,F g.ask,S g.sum]:=by
 induction gs with
 | nil=>rfl
 | cons x xs ih=>simp only[List.cons_append,Oo,ih]
theorem gC_get:∀(gs:L G3)(i:X),i<gs.length->(Oo gs)[i*3]?=M (S (gx gs i).name)/\(Oo gs)[i*3+1]?=M (F (gx gs i).ask)/\(Oo gs)[i*3+2]?=M (S (gx gs i).sum)
 | [],i,h=>by simp at h
 | y::ys,0,h=>by simp[Oo,gx]
 | y::ys,i+1,h=>by
  have:=gC_get ys i qar;rw[show(i+1)*3=i*3+1+1+1 from qb];simpa [Oo,gx] using this
theorem Ah{e sz n:X}{v:Z}(h:w.ownsRow B e sz v n xs)(hB:B'<=B):w.ownsRow B' e sz v n xs:=by
 exact qke
theorem looks_of{v:Z}{gs:L G3}(h:w.ownsRow B 199 3 v gs.length (Oo gs))(hB:B'<=B):Ek w B' v gs:=⟨Oo gs,Ah h hB,λi hi=>gC_get gs i hi⟩
theorem Mv(c:Int)(t:By)(w:E)(h0:0<=c)(h5:c<=5)(ht:t.size<=2000):Calls prog 114 #[G #[I c,S t,nS]] w λe w'=>e=H (S (Bi c t))/\Bw w w':=by
 obtain⟨m,rfl⟩:=Int.eq_ofNat_of_zero_le h0
 exact Pc m t N 0 w qb ht
theorem own_grown{base wb e e' sz P2 n n':X}{v v':Z}{xs':L Z}(ho:w.ownsRow base e sz v n xs)(ho':w.ownsRow wb e' P2 v' n' xs')(hne:e≠e')(hg:w.grownBy w' v'.ownBlock):w'.ownsRow base e sz v n xs:=by
 refine⟨ho.1,?_⟩
 rcases ho.2 with r|⟨g,cap,cur,rfl,hb,hh,r⟩
 ·exact Or.inl r
 ·refine Or.inr ⟨g,cap,cur,rfl,hb,?_,r⟩;rw[hg.block g (Ag hh) ?_]
  ·exact hh
  ·intro e1
   rcases ho'.2 with⟨rfl,_⟩|⟨g',ai,cur',rfl,As,M7,_⟩
   ·simp[Value.ownBlock]at e1
   ·simp[Value.ownBlock]at e1;subst e1;rw[hh]at M7;injection M7 with M7;injection M7 with _ h5;exact hne h5
theorem Wp{e sz n:X}{v:Z}(h:w.ownsRow B e sz v n xs)(h1:1≤n):∃g cp,v=J (p_ g) n cp:=by
 rcases Dm h with⟨_,h0⟩|h
 ·omega
 ·exact h
theorem clone_any(a:Option Addr)(cap:X)(is:L I3)(w:E)(hc:Bu w a is)(h1:1≤is.length)(hl:is.length≤1048576):Calls prog 159 #[J a is.length cap] w λe w'=>Bw w w'∧∃g cp,e=H (J (p_ g) is.length cp)∧w'.ownsRow w.heap.size 143 3 (J (p_ g) is.length cp) is.length (Di is):=by
 obtain⟨i0,hi,bq,bg,bv⟩:=info_parts Tryz.info165b;obtain⟨b,off,rfl,_⟩:=hc 0 qb;have di:(w.alloc (O #[] 143)).ownsRow w.heap.size 143 3 (J (p_ w.heap.size) 0 0) 0 []:=World.ownsRow_lit (base:=w.heap.size) (e:=143) (size:=3) w #[] 0 (Nat.le_refl _) qm qg;have hn:=Ns (hc.bl ((Below.refl w.heap.size w).alloc (Nat.le_refl _) (O #[] 143)));have HL:Hd ((Di is).length=is.length*3):=Iq is;have HO:Hd (∀u∈Di is,u.oneCell'=true):=Pp is;generalize Di is=xs at *;clear hc;have hq:∀W:E,(binOp .eql 89 (J (M ⟨b,off,N⟩) is.length cap) nS).run prog W=.ok (F false) W:=λW=>Lib.run_eql_slice_nil W 89 143 _ _ _ 0 0 underlying89;go_enter func159,ntmps159
 go_wp2_with (at_builtin;refine wpList_append_own _ rfl (.tmp 5) (.tmp 6) 89 rfl w.heap.size 143 i0 (G #[I 0,ze,I 0]) 3 32 underlying89 hi bq bg bv rfl qd _ 0 [] rfl di ⟨b,off,N⟩ is.length cap xs rfl HL.o hn HO.o qm qb qg ?_;intro v' w2 au ae cu;clear cu)
 have gh:Bw w w2:=(aN _ _).grown ae qg (λk hk=>(di.lt k hk).1);rw[Nat.zero_add,List.nil_append]at au;obtain⟨g,cp,rfl⟩:=Wp au h1;clear ae di hn;go_wp2;go_ret;exact⟨gh,g,cp,rfl,au⟩
theorem Sq(a:Option Addr)(cap:X)(is:L I3)(w:E)(hc:Bu w a is)(h1:1≤is.length)(hl:is.length≤1048576):Calls prog 143 #[G #[J a is.length cap]] w λe w'=>Bw w w'∧∃g cp,e=H (G #[J (p_ g) is.length cp])∧w'.ownsRow w.heap.size 143 3 (J (p_ g) is.length cp) is.length (Di is):=by
 have ak:Bw w ((w.alloc (O #[J a is.length cap] 91)).alloc (O #[nS] 91)):=(aN _ _).alloc qg _;go_enter func143,ntmps143;go_wp2_with fail;refine(clone_any a cap is _ (hc.bl ak) h1 hl).mono ?_;exact qhj
theorem Vq(a:Option Addr)(cap:X)(is:L I3)(w:E)(hc:Bu w a is)(h1:1≤is.length)(hl:is.length≤1048576):Calls prog 84 #[G #[J a is.length cap]] w λe w'=>Bw w w'∧∃g cp,e=H (G #[J (p_ g) is.length cp])∧w'.ownsRow w.heap.size 143 3 (J (p_ g) is.length cp) is.length (Di is):=by
 obtain⟨i0,hi,bq,bg,bv⟩:=info_parts Tryz.info165b;obtain⟨b,off,rfl,_⟩:=hc 0 qb;have ak:Bw w ((w.alloc (O #[J (M ⟨b,off,N⟩) is.length cap] 91)).alloc (O #[nS] 91)):=(aN _ _).alloc qg _;have af:Bw w (((w.alloc (O #[J (M ⟨b,off,N⟩) is.length cap] 91)).alloc (O #[nS] 91)).alloc (O #[] 143)):=ak.alloc qh _
 have di:(((w.alloc (O #[J (M ⟨b,off,N⟩) is.length cap] 91)).alloc (O #[nS] 91)).alloc (O #[] 143)).ownsRow (w.heap.size+1+1) 143 3 (J (p_ (w.heap.size+1+1)) 0 0) 0 []:=by
  exact qhs
 have hn:=Ns (hc.bl af);have HL:Hd ((Di is).length=is.length*3):=Iq is;have HO:Hd (∀u∈Di is,u.oneCell'=true):=Pp is;generalize Di is=xs at *;clear hc ak;go_enter func84,ntmps84
 go_wp2_with (at_builtin;refine wpList_append_own _ rfl (.tmp 3) (.tmp 5) 89 rfl (w.heap.size+1+1) 143 i0 (G #[I 0,ze,I 0]) 3 32 underlying89 hi bq bg bv rfl qd _ 0 [] rfl di ⟨b,off,N⟩ is.length cap xs rfl HL.o hn HO.o qm qb qg ?_;intro v' w2 au ae cu;clear cu;have gh:Below (w.heap.size+1+1) (((w.alloc (O #[J (M ⟨b,off,N⟩) is.length cap] 91)).alloc (O #[nS] 91)).alloc (O #[] 143)) w2:=(Below.refl _ _).grown ae qg (λk hk=>(di.lt k hk).1);have c1:w2.cell? ⟨w.heap.size+1,0,N⟩=M nS:=(by rw[gh.cell (p:=⟨w.heap.size+1,0,N⟩) qg];simp[go_sem]);have f1:w2.frozen? ⟨w.heap.size+1,0,N⟩=false:=(by rw[gh.frozen (p:=⟨w.heap.size+1,0,N⟩) qg];simp[go_sem]);have hB:Bw w w2:=af.trans (gh.mono qb);rw[Nat.zero_add,List.nil_append]at au;obtain⟨g,cp,rfl⟩:=Wp au h1;have hg:=(au.lt g rfl).1;have yr:Hd (w2.ownsRow w.heap.size 143 3 (J (p_ g) is.length cp) is.length xs):=Ah au qb;clear ae di hn gh au af)
 exact qiq
def Cp(w:E)(lo hi:X)(v:Z)(ts:L By):Prop:=Bg w lo hi 9 1 v ts.length (ts.map Value.string)
theorem Uc(ss:L By):Ej ss ss.length ss.length=ss.map Value.string:=by simp[Ej]
theorem map_str(ss:L By)(i:X)(h:i<ss.length):(ss.map Value.string)[i]?=M (S (ss.getD i ByteArray.empty)):=by rw[←Uc];exact filled_get ss i h
theorem Cp.bl{v:Z}(h:Cp w lo hi v ts)(hb:Bw w w'):Cp w' lo hi v ts:=Bg.bl h hb
theorem Cp.keep{v:Z}(h:Cp w lo hi v ts)(hk:De lo' hi' w w')(hd:hi≤lo'∨hi'≤lo):Cp w' lo hi v ts:=Bg.keep h hk hd
theorem Cp.wide{v:Z}(h:Cp w lo hi v ts)(h1:lo'≤lo)(h2:hi≤hi'):Cp w lo' hi' v ts:=Bg.wide h h1 h2
theorem Cp.nil(w:E)(lo hi:X):Cp w lo hi nS []:=Bg.nil _ _ _ _ _
theorem Cp.sl{v:Z}(h:Cp w lo hi v ts):∃a cap,v=J a ts.length cap∧Cc w a ts:=by
 rcases Dm (Bg.own h)with⟨rfl,h0⟩|⟨g,cap,rfl⟩
 ·exact qbj
 ·refine⟨_,cap,rfl,λi hi=>⟨g,0,rfl,?_⟩⟩
  rw[Nat.zero_add,(Bg.own h).cellAt _ qb];exact map_str ts i hi
theorem Cp.set{v:Z}(h:Cp w lo hi v ts)(hb:b<lo)(u:Z):Cp (w.setCell ⟨b,j,N⟩ u) lo hi v ts:=h.keep (De.set (lo:=b) (hi:=b+1) (Nat.le_refl _) (Nat.lt_succ_self _) j u) (Or.inr hb)
structure Ko (w:E) (lo hi:X) (v:Z) (rs:L T3) (xs:L Z) (cv lv:X→Z):Prop where
 row:Bg w lo hi 94 3 v rs.length xs
 fil:∀i,i<rs.length→xs[i*3]?=M (cv i)∧xs[i*3+1]?=M (lv i)∧xs[i*3+2]?=M (S (qx rs i).out)
 code:∀i,i<rs.length→∃ys,Bg w lo hi 143 3 (cv i) (qx rs i).code.length ys∧Ck (qx rs i).code (qx rs i).code.length ys
 look:∀i,i<rs.length→∃ys,Bg w lo hi 145 3 (lv i) (qx rs i).looks.length ys∧Bk (qx rs i).looks (qx rs i).looks.length ys
 apc:∀i j,i<j→j<rs.length→∀b,(cv i).ownBlock=M b→(cv j).ownBlock≠M b
 apl:∀i j,i<j→j<rs.length→∀b,(lv i).ownBlock=M b→(lv j).ownBlock≠M b
 som:∀i,i<rs.length→∃g cap,lv i=J (p_ g) (qx rs i).looks.length cap
def Ez(w:E)(lo hi:X)(v:Z)(rs:L T3):Prop:=∃xs cv lv,Ko w lo hi v rs xs cv lv
theorem Ko.bl{v:Z}(h:Ko w lo hi v rs xs cv lv)(hb:Bw w w'):Ko w' lo hi v rs xs cv lv:=
 ⟨h.row.bl hb,h.fil,λi hi=>by obtain⟨ys,h1,h2⟩:=h.code i hi;exact⟨ys,h1.bl hb,h2⟩,λi hi=>by obtain⟨ys,h1,h2⟩:=h.look i hi;exact⟨ys,h1.bl hb,h2⟩,h.apc,h.apl,h.som⟩
theorem Ko.keep{v:Z}(h:Ko w lo hi v rs xs cv lv)(hk:De lo' hi' w w')(hd:hi≤lo'∨hi'≤lo):Ko w' lo hi v rs xs cv lv:=
 ⟨h.row.keep hk hd,h.fil,λi hi=>by obtain⟨ys,h1,h2⟩:=h.code i hi;exact⟨ys,h1.keep hk hd,h2⟩,λi hi=>by obtain⟨ys,h1,h2⟩:=h.look i hi;exact⟨ys,h1.keep hk hd,h2⟩,h.apc,h.apl,h.som⟩
theorem Ko.wide{v:Z}(h:Ko w lo hi v rs xs cv lv)(h1:lo'≤lo)(h2:hi≤hi'):Ko w lo' hi' v rs xs cv lv:=
 ⟨h.row.wide h1 h2,h.fil,λi hi=>by obtain⟨ys,k1,k2⟩:=h.code i hi;exact⟨ys,k1.wide h1 h2,k2⟩,λi hi=>by obtain⟨ys,k1,k2⟩:=h.look i hi;exact⟨ys,k1.wide h1 h2,k2⟩,h.apc,h.apl,h.som⟩
theorem Ez.bl{v:Z}(h:Ez w lo hi v rs)(hb:Bw w w'):Ez w' lo hi v rs:=by
 obtain⟨xs,cv,lv,h⟩:=h;exact⟨xs,cv,lv,h.bl hb⟩
theorem Ez.keep{v:Z}(h:Ez w lo hi v rs)(hk:De lo' hi' w w')(hd:hi≤lo'∨hi'≤lo):Ez w' lo hi v rs:=by
 obtain⟨xs,cv,lv,h⟩:=h;exact⟨xs,cv,lv,h.keep hk hd⟩
theorem Ez.wide{v:Z}(h:Ez w lo hi v rs)(h1:lo'≤lo)(h2:hi≤hi'):Ez w lo' hi' v rs:=by
 obtain⟨xs,cv,lv,h⟩:=h;exact⟨xs,cv,lv,h.wide h1 h2⟩
theorem Ez.nil(w:E)(lo hi:X):Ez w lo hi nS []:=⟨[],λ_=>nS,λ_=>nS,Bg.nil _ _ _ _ _,λi hi=>qaa,λi hi=>qaa,λi hi=>qaa,λi j _ hj=>by simp at hj,λi j _ hj=>by simp at hj,λi hi=>qaa⟩
theorem Ez.set{v:Z}(h:Ez w lo hi v rs)(hb:b<lo)(u:Z):Ez (w.setCell ⟨b,j,N⟩ u) lo hi v rs:=h.keep (De.set (lo:=b) (hi:=b+1) (Nat.le_refl _) (Nat.lt_succ_self _) j u) (Or.inr hb)
theorem Ez.keepO{e sz n:X}{u v:Z}(h:Ez w lo hi v rs)(ho:w.ownsRow B e sz u n zs)(hk:Dc u.ownBlock w w')(h1:94≠e)(h2:143≠e)(h3:145≠e):Ez w' lo hi v rs:=by
 obtain⟨xs,cv,lv,h⟩:=h
 exact⟨xs,cv,lv,h.row.same λb eb=>hk b (h.row.own.lt b eb).2 (λe'=>Px h.row.own ho h1 b eb e'.symm),h.fil,λi hi=>by
  obtain⟨ys,k1,k2⟩:=h.code i hi
  exact⟨ys,k1.same λb eb=>hk b (k1.own.lt b eb).2 (λe'=>Px k1.own ho h2 b eb e'.symm),k2⟩,λi hi=>by
  obtain⟨ys,k1,k2⟩:=h.look i hi;exact⟨ys,k1.same λb eb=>hk b (k1.own.lt b eb).2 (λe'=>Px k1.own ho h3 b eb e'.symm),k2⟩,h.apc,h.apl,h.som⟩
theorem Wm{v:Z}{is:L G3}{ys:L Z}(h:Bg w lo hi 145 3 v is.length ys)(hf:Bk is is.length ys):∃a cap,v=J a is.length cap∧Fr w a is:=by
 rcases Dm h.own with⟨rfl,h0⟩|⟨g,cap,rfl⟩
 ·exact qbj
 ·exact⟨_,cap,rfl,Qan rfl h.own hf⟩
theorem Ez.sl{v:Z}(h:Ez w lo hi v rs):∃a cap,v=J a rs.length cap∧Lw w a rs:=by
 obtain⟨xs,cv,lv,h⟩:=h
 rcases Dm h.row.own with⟨rfl,h0⟩|⟨g,cap,rfl⟩
 ·exact qbj
 ·refine⟨_,cap,rfl,λi hi=>?_⟩
  obtain⟨h1,h2,h3⟩:=h.fil i hi;obtain⟨ys,k1,k2⟩:=h.code i hi;obtain⟨zs,j1,j2⟩:=h.look i hi;obtain⟨a',ai,e,r⟩:=Qg k1 k2;obtain⟨a2,mh,e2,r2⟩:=Wm j1 j2;refine⟨g,0,rfl,a',ai,a2,mh,?_,?_,?_,r,r2⟩
  ·rw[Nat.zero_add,h.row.own.cellAt _ qb,h1,e]
  ·rw[Nat.zero_add,h.row.own.cellAt _ qb,h2,e2]
  ·rw[Nat.zero_add,h.row.own.cellAt _ qb,h3]
structure Ei (w:E) (lo:X) (is:L T3) (k:X) (xs:L Z) (cv lv:X→Z):Prop where
 fil:∀i,i<k→xs[i*3]?=M (cv i)∧xs[i*3+1]?=M (lv i)∧xs[i*3+2]?=M (S (qx is i).out)
 code:∀i,i<k→∃ys,w.ownsRow lo 143 3 (cv i) (qx is i).code.length ys∧Ck (qx is i).code (qx is i).code.length ys
 look:∀i,i<k→∃ys,w.ownsRow lo 145 3 (lv i) (qx is i).looks.length ys∧Bk (qx is i).looks (qx is i).looks.length ys
 apc:∀i j,i<j→j<k→∀b,(cv i).ownBlock=M b→(cv j).ownBlock≠M b
 apl:∀i j,i<j→j<k→∀b,(lv i).ownBlock=M b→(lv j).ownBlock≠M b
 som:∀i,i<k→∃g cap,lv i=J (p_ g) (qx is i).looks.length cap
theorem Ei.same{is:L T3}(h:Ei w lo is k xs cv lv)(hk:∀b,lo≤b→b<w.heap.size→w'.heap[b]?=w.heap[b]?):Ei w' lo is k xs cv lv:=
 ⟨h.fil,λi hi=>by
  obtain⟨ys,h1,h2⟩:=h.code i hi
  exact⟨ys,Al h1 (λb e=>hk b (h1.lt b e).1 (h1.lt b e).2),h2⟩,λi hi=>by
  obtain⟨ys,h1,h2⟩:=h.look i hi;exact⟨ys,Al h1 (λb e=>hk b (h1.lt b e).1 (h1.lt b e).2),h2⟩,h.apc,h.apl,h.som⟩
theorem Ei.bl{is:L T3}(h:Ei w lo is k xs cv lv)(hb:Bw w w'):Ei w' lo is k xs cv lv:=h.same λb _ hl=>hb.block b hl
theorem Ei.set{is:L T3}(h:Ei w lo is k xs cv lv)(hb:b<lo)(u:Z):Ei (w.setCell ⟨b,j,N⟩ u) lo is k xs cv lv:=h.same λc hc _=>hC w ⟨b,j,N⟩ u c (by show c≠b;omega)
theorem Ei.zero(w:E)(lo:X)(is:L T3)(xs:L Z):Ei w lo is 0 xs (λ_=>nS) (λ_=>nS):=⟨λi hi=>qb,λi hi=>qb,λi hi=>qb,λi j _ hj=>qb,λi j _ hj=>qb,λi hi=>qb⟩
theorem Ei.add{w2:E}{is:L T3}{xs2:L Z}(h:Ei w lo is k xs cv lv)(hk:∀b,lo≤b→b<w.heap.size→w2.heap[b]?=w.heap[b]?∨∃n zs B v,w.ownsRow B 94 3 v n zs∧v.ownBlock=M b)(hl:lo≤w.heap.size){c d:Z}{ys:L Z}(ho:w2.ownsRow w.heap.size 143 3 c (qx is k).code.length ys)(hf:Ck (qx is k).code (qx is k).code.length ys)(jq:w2.ownsRow w.heap.size 145 3 d (qx is k).looks.length zs)(sr:Bk (qx is k).looks (qx is k).looks.length zs)(hd:∃g cap,d=J (p_ g) (qx is k).looks.length cap)(h1:∀j,j<k*3→xs2[j]?=xs[j]?)(h2:xs2[k*3]?=M c)(h3:xs2[k*3+1]?=M d)(h4:xs2[k*3+2]?=M (S (qx is k).out)):Ei w2 lo is (k+1) xs2 (λi=>if i=k then c else cv i) (λi=>if i=k then d else lv i):=by
 have hsame:∀ {e sz n:X} {u:Z} {us:L Z},w.ownsRow lo e sz u n us→94≠e→w2.ownsRow lo e sz u n us:=fun {e sz n u us} k1 hne=>Al k1 (λb eb=>by
  rcases hk b (k1.lt b eb).1 (k1.lt b eb).2 with h|⟨n',zs',B',v',o',e'⟩
  ·exact h
  ·exact absurd eb (Px o' k1 hne b e'))
 refine⟨λi hi=>?_,λi hi=>?_,λi hi=>?_,λi j rh hj=>?_,λi j rh hj=>?_,λi hi=>?_⟩
 ·rcases Nat.lt_or_ge i k with hl|hl
  ·obtain⟨k1,k2,k3⟩:=h.fil i hl
   rw[h1 _ qb,h1 _ qb,h1 _ qb,if_neg qb,if_neg qb];exact⟨k1,k2,k3⟩
  ·obtain rfl:i=k:=qb
   rw[if_pos rfl,if_pos rfl];exact⟨h2,h3,h4⟩
 ·rcases Nat.lt_or_ge i k with aj|Q4
  ·obtain⟨zs,k1,k2⟩:=h.code i aj
   exact qmo
  ·obtain rfl:i=k:=qb
   simp only[if_true];exact⟨ys,Ah ho hl,hf⟩
 ·rcases Nat.lt_or_ge i k with aj|Q4
  ·obtain⟨zs,k1,k2⟩:=h.look i aj
   exact qmo
  ·obtain rfl:i=k:=qb
   simp only[if_true];exact⟨zs,Ah jq hl,sr⟩
 ·rcases Nat.lt_or_ge j k with aj|Q4
  ·simp only[if_neg (show ¬ i=k from qb),if_neg (show ¬ j=k from qb)]
   exact h.apc i j rh aj
  ·exact qjc
 ·rcases Nat.lt_or_ge j k with aj|Q4
  ·simp only[if_neg (show ¬ i=k from qb),if_neg (show ¬ j=k from qb)]
   exact h.apl i j rh aj
  ·obtain rfl:j=k:=qb
   simp only[if_neg (show ¬ i=j from qb),if_true];intro b e1 e2;obtain⟨zs,k1,_⟩:=h.look i rh;have:=(k1.lt b e1).2;have:=(jq.lt b e2).1;omega
 ·rcases Nat.lt_or_ge i k with aj|Q4
  ·simp only[if_neg (show ¬ i=k from qb)]
   exact h.som i aj
  ·obtain rfl:i=k:=qb
   simp only[if_true];exact hd
theorem Ei.own{v:Z}{is:L T3}(h:Ei w lo' is is.length xs cv lv)(hr:w.ownsRow lo 94 3 v is.length xs)(hl:lo≤lo')(hh:w.heap.size≤hi):Ez w lo hi v is:=
 ⟨xs,cv,lv,⟨hr,λb e=>by have:=(hr.lt b e).2;omega⟩,h.fil,λi hi=>by
  obtain⟨ys,h1,h2⟩:=h.code i hi
  exact⟨ys,⟨Ah h1 hl,λb e=>by have:=(h1.lt b e).2;omega⟩,h2⟩,λi hi=>by
  obtain⟨ys,h1,h2⟩:=h.look i hi;exact⟨ys,⟨Ah h1 hl,λb e=>by have:=(h1.lt b e).2;omega⟩,h2⟩,h.apc,h.apl,h.som⟩
theorem set3_old(u v t:Z)(hj:j<k*3):(((xs.set (k*3) u).set (k*3+1) v).set (k*3+2) t)[j]?=xs[j]?:=by
 simp only[List.getElem?_set];rw[if_neg qb,if_neg qb,if_neg qb]
theorem set3_0(u v t:Z)(hx:k*3+2<xs.length):(((xs.set (k*3) u).set (k*3+1) v).set (k*3+2) t)[k*3]?=M u:=by
 simp only[List.getElem?_set];rw[if_neg qb,if_neg qb,if_pos trivial,if_pos qb]
theorem set3_1(u v t:Z)(hx:k*3+2<xs.length):(((xs.set (k*3) u).set (k*3+1) v).set (k*3+2) t)[k*3+1]?=M v:=by
 simp only[List.getElem?_set];rw[if_neg qb,if_pos trivial,if_pos qh]
theorem set3_2(u v t:Z)(hx:k*3+2<xs.length):(((xs.set (k*3) u).set (k*3+1) v).set (k*3+2) t)[k*3+2]?=M t:=by
 simp only[List.getElem?_set];rw[if_pos trivial,if_pos qh]
theorem heapW_new2(w:E)(o o2:Obj):((w.alloc o).alloc o2).heap[w.heap.size+1]?=M o2:=by
 have h:=Ch (w.alloc o) o2;rw[show(w.alloc o).heap.size=w.heap.size+1 from qg]at h;exact h
theorem heapW_old2(w:E)(o o2:Obj):((w.alloc o).alloc o2).heap[w.heap.size]?=M o:=by
 rw[Lib.alloc_old _ _ _ qg];exact Ch _ _
theorem blk_keepR{o:Obj}(h:w.heap[b]?=M o)(hk:De lo hi w w')(hb:b<lo∨hi≤b):w'.heap[b]?=M o:=by rw[hk b (El h) hb];exact h
theorem Bd(h:w.heap[b]?=M (O #[v1,v2,v3] T (0,0))):w.cell? ⟨b,0,N⟩=M v1∧w.cell? ⟨b,1,N⟩=M v2∧w.cell? ⟨b,2,N⟩=M v3:=
 ⟨qag,qag,qag⟩
theorem Cv.bl(h:Cv w b T)(hb:Bw w w'):Cv w' b T:=by
 obtain⟨cs,h⟩:=h;exact⟨cs,Af h hb⟩
theorem Cp.setT{v:Z}(ho:Cp w lo hi v ts)(h:Cv w b T)(h9:T≠9)(u:Z):Cp (w.setCell ⟨b,j,N⟩ u) lo hi v ts:=⟨Ao (Bg.own ho) h h9 u,Bg.top ho⟩
theorem Ez.setT{v:Z}(ho:Ez w lo hi v rs)(h:Cv w b T)(h66:T≠94)(h98:T≠143)(h88:T≠145)(u:Z):Ez (w.setCell ⟨b,j,N⟩ u) lo hi v rs:=by
 obtain⟨xs,cv,lv,k⟩:=ho
 exact⟨xs,cv,lv,⟨Ao k.row.own h h66 u,k.row.top⟩,k.fil,λi hi=>by
  obtain⟨ys,k1,k2⟩:=k.code i hi
  exact⟨ys,⟨Ao k1.own h h98 u,k1.top⟩,k2⟩,λi hi=>by
  obtain⟨ys,k1,k2⟩:=k.look i hi;exact⟨ys,⟨Ao k1.own h h88 u,k1.top⟩,k2⟩,k.apc,k.apl,k.som⟩
theorem Ei.setT{is:L T3}(h:Ei w lo is k xs cv lv)(ht:Cv w b T)(h98:T≠143)(h88:T≠145)(u:Z):Ei (w.setCell ⟨b,j,N⟩ u) lo is k xs cv lv:=
 ⟨h.fil,λi hi=>by
  obtain⟨ys,k1,k2⟩:=h.code i hi
  exact⟨ys,Ao k1 ht h98 u,k2⟩,λi hi=>by
  obtain⟨ys,k1,k2⟩:=h.look i hi;exact⟨ys,Ao k1 ht h88 u,k2⟩,h.apc,h.apl,h.som⟩
def gloC(gs:L G3)(j:X):Z:=if j % 3=0 then S (gx gs (j / 3)).name else if j % 3=1 then F (gx gs (j / 3)).ask else S (gx gs (j / 3)).sum
def Iz(gs:L G3):L Z:=(List.range (gs.length*3)).map (gloC gs)
theorem Nd(gs:L G3):(Iz gs).length=gs.length*3:=by simp[Iz]
theorem Ps(gs:L G3)(j:X)(h:j<gs.length*3):(Iz gs)[j]?=M (gloC gs j):=by
 unfold Iz;rw[List.getElem?_map,List.getElem?_range h];rfl
theorem Ri(gs:L G3):Bk gs gs.length (Iz gs):=by
 intro i hi;rw[Ps gs _ qb,Ps gs _ qb,Ps gs _ qb];unfold gloC;exact qis
theorem gloV_one(gs:L G3):∀u∈Iz gs,u.oneCell'=true:=by
 intro u hu;obtain⟨j,_,rfl⟩:=List.mem_map.mp hu;unfold gloC;split
 ·rfl
 ·split<;>rfl
theorem Wy{gs:L G3}(h:Fr w (M ⟨b,off,N⟩) gs):∀j u,(Iz gs)[j]?=M u→w.cell? ((⟨b,off,N⟩:Addr).add j)=M u:=by
 intro j u hu;rw[Addr.add_lit]
 have hj:j<gs.length*3:=by
  rcases Nat.lt_or_ge j (gs.length*3)with h|h
  ·exact h
  ·rw[List.getElem?_eq_none (by rw[Nd];exact h)]at hu;cases hu
 rw[Ps gs j hj]at hu;obtain rfl:=Option.some.inj hu;obtain⟨b',bp,ha,c1,c2,c3⟩:=h (j / 3) qb;cases ha;unfold gloC;split
 ·rename_i hm
  rw[show off+j=off+j / 3*3 from qb];exact c1
 ·split
  ·rename_i hm
   rw[show off+j=off+j / 3*3+1 from qb];exact c2
  ·rw[show off+j=off+j / 3*3+2 from qb];exact c3
theorem Kf(ss:L By):∀u∈ss.map Value.string,u.oneCell'=true:=by
 intro u hu;obtain⟨s,_,rfl⟩:=List.mem_map.mp hu;rfl
theorem Ky(h:Cc w (M ⟨b,off,N⟩) ss):∀j u,(ss.map Value.string)[j]?=M u→w.cell? ((⟨b,off,N⟩:Addr).add j)=M u:=by
 intro j u hu;rw[Addr.add_lit]
 have hj:j<ss.length:=by
  rcases Nat.lt_or_ge j ss.length with h|h
  ·exact h
  ·rw[List.getElem?_eq_none qar]at hu;cases hu
 rw[map_str ss j hj]at hu;obtain rfl:=Option.some.inj hu;obtain⟨b',bp,ha,c1⟩:=h j hj;cases ha;exact c1
theorem Tryz.info88b:(prog.info? 145).map (λi=>(i.zero,i.size,i.bytes))=M (M (G #[ze,F false,ze]),3,40):=qi
theorem Tryz.info66b:(prog.info? 94).map (λi=>(i.zero,i.size,i.bytes))=M (M (G #[nS,nS,ze]),3,64):=qi
theorem cloneX_any(b off cap:X)(is:L By)(w:E)(hc:Cc w (M ⟨b,off,N⟩) is)(hl:is.length≤1048576):Calls prog 124 #[J (M ⟨b,off,N⟩) is.length cap] w λe w'=>Bw w w'∧∃g cp,e=H (J (p_ g) is.length cp)∧w'.ownsRow w.heap.size 9 1 (J (p_ g) is.length cp) is.length (is.map Value.string):=by
 obtain⟨i0,hi,bq,bg,bv⟩:=info_parts Tryz.info9b;have di:(w.alloc (O #[] 9)).ownsRow w.heap.size 9 1 (J (p_ w.heap.size) 0 0) 0 []:=World.ownsRow_lit (base:=w.heap.size) (e:=9) (size:=1) w #[] 0 (Nat.le_refl _) qm qg;have hn:=Ky (hc.bl ((Below.refl w.heap.size w).alloc (Nat.le_refl _) (O #[] 9)));have HL:Hd ((is.map Value.string).length=is.length*1):=by show _=_;simp
 have HO:Hd (∀u∈is.map Value.string,u.oneCell'=true):=Kf is;generalize is.map Value.string=xs at *;clear hc;have hq:∀W:E,(binOp .eql 22 (J (M ⟨b,off,N⟩) is.length cap) nS).run prog W=.ok (F false) W:=λW=>Lib.run_eql_slice_nil W 22 9 _ _ _ 0 0 underlying22;go_enter func124,ntmps124
 go_wp2_with (at_builtin;refine wpList_append_own _ rfl (.tmp 5) (.tmp 6) 22 rfl w.heap.size 9 i0 ze 1 16 underlying22 hi bq bg bv rfl qd _ 0 [] rfl di ⟨b,off,N⟩ is.length cap xs rfl HL.o hn HO.o qm qb qg ?_;intro v' w2 au ae cu)
 exact qei
def Qu(lo:X)(w:E)(e:Ending)(is:L I3)(gs:L G3)(out:By):Prop:=∃g1 p1 g2 p2,e=H (G #[J (p_ g1) is.length p1,J (p_ g2) gs.length p2,S out])∧w.ownsRow lo 143 3 (J (p_ g1) is.length p1) is.length (Di is)∧w.ownsRow lo 145 3 (J (p_ g2) gs.length p2) gs.length (Iz gs)

theorem Qr{P:X}{x y z:Z}(hz:w.heap[P]?=M (O #[x,y,z] T (0,0)))(u1 u2 u3:Z):(((w.setCell ⟨P,0,N⟩ u1).setCell ⟨P,1,N⟩ u2).setCell ⟨P,2,N⟩ u3).heap[P]?=M (O #[u1,u2,u3] T (0,0)):=by
 have h1:(w.setCell ⟨P,0,N⟩ u1).heap[P]?=M (O #[u1,y,z] T (0,0)):=by rw[jB hz];rfl
 have h2:((w.setCell ⟨P,0,N⟩ u1).setCell ⟨P,1,N⟩ u2).heap[P]?=M (O #[u1,u2,z] T (0,0)):=by rw[jB h1];rfl
 rw[jB h2];rfl

theorem Ij(w:E)(dT sT ty elem:TypeId)(g o dLen dCap:X)(a:Addr)(sLen sCap:X)(cur:Array Z)(t:TypeId)(cs:L Z)(hu:prog.underlying dT=M (.slice elem))(hs:(prog.info? elem).map (·.size)=M 1)(hg:w.heap[g]?=M (O cur t (0,0)))(hn:cs.length=Nat.min sLen dLen)(hsrc:∀j v,cs[j]?=M v→w.cell? (a.add j)=M v)(hfit:o+cs.length≤cur.size)(h1:∀v∈cs,v.oneCell'=true):(Builtin.copy_ #[dT,sT] ty #[J (M ⟨g,o,N⟩) dLen dCap,J (M a) sLen sCap]).run prog w =
 .ok (goInt (Nat.min sLen dLen)) (w.setRow g (cur.toList.take o++cs++cur.toList.drop (o+cs.length)).toArray):=by
 have hl:=run_loadCells_list (P:=prog) w a cs hsrc;have de:=run_storeCells_at prog g o t cs 0 cur w hg (by simpa using hfit) h1
 cases hq:prog.info? elem with
 | none=>simp[hq]at hs
 | some i=>
   (have hi:i.size=1:=by simpa [hq] using hs);simp[Builtin.copy_,run_underlying hu,Builtin.lenOf,Builtin.firstCells,sizeOf,typeInfo,hq,hi,←hn,hl,de]
theorem Ti{α:Type}(AL cs:L α)(o:X)(h:o≤AL.length):(AL.take o++cs++AL.drop (o+cs.length)).take (o+cs.length)=AL.take o++cs:=by
 rw[List.take_append_of_le_length qh,List.take_of_length_le qh]
theorem shift_take{α:Type}(C xs vs:L α)(i n:X)(hi:i≤n)(hx:C.take (n)=xs)(hl:(n+1)≤C.length)(hv:vs.length=1)(C1 C2:L α)(h1:C1=C.take ((i+1))++xs.drop (i)++C.drop ((i+1)+(xs.drop (i)).length))(h2:C2=C1.take (i)++vs++C1.drop (i+vs.length)):C2.length=C.length∧C2.take ((n+1))=xs.take (i)++vs++xs.drop (i):=by
 have sd:xs.length=n:=by rw[←hx,List.length_take];omega
 have zu:(xs.drop (i)).length=n-i:=by rw[List.length_drop,sd]
 have ws:C1.length=C.length:=by rw[h1];simp[zu];omega
 have e1:C1.take ((n+1))=C.take ((i+1))++xs.drop (i):=by
  have:=Ti C (xs.drop (i)) ((i+1)) qb;rw[←h1,zu,show(i+1)+(n-i)=(n+1) from qb]at this;exact this
 have e2:C1.take (i)=xs.take (i):=by
  have:=congrArg (λl=>l.take (i)) e1;simp only[List.take_take]at this;rw[Nat.min_eq_left qb,List.take_append_of_le_length qh,List.take_take,Nat.min_eq_left qb]at this;rw[this,←hx,List.take_take,Nat.min_eq_left qb]
 have e3:(C1.take ((n+1))).drop ((i+1))=xs.drop (i):=by
  rw[e1,List.drop_append_of_le_length qh,List.drop_of_length_le qh,List.nil_append]
 have V7:C2.length=C.length:=by rw[h2];simp[hv,ws];omega
 refine⟨V7,?_⟩;rw[h2,hv,show i+1=(i+1) from qb,List.take_append,List.take_of_length_le (by simp[hv,ws];omega)];rw[e2];congr 1;rw[←e3,List.drop_take];congr 1;simp[hv,sd];omega
theorem grow_take{α:Type}(R xs vs AE:L α)(i n:X)(hi:i≤n)(sd:xs.length=n)(hR:R=xs.take (i)++AE)(hZ:(n+1-i)≤AE.length)(hv:vs.length=1)(C1 C2:L α)(h1:C1=R.take (i)++vs++R.drop (i+vs.length))(h2:C2=C1.take ((i+1))++xs.drop (i)++C1.drop ((i+1)+(xs.drop (i)).length)):C2.length=R.length∧C2.take ((n+1))=xs.take (i)++vs++xs.drop (i):=by
 have zu:(xs.drop (i)).length=n-i:=by rw[List.length_drop,sd]
 have hRl:R.length=i+AE.length:=by rw[hR];simp[sd];omega
 have ws:C1.length=R.length:=by rw[h1];simp[hv];omega
 have e1:C1.take ((i+1))=xs.take (i)++vs:=by
  have:=Ti R vs (i) qb;rw[←h1,hv,show i+1=(i+1) from qb]at this;rw[this,hR,List.take_append_of_le_length (by simp[sd];omega),List.take_take,Nat.min_self]
 have e2:=Ti C1 (xs.drop (i)) ((i+1)) qb;rw[←h2,zu,show(i+1)+(n-i)=(n+1) from qb,e1]at e2;refine⟨?_,e2⟩;rw[h2];simp[zu,ws];omega
theorem one_drop(h:∀v∈xs,v.oneCell'=true)(k:X):∀v∈xs.drop k,v.oneCell'=true:=λv hv=>h v (List.mem_of_mem_drop hv)
/-! ### Text -/
theorem Tryz.size9:(prog.info? 9).map (·.size)=M 1:=qi
theorem Tryz.szrun9:∀w,(Go.sizeOf 9).run prog w=.ok 1 w:=λw=>by
 obtain⟨i0,hi,bq,bg,bv⟩:=info_parts Tryz.info9b;simp[sizeOf,typeInfo,hi,bg]
theorem Vr(g n c i vb:X)(cur:Array Z)(y:Z)(w:E)(hi:i<n)(I8:n+1≤c)(F8:c≤maxLen)(hg:w.heap[g]?=M (O cur 9 (0,0)))(hcur:cur.size=c)(hb:w.heap[vb]?=M (O #[y] 9 (0,0)))(hvb:vb≠g)(h1c:∀v∈cur.toList.take (n),v.oneCell'=true)(Y2:∀v∈[y],v.oneCell'=true)(C1 C2:L Z)(e1:C1=cur.toList.take ((i+1))++(cur.toList.take (n)).drop (i)++cur.toList.drop ((i+1)+((cur.toList.take (n)).drop (i)).length))(e2:C2=C1.take (i)++[y]++C1.drop (i+[y].length)):Calls prog 191 #[J (p_ g) n c,I i,J (p_ vb) 1 1] w λe w'=>e=H (J (p_ g) (n+1) c)∧w'=(w.drew.setRow g C1.toArray).setRow g C2.toArray:=by
 unfold maxLen at F8;have zu:((cur.toList.take (n)).drop (i)).length=(n-i):=by rw[List.length_drop,List.length_take,Array.length_toList,hcur];omega
 have ws:C1.length=cur.size:=by rw[e1];simp[zu,hcur];omega
 have hov:∀lb cb,(callFunc 199 #[J (p_ vb) 1 1,J (M ⟨g,(i+1),N⟩) lb cb]).run prog w=.ok (.value (F false)) w:=λlb cb=>by
  rw[run_callFunc_extern func199 qi qi qi (e:=Extern.SlicesOverlaps.overlaps #[22,22] #[4]) qi,
   Lib.run_overlaps_apart w 22 4 9 underlying22 1 Tryz.szrun9 ⟨vb,0,N⟩ ⟨g,(i+1),N⟩ 1 1 lb cb hvb 9 9 1 cur.size (by simp[World.shape?,hb]) (by simp[World.shape?,hg]) qb (fH hb 0) (fH hb 1)]
  rfl
 have hcp1:∀ty dc sc,(Builtin.copy_ #[22,22] ty #[J (M ⟨g,(i+1),N⟩) (n-i) dc,J (M ⟨g,i,N⟩) (n+1-i) sc]).run prog w.drew=.ok (goInt ((n-i:X):Int)) (w.drew.setRow g C1.toArray):=λty dc sc=>by
  have h:=Ij w.drew 22 22 ty 9 g ((i+1)) (n-i) dc ⟨g,i,N⟩ (n+1-i) sc cur 9 ((cur.toList.take (n)).drop (i)) underlying22 Tryz.size9 hg (by rw[zu];simp only[Nat.min_def];split<;>omega)
   (λj v hj=>by
     rw[Addr.add_lit,cH (w:=w.drew) (cs:=cur) (T:=9) (fr:=(0,0)) hg];rw[List.getElem?_drop,List.getElem?_take]at hj
     split at hj
     ·rw[←Array.getElem?_toList];exact hj
     ·cases hj) (by rw[zu];omega) (one_drop h1c _)
  rw[←e1,show Nat.min (n+1-i) (n-i)=n-i from qgg]at h;exact h
 obtain⟨W1,hW1⟩:∃W1,W1=w.drew.setRow g C1.toArray:=⟨_,rfl⟩;have hg1:W1.heap[g]?=M (O C1.toArray 9 (0,0)):=by rw[hW1];exact setRow_heap _ _ _ _ _ _ hg
 have af:W1.heap[vb]?=M (O #[y] 9 (0,0)):=by rw[hW1,setRow_other _ _ _ _ hvb];exact hb
 have hcp2:∀ty dc,(Builtin.copy_ #[22,22] ty #[J (M ⟨g,i,N⟩) (n+1-i) dc,J (p_ vb) 1 1]).run prog W1=.ok (goInt 1) (W1.setRow g C2.toArray):=λty dc=>by
  have h:=Ij W1 22 22 ty 9 g (i) (n+1-i) dc ⟨vb,0,N⟩ 1 1 C1.toArray 9 [y] underlying22 Tryz.size9 hg1 (by show 1=_;simp only[Nat.min_def];split<;>omega)
   (λj v hj=>by
     rw[Addr.add_lit,cH af,Nat.zero_add];simpa using hj) (by simp[ws,hcur];omega) Y2
  rw[←e2,show Nat.min 1 (n+1-i)=1 from qgg]at h;exact h
 rw[←hW1]at hcp1 ⊢;have bv:¬ ((i:Int)=(n:Int)):=qb;have hzr:¬ ((c:Int)<(n:Int)+1):=qb;have E8:IntKind.i64.wrap ((i:Int)+1)=(i:Int)+1:=qdy;have E7:IntKind.i64.wrap ((n:Int)+1)=(n:Int)+1:=qdy;have hbb1:(0:Int)≤(i:Int)+1:=qb;have l7:i≤n:=qb;have htn:((i:Int)+1).toNat=i+1:=qb;have htm:((n:Int)+1).toNat=n+1:=qb;have ag:¬ (c=i+1):=qb;have ba:(i:Int)≤(n:Int)+1:=qb;have co:¬ (c=i):=qb;clear hg hb hg1 af e1 e2 h1c Y2 ws zu hcur hW1;have mixed:prog.follows .mixedOrders=true:=qi;go_enter func191,ntmps191
 go_wp2_with (simp only[hov])
 go_region_law_o (refine step_copy_runI rfl _ _ 22 22 rfl _ _ qec qec (hcp1 _ _ _) ?_)
 go_wp2_with (at_builtin;refine wpList_copy_runI _ rfl _ _ 22 22 rfl _ _ rfl rfl (hcp2 _ _) ?_)
 go_ret;exact⟨rfl,rfl⟩
theorem Zd(g n c i vb:X)(cur:Array Z)(xs:L Z)(y:Z)(w:E)(hi:i<n)(hnc:n≤c)(I8:c<n+1)(hn:n≤1048576)(hg:w.heap[g]?=M (O cur 9 (0,0)))(hxs:cur.toList.take (n)=xs)(sd:xs.length=n)(hb:w.heap[vb]?=M (O #[y] 9 (0,0)))(h1c:∀v∈xs,v.oneCell'=true)(Y2:∀v∈[y],v.oneCell'=true):Calls prog 191 #[J (p_ g) n c,I i,J (p_ vb) 1 1] w λe w'=>∃(AH:X)(C:L Z),e=H (J (p_ w.heap.size) (n+1) AH)∧n+1≤AH∧AH≤maxLen∧C.length=AH∧C.take ((n+1))=xs.take (i)++[y]++xs.drop (i)∧w'.heap[w.heap.size]?=M (O C.toArray 9 (0,0))∧w'.heap.size=w.heap.size+1∧(∀b,b<w.heap.size→w'.heap[b]?=w.heap[b]?)∧w'.os=w.os∧w'.tape=w.tape∧w'.output=w.output:=by
 obtain⟨i0,ye,bq,hzs,hzb⟩:=info_parts Tryz.info9b;have jx:(n:Int)+1-(i:Int)=((n+1-i:X):Int):=qb;have hik:i+(n+1-i)=n+1:=qb
 have iz:∀j v,xs[j]?=M v→∀W:E,W.heap[g]?=w.heap[g]?→W.cell? ⟨g,j,N⟩=M v:=λj v hj W hW=>by
  rw[cH (w:=W) (hW.trans hg),←Array.getElem?_toList];rw[←hxs,List.getElem?_take]at hj
  split at hj
  ·exact hj
  ·cases hj
 have U1:(Builtin.firstCells i0.size i (J (p_ g) i c)).run prog w.drew=.ok (xs.take (i)).toArray w.drew:=by
  rw[hzs]
  exact run_firstCells_some w.drew 1 i ⟨g,0,N⟩ i c (xs.take (i)) (by rw[List.length_take];omega) (λj v hj=>by
   rw[Addr.add_lit,Nat.zero_add];rw[List.getElem?_take]at hj
   split at hj
   ·exact iz j v hj _ rfl
   ·cases hj)
 have hrz:∀ty,(Builtin.append_ #[22,3] ty #[J (p_ g) i c,I ((n:Int)+1-(i:Int))]).run prog w =
  .ok (J (p_ w.heap.size) (n+1) (grownCap w (n+1) c 9)) (w.drew.alloc (O ((xs.take (i)).toArray++Builtin.zeroCells ze.cells (n+1-i)++Builtin.zeroCells ze.cells (grownCap w (n+1) c 9-(n+1))) 9)):=λty=>by
  have h:=Lib.run_append_grow_zeros w 22 3 ty 9 i0 _ .i64 .i64 underlying22 underlying3 ye bq (p_ g) i c (xs.take (i)) U1 (n+1-i) qb qb qb qb (by rw[hzb];omega) (by rw[hzb,hik];exact growslice_fits I8 qb);rw[hik]at h;rw[jx];exact h
 obtain⟨AH,hG⟩:∃AH,AH=grownCap w (n+1) c 9:=⟨_,rfl⟩;have hGn:n+1≤AH:=by rw[hG];exact grownCap_ge w _ _ _
 have hGm:AH≤maxLen:=by rw[hG];exact grownCap_le_maxLen w (n+1) c 9 qm
 obtain⟨AE,hZ⟩:∃AE:L Z,AE=(Builtin.zeroCells ze.cells (n+1-i)).toList++(Builtin.zeroCells ze.cells (AH-(n+1))).toList:=⟨_,rfl⟩
 have hZl:AE.length=(AH-i):=by
  rw[hZ];simp[Builtin.zeroCells,Value.cells];omega
 obtain⟨R,hR⟩:∃R:L Z,R=xs.take (i)++AE:=⟨_,rfl⟩;have hRl:R.length=AH:=by rw[hR];simp[sd,hZl];omega
 have hROW:(xs.take (i)).toArray++Builtin.zeroCells ze.cells (n+1-i)++Builtin.zeroCells ze.cells (AH-(n+1))=R.toArray:=by
  apply Array.ext';rw[hR,hZ];simp
 rw[←hG,hROW]at hrz;obtain⟨C1,h1⟩:∃C1,C1=R.take (i)++[y]++R.drop (i+[y].length):=⟨_,rfl⟩;obtain⟨C2,h2⟩:∃C2,C2=C1.take ((i+1))++xs.drop (i)++C1.drop ((i+1)+(xs.drop (i)).length):=⟨_,rfl⟩;obtain⟨V7,M1⟩:=grow_take R xs [y] AE i n qb sd hR (by rw[hZl];omega) rfl C1 C2 h1 h2;have ws:C1.length=AH:=by rw[h1];simp[hRl];omega
 have zu:(xs.drop (i)).length=(n-i):=by rw[List.length_drop,sd]
 have hvb:vb<w.heap.size:=El hb;have o8:g<w.heap.size:=El hg;have hA:(w.alloc (O R.toArray 9)).heap[w.heap.size]?=M (O R.toArray 9 (0,0)):=Ch _ _
 have hcpA:∀(W:E),W.heap=(w.alloc (O R.toArray 9)).heap→∀ty dc,(Builtin.copy_ #[22,22] ty #[J (M ⟨w.heap.size,i,N⟩) (n+1-i) dc,J (p_ vb) 1 1]).run prog W=.ok (goInt 1) (W.setRow w.heap.size C1.toArray):=λW hW ty dc=>by
  have h:=Ij W 22 22 ty 9 w.heap.size (i) (n+1-i) dc ⟨vb,0,N⟩ 1 1 R.toArray 9 [y] underlying22 Tryz.size9 (by rw[hW];exact hA) (by show 1=_;simp only[Nat.min_def];split<;>omega)
   (λj v hj=>by
     rw[Addr.add_lit,cH (w:=W) (cs:=#[y]) (T:=9) (fr:=(0,0)) (by rw[hW,Lib.alloc_old _ _ _ hvb];exact hb),Nat.zero_add];simpa using hj) (by simp[hRl];omega) Y2
  rw[←h1,show Nat.min 1 (n+1-i)=1 from qgg]at h;exact h
 have hcpB:∀(W:E),W.heap=((w.alloc (O R.toArray 9)).setRow w.heap.size C1.toArray).heap→∀ty dc sc,(Builtin.copy_ #[22,22] ty #[J (M ⟨w.heap.size,(i+1),N⟩) (n-i) dc,J (M ⟨g,i,N⟩) (n-i) sc]).run prog W=.ok (goInt ((n-i:X):Int)) (W.setRow w.heap.size C2.toArray):=λW hW ty dc sc=>by
  have h:=Ij W 22 22 ty 9 w.heap.size ((i+1)) (n-i) dc ⟨g,i,N⟩ (n-i) sc C1.toArray 9 (xs.drop (i)) underlying22 Tryz.size9 (by rw[hW];exact setRow_heap _ _ _ _ _ _ hA) (by rw[zu];simp)
   (λj v hj=>by
     rw[Addr.add_lit];rw[List.getElem?_drop]at hj;exact iz _ v hj W (by rw[hW,setRow_other _ _ _ _ qb,Lib.alloc_old _ _ _ o8])) (by simp[ws,zu];omega) (one_drop h1c _)
  rw[←h2,show Nat.min (n-i) (n-i)=n-i from qg]at h;exact h
 have hcpA':=hcpA (w.alloc (O R.toArray 9)).drew rfl;have hcpB':=hcpB ((w.alloc (O R.toArray 9)).drew.setRow w.heap.size C1.toArray).drew rfl;clear hcpA hcpB
 have HX:Hd ((((w.alloc (O R.toArray 9)).drew.setRow w.heap.size C1.toArray).drew.setRow w.heap.size C2.toArray).heap[w.heap.size]?=M (O C2.toArray 9 (0,0))∧(((w.alloc (O R.toArray 9)).drew.setRow w.heap.size C1.toArray).drew.setRow w.heap.size C2.toArray).heap.size=w.heap.size+1∧∀b,b<w.heap.size→(((w.alloc (O R.toArray 9)).drew.setRow w.heap.size C1.toArray).drew.setRow w.heap.size C2.toArray).heap[b]?=w.heap[b]?):=by
  refine⟨setRow_heap _ _ _ _ _ _ (setRow_heap (w.alloc (O R.toArray 9)).drew _ _ C1.toArray _ _ hA),qg,λb As=>?_⟩;rw[setRow_other _ _ _ _ qb];show((w.alloc (O R.toArray 9)).drew.setRow w.heap.size C1.toArray).heap[b]?=_;rw[setRow_other _ _ _ _ qb];exact Lib.alloc_old _ _ _ As
 have HC2:Hd (C2.length=AH∧C2.take ((n+1))=xs.take (i)++[y]++xs.drop (i)):=⟨by rw[V7,hRl],M1⟩;have bv:¬ ((i:Int)=(n:Int)):=qb;have hz3:(c:Int)<(n:Int)+1:=qb;have hG63:AH≤9223372036854775807:=by unfold maxLen at hGm;omega
 have hGi:¬ (AH=i):=qb;have hGim:¬ (AH=i+1):=qb;have hci:¬ (c=i):=qb;have E8:IntKind.i64.wrap ((i:Int)+1)=(i:Int)+1:=qdy;have E7:IntKind.i64.wrap ((n:Int)+1)=(n:Int)+1:=qdy;have hbb1:(0:Int)≤(i:Int)+1:=qb;have l7:i≤n:=qb;have htn:((i:Int)+1).toNat=i+1:=qb;have ba:(i:Int)≤(n:Int):=qb;have mixed:prog.follows .mixedOrders=true:=qi;have HGM:Hd (AH≤maxLen):=hGm;clear jx hik U1 hROW hG hRl hGm ws V7 M1 h1 h2 hR hZ hZl hg hb hxs iz hA h1c Y2 zu;go_enter func191,ntmps191
 go_wp2_with (first
  | (at_builtin;refine Lib.wpList_append_run _ rfl _ _ _ _ rfl _ _ rfl rfl _ _ (hrz _) ?_)
  | (at_builtin;refine wpList_copy_runI _ rfl _ _ 22 22 rfl _ _ rfl rfl (hcpA' _ _) ?_))
 go_region_law_o (refine step_copy_runI rfl _ _ 22 22 rfl _ _ qec qec (hcpB' _ _ _) ?_)
 go_wp2;go_ret;exact⟨AH,C2,rfl,hGn,HGM.o,HC2.o.1,HC2.o.2,HX.o.1,HX.o.2.1,HX.o.2.2,rfl,rfl,rfl⟩
theorem insertX_end(B n vb:X)(v:Z)(xs:L Z)(y:Z)(w:E)(ho:w.ownsRow B 9 1 v n xs)(hB:B≤w.heap.size)(hn:n≤5000)(hb:w.heap[vb]?=M (O #[y] 9 (0,0)))(Y2:∀u∈[y],u.oneCell'=true):Calls prog 191 #[v,I n,J (p_ vb) 1 1] w λe w'=>∃g' cp,e=H (J (p_ g') (n+1) cp)∧w'.ownsRow B 9 1 (J (p_ g') (n+1) cp) (n+1) (xs++[y])∧Below B w w'∧Dc v.ownBlock w w'∧(v.ownBlock=M g'∨g'=w.heap.size):=by
 obtain⟨i0,hi,bq,bg,bv⟩:=info_parts Tryz.info9b;have HB:Hd (∀(g' cp:X)(w2:E),w2.ownsRow B 9 1 (J (p_ g') (n+1) cp) (n+1) (xs++[y])→w.grownBy w2 v.ownBlock→Below B w w2∧Dc v.ownBlock w w2):=λg' cp w2 k1 k2=>⟨(Below.refl _ _).grown k2 hB (λk hk=>(ho.lt k hk).1),λb hl hne=>k2.block b hl hne⟩;have HN:Hd (∀j u,[y][j]?=M u→w.cell? ((⟨vb,0,N⟩:Addr).add j)=M u):=World.news_of_block (cs:=#[y]) (t:=9) (fr:=(0,0)) hb;have HO:Hd (w.ownsRow B 9 1 v n xs):=ho
 rcases Dm ho with⟨rfl,rfl⟩|⟨g,c,rfl⟩
 ·clear hb ho
  exact qef
 ·have vu:n≤c∧c≤maxLen:=by
   rcases ho.2 with⟨h,_⟩|⟨g',c',cur,hv,_,_,h1,h2,_⟩
   ·cases h
   ·cases hv;exact⟨h1,h2⟩
  obtain⟨F9,hc2⟩:=vu;unfold maxLen at hc2;clear hb ho
  by_cases J4:c=n
  ·subst J4
   exact qef
  ·exact qef
theorem Rf(B n i vb:X)(v:Z)(xs:L Z)(y:Z)(w:E)(ho:w.ownsRow B 9 1 v n xs)(hB:B≤w.heap.size)(hi:i≤n)(hn:n≤5000)(hb:w.heap[vb]?=M (O #[y] 9 (0,0)))(hne:v.ownBlock≠M vb)(h1c:∀u∈xs,u.oneCell'=true)(Y2:∀u∈[y],u.oneCell'=true):Calls prog 191 #[v,I i,J (p_ vb) 1 1] w λe w'=>∃g' cp,e=H (J (p_ g') (n+1) cp)∧w'.ownsRow B 9 1 (J (p_ g') (n+1) cp) (n+1) (xs.take (i)++[y]++xs.drop (i))∧Below B w w'∧Dc v.ownBlock w w'∧(v.ownBlock=M g'∨g'=w.heap.size):=by
 have sd:xs.length=n:=zo ho.1
 rcases Nat.lt_or_ge i n with aj|Q4
 ·rcases ho.2 with⟨_,h0⟩|⟨g,c,cur,rfl,hg,hh,h1,h2,h3,h4⟩
  ·omega
  ·rw[Nat.mul_one]at h3 h4
   have hvb:vb≠g:=λe=>hne (by rw[e];rfl);have hgl:g<w.heap.size:=El hh
   rcases Nat.lt_or_ge c (n+1)with hr|hr
   ·refine(Zd g n c i vb cur xs y w aj h1 hr qb hh h4 sd hb h1c Y2).mono ?_
    rintro e w' ⟨AH,C,rfl,k1,k2,k3,k4,k5,k6,k7,k8,k9,S8⟩;refine⟨_,AH,rfl,⟨by simp[sd];omega,Or.inr ⟨w.heap.size,AH,C.toArray,rfl,hB,k5,k1,k2,by simpa using k3,by simpa using k4⟩⟩,⟨k8,k9,S8,qb,λb X1=>k7 b qb⟩,λb hl _=>k7 b hl,Or.inr rfl⟩
   ·refine(Vr g n c i vb cur y w aj hr h2 hh h3 hb hvb (by rw[h4];exact h1c) Y2 _ _ rfl rfl).mono ?_
    rintro e w' ⟨rfl,rfl⟩;rw[h4];obtain⟨l2,t2⟩:=shift_take cur.toList xs [y] i n hi h4 (by rw[Array.length_toList,h3];omega) rfl _ _ rfl rfl;refine⟨g,c,rfl,⟨by simp[sd];omega,Or.inr ⟨g,c,_,rfl,hg,setRow_heap _ _ _ _ _ _ (setRow_heap w.drew _ _ _ _ _ hh),hr,h2,?_,by simpa using t2⟩⟩,?_,?_,Or.inl rfl⟩
    ·rw[List.size_toArray,l2,Array.length_toList,Nat.mul_one];exact h3
    ·exact below_setRow (below_setRow (Below.refl _ _).drew hg _) hg _
    ·intro b hl hne'
     have hbg:b≠g:=λe=>hne' (by rw[e];rfl);rw[setRow_other _ _ _ _ hbg,setRow_other _ _ _ _ hbg];rfl
 ·obtain rfl:i=n:=qb
  refine(insertX_end B i vb v xs y w ho hB hn hb Y2).mono ?_;rintro e w' ⟨g',cp,rfl,k1,k2,k3,k4⟩;refine⟨g',cp,rfl,?_,k2,k3,k4⟩;rw[List.take_of_length_le qb,List.drop_of_length_le qb,List.append_nil];exact k1
end Go.Proofs.YtbkkjodaaijimaaGreatDoor
