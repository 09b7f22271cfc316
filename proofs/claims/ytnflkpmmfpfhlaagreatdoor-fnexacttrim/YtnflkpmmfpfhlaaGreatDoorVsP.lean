import Derived.Test.YtnflkpmmfpfhlaaGreatDoorTNPlainS
import Derived.Test.YtnflkpmmfpfhlaaGreatDoorTNStepJ
import Derived.Test.YtnflkpmmfpfhlaaGreatDoorVsB
namespace Go.Proofs.YtnflkpmmfpfhlaaGreatDoor
open Value renaming slice->J,string->S,bool->F,agg->G
open Option renaming some->M,none->N
open Obj renaming cells->O
open Go renaming Value->Z,World->E
open Ending renaming returned->H
open _root_ renaming List->L,Nat->X
set_option maxHeartbeats 8000000
set_option maxRecDepth 100000
open _root_.Go.Proofs.Tryz Go.RowKit Go.Deep
set_option linter.unusedVariables false
set_option linter.unusedSimpArgs false
variable {w W w' W':E} {B g cap b j off B' T i1 cp k kx lo hi lo' hi' P:X} {xs:L Z} {is:L I3} {v v0 v1 v2 v3 v4 v5 v6 sv x u0 u1 u2 y z t:Z} {ys:L R3} {pl st x0 x2 x3 x5:Int} {tt x6 x8:By} {s:St} {a ax:Option Addr} {ss ts:L By} {x4 x7 x9:Bool} {rs:L T3} {cv lv:X→Z}





theorem Dg{e sz n:X}(h:w.ownsRow B e sz (J (p_ g) n cap) n xs)(hb:b≠g)(v:Z):(w.setCell ⟨b,j,N⟩ v).ownsRow B e sz (J (p_ g) n cap) n xs:=by
 refine⟨h.1,?_⟩
 rcases h.2 with⟨h2,_⟩|⟨g',cap,cur,hv,hg,hh,r⟩
 ·cases h2
 ·exact qli
def insJ(is:L I3)(j:X):Z:=if j % 3=0 then I (ix is (j / 3)).op else if j % 3=1 then S (ix is (j / 3)).text else I (ix is (j / 3)).n
def Fd(is:L I3):L Z:=(List.range (is.length*3)).map (insJ is)
theorem Iy(is:L I3):(Fd is).length=is.length*3:=by simp[Fd]
theorem Qt(is:L I3)(j:X)(h:j<is.length*3):(Fd is)[j]?=M (insJ is j):=by
 unfold Fd
 rw[List.getElem?_map,List.getElem?_range h];rfl
theorem Iz(is:L I3):Cs is is.length (Fd is):=by
 intro i hi
 rw[Qt is _ qg,Qt is _ qg,Qt is _ qg]
 unfold insJ
 exact qjv
theorem Qs(is:L I3):∀u∈Fd is,u.oneCell'=true:=by
 intro u hu
 obtain⟨j,_,rfl⟩:=List.mem_map.mp hu
 unfold insJ
 split
 ·rfl
 ·split<;>rfl
theorem Od(h:Cn w (M ⟨b,off,N⟩) is):∀j u,(Fd is)[j]?=M u->w.cell? ((⟨b,off,N⟩:Addr).add j)=M u:=by
 intro j u hu
 rw[Addr.add_lit]
 have hj:j<is.length*3:=by
  rcases Nat.lt_or_ge j (is.length*3)with h|h
  ·exact h
  ·rw[List.getElem?_eq_none (by rw[Iy];exact h)]at hu;cases hu
 rw[Qt is j hj]at hu
 obtain rfl:=Option.some.inj hu
 obtain⟨b',bz,ha,c1,c2,c3⟩:=h (j / 3) qg
 cases ha
 unfold insJ
 split
 ·rename_i hm
  rw[show off+j=off+j / 3*3 from qg];exact c1
 ·split
  ·rename_i hm
   rw[show off+j=off+j / 3*3+1 from qg];exact c2
  ·rw[show off+j=off+j / 3*3+2 from qg];exact c3
theorem Tryz.info165b:(prog.info? 174).map (λi=>(i.zero,i.size,i.bytes))=M (M (G #[I 0,ze,I 0]),3,32):=qk



theorem Du{p:Addr}{o:Obj}(h:w.cell? p=M v):(w.alloc o).cell? p=M v:=qgp
theorem Fj{e e' sz sz' n n':X}{u:Z}{ys:L Z}(h:W.ownsRow B e sz v n xs)(hu:W.ownsRow B' e' sz' u n' ys)(hne:e≠e')(hg:W.grownBy w' u.ownBlock):w'.ownsRow B e sz v n xs:=
 An h λb eb=>hg.block b (h.lt b eb).2 (λe'=>Tc h hu hne b eb e'.symm)



def Dl(w:E)(b T:X):Prop:=∃cs,w.heap[b]?=M (O cs T (0,0))
theorem Dl.set{c:X}(h:Dl w b T)(u:Z):Dl (w.setCell ⟨c,j,N⟩ u) b T:=by
 obtain⟨cs,h⟩:=h
 by_cases e:b=c
 ·subst e;exact⟨_,by rw[jB h]⟩
 ·exact⟨cs,by rw[Dm w ⟨c,j,N⟩ u b e];exact h⟩
theorem Dl.ne{e sz n:X}(h:Dl w b T)(ho:w.ownsRow B e sz v n xs)(hne:T≠e):v.ownBlock≠M b:=by
 obtain⟨cs,h⟩:=h
 intro eb
 rcases ho.2 with⟨rfl,_⟩|⟨g,cap,cur,rfl,hg,hh,_⟩
 ·simp[Value.ownBlock]at eb
 ·simp only[Value.ownBlock,Option.some.injEq]at eb;rw[eb,h]at hh;simp at hh;exact hne hh.2
theorem Ak{e sz n:X}(ho:w.ownsRow B e sz v n xs)(h:Dl w b T)(hne:T≠e)(u:Z):(w.setCell ⟨b,j,N⟩ u).ownsRow B e sz v n xs:=
 An ho λc ec=>Dm w ⟨b,j,N⟩ u c (λe'=>h.ne ho hne (by rw[ec,e']))
structure TC where
 t:T2
 c:Z

def cx(l:L TC)(i:X):TC:=l.getD i ⟨⟨ByteArray.empty,[]⟩,nS⟩
section
variable {w w' W:E} {lo:X} {v1 v2 nv:Z} {l1:L S2} {l2:L TC}
end
theorem Bh{row:Option X}{o:Obj}(h:W.heap[b]?=M o)(hg:W.grownBy W' row)(hne:row≠M b):W'.heap[b]?=M o:=by rw[hg.block b (Fp h) (λe=>hne e.symm)];exact h
theorem Fo{c:X}{o:Obj}(h:W.heap[b]?=M o)(hne:b≠c)(u:Z):(W.setCell ⟨c,j,N⟩ u).heap[b]?=M o:=by rw[Dm W ⟨c,j,N⟩ u b hne];exact h
theorem Jh(h:w.heap[b]?=M (O #[v] T (0,0))):w.cell? ⟨b,0,N⟩=M v:=qao
section
variable {V V':E} {P lo:X} {v1 v2 nv:Z} {l1:L S2} {l2:L TC}
end
theorem Cb{o:Obj}{Q:E->Prop}(h:∀wN,Bw W wN->Hd (wN.heap[W.heap.size]?=M o)->Q wN):Q (W.alloc o):=h _ (aN _ _) (Cr _ _)
theorem Nh{e sz n:X}(h:w.ownsRow B e sz v n xs)(hne:v≠nS):∃g cp,v=J (p_ g) n cp:=by
 rcases h.2 with⟨q,_⟩|⟨g,cap,cur,q,_⟩
 ·exact absurd q hne
 ·exact⟨g,cap,q⟩
theorem Oh{v7 v8 v9:Z}{T:TypeId}(h:w.heap[b]?=M (O #[v0,v1,v2,v3,v4,v5,v6,v7,v8,v9] T (0,0))):w.cell? ⟨b,0,N⟩=M v0/\w.cell? ⟨b,1,N⟩=M v1/\w.cell? ⟨b,2,N⟩=M v2/\w.cell? ⟨b,3,N⟩=M v3/\w.cell? ⟨b,4,N⟩=M v4/\w.cell? ⟨b,5,N⟩=M v5/\w.cell? ⟨b,6,N⟩=M v6/\w.cell? ⟨b,7,N⟩=M v7/\w.cell? ⟨b,8,N⟩=M v8/\w.cell? ⟨b,9,N⟩=M v9:=by
 exact qni
abbrev rV(p:Int)(sv:Z)(s:Int)(l:X):Obj:=O #[I p,sv,I s,I l,F false,I 0,ze,F false,ze,F false] 216 (0,0)
structure Sd (w W:E) (i1:X) (pl:Int) (sv:Z) (st:Int) (lk:X) (o:X) (tt:By) (n:X):Prop where
 b:Bw w W
 r:W.heap[w.heap.size+1]?=M (rV pl sv st lk)
 z:W.heap[w.heap.size+1+1]?=M zR
 i:W.heap[i1]?=M (O #[I o,S tt,I n] 174 (0,0))
theorem Sd.bl{lk o:X}{n:X}(h:Sd w W i1 pl sv st lk o tt n)(hb:Bw W W'):Sd w W' i1 pl sv st lk o tt n:=⟨bN h.b hb,Pt hb h.r,Pt hb h.z,Pt hb h.i⟩
theorem Sd.at{lk o:X}{n:X}(h:Sd w W i1 pl sv st lk o tt n)(hne:i1≠w.heap.size+1)(p:Int):Sd w (W.setCell ⟨w.heap.size+1,0,N⟩ (I p)) i1 p sv st lk o tt n:=
 ⟨h.b.setCell (p:=⟨w.heap.size+1,0,N⟩) (Nat.le_succ _) _,by rw[jB h.r];rfl,by rw[Dm W ⟨w.heap.size+1,0,N⟩ _ _ qi];exact h.z,by rw[Dm W ⟨w.heap.size+1,0,N⟩ _ _ hne];exact h.i⟩
theorem Sd.grown{lk o:X}{n:X}{x:Obj}{m:X}(h:Sd w W i1 pl sv st lk o tt n)(ho:(W.alloc x).ownsRow B 9 1 v m xs)(hB:w.heap.size<=B)(hg:(W.alloc x).grownBy W' v.ownBlock):Sd w W' i1 pl sv st lk o tt n:=by
 have HM:∀(b':X)(cs':Array Z)(T':X),T'≠9->W.heap[b']?=M (O cs' T' (0,0))->M b'≠v.ownBlock:=λb' cs' T' N0 Io=>Hm N0 qbj ho
 have hs:=h.b.size
 exact⟨(h.b.alloc hs _).grown hg qj (λk hk=>Nat.le_trans hB (ho.lt k hk).1),Fu hg HM _ _ 216 qh h.r,Fu hg HM _ _ 216 qh h.z,Fu hg HM _ _ 174 qh h.i⟩
theorem Sd.c{lk o:X}{n:X}(h:Sd w W i1 pl sv st lk o tt n):W.cell? ⟨i1,0,N⟩=M (I o)/\W.cell? ⟨i1,1,N⟩=M (S tt)/\W.cell? ⟨i1,2,N⟩=M (I n):=by
 refine⟨?_,?_,?_⟩<;>rw[cH h.i]<;>rfl
theorem out_tk{o:X}(i8:1<=o)(ho:o<=11)(tt:By)(n:X)(x y:By):Dd o tt n (if 0<Aw o then x else ⟨#[]⟩) (if 1<Aw o then y else ⟨#[]⟩)=Dd o tt n x y:=by
 exact qfk
theorem next_tk{o:X}(i8:1<=o)(ho:o<=11)(n p:X)(x:By):Fs o n p (if 0<Aw o then x else ⟨#[]⟩)=Fs o n p x:=by
 exact qfk
theorem puts_pos{o:X}(ho:o<=11)(h:0<Mp o):o<=8:=by
 rcases(show o<=8\/o=9\/o=10\/o=11 from qg)with h|rfl|rfl|rfl
 ·exact h
 all_goals exact absurd h qh
theorem stB{w1:E}{o n:X}(ag:Below (((w.alloc (O #[J a is.length cap] 70)).alloc (rV s.pl sv s.steps s.looks)).alloc zR).heap.size (((w.alloc (O #[J a is.length cap] 70)).alloc (rV s.pl sv s.steps s.looks)).alloc zR) w1)(d8:Cn w a is)(d7:s.pl<is.length)(EI:Hd (ix is s.pl=⟨o,tt,n⟩)):∃(W1:E)(b off:X),w1.setCell ⟨w.heap.size+1,2,N⟩ (I ((s.steps:Int)+1))=W1/\a=M ⟨b,off,N⟩/\w1.heap[w.heap.size+1]?=M (rV s.pl sv s.steps s.looks)/\w1.cell? ⟨w.heap.size,0,N⟩=M (J a is.length cap)/\W1.heap.size=w1.heap.size/\W1.cell? ⟨b,off+s.pl*3,N⟩=M (I o)/\W1.cell? ⟨b,off+s.pl*3+1,N⟩=M (S tt)/\W1.cell? ⟨b,off+s.pl*3+2,N⟩=M (I n)/\W1.cell? ⟨w.heap.size,0,N⟩=M (J a is.length cap)/\W1.heap[w.heap.size+1]?=M (rV s.pl sv ((s.steps:Int)+1) s.looks)/\Bw w W1/\Sd w (W1.alloc (O #[I o,S tt,I n] 174)) w1.heap.size s.pl sv ((s.steps:Int)+1) s.looks o tt n:=by
 obtain⟨ak,hz,hr,hc⟩:=op3 w a is.length cap s.pl sv s.steps s.looks
 have bm:=bN ak ag
 have bi:=Pt ag hz
 have nj:=Pt ag hr
 have V5:=Pt ag hc
 obtain⟨W1,A1⟩:=Aj (w1.setCell ⟨w.heap.size+1,2,N⟩ (I ((s.steps:Int)+1)))
 have yw:Bw w W1:=by rw[<- A1];exact bm.setCell (p:=⟨w.heap.size+1,2,N⟩) (Nat.le_succ _) _
 have hzW:W1.heap[w.heap.size+1+1]?=M zR:=by rw[<- A1,Dm w1 ⟨w.heap.size+1,2,N⟩ _ _ qi];exact bi
 have hrW:W1.heap[w.heap.size+1]?=M (rV s.pl sv ((s.steps:Int)+1) s.looks):=by rw[<- A1,jB nj];rfl
 have hcW:W1.heap[w.heap.size]?=M (O #[J a is.length cap] 70 (0,0)):=by rw[<- A1,Dm w1 ⟨w.heap.size+1,2,N⟩ _ _ qi];exact V5
 have uu:W1.heap.size=w1.heap.size:=by rw[<- A1];simp[go_sem]
 obtain⟨b,off,rfl,e1,e2,e3⟩:=(d8.bl yw) s.pl d7
 rw[EI.o]at e1 e2 e3
 exact⟨W1,b,off,A1,rfl,nj,by rw[cH V5];rfl,uu,e1,e2,e3,by rw[cH hcW];rfl,hrW,yw,yw.alloc yw.size _,by rw[Lib.alloc_old _ _ _ (Ag hrW)];exact hrW,by rw[Lib.alloc_old _ _ _ (Ag hzW)];exact hzW,by rw[<- uu];exact Bf _ _⟩
theorem Rm(h:Sa B w a cp ss):(a=N/\cp=0/\ss=[])\/∃g,a=p_ g/\ss.length<=cp:=by
 rcases h.2 with⟨hv,h0⟩|⟨g,cap,cur,hv,_,_,hc,_⟩
 ·simp only[Value.slice.injEq]at hv;exact Or.inl ⟨hv.1,hv.2.2,List.length_eq_zero_iff.mp h0⟩
 ·simp only[Value.slice.injEq]at hv;exact Or.inr ⟨g,hv.1,qg⟩
theorem own_at(h:Sa B w (p_ g) cp ss)(i:X)(hi:i<ss.length):w.cell? ⟨g,i,N⟩=M (S (ss.getD i ByteArray.empty)):=by
 rw[World.ownsRow.cellAt h i qg]
 unfold Ar
 exact qma
theorem Sa.belowN(h:Sa B w a cp ss)(hb:Bw w w'):Sa B w' a cp ss:=Ad h hb
theorem step_in(a:Option Addr)(cap:X)(is:L I3)(s:St)(sa:Option Addr)(cp:X)(ra:Option Addr)(rcap:X)(ys:L R3)(w:E)(B0:X)(hv:Av is=true)(hs:Ek is s)(d8:Cn w a is)(d7:s.pl<is.length)(fx:s.steps≠2000)(ge:Sa B0 w sa cp s.stack)(o:X)(tt:By)(n:X)(ei:ix is s.pl=⟨o,tt,n⟩)(i8:1<=o)(ho:o<=15)(hn:n<=2000)(P5:ys.length<=200)(yn:Ry w ra ys):Calls prog 134 #[G #[J a is.length cap],Eb s.pl (J sa s.stack.length cp) s.steps s.looks,J ra ys.length rcap] w λe w'=>Bw w w'/\Ch w.heap.size is ys s w' e:=by
 have EI:=Ab ei
 clear ei
 have hplI:(s.pl:Int)<(is.length:Int):=qg
 have hst3:((s.steps:Int) == 2000)=false:=qj
 have dm:=Ef hv
 have E0:=hs.pl
 have cr:=hs.steps
 have E5:=hs.len
 obtain⟨q,eq⟩:=Aj (Fw s.pl)
 have EQ:=Ab eq
 have HD:Hd _:=dcH eq qg
 clear eq
 obtain⟨htk2,hpt2⟩:=tp_le o ho
 have HT0:=Ab (tkH i8 ho)
 have hOe:=λh=>out_tk i8 (h:o<=11) tt n (Cc s.stack) (Jp s.stack)
 have xh:=λh=>next_tk i8 (h:o<=11) n s.pl (Cc s.stack)
 have hPp:o<=11->0<Mp o->o<=8:=puts_pos
 have pe:=λ(h:o<=11) a b=>puts_len o i8 h tt n a b
 have hTm:∀ {l:L By},l.length<=50->¬ l.length<Aw o->50<l.length-Aw o+Mp o->o<=11:=Uq i8 ho
 have h1t:12<=o->Aw o=1:=λh=>by rcases(show o=12\/o=13\/o=14\/o=15 from qg)with rfl|rfl|rfl|rfl<;>rfl
 have hBad:=λ(hf:¬ s.stack.length<Aw o) (hm:50<s.stack.length-Aw o+Mp o)=>(Ia d7 fx EI.o).trans (Ib hf (Uq i8 ho hs.len hf hm) (Or.inl (by rw[puts_len o i8 (Uq i8 ho hs.len hf hm)];unfold Bq;rw[List.length_take];omega)))
 have hFew:=λ(hf:s.stack.length<Aw o)=>(Ia d7 fx EI.o).trans (Oa hf)
 obtain⟨tk,etk⟩:=Aj (Aw o)
 obtain⟨pt,ept⟩:=Aj (Mp o)
 rw[etk]at htk2 HT0 hOe xh h1t hBad hFew
 rw[ept]at hpt2 HT0 hPp hBad
 have HBD:Hd (s.stack.length<tk\/(¬ s.stack.length<tk/\50<s.stack.length-tk+pt)->Cq is s=.over 2 q (s.steps+1)):=λh=>by rw[<- EQ.o];exact h.elim hFew (λh=>hBad h.1 h.2)
 have ET:=Ab etk
 have H1T:=Ab h1t
 clear hBad hFew hTm etk h1t
 unfold Eb
 go_enter func134,ntmps134
 go_wp2_with fail
 refine(HD.o _).mono ?_
 rintro e w1 ⟨rfl,ag⟩
 obtain⟨W1,b,off,A1,rfl,nj,x0,uu,e1,e2,e3,xW,hrW,yw,HS⟩:=stB ag d8 d7 EI
 clear ag HD
 obtain⟨W2,eW2⟩:=Aj (W1.alloc (O #[I o,S tt,I n] 174))
 rw[eW2]at HS
 obtain⟨r0,r1,r2,r3,r4,r5,r6,r7,r8,r9⟩:=Oh nj
 obtain⟨y0,y1,y2,y3,y4,y5,y6,y7,y8,y9⟩:=Oh hrW
 have fr:=fZ nj
 obtain⟨b0,b1,b2,b3,b4,b5,b6,b7,b8,b9⟩:=Oh HS.r
 obtain⟨i0,i1,i2⟩:=HS.c
 have af:=HS.b
 have HSK:=Ab (ge.belowN af)
 have ct:=Ab HS
 have ve:w.heap.size<=w.heap.size+1+1:=qg
 clear HS hrW nj ge
 go_upto_region 9 with(first|(go_at_call 157;refine(HT0.o _).mono ?_;rintro e w9 ⟨rfl,rfl⟩))
 by_cases uk:s.stack.length<tk\/(¬ s.stack.length<tk/\50<s.stack.length-tk+pt)
 ·have di:=Ab (HBD.o uk)
  rcases uk with h|⟨h,h'⟩
  case inl=>
   have hfI:(s.stack.length:Int)<(tk:Int):=qg;clear h;exact qim
  case inr=>
   have hfI:(tk:Int)<=(s.stack.length:Int):=qg;have E4:50<(s.stack.length:Int)-(tk:Int)+(pt:Int):=qg;clear h h';exact qim
 obtain⟨m,em⟩:∃m,s.stack.length=m+tk:=⟨s.stack.length-tk,qg⟩
 have hmany:m+pt<=50:=qg
 obtain⟨A,eA⟩:=Aj ((if 0<tk then Cc s.stack else ⟨#[]⟩))
 obtain⟨Bv,eBv⟩:=Aj ((if 1<tk then Jp s.stack else ⟨#[]⟩))
 have hA:A.size<=2000:=by
  rw[<- eA];split
  ·exact top_le hs qg
  ·decide
 have hBv:Bv.size<=2000:=by
  rw[<- eBv];split
  ·exact sub_le hs qg
  ·decide
 rw[eA,eBv]at hOe
 rw[eA]at xh
 have HP:Hd (o<=11->0<pt->∀W:E,Calls prog 159 #[G #[I (o:Int),S tt,I n],S A,S Bv] W λe w'=>Bw W w'/\Mt w' e (Dd o tt n A Bv)):=λh h' W=>plain_any tt n A Bv W o hA hBv hn i8 (hPp h h')
 have hOl:=λh=>pe h A Bv
 obtain⟨outs,eO⟩:=Aj (Dd o tt n A Bv)
 obtain⟨np,eN⟩:=Aj (Fs o n s.pl A)
 rw[ept,eO]at hOl
 rw[eO]at hOe HP
 rw[eN]at xh
 have OL:=Ab hOl
 have NE:=Ab eN
 have NT:=Ab xh
 have hfI:(tk:Int)<=(s.stack.length:Int):=qg
 have E4:(s.stack.length:Int)-(tk:Int)+(pt:Int)<=50:=qg
 have EM:=Ab em
 have EA:=Ab eA
 have EBv:=Ab eBv
 have OE:=Ab hOe
 clear pe hPp eO hOl eN xh em eA eBv hOe ept uk HBD
 go_upto_if 68 with fail
 go_cut [11] (λx wx=>x=S A/\wx=W2)
 case first=>
  by_cases h0I:(0:Int)<(tk:Int)
  ·rcases Rm HSK.o with⟨_,_,h⟩|⟨d,rfl,hcp⟩
   ·have:=EM.o;rw[h]at this;simp at this;omega
   ·obtain⟨l,el⟩:∃l,s.stack.length=l+1:=⟨s.stack.length-1,qg⟩;have hk:=own_at HSK.o l qg;(have eT:Hd (s.stack.getD l ByteArray.empty=A):=by show _=_;rw[<- EA.o,if_pos qg];unfold Cc;rw[el,Nat.add_sub_cancel]);exact qle
  ·have hA0:(⟨#[]⟩:By)=A:=by rw[<- EA.o,if_neg qg]
   exact qlx
 case rest=>
 obtain⟨rfl,rfl⟩:=hcut
 go_upto_if 78 with fail
 go_cut [12] (λx wx=>x=S Bv/\wx=wc)
 case first=>
  by_cases h0I:(1:Int)<(tk:Int)
  ·rcases Rm HSK.o with⟨_,_,h⟩|⟨d,rfl,hcp⟩
   ·have:=EM.o;rw[h]at this;simp at this;omega
   ·obtain⟨l,el⟩:∃l,s.stack.length=l+1+1:=⟨s.stack.length-2,qg⟩;have hk:=own_at HSK.o l qg;(have eT:Hd (s.stack.getD l ByteArray.empty=Bv):=by show _=_;rw[<- EBv.o,if_pos qg];unfold Jp;rw[el];rfl);exact qle
  ·have hA0:(⟨#[]⟩:By)=Bv:=by rw[<- EBv.o,if_neg qg]
   exact qlx
 case rest=>
 obtain⟨rfl,rfl⟩:=hcut
 go_upto_region 17 with fail
 obtain⟨wk,rfl⟩:∃wk,wk=wc:=⟨_,rfl⟩
 obtain⟨k0,hi,bq,Le,K9⟩:=info_parts Tryz.info9b
 have Q1:=af.size
 have hz1s:=Ag ct.o.z
 rw[EM.o]at b1
 have hmtI:(m:Int)+(tk:Int)<=50:=zo EM.o
 have dw:(wk.alloc (O #[] 9)).ownsRow wk.heap.size 9 1 (J (p_ wk.heap.size) 0 0) 0 []:=World.ownsRow_lit (base:=wk.heap.size) (e:=9) (size:=1) wk #[] 0 (Nat.le_refl _) qq qi
 go_cut [13] (λx wx=>∃g c:X,x=J (p_ g) m c/\Hd (Sd w wx w1.heap.size s.pl (J sa s.stack.length cp) ((s.steps:Int)+1) s.looks o tt n)/\Hd (wx.ownsRow wk.heap.size 9 1 (J (p_ g) m c) m (Ar (s.stack.take m))))
 case first=>
  rcases Rm HSK.o with⟨rfl,rfl,h⟩|⟨d,rfl,hcp⟩
  ·have e0:s.stack.length=0:=by rw[h];rfl
   have hm0:m=0:=zo EM.o;have ht0:tk=0:=zo EM.o;subst hm0;subst ht0;have HW:=Ab dw;have HSd:=Ab (ct.o.bl ((Below.refl wk.heap.size wk).alloc (Nat.le_refl _) (O #[] 9)));have c1:∀x,(wk.alloc x).cell? ⟨w.heap.size+1,1,N⟩=M nS:=λx=>alK wk _ _ x b1;clear b1 h e0
   go_wp2_with (at_builtin;refine wpList_append_own_none rfl (.tmp 87) (.tmp 95) 22 rfl wk.heap.size 9 k0 1 underlying22 hi _ 0 [] rfl dw rfl ?_)
   go_meet
   case rel=>exact⟨_,_,rfl,HSd,HW⟩
  ·have c1:=λx=>alK wk _ _ x b1;have hcp2:m+tk<=cp:=by rw[<- EM.o];exact hcp
   have n7:∀j u,((s.stack.take m).map Value.string)[j]?=M u->(wk.alloc (O #[] 9)).cell? ((⟨d,0,N⟩:Addr).add j)=M u:=λj u hu=>by
    rw[List.getElem?_map]at hu;have hlm:=EM.o
    have hj:j<m:=by
     rcases Nat.lt_or_ge j m with h|h
     ·exact h
     ·rw[List.getElem?_eq_none qj]at hu;simp at hu
    have gu:=own_at HSK.o j qg;rw[Addr.add_lit,Nat.zero_add,World.cell?_alloc_lt _ _ _ (World.block_lt_of_cell? _ _ gu),gu,<- hu,List.getElem?_take,if_pos hj,gG,Hq (show j<s.stack.length from qg)];rfl
   have hlen2:((s.stack.take m).map Value.string).length=m*1:=by have:=EM.o;simp;omega
   have HN:=Ab n7;have HLN:=Ab hlen2;clear n7 hlen2 hcp
   go_wp2_with (at_builtin;refine wpList_append_own _ rfl (.tmp 87) (.tmp 95) 22 rfl wk.heap.size 9 k0 ze 1 16 underlying22 hi bq Le K9 rfl qh _ 0 [] rfl dw ⟨d,0,N⟩ m cp ((s.stack.take m).map .string) rfl HLN.o HN.o (by intro u hu;obtain⟨z,_,rfl⟩:=List.mem_map.mp hu;rfl) qq qg qi ?_;intro v' w2 aw ae dj;obtain⟨g,cpn,rfl,aq⟩:=own_out aw dj;have HSd:=Ab (ct.o.grown dw Q1 ae);have HW:=Ab aq;clear aw ae dj aq)
   go_meet
   case rel=>exact⟨_,_,rfl,HSd,HW⟩
 case rest=>
 obtain⟨g,c,rfl,HSd,HW⟩:=hcut
 clear b0 b1 b2 b3 b4 b5 b6 b7 b8 b9 i0 i1 i2 e1 e2 e3 r0 r1 r2 r3 r4 r5 r6 r7 r8 r9 y0 y1 y2 y3 y4 y5 y6 y7 y8 y9 x0 xW fr A1 d8 eW2 uu yw dw ct HSK
 have hne:w1.heap.size≠w.heap.size+1:=λh=>by have h1:=HSd.o.i;rw[h,HSd.o.r]at h1;cases h1
 have iq:=Ab (HSd.o.at hne ((s.pl:Int)+1))
 have C9:=Ab (Hb ⟨HW.o,_,HSd.o.r⟩ 0 (I ((s.pl:Int)+1))).1
 obtain⟨b0,b1,b2,b3,b4,b5,b6,b7,b8,b9⟩:=Oh HSd.o.r
 have fr:=fZ HSd.o.r
 obtain⟨W5,eW5⟩:=Aj (wc.setCell ⟨w.heap.size+1,0,N⟩ (I ((s.pl:Int)+1)))
 rw[eW5]at iq C9
 obtain⟨i0,i1,i2⟩:=iq.o.c
 have f5:=fZ iq.o.r
 obtain⟨v0,v1,v2,v3,v4,v5,v6,v7,v8,v9⟩:=Oh iq.o.r
 go_upto_block 0 with fail
 go_cut [13] (λx wx=>x=J (p_ g) m c/\o<=11/\Hd (Sd w wx w1.heap.size (np:Int) (J sa s.stack.length cp) ((s.steps:Int)+1) s.looks o tt n)/\Hd (wx.ownsRow wk.heap.size 9 1 (J (p_ g) m c) m (Ar (s.stack.take m))))
 case first=>
  have fl:=Ab (iq.o.at hne (n:Int));have ye:=Ab (Hb ⟨C9.o,_,iq.o.r⟩ 0 (I (n:Int))).1;have ht:∀k:X,o≠k->((o:Int) == (k:Int))=false:=λk h=>qj
  rcases(show o<=9\/o=10\/o=11\/o=12\/o=13\/o=14\/o=15 from qg)with h|h|h|h|h|h|h
  ·have vk:o<=11:=qg;have ht1:((o:Int) == 11)=false:=qj;have ht0:((o:Int) == 10)=false:=qj;have e:np=s.pl+1:=by rw[<- NE.o];unfold Fs;rw[if_neg qg,if_neg qg]
   have AF:=Ab e;clear e;exact qnh
  ·have vk:o<=11:=qg;have ht0:((o:Int) == 10)=true:=qj;have e:np=n:=by rw[<- NE.o];unfold Fs;rw[if_pos h]
   exact qfq
  ·have vk:o<=11:=qg;have ht1:((o:Int) == 11)=true:=qj;have ht0:((o:Int) == 10)=false:=qj
   cases hx1:A.toList.isEmpty with
   | true=>
    (have e:np=n:=by rw[<- NE.o];unfold Fs;rw[if_neg qg,if_pos ⟨h,by simp[Mg,hx1]⟩]);exact qfq
   | false=>
    cases hx2:A.toList == [48] with
    | true=>
     (have e:np=n:=by rw[<- NE.o];unfold Fs;rw[if_neg qg,if_pos ⟨h,by simp[Mg,hx1,hx2]⟩]);exact qfq
    | false=>
     (have e:np=s.pl+1:=by rw[<- NE.o];unfold Fs;rw[if_neg qg,if_neg (by simp[Mg,hx1,hx2])]);have AF:=Ab e;clear e h;exact qnh
  ·have ht5:=ht 15 qg;have ht2:((o:Int) == 12)=true:=qj;have e1:=H1T.o qg;have hmt:(s.stack.take m).length=m:=by have:=EM.o;rw[List.length_take];omega
   obtain⟨W7,eW7⟩:=Aj (W5.setCell ⟨w.heap.size+1,1,N⟩ (J (p_ g) m c));have hrW7:W7.heap[w.heap.size+1]?=M (rV ((s.pl:Int)+1) (J (p_ g) m c) ((s.steps:Int)+1) s.looks):=by rw[<- eW7,jB iq.o.r];rfl
   have xj:Bw w W7:=by rw[<- eW7];exact iq.o.b.setCell (p:=⟨w.heap.size+1,1,N⟩) (Nat.le_succ _) _
   have hz7:W7.heap[w.heap.size+1+1]?=M zR:=by rw[<- eW7,Dm _ ⟨w.heap.size+1,1,N⟩ _ _ qi];exact iq.o.z
   have hi7:W7.heap[w1.heap.size]?=M (O #[I o,S tt,I n] 174 (0,0)):=by rw[<- eW7,Dm _ ⟨w.heap.size+1,1,N⟩ _ _ hne];exact iq.o.i
   have my:Hd (Sd w W7 w1.heap.size ((s.pl:Int)+1) (J (p_ g) m c) ((s.steps:Int)+1) s.looks o tt n):=⟨xj,hrW7,hz7,hi7⟩;have ho7:=(Hb ⟨C9.o,_,iq.o.r⟩ 1 (J (p_ g) m c)).1;rw[eW7]at ho7;have d9:Sa wk.heap.size W7 (p_ g) c (s.stack.take m):=by unfold Sa;rw[hmt];exact ho7
   have hsz7:wk.heap.size<=W7.heap.size:=zo ((ho7.lt g rfl));have hl:=look_step12 wk.heap.size tt n is s (p_ g) c (s.stack.take m) A q ra rcap ys W7 hsz7 hs d7 qg fx (by rw[EI.o,h];rfl) (zo EM.o) (by unfold Bq;rw[EM.o,e1,Nat.add_sub_cancel]) (by rw[<- EA.o,if_pos qg]) EQ.o.symm P5 (yn.bl xj) d9 (zo EM.o);unfold Eb at hl;rw[hmt,show((12:Int))=(o:Int) from by rw[h];rfl]at hl;exact qif
  ·have ht5:=ht 15 qg;have ht3:((o:Int) == 13)=true:=qj;have e1:=H1T.o qg;have hmt:(s.stack.take m).length=m:=by have:=EM.o;rw[List.length_take];omega
   obtain⟨W7,eW7⟩:=Aj (W5.setCell ⟨w.heap.size+1,1,N⟩ (J (p_ g) m c));have hrW7:W7.heap[w.heap.size+1]?=M (rV ((s.pl:Int)+1) (J (p_ g) m c) ((s.steps:Int)+1) s.looks):=by rw[<- eW7,jB iq.o.r];rfl
   have xj:Bw w W7:=by rw[<- eW7];exact iq.o.b.setCell (p:=⟨w.heap.size+1,1,N⟩) (Nat.le_succ _) _
   have hz7:W7.heap[w.heap.size+1+1]?=M zR:=by rw[<- eW7,Dm _ ⟨w.heap.size+1,1,N⟩ _ _ qi];exact iq.o.z
   have hi7:W7.heap[w1.heap.size]?=M (O #[I o,S tt,I n] 174 (0,0)):=by rw[<- eW7,Dm _ ⟨w.heap.size+1,1,N⟩ _ _ hne];exact iq.o.i
   have my:Hd (Sd w W7 w1.heap.size ((s.pl:Int)+1) (J (p_ g) m c) ((s.steps:Int)+1) s.looks o tt n):=⟨xj,hrW7,hz7,hi7⟩;have ho7:=(Hb ⟨C9.o,_,iq.o.r⟩ 1 (J (p_ g) m c)).1;rw[eW7]at ho7;have d9:Sa wk.heap.size W7 (p_ g) c (s.stack.take m):=by unfold Sa;rw[hmt];exact ho7
   have hsz7:wk.heap.size<=W7.heap.size:=zo ((ho7.lt g rfl));have hl:=look_step13 wk.heap.size tt n is s (p_ g) c (s.stack.take m) A q ra rcap ys W7 hsz7 hs d7 qg fx (by rw[EI.o,h];rfl) (zo EM.o) (by unfold Bq;rw[EM.o,e1,Nat.add_sub_cancel]) (by rw[<- EA.o,if_pos qg]) EQ.o.symm P5 (yn.bl xj) d9 (zo EM.o);unfold Eb at hl;rw[hmt,show((13:Int))=(o:Int) from by rw[h];rfl]at hl;exact qif
  ·have ht5:=ht 15 qg;have ht4:((o:Int) == 14)=true:=qj;have e1:=H1T.o qg
   have di:Hd (Cq is s=.over 1 A (s.steps+1)):=by
    show _=_;rw[<- EA.o,if_pos qg];exact(Ia d7 fx EI.o).trans (Lp (by rw[ET.o];have:=EM.o;omega) h)
   clear e1 h;go_wp2_with fail;have hl:=Fi ((s.pl:Int)+1) sa s.stack.length cp ((s.steps:Int)+1) s.looks 1 A;unfold Eb at hl;refine(hl _).mono ?_;rintro e w4 ⟨rfl,bp⟩;have gq:=Ab (iq.o.bl bp);obtain⟨z0,z1,z2,z3,z4,z5,z6,z7,z8,z9⟩:=Oh gq.o.z;have fz:=fZ gq.o.z;clear hl bp;unfold Eg;go_wp2_with fail;exact bR (v:=Eg ((s.pl:Int)+1) (J sa s.stack.length cp) ((s.steps:Int)+1) s.looks 1 A) qbw rfl ⟨Sw gq.o.b ve,Or.inl ⟨1,A,s.steps+1,di.o,_,_,_,_,_,rfl⟩⟩
  ·have ht5:((o:Int) == 15)=true:=qj;have e1:=H1T.o qg
   have di:Hd (Cq is s=.over 0 A (s.steps+1)):=by
    show _=_;rw[<- EA.o,if_pos qg];exact(Ia d7 fx EI.o).trans (Oc (by rw[ET.o];have:=EM.o;omega) h)
   clear e1 h;go_wp2_with fail;have hl:=Fi ((s.pl:Int)+1) sa s.stack.length cp ((s.steps:Int)+1) s.looks 0 A;unfold Eb at hl;refine(hl _).mono ?_;rintro e w4 ⟨rfl,bp⟩;have gq:=Ab (iq.o.bl bp);obtain⟨z0,z1,z2,z3,z4,z5,z6,z7,z8,z9⟩:=Oh gq.o.z;have fz:=fZ gq.o.z;clear hl bp;unfold Eg;go_wp2_with fail;exact bR (v:=Eg ((s.pl:Int)+1) (J sa s.stack.length cp) ((s.steps:Int)+1) s.looks 0 A) qbw rfl ⟨Sw gq.o.b ve,Or.inl ⟨0,A,s.steps+1,di.o,_,_,_,_,_,rfl⟩⟩
 case rest=>
 obtain⟨rfl,vk,my,HW7⟩:=hcut
 replace OE:=Ab (OE.o vk)
 replace OL:=Ab (OL.o vk)
 replace NT:=Ab (NT.o vk)
 replace HP:=Ab (HP.o vk)
 clear b0 b1 b2 b3 b4 b5 b6 b7 b8 b9 i0 i1 i2 v0 v1 v2 v3 v4 v5 v6 v7 v8 v9 f5 fr eW5 iq C9 HSd HW
 obtain⟨wl,rfl⟩:∃wl,wl=wc:=⟨_,rfl⟩
 go_wp2_with fail
 go_loopw [13,14] (λx k wr=>∃(j g c:X),j<=pt/\k=I j/\x=J (p_ g) (m+j) c/\Hd (Sd w wr w1.heap.size (np:Int) (J sa s.stack.length cp) ((s.steps:Int)+1) s.looks o tt n)/\Hd (wr.ownsRow wk.heap.size 9 1 (J (p_ g) (m+j) c) (m+j) (Ar (s.stack.take m++outs.take j)))/\Hd (∀i,i<j->(outs.getD i ByteArray.empty).size<=2000)) (λ_ k _=>pt-(intOf k).toNat)
 case atStart=>exact⟨0,g,c,Nat.zero_le _,rfl,rfl,my,by rw[List.take_zero,List.append_nil];exact HW7,λi hi=>absurd hi (Nat.not_lt_zero _)⟩
 case round=>
  obtain⟨j,g',c',hj,rfl,rfl,HS,HW,HX⟩:=hrel;clear my HW7
  by_cases ai:(j:Int)<(pt:Int)
  ·obtain⟨i0,i1,i2⟩:=HS.o.c;go_wp2_with fail;refine(HP.o qg _).mono ?_;rintro e w3 ⟨au,g3,c3,rfl,hx⟩;have hxj:=hx j (by rw[OL.o];omega);rw[OL.o];obtain⟨x,ex⟩:=Aj (outs.getD j ByteArray.empty);rw[ex]at hxj;have EX:=Ab ex;have vg:=Ab (HS.o.bl au);have HW3:=Ab (Ad HW.o au);clear i0 i1 i2 hx au HS HW ex
   by_cases de:(x.size:Int)<=2000
   ·have hown6:=HW3.o.alloc (O #[S x] 9);have hw3:wk.heap.size<=w3.heap.size:=zo (HW3.o.lt g' rfl)
    go_wp2_with (at_builtin;refine wpList_append_own _ rfl (.tmp 158) (.tmp 163) 22 rfl wk.heap.size 9 k0 ze 1 16 underlying22 hi bq Le K9 rfl qh _ _ _ rfl hown6 ⟨w3.heap.size,0,N⟩ 1 1 [S x] rfl rfl ?_ qak qq qg qj ?_;(focus(have:=cell_one_new w3 (S x) 9;simpa using this));intro v6 w6 d9 hgrow6 hnil6;obtain⟨g6,c6,rfl,hown8⟩:=own_add d9;have fl:=Ab (vg.o.grown hown6 Q1 hgrow6);have ye:=Ab hown8;clear hnil6 d9 hgrow6 hown8)
    have hpI:(j:Int)+1<=2:=qg;go_roundw
    case rel=>
     refine⟨j+1,g6,c6,qg,qm,rfl,fl,?_,λi hi=>?_⟩
     ·(have hjl:j<outs.length:=by rw[OL.o];omega);rw[List.take_add_one,Hq hjl,<- List.append_assoc];(have e:outs[j]=x:=by rw[<- EX.o,gG,Hq hjl];rfl);rw[e];exact ye
     ·rcases Nat.lt_or_ge i j with h|h
      ·exact HX.o i h
      ·obtain rfl:i=j:=qg;rw[EX.o];omega
    case measure=>simp[intOf];omega
   ·have di:Hd (Cq is s=.over 2 q (s.steps+1)):=by
     (have hjl:j<outs.length:=by rw[OL.o];omega);(have e:outs[j]=x:=by rw[<- EX.o,gG,Hq hjl];rfl);show _=_;rw[<- EQ.o];exact(Ia d7 fx EI.o).trans (Ib (by rw[ET.o,EM.o];omega) vk (Or.inr ⟨x,by rw[<- OE.o,<- e];exact List.getElem_mem _,qg⟩))
    obtain⟨b0,b1,b2,b3,b4,b5,b6,b7,b8,b9⟩:=Oh vg.o.r;go_wp2_with fail;have hl:=Fi (np:Int) sa s.stack.length cp ((s.steps:Int)+1) s.looks 2 q;unfold Eb at hl;refine(hl _).mono ?_;rintro e w4 ⟨rfl,bp⟩;have gq:=Ab (vg.o.bl bp);obtain⟨z0,z1,z2,z3,z4,z5,z6,z7,z8,z9⟩:=Oh gq.o.z;have fz:=fZ gq.o.z;clear hl bp vg HW3 b0 b1 b2 b3 b4 b5 b6 b7 b8 b9;unfold Eg;go_wp2_with fail;exact bR (v:=Eg np (J sa s.stack.length cp) ((s.steps:Int)+1) s.looks 2 q) qbw rfl ⟨Sw gq.o.b ve,Or.inl ⟨2,q,s.steps+1,di.o,_,_,_,_,_,rfl⟩⟩
  ·obtain rfl:j=pt:=qg
   have HSTEP:Hd (Cq is s=.go ⟨np,s.stack.take m++outs,s.steps+1,s.looks⟩):=step_go d7 fx EI.o vk (by rw[ET.o];exact EM.o) (outs:=outs) OE.o.symm (by rw[OL.o];exact hmany) (λx hx=>by
    obtain⟨i,hi,rfl⟩:=List.getElem_of_mem hx;have:=HX.o i (by rw[<- OL.o];exact hi);rw[gG,Hq hi]at this;exact this) NT.o.symm
   have Of:Hd (wr.ownsRow wk.heap.size 9 1 (J (p_ g') (m+j) c') (m+j) (Ar (s.stack.take m++outs))):=by
    have h:=HW.o;rw[List.take_of_length_le (Nat.le_of_eq OL.o)]at h;exact h
   obtain⟨b0,b1,b2,b3,b4,b5,b6,b7,b8,b9⟩:=Oh HS.o.r;have fp:=fZ HS.o.r;obtain⟨z0,z1,z2,z3,z4,z5,z6,z7,z8,z9⟩:=Oh HS.o.z;have fz:=fZ HS.o.z;clear HW;go_wp2_with fail;exact bR (v:=Eb (np:Int) (J (p_ g') (m+j) c') ((s.steps:Int)+1) s.looks) (by simp[results,results134,go_sem,Eb,z0,z1,z2,z3,z4,z5,z6,z7,z8,z9]) rfl ⟨Sw ((HS.o.b.setCell (p:=⟨w.heap.size+1,1,N⟩) (Nat.le_succ _) _)) ve,(Vf (go_post HSTEP.o (by have:=OL.o;have:=EM.o;simp;omega) rfl (Hb ⟨Of.o,_,HS.o.r⟩ 1 _).1) ⟨_,by rw[Dm _ ⟨w.heap.size+1,1,N⟩ _ _ qi];exact HS.o.z⟩ _ _ _ _ _ _ _ _ _ _).mono Q1⟩
theorem l2Step_any(a:Option Addr)(cap:X)(is:L I3)(s:St)(sa:Option Addr)(cp:X)(ra:Option Addr)(rcap:X)(ys:L R3)(w:E)(B0:X)(hv:Av is=true)(hs:Ek is s)(d8:Cn w a is)(ge:Sa B0 w sa cp s.stack)(P5:ys.length<=200)(hr:Ry w ra ys):Calls prog 134 #[G #[J a is.length cap],Eb s.pl (J sa s.stack.length cp) s.steps s.looks,J ra ys.length rcap] w λe w'=>Bw w w'/\Ch w.heap.size is ys s w' e:=by
 by_cases d7:s.pl<is.length
 ·by_cases fx:s.steps=2000
  ·exact step_spent a cap is s sa cp ra rcap ys w hv hs d7 fx
  ·obtain⟨o,tt,n,ei,i8,ky,ht,hn,hn2⟩:=Lo hv d7;exact step_in a cap is s sa cp ra rcap ys w B0 hv hs d8 d7 fx ge o tt n ei i8 ky hn P5 hr
 ·exact step_beyond a cap is s sa cp ra rcap ys w hv hs d7
theorem reps_size(h:Pj ys=true)(hk:k<ys.length):(rx ys k).text.size<=2000:=by
 simp only[Pj,Bool.and_eq_true,decide_eq_true_eq]at h
 have:=h.2 k hk
 simp only[Ll,Bool.and_eq_true,decide_eq_true_eq]at this
 omega
def He(is:L I3)(ys:L R3)(B:X)(w:E)(kx:X)(x0:Int)(ax:Option Addr)(nx cx:X)(x2 x3:Int)(x4:Bool)(x5:Int)(x6:By)(x7:Bool)(x8:By)(x9:Bool):Prop:=
 (∃s,Ek is s/\(∀r,Ck is ys s r->Ck is ys Mx r)/\Sa B w ax cx s.stack/\2002-s.steps<=kx/\x0=s.pl/\nx=s.stack.length/\x2=s.steps/\x3=s.looks/\x4=false/\x5=0/\x6=⟨#[]⟩/\x7=false/\x8=⟨#[]⟩/\x9=false)∨
 (∃n:X,Ck is ys Mx (.over x5 x6 n)/\x2=n/\x4=true/\x9=false)∨
 (∃n:X,Ck is ys Mx (.wait x7 x8 n)/\x2=n/\x4=false/\x9=true)
theorem step0_steps{s':St}(hv:Av is=true)(hs:Ek is s)(h:Cq is s=.go s'):s'.steps=s.steps+1:=by
 by_cases hp:s.pl<is.length
 ·by_cases h2:s.steps=2000
  ·rw[Jz hp h2]at h;cases h
  ·obtain⟨o,t,n,e,h3,h4,h5,h6,h7⟩:=Lo hv hp;rw[Ia hp h2 e]at h
   by_cases hf:s.stack.length<Aw o
   ·rw[Oa hf]at h;cases h
   ·rcases(show o<=11\/(o=12\/o=13)\/o=14\/o=15 from qg)with ho|ho|ho|ho
    ·by_cases hb:Um o t n s.stack
     ·rw[Ib hf ho hb]at h;cases h
     ·rw[Rq hf ho hb]at h;cases h;rfl
    ·exact qkc
    ·rw[Lp hf ho]at h;cases h
    ·rw[Oc hf ho]at h;cases h
 ·rw[Lk hp]at h;cases h
theorem stand_step{e:Ending}(hv:Av is=true)(hs:Ek is s)(hrep:Pj ys=true)(hF:∀r,Ck is ys s r->Ck is ys Mx r)(h:Ch B is ys s w' e):∃x0 ax nx cx x2 x3 x4 x5 x6 x7 x8 x9,e=H (r10 x0 ax nx cx x2 x3 x4 x5 x6 x7 x8 x9)/\He is ys B w' (2001-s.steps) x0 ax nx cx x2 x3 x4 x5 x6 x7 x8 x9:=by
 have hl:=Ef hv
 rcases h with⟨c,t,n,h,pl,va,vn,vc,lk,rfl⟩|⟨s',h,a',px,rfl,ho⟩|⟨ask,nm,s',h,hy,pl,va,vn,vc,lk,rfl⟩|⟨ask,nm,s',s'',h,hy,ha,a',px,rfl,ho⟩|⟨ask,nm,s',c,t,n,h,hy,ha,pl,va,vn,vc,lk,rfl⟩
 ·exact⟨_,_,_,_,_,_,_,_,_,_,_,_,rfl,Or.inr (Or.inl ⟨n,hF _ (.over h),rfl,rfl,rfl⟩)⟩
 ·have h1:=Qc hv hs h;have h2:=step0_steps hv hs h;exact⟨_,_,_,_,_,_,_,_,_,_,_,_,rfl,Or.inl ⟨s',h1.1,λr hr=>hF r (.go h hr),ho,qg,rfl,rfl,rfl,rfl,rfl,rfl,rfl,rfl,rfl,rfl⟩⟩
 ·exact⟨_,_,_,_,_,_,_,_,_,_,_,_,rfl,Or.inr (Or.inr ⟨s'.steps,hF _ (.wait h hy),rfl,rfl,rfl⟩)⟩
 ·obtain⟨q1,q2,q3,q4,q5,q6,q7,q8⟩:=Hz h
  have fx:s.steps≠2000:=by
   intro h2;rw[Jz q5 h2]at h;cases h
  have L5:Ek is s':=by
   have h1:=Uh hs fx q4
   have e:s'=⟨s.pl,Bq s.stack 1,s.steps+1,s.looks+1⟩:=by
    cases s'
    simp only[St.mk.injEq];exact⟨q2,q7,q3,q1⟩
   rw[e];exact h1
  have xk:s'.stack.length<50:=by rw[q7,Bi];have:=hs.len;omega
  have hso:Ek is s''/\s''.steps=s'.steps:=by
   unfold Fe at ha
   split at ha
   ·cases ha;exact⟨Lh L5 hl.2 qg xk qcy,rfl⟩
   ·split at ha
    ·cases ha
    ·split at ha
     ·cases ha
     ·cases ha;exact⟨Lh L5 hl.2 qg xk (reps_size hrep hy),rfl⟩
  exact⟨_,_,_,_,_,_,_,_,_,_,_,_,rfl,Or.inl ⟨s'',hso.1,λr hr=>hF r (.ans h hy ha hr),ho,qg,rfl,rfl,rfl,rfl,rfl,rfl,rfl,rfl,rfl,rfl⟩⟩
 ·exact⟨_,_,_,_,_,_,_,_,_,_,_,_,rfl,Or.inr (Or.inl ⟨n,hF _ (.end h hy ha),rfl,rfl,rfl⟩)⟩
theorem He.set{nx cx:X}(h:He is ys B w kx x0 ax nx cx x2 x3 x4 x5 x6 x7 x8 x9/\∃cs,w.heap[b]?=M (O cs 216 (0,0)))(j:X)(x:Z):He is ys B (w.setCell ⟨b,j,N⟩ x) kx x0 ax nx cx x2 x3 x4 x5 x6 x7 x8 x9/\∃cs,(w.setCell ⟨b,j,N⟩ x).heap[b]?=M (O cs 216 (0,0)):=by
 obtain⟨h,hc⟩:=h
 refine⟨?_,by obtain⟨cs,hb⟩:=hc;exact⟨_,jB hb x⟩⟩
 rcases h with⟨s,h1,h2,h3,h4⟩|h
 ·exact Or.inl ⟨s,h1,h2,(Hb ⟨h3,hc⟩ j x).1,h4⟩
 ·exact Or.inr h
theorem He.mono{nx cx:X}(h:He is ys B w kx x0 ax nx cx x2 x3 x4 x5 x6 x7 x8 x9)(hB:B'<=B):He is ys B' w kx x0 ax nx cx x2 x3 x4 x5 x6 x7 x8 x9:=by
 rcases h with⟨s,h1,h2,h3,h4⟩|h
 ·exact Or.inl ⟨s,h1,h2,h3.mono hB,h4⟩
 ·exact Or.inr h
theorem stand_set10{nx cx:X}(h:He is ys B w kx x0 ax nx cx x2 x3 x4 x5 x6 x7 x8 x9)(hc:∃cs,w.heap[b]?=M (O cs 216 (0,0)))(v0 v1 v2 v3 v4 v5 v6 v7 v8 v9:Z):He is ys B ((((((((((w.setCell ⟨b,0,N⟩ v0).setCell ⟨b,1,N⟩ v1).setCell ⟨b,2,N⟩ v2).setCell ⟨b,3,N⟩ v3).setCell ⟨b,4,N⟩ v4).setCell ⟨b,5,N⟩ v5).setCell ⟨b,6,N⟩ v6).setCell ⟨b,7,N⟩ v7).setCell ⟨b,8,N⟩ v8).setCell ⟨b,9,N⟩ v9) kx x0 ax nx cx x2 x3 x4 x5 x6 x7 x8 x9:=(He.set (He.set (He.set (He.set (He.set (He.set (He.set (He.set (He.set (He.set ⟨h,hc⟩ 0 v0) 1 v1) 2 v2) 3 v3) 4 v4) 5 v5) 6 v6) 7 v7) 8 v8) 9 v9).1
theorem block_set10{u3 u4 u5 u6 u7 u8 u9:Z}(h:w.heap[b]?=M (O #[u0,u1,u2,u3,u4,u5,u6,u7,u8,u9] 216 (0,0)))(v0 v1 v2 v3 v4 v5 v6 v7 v8 v9:Z):((((((((((w.setCell ⟨b,0,N⟩ v0).setCell ⟨b,1,N⟩ v1).setCell ⟨b,2,N⟩ v2).setCell ⟨b,3,N⟩ v3).setCell ⟨b,4,N⟩ v4).setCell ⟨b,5,N⟩ v5).setCell ⟨b,6,N⟩ v6).setCell ⟨b,7,N⟩ v7).setCell ⟨b,8,N⟩ v8).setCell ⟨b,9,N⟩ v9).heap[b]?=M (O #[v0,v1,v2,v3,v4,v5,v6,v7,v8,v9] 216 (0,0)):=by
 have h0:(w.setCell ⟨b,0,N⟩ v0).heap[b]?=M (O #[v0,u1,u2,u3,u4,u5,u6,u7,u8,u9] 216 (0,0)):=by rw[jB h];rfl
 have h1:((w.setCell ⟨b,0,N⟩ v0).setCell ⟨b,1,N⟩ v1).heap[b]?=M (O #[v0,v1,u2,u3,u4,u5,u6,u7,u8,u9] 216 (0,0)):=by rw[jB h0];rfl
 have h2:(((w.setCell ⟨b,0,N⟩ v0).setCell ⟨b,1,N⟩ v1).setCell ⟨b,2,N⟩ v2).heap[b]?=M (O #[v0,v1,v2,u3,u4,u5,u6,u7,u8,u9] 216 (0,0)):=by rw[jB h1];rfl
 have h3:((((w.setCell ⟨b,0,N⟩ v0).setCell ⟨b,1,N⟩ v1).setCell ⟨b,2,N⟩ v2).setCell ⟨b,3,N⟩ v3).heap[b]?=M (O #[v0,v1,v2,v3,u4,u5,u6,u7,u8,u9] 216 (0,0)):=by rw[jB h2];rfl
 have h4:(((((w.setCell ⟨b,0,N⟩ v0).setCell ⟨b,1,N⟩ v1).setCell ⟨b,2,N⟩ v2).setCell ⟨b,3,N⟩ v3).setCell ⟨b,4,N⟩ v4).heap[b]?=M (O #[v0,v1,v2,v3,v4,u5,u6,u7,u8,u9] 216 (0,0)):=by rw[jB h3];rfl
 have h5:((((((w.setCell ⟨b,0,N⟩ v0).setCell ⟨b,1,N⟩ v1).setCell ⟨b,2,N⟩ v2).setCell ⟨b,3,N⟩ v3).setCell ⟨b,4,N⟩ v4).setCell ⟨b,5,N⟩ v5).heap[b]?=M (O #[v0,v1,v2,v3,v4,v5,u6,u7,u8,u9] 216 (0,0)):=by rw[jB h4];rfl
 have h6:(((((((w.setCell ⟨b,0,N⟩ v0).setCell ⟨b,1,N⟩ v1).setCell ⟨b,2,N⟩ v2).setCell ⟨b,3,N⟩ v3).setCell ⟨b,4,N⟩ v4).setCell ⟨b,5,N⟩ v5).setCell ⟨b,6,N⟩ v6).heap[b]?=M (O #[v0,v1,v2,v3,v4,v5,v6,u7,u8,u9] 216 (0,0)):=by rw[jB h5];rfl
 have h7:((((((((w.setCell ⟨b,0,N⟩ v0).setCell ⟨b,1,N⟩ v1).setCell ⟨b,2,N⟩ v2).setCell ⟨b,3,N⟩ v3).setCell ⟨b,4,N⟩ v4).setCell ⟨b,5,N⟩ v5).setCell ⟨b,6,N⟩ v6).setCell ⟨b,7,N⟩ v7).heap[b]?=M (O #[v0,v1,v2,v3,v4,v5,v6,v7,u8,u9] 216 (0,0)):=by rw[jB h6];rfl
 have h8:(((((((((w.setCell ⟨b,0,N⟩ v0).setCell ⟨b,1,N⟩ v1).setCell ⟨b,2,N⟩ v2).setCell ⟨b,3,N⟩ v3).setCell ⟨b,4,N⟩ v4).setCell ⟨b,5,N⟩ v5).setCell ⟨b,6,N⟩ v6).setCell ⟨b,7,N⟩ v7).setCell ⟨b,8,N⟩ v8).heap[b]?=M (O #[v0,v1,v2,v3,v4,v5,v6,v7,v8,u9] 216 (0,0)):=by rw[jB h7];rfl
 have h9:((((((((((w.setCell ⟨b,0,N⟩ v0).setCell ⟨b,1,N⟩ v1).setCell ⟨b,2,N⟩ v2).setCell ⟨b,3,N⟩ v3).setCell ⟨b,4,N⟩ v4).setCell ⟨b,5,N⟩ v5).setCell ⟨b,6,N⟩ v6).setCell ⟨b,7,N⟩ v7).setCell ⟨b,8,N⟩ v8).setCell ⟨b,9,N⟩ v9).heap[b]?=M (O #[v0,v1,v2,v3,v4,v5,v6,v7,v8,v9] 216 (0,0)):=by rw[jB h8];rfl
 exact h9
theorem Qae(a ra:Option Addr)(cap rcap:X)(is:L I3)(ys:L R3)(w:E)(hc:Cn w a is)(hr:Ry w ra ys)(hl:is.length<=1048576)(hs:∀i,(ix is i).text.size<=9223372036854775807)(ir:∀i,(rx ys i).text.size<=9223372036854775807)(hv1:Av is=true)(hv2:Pj ys=true):Calls prog 110 #[G #[J a is.length cap],J ra ys.length rcap] w λe w'=>Bw w w'/\∃r,Ck is ys Mx r/\e=H (resT r):=by
 have ak:Bw w ((w.alloc (O #[J a is.length cap] 70)).alloc (O #[F false,I 0,ze,F false,ze,I 0] 187)):=(aN _ _).alloc qi _
 have hk:((w.alloc (O #[J a is.length cap] 70)).alloc (O #[F false,I 0,ze,F false,ze,I 0] 187)).heap[w.heap.size+1]?=M (O #[F false,I 0,ze,F false,ze,I 0] 187 (0,0)):=by
  exact qjk
 have M7:((w.alloc (O #[J a is.length cap] 70)).alloc (O #[F false,I 0,ze,F false,ze,I 0] 187)).cell? ⟨w.heap.size,0,N⟩=M (J a is.length cap):=qo
 have hv2':=hv2
 simp only[Pj,Bool.and_eq_true,decide_eq_true_eq]at hv2'
 have dm:=hv2'.1
 have HV1:=Ab hv1
 have HV2:=Ab hv2
 have ke:=Ab hv2'.2
 have HC:=Ab hc
 have HR:=Ab hr
 clear hv2' hv2
 go_enter func110,ntmps110
 go_wp2_with fail
 refine(Ik a cap is _ (HC.o.bl ak) hl hs).mono ?_
 rintro e w1 ⟨ag,rfl⟩
 have bm:=bN ak ag
 have cu:=Pt ag hk
 have hbx1:=Aa ag M7
 rw[hv1]
 clear ak ag hk M7 hv1 hc hr
 have d2:decide ((200:Int)<(ys.length:Int))=false:=qj
 have fb:=Ab cu
 have d6:=Ab bm
 have HX1:=Ab hbx1
 have hR1:=Ag cu
 clear cu bm hbx1
 go_wp2_with fail
 go_loopw [5] (λi wr=>∃k:X,k<=ys.length/\i=I k/\w1=wr) (λi _=>ys.length-(intOf i).toNat)
 case atStart=>exact⟨0,Nat.zero_le _,rfl,rfl⟩
 case round=>
  obtain⟨k,hk,rfl,rfl⟩:=hrel
  by_cases ai:k<ys.length
  ·obtain⟨b,off,rfl,c1,c2,c3⟩:=(HR.o.bl d6.o) k ai;have ge:=ir k;have fw:=ke.o k ai;clear ir HR ke;generalize rx ys k=r at *;have d1:decide ((2000:Int)<(r.text.size:Int))=false:=qgo;have d3:decide (r.code<0)=false:=qgo;have d4:decide (7<r.code)=false:=qgo;clear fw;go_wp2_with fail;go_roundw
   case rel=>exact⟨k+1,qg,qm,trivial⟩
   case measure=>simp[intOf];omega
  ·have fs:¬ (k:Int)<(ys.length:Int):=qg;go_wp2_with fail
   go_loopg [] 2002 (λkx wr=>∃(x0:Int)(ax:Option Addr)(nx cx:X)(x2 x3:Int)(x4:Bool)(x5:Int)(x6:By)(x7:Bool)(x8:By)(x9:Bool),Hd (wr.heap[w1.heap.size]?=M (O #[I x0,J ax nx cx,I x2,I x3,F x4,I x5,S x6,F x7,S x8,F x9] 216 (0,0)))/\Hd (He is ys w1.heap.size wr kx x0 ax nx cx x2 x3 x4 x5 x6 x7 x8 x9)/\Hd (Bw w1 wr))
   case atStart=>exact⟨0,N,0,0,0,0,false,0,⟨#[]⟩,false,⟨#[]⟩,false,Bf _ _,Or.inl ⟨Mx,Uz is,λr h=>h,⟨rfl,Or.inl ⟨rfl,rfl⟩⟩,qbo,rfl,rfl,rfl,rfl,rfl,rfl,rfl,rfl,rfl,rfl⟩,aN _ _⟩
   case round=>
    obtain⟨x0,ax,nx,cx,x2,x3,x4,x5,x6,x7,x8,x9,lm,di,rh⟩:=hrel;(have hxw:wr.cell? ⟨w.heap.size,0,N⟩=M (J a is.length cap):=by rw[rh.o.cell (p:=⟨w.heap.size,0,N⟩) qj];exact HX1.o);(have hkw:wr.heap[w.heap.size+1]?=M (O #[F false,I 0,ze,F false,ze,I 0] 187 (0,0)):=by rw[rh.o.block _ hR1];exact fb.o);have gh:Bw w wr:=d6.o.trans (rh.o.mono qg);have H9:=lm.o
    rcases di.o with⟨s,h1,h2,h3,h4,rfl,rfl,rfl,rfl,rfl,rfl,rfl,rfl,rfl,rfl⟩|⟨n,h1,rfl,rfl,rfl⟩|⟨n,h1,rfl,rfl,rfl⟩
    ·have HS:Hd (Ek is s):=h1;have HF:=Ab h2;have Of:=Ab h3;have cr:=h1.steps;have hlr:=Ag H9;obtain⟨p0,p1,p2,p3,p4,p5,p6,p7,p8,p9⟩:=Et H9;have fp:=fZ H9;clear h1 h2 h3 H9 di;go_wp2_with fail;have hl3:=l2Step_any a cap is s ax cx ra rcap ys wr w1.heap.size HV1.o HS.o (HC.o.bl gh) Of.o dm (HR.o.bl gh);unfold Eb at hl3;refine hl3.mono ?_;rintro e w3 ⟨au,gv⟩;obtain⟨y0,ay,ny,cy,y2,y3,y4,y5,y6,y7,y8,y9,rfl,Q2⟩:=stand_step HV1.o HS.o HV2.o HF.o gv;(have xv:w3.heap[w1.heap.size]?=M (O #[I s.pl,J ax s.stack.length cx,I s.steps,I s.looks,F false,I 0,ze,F false,ze,F false] 216 (0,0)):=by rw[au.block _ hlr];exact lm.o);have HSD:=Ab Q2;have iy:=Ab xv;have jj:Bw w1 w3:=rh.o.trans (au.mono qg);clear p0 p1 p2 p3 p4 p5 p6 p7 p8 p9 fp;obtain⟨p0,p1,p2,p3,p4,p5,p6,p7,p8,p9⟩:=Et xv;have fp:=fZ xv;clear xv Q2 gv hl3 au;unfold r10;go_wp2_with fail
     go_roundg (2001-s.steps)
     case rel=>exact⟨y0,ay,ny,cy,y2,y3,y4,y5,y6,y7,y8,y9,block_set10 iy.o _ _ _ _ _ _ _ _ _ _,(stand_set10 HSD.o ⟨_,iy.o⟩ _ _ _ _ _ _ _ _ _ _).mono qg,((((((((((jj).setCell (p:=⟨w1.heap.size,0,N⟩) (Nat.le_refl _) _).setCell (p:=⟨w1.heap.size,1,N⟩) (Nat.le_refl _) _).setCell (p:=⟨w1.heap.size,2,N⟩) (Nat.le_refl _) _).setCell (p:=⟨w1.heap.size,3,N⟩) (Nat.le_refl _) _).setCell (p:=⟨w1.heap.size,4,N⟩) (Nat.le_refl _) _).setCell (p:=⟨w1.heap.size,5,N⟩) (Nat.le_refl _) _).setCell (p:=⟨w1.heap.size,6,N⟩) (Nat.le_refl _) _).setCell (p:=⟨w1.heap.size,7,N⟩) (Nat.le_refl _) _).setCell (p:=⟨w1.heap.size,8,N⟩) (Nat.le_refl _) _).setCell (p:=⟨w1.heap.size,9,N⟩) (Nat.le_refl _) _⟩
     case measure=>omega
    ·have HF:Hd (Ck is ys Mx (.over x5 x6 n)):=h1;obtain⟨p0,p1,p2,p3,p4,p5,p6,p7,p8,p9⟩:=Et H9;obtain⟨k0,k1,k2,k3,k4,k5⟩:=Zc hkw;have f0:=fZ hkw;clear h1 H9 hkw di;go_wp2_with fail;exact bR (v:=Bc true x5 x6 false ⟨#[]⟩ n) (by simp[results,results110,go_sem,Bc,k0,k1,k2,k3,k4,k5]) rfl ⟨((((((gh).setCell (p:=⟨w.heap.size+1,0,N⟩) qi _).setCell (p:=⟨w.heap.size+1,1,N⟩) qi _).setCell (p:=⟨w.heap.size+1,2,N⟩) qi _).setCell (p:=⟨w.heap.size+1,3,N⟩) qi _).setCell (p:=⟨w.heap.size+1,4,N⟩) qi _).setCell (p:=⟨w.heap.size+1,5,N⟩) qi _,_,HF.o,rfl⟩
    ·have HF:Hd (Ck is ys Mx (.wait x7 x8 n)):=h1;obtain⟨p0,p1,p2,p3,p4,p5,p6,p7,p8,p9⟩:=Et H9;obtain⟨k0,k1,k2,k3,k4,k5⟩:=Zc hkw;have f0:=fZ hkw;clear h1 H9 hkw di;go_wp2_with fail;exact bR (v:=Bc false 0 ⟨#[]⟩ x7 x8 n) (by simp[results,results110,go_sem,Bc,k0,k1,k2,k3,k4,k5]) rfl ⟨((((((gh).setCell (p:=⟨w.heap.size+1,0,N⟩) qi _).setCell (p:=⟨w.heap.size+1,1,N⟩) qi _).setCell (p:=⟨w.heap.size+1,2,N⟩) qi _).setCell (p:=⟨w.heap.size+1,3,N⟩) qi _).setCell (p:=⟨w.heap.size+1,4,N⟩) qi _).setCell (p:=⟨w.heap.size+1,5,N⟩) qi _,_,HF.o,rfl⟩
theorem Ci{T:TypeId}(h:w.heap[b]?=M (O #[v0,v1,v2] T (0,0))):w.cell? ⟨b,0,N⟩=M v0/\w.cell? ⟨b,1,N⟩=M v1/\w.cell? ⟨b,2,N⟩=M v2/\∀j,w.frozen? ⟨b,j,N⟩=false:=by
 refine⟨?_,?_,?_,λj=>fH h j⟩<;>rw[cH h]<;>rfl
theorem Ac{cs:Array Z}{T:TypeId}(hb:Bw w w')(h:w.heap[b]?=M (O cs T (0,0))):w'.heap[b]?=M (O cs T (0,0)):=by
 rw[hb.block _ (Ag h)];exact h
theorem Ba{T:TypeId}(h:w.heap[b]?=M (O #[u0,u1,u2] T (0,0)))(v0 v1 v2:Z):(((w.setCell ⟨b,0,N⟩ v0).setCell ⟨b,1,N⟩ v1).setCell ⟨b,2,N⟩ v2).heap[b]?=M (O #[v0,v1,v2] T (0,0)):=by
 rw[jB (jB (jB h v0) v1) v2]
 rfl
theorem Co(hb:Below B w w')(h:B<=b)(v0 v1 v2:Z):Below B w (((w'.setCell ⟨b,0,N⟩ v0).setCell ⟨b,1,N⟩ v1).setCell ⟨b,2,N⟩ v2):=
 ((hb.setCell (p:=⟨b,0,N⟩) h _).setCell (p:=⟨b,1,N⟩) h _).setCell (p:=⟨b,2,N⟩) h _
def Ee:L R3->L Z
 | []=>[]
 | y::ys=>F y.has::I y.code::S y.text::Ee ys
theorem Oz(ys:L R3)(y:R3):Ee (ys++[y])=Ee ys++[F y.has,I y.code,S y.text]:=by
 induction ys with
 | nil=>rfl
 | cons x xs ih=>simp only[List.cons_append,Ee,ih]
theorem Qi:∀(ys:L R3)(i:X),i<ys.length->(Ee ys)[i*3]?=M (F (rx ys i).has)/\(Ee ys)[i*3+1]?=M (I (rx ys i).code)/\(Ee ys)[i*3+2]?=M (S (rx ys i).text)
 | [],i,h=>by simp at h
 | y::ys,0,h=>by simp[Ee,rx]
 | y::ys,i+1,h=>by
  have:=Qi ys i qbh;rw[show(i+1)*3=i*3+1+1+1 from qg];simpa [Ee,rx] using this
theorem rowR_of(h:w.ownsRow B 191 3 (J a ys.length cap) ys.length (Ee ys)):Ry w a ys:=by
 intro i hi
 rcases h.2 with⟨hv,h0⟩|⟨g,aj,cur,hv,_⟩
 ·omega
 ·simp only[Value.slice.injEq]at hv;obtain⟨rfl,_,_⟩:=hv;obtain⟨k1,k2,k3⟩:=Qi ys i hi;exact⟨g,0,rfl,by rw[Nat.zero_add,h.cellAt _ qg];exact k1,by rw[Nat.zero_add,h.cellAt _ qg];exact k2,by rw[Nat.zero_add,h.cellAt _ qg];exact k3⟩
theorem Ps(w:E)(v0 v1 v2:Z)(ty:TypeId):∀j u,[v0,v1,v2][j]?=M u->(w.alloc (O #[v0,v1,v2] ty)).cell? ((⟨w.heap.size,0,N⟩:Addr).add j)=M u:=by
 intro j u hu
 match j with
 | 0=>simp at hu;subst hu;simp[go_sem,Addr.add]
 | 1=>simp at hu;subst hu;simp[go_sem,Addr.add]
 | 2=>simp at hu;subst hu;simp[go_sem,Addr.add]
 | j+3=>simp at hu
def lenV:Z->X
 | J _ n _=>n
 | _=>0
theorem reps_of{gs:L G3}(h:∀i,i<ys.length->Ll (rx ys i)=true)(hk:ys.length<=200):Pj ys=true:=by
 simp only[Pj,Bool.and_eq_true,decide_eq_true_eq]
 exact⟨hk,h⟩
theorem rx_any(h:∀i,i<ys.length->Ll (rx ys i)=true):∀i,(rx ys i).text.size<=9223372036854775807:=λi=>by
 rcases Nat.lt_or_ge i ys.length with h1|h1
 ·have:=Vb h i h1;omega
 ·unfold rx;rw[gG,List.getElem?_eq_none h1];decide
def Pv:L G3->L Z
 | []=>[]
 | g::gs=>S g.name::F g.ask::S g.sum::Pv gs
theorem gC_snoc(gs:L G3)(g:G3):Pv (gs++[g])=Pv gs++[S g.name,F g.ask,S g.sum]:=by
 induction gs with
 | nil=>rfl
 | cons x xs ih=>simp only[List.cons_append,Pv,ih]
theorem gC_get:∀(gs:L G3)(i:X),i<gs.length->(Pv gs)[i*3]?=M (S (gx gs i).name)/\(Pv gs)[i*3+1]?=M (F (gx gs i).ask)/\(Pv gs)[i*3+2]?=M (S (gx gs i).sum)
 | [],i,h=>by simp at h
 | y::ys,0,h=>by simp[Pv,gx]
 | y::ys,i+1,h=>by
  have:=gC_get ys i qbh;rw[show(i+1)*3=i*3+1+1+1 from qg];simpa [Pv,gx] using this
theorem Ah{e sz n:X}(h:w.ownsRow B e sz v n xs)(hB:B'<=B):w.ownsRow B' e sz v n xs:=by
 exact qlh
theorem looks_of{gs:L G3}(h:w.ownsRow B 194 3 v gs.length (Pv gs))(hB:B'<=B):Ml w B' v gs:=⟨Pv gs,Ah h hB,λi hi=>gC_get gs i hi⟩
theorem Nf(c:Int)(t:By)(w:E)(h0:0<=c)(h5:c<=5)(ht:t.size<=2000):Calls prog 114 #[G #[I c,S t,nS]] w λe w'=>e=H (S (Bp c t))/\Bw w w':=by
 obtain⟨m,rfl⟩:=Int.eq_ofNat_of_zero_le h0
 exact Qe m t N 0 w qg ht
theorem Ym{e sz n:X}(h:w.ownsRow B e sz v n xs)(h1:1≤n):∃g cp,v=J (p_ g) n cp:=by
 rcases Db h with⟨_,h0⟩|h
 ·omega
 ·exact h
theorem clone_any(a:Option Addr)(cap:X)(is:L I3)(w:E)(hc:Cn w a is)(h1:1≤is.length)(hl:is.length≤1048576):Calls prog 143 #[J a is.length cap] w λe w'=>Bw w w'∧∃g cp,e=H (J (p_ g) is.length cp)∧w'.ownsRow w.heap.size 174 3 (J (p_ g) is.length cp) is.length (Fd is):=by
 obtain⟨i0,hi,bq,bi,ci⟩:=info_parts Tryz.info165b;obtain⟨b,off,rfl,_⟩:=hc 0 qg;have dw:(w.alloc (O #[] 174)).ownsRow w.heap.size 174 3 (J (p_ w.heap.size) 0 0) 0 []:=World.ownsRow_lit (base:=w.heap.size) (e:=174) (size:=3) w #[] 0 (Nat.le_refl _) qq qi;have hn:=Od (hc.bl ((Below.refl w.heap.size w).alloc (Nat.le_refl _) (O #[] 174)));have HL:=Ab (Iy is);have HO:=Ab (Qs is);generalize Fd is=xs at *;clear hc;have hq:∀W:E,(binOp .eql 68 (J (M ⟨b,off,N⟩) is.length cap) nS).run prog W=.ok (F false) W:=λW=>Lib.run_eql_slice_nil W 68 174 _ _ _ 0 0 underlying68;go_enter func143,ntmps143
 go_wp2_with (at_builtin;refine wpList_append_own _ rfl (.tmp 5) (.tmp 6) 68 rfl w.heap.size 174 i0 (G #[I 0,ze,I 0]) 3 32 underlying68 hi bq bi ci rfl qh _ 0 [] rfl dw ⟨b,off,N⟩ is.length cap xs rfl HL.o hn HO.o qq qg qi ?_;intro v' w2 aw ae dj;clear dj)
 have gy:Bw w w2:=(aN _ _).grown ae qi (λk hk=>(dw.lt k hk).1);rw[Nat.zero_add,List.nil_append]at aw;obtain⟨g,cp,rfl⟩:=Ym aw h1;clear ae dw hn;go_wp2;go_ret;exact⟨gy,g,cp,rfl,aw⟩
theorem Uc(a:Option Addr)(cap:X)(is:L I3)(w:E)(hc:Cn w a is)(h1:1≤is.length)(hl:is.length≤1048576):Calls prog 122 #[G #[J a is.length cap]] w λe w'=>Bw w w'∧∃g cp,e=H (G #[J (p_ g) is.length cp])∧w'.ownsRow w.heap.size 174 3 (J (p_ g) is.length cp) is.length (Fd is):=by
 have ak:Bw w ((w.alloc (O #[J a is.length cap] 70)).alloc (O #[nS] 70)):=(aN _ _).alloc qi _;go_enter func122,ntmps122;go_wp2_with fail;refine(clone_any a cap is _ (hc.bl ak) h1 hl).mono ?_;exact qik
theorem Xi(a:Option Addr)(cap:X)(is:L I3)(w:E)(hc:Cn w a is)(h1:1≤is.length)(hl:is.length≤1048576):Calls prog 53 #[G #[J a is.length cap]] w λe w'=>Bw w w'∧∃g cp,e=H (G #[J (p_ g) is.length cp])∧w'.ownsRow w.heap.size 174 3 (J (p_ g) is.length cp) is.length (Fd is):=by
 obtain⟨i0,hi,bq,bi,ci⟩:=info_parts Tryz.info165b;obtain⟨b,off,rfl,_⟩:=hc 0 qg;have ak:Bw w ((w.alloc (O #[J (M ⟨b,off,N⟩) is.length cap] 70)).alloc (O #[nS] 70)):=(aN _ _).alloc qi _;have ag:Bw w (((w.alloc (O #[J (M ⟨b,off,N⟩) is.length cap] 70)).alloc (O #[nS] 70)).alloc (O #[] 174)):=ak.alloc qj _
 have dw:(((w.alloc (O #[J (M ⟨b,off,N⟩) is.length cap] 70)).alloc (O #[nS] 70)).alloc (O #[] 174)).ownsRow (w.heap.size+1+1) 174 3 (J (p_ (w.heap.size+1+1)) 0 0) 0 []:=by
  exact qit
 have hn:=Od (hc.bl ag);have HL:=Ab (Iy is);have HO:=Ab (Qs is);generalize Fd is=xs at *;clear hc ak;go_enter func53,ntmps53
 go_wp2_with (at_builtin;refine wpList_append_own _ rfl (.tmp 3) (.tmp 5) 68 rfl (w.heap.size+1+1) 174 i0 (G #[I 0,ze,I 0]) 3 32 underlying68 hi bq bi ci rfl qh _ 0 [] rfl dw ⟨b,off,N⟩ is.length cap xs rfl HL.o hn HO.o qq qg qi ?_;intro v' w2 aw ae dj;clear dj;have gy:Below (w.heap.size+1+1) (((w.alloc (O #[J (M ⟨b,off,N⟩) is.length cap] 70)).alloc (O #[nS] 70)).alloc (O #[] 174)) w2:=(Below.refl _ _).grown ae qi (λk hk=>(dw.lt k hk).1);have c1:w2.cell? ⟨w.heap.size+1,0,N⟩=M nS:=(by rw[gy.cell (p:=⟨w.heap.size+1,0,N⟩) qi];simp[go_sem]);have f1:w2.frozen? ⟨w.heap.size+1,0,N⟩=false:=(by rw[gy.frozen (p:=⟨w.heap.size+1,0,N⟩) qi];simp[go_sem]);have hB:Bw w w2:=ag.trans (gy.mono qg);rw[Nat.zero_add,List.nil_append]at aw;obtain⟨g,cp,rfl⟩:=Ym aw h1;have hg:=(aw.lt g rfl).1;have Of:Hd (w2.ownsRow w.heap.size 174 3 (J (p_ g) is.length cp) is.length xs):=Ah aw qg;clear ae dw hn gy aw ag)
 exact qjt
def Ds(w:E)(lo hi:X)(v:Z)(ts:L By):Prop:=Bu w lo hi 9 1 v ts.length (ts.map Value.string)
theorem Po(ss:L By):Es ss ss.length ss.length=ss.map Value.string:=by simp[Es]
theorem map_str(ss:L By)(i:X)(h:i<ss.length):(ss.map Value.string)[i]?=M (S (ss.getD i ByteArray.empty)):=by rw[←Po];exact filled_get ss i h
theorem Ds.bl(h:Ds w lo hi v ts)(hb:Bw w w'):Ds w' lo hi v ts:=Bu.bl h hb
theorem Ds.keep(h:Ds w lo hi v ts)(hk:Dw lo' hi' w w')(hd:hi≤lo'∨hi'≤lo):Ds w' lo hi v ts:=Bu.keep h hk hd
theorem Ds.wide(h:Ds w lo hi v ts)(h1:lo'≤lo)(h2:hi≤hi'):Ds w lo' hi' v ts:=Bu.wide h h1 h2
theorem Ds.nil(w:E)(lo hi:X):Ds w lo hi nS []:=Bu.nil _ _ _ _ _
theorem Ds.sl(h:Ds w lo hi v ts):∃a cap,v=J a ts.length cap∧Cu w a ts:=by
 rcases Db (Bu.own h)with⟨rfl,h0⟩|⟨g,cap,rfl⟩
 ·exact qbs
 ·refine⟨_,cap,rfl,λi hi=>⟨g,0,rfl,?_⟩⟩
  rw[Nat.zero_add,(Bu.own h).cellAt _ qg];exact map_str ts i hi
theorem Ds.set(h:Ds w lo hi v ts)(hb:b<lo)(u:Z):Ds (w.setCell ⟨b,j,N⟩ u) lo hi v ts:=h.keep (Dw.set (lo:=b) (hi:=b+1) (Nat.le_refl _) (Nat.lt_succ_self _) j u) (Or.inr hb)
structure Kz (w:E) (lo hi:X) (v:Z) (rs:L T3) (xs:L Z) (cv lv:X→Z):Prop where
 row:Bu w lo hi 73 3 v rs.length xs
 fil:∀i,i<rs.length→xs[i*3]?=M (cv i)∧xs[i*3+1]?=M (lv i)∧xs[i*3+2]?=M (S (qx rs i).out)
 code:∀i,i<rs.length→∃ys,Bu w lo hi 174 3 (cv i) (qx rs i).code.length ys∧Cs (qx rs i).code (qx rs i).code.length ys
 look:∀i,i<rs.length→∃ys,Bu w lo hi 115 3 (lv i) (qx rs i).looks.length ys∧Bx (qx rs i).looks (qx rs i).looks.length ys
 apc:∀i j,i<j→j<rs.length→∀b,(cv i).ownBlock=M b→(cv j).ownBlock≠M b
 apl:∀i j,i<j→j<rs.length→∀b,(lv i).ownBlock=M b→(lv j).ownBlock≠M b
 som:∀i,i<rs.length→∃g cap,lv i=J (p_ g) (qx rs i).looks.length cap
def Hr(w:E)(lo hi:X)(v:Z)(rs:L T3):Prop:=∃xs cv lv,Kz w lo hi v rs xs cv lv
theorem Kz.bl(h:Kz w lo hi v rs xs cv lv)(hb:Bw w w'):Kz w' lo hi v rs xs cv lv:=
 ⟨h.row.bl hb,h.fil,λi hi=>by obtain⟨ys,h1,h2⟩:=h.code i hi;exact⟨ys,h1.bl hb,h2⟩,λi hi=>by obtain⟨ys,h1,h2⟩:=h.look i hi;exact⟨ys,h1.bl hb,h2⟩,h.apc,h.apl,h.som⟩
theorem Kz.keep(h:Kz w lo hi v rs xs cv lv)(hk:Dw lo' hi' w w')(hd:hi≤lo'∨hi'≤lo):Kz w' lo hi v rs xs cv lv:=
 ⟨h.row.keep hk hd,h.fil,λi hi=>by obtain⟨ys,h1,h2⟩:=h.code i hi;exact⟨ys,h1.keep hk hd,h2⟩,λi hi=>by obtain⟨ys,h1,h2⟩:=h.look i hi;exact⟨ys,h1.keep hk hd,h2⟩,h.apc,h.apl,h.som⟩
theorem Kz.wide(h:Kz w lo hi v rs xs cv lv)(h1:lo'≤lo)(h2:hi≤hi'):Kz w lo' hi' v rs xs cv lv:=
 ⟨h.row.wide h1 h2,h.fil,λi hi=>by obtain⟨ys,k1,k2⟩:=h.code i hi;exact⟨ys,k1.wide h1 h2,k2⟩,λi hi=>by obtain⟨ys,k1,k2⟩:=h.look i hi;exact⟨ys,k1.wide h1 h2,k2⟩,h.apc,h.apl,h.som⟩
theorem Hr.bl(h:Hr w lo hi v rs)(hb:Bw w w'):Hr w' lo hi v rs:=by
 obtain⟨xs,cv,lv,h⟩:=h;exact⟨xs,cv,lv,h.bl hb⟩
theorem Hr.keep(h:Hr w lo hi v rs)(hk:Dw lo' hi' w w')(hd:hi≤lo'∨hi'≤lo):Hr w' lo hi v rs:=by
 obtain⟨xs,cv,lv,h⟩:=h;exact⟨xs,cv,lv,h.keep hk hd⟩
theorem Hr.wide(h:Hr w lo hi v rs)(h1:lo'≤lo)(h2:hi≤hi'):Hr w lo' hi' v rs:=by
 obtain⟨xs,cv,lv,h⟩:=h;exact⟨xs,cv,lv,h.wide h1 h2⟩
theorem Hr.nil(w:E)(lo hi:X):Hr w lo hi nS []:=⟨[],λ_=>nS,λ_=>nS,Bu.nil _ _ _ _ _,λi hi=>Wl,λi hi=>Wl,λi hi=>Wl,λi j _ hj=>by simp at hj,λi j _ hj=>by simp at hj,λi hi=>Wl⟩
theorem Hr.set(h:Hr w lo hi v rs)(hb:b<lo)(u:Z):Hr (w.setCell ⟨b,j,N⟩ u) lo hi v rs:=h.keep (Dw.set (lo:=b) (hi:=b+1) (Nat.le_refl _) (Nat.lt_succ_self _) j u) (Or.inr hb)
theorem Yg{is:L G3}{ys:L Z}(h:Bu w lo hi 115 3 v is.length ys)(hf:Bx is is.length ys):∃a cap,v=J a is.length cap∧Gf w a is:=by
 rcases Db h.own with⟨rfl,h0⟩|⟨g,cap,rfl⟩
 ·exact qbs
 ·exact⟨_,cap,rfl,rowG_own rfl h.own hf⟩
theorem Hr.sl(h:Hr w lo hi v rs):∃a cap,v=J a rs.length cap∧Mk w a rs:=by
 obtain⟨xs,cv,lv,h⟩:=h
 rcases Db h.row.own with⟨rfl,h0⟩|⟨g,cap,rfl⟩
 ·exact qbs
 ·refine⟨_,cap,rfl,λi hi=>?_⟩
  obtain⟨h1,h2,h3⟩:=h.fil i hi;obtain⟨ys,k1,k2⟩:=h.code i hi;obtain⟨zs,j1,j2⟩:=h.look i hi;obtain⟨a',aj,e,r⟩:=Rk k1 k2;obtain⟨a2,oh,e2,r2⟩:=Yg j1 j2;refine⟨g,0,rfl,a',aj,a2,oh,?_,?_,?_,r,r2⟩
  ·rw[Nat.zero_add,h.row.own.cellAt _ qg,h1,e]
  ·rw[Nat.zero_add,h.row.own.cellAt _ qg,h2,e2]
  ·rw[Nat.zero_add,h.row.own.cellAt _ qg,h3]
structure Eu (w:E) (lo:X) (is:L T3) (k:X) (xs:L Z) (cv lv:X→Z):Prop where
 fil:∀i,i<k→xs[i*3]?=M (cv i)∧xs[i*3+1]?=M (lv i)∧xs[i*3+2]?=M (S (qx is i).out)
 code:∀i,i<k→∃ys,w.ownsRow lo 174 3 (cv i) (qx is i).code.length ys∧Cs (qx is i).code (qx is i).code.length ys
 look:∀i,i<k→∃ys,w.ownsRow lo 115 3 (lv i) (qx is i).looks.length ys∧Bx (qx is i).looks (qx is i).looks.length ys
 apc:∀i j,i<j→j<k→∀b,(cv i).ownBlock=M b→(cv j).ownBlock≠M b
 apl:∀i j,i<j→j<k→∀b,(lv i).ownBlock=M b→(lv j).ownBlock≠M b
 som:∀i,i<k→∃g cap,lv i=J (p_ g) (qx is i).looks.length cap
theorem Eu.same{is:L T3}(h:Eu w lo is k xs cv lv)(hk:∀b,lo≤b→b<w.heap.size→w'.heap[b]?=w.heap[b]?):Eu w' lo is k xs cv lv:=
 ⟨h.fil,λi hi=>by
  obtain⟨ys,h1,h2⟩:=h.code i hi
  exact⟨ys,An h1 (λb e=>hk b (h1.lt b e).1 (h1.lt b e).2),h2⟩,λi hi=>by
  obtain⟨ys,h1,h2⟩:=h.look i hi;exact⟨ys,An h1 (λb e=>hk b (h1.lt b e).1 (h1.lt b e).2),h2⟩,h.apc,h.apl,h.som⟩
theorem Eu.bl{is:L T3}(h:Eu w lo is k xs cv lv)(hb:Bw w w'):Eu w' lo is k xs cv lv:=h.same λb _ hl=>hb.block b hl
theorem Eu.set{is:L T3}(h:Eu w lo is k xs cv lv)(hb:b<lo)(u:Z):Eu (w.setCell ⟨b,j,N⟩ u) lo is k xs cv lv:=h.same λc hc _=>Dm w ⟨b,j,N⟩ u c (by show c≠b;omega)
theorem Eu.zero(w:E)(lo:X)(is:L T3)(xs:L Z):Eu w lo is 0 xs (λ_=>nS) (λ_=>nS):=⟨λi hi=>qg,λi hi=>qg,λi hi=>qg,λi j _ hj=>qg,λi j _ hj=>qg,λi hi=>qg⟩
theorem Eu.add{w2:E}{is:L T3}{xs2:L Z}(h:Eu w lo is k xs cv lv)(hk:∀b,lo≤b→b<w.heap.size→w2.heap[b]?=w.heap[b]?∨∃n zs B v,w.ownsRow B 73 3 v n zs∧v.ownBlock=M b)(hl:lo≤w.heap.size){c d:Z}{ys zs:L Z}(ho:w2.ownsRow w.heap.size 174 3 c (qx is k).code.length ys)(hf:Cs (qx is k).code (qx is k).code.length ys)(ky:w2.ownsRow w.heap.size 115 3 d (qx is k).looks.length zs)(te:Bx (qx is k).looks (qx is k).looks.length zs)(hd:∃g cap,d=J (p_ g) (qx is k).looks.length cap)(h1:∀j,j<k*3→xs2[j]?=xs[j]?)(h2:xs2[k*3]?=M c)(h3:xs2[k*3+1]?=M d)(h4:xs2[k*3+2]?=M (S (qx is k).out)):Eu w2 lo is (k+1) xs2 (λi=>if i=k then c else cv i) (λi=>if i=k then d else lv i):=by
 have hsame:∀ {e sz n:X} {u:Z} {us:L Z},w.ownsRow lo e sz u n us→73≠e→w2.ownsRow lo e sz u n us:=fun {e sz n u us} k1 hne=>An k1 (λb eb=>by
  rcases hk b (k1.lt b eb).1 (k1.lt b eb).2 with h|⟨n',zs',B',v',o',e'⟩
  ·exact h
  ·exact absurd eb (Tc o' k1 hne b e'))
 refine⟨λi hi=>?_,λi hi=>?_,λi hi=>?_,λi j n9 hj=>?_,λi j n9 hj=>?_,λi hi=>?_⟩
 ·rcases Nat.lt_or_ge i k with hl|hl
  ·obtain⟨k1,k2,k3⟩:=h.fil i hl
   rw[h1 _ qg,h1 _ qg,h1 _ qg,if_neg qg,if_neg qg];exact⟨k1,k2,k3⟩
  ·obtain rfl:i=k:=qg
   rw[if_pos rfl,if_pos rfl];exact⟨h2,h3,h4⟩
 ·rcases Nat.lt_or_ge i k with ai|hge
  ·obtain⟨zs,k1,k2⟩:=h.code i ai
   exact qnl
  ·obtain rfl:i=k:=qg
   simp only[if_true];exact⟨ys,Ah ho hl,hf⟩
 ·rcases Nat.lt_or_ge i k with ai|hge
  ·obtain⟨zs,k1,k2⟩:=h.look i ai
   exact qnl
  ·obtain rfl:i=k:=qg
   simp only[if_true];exact⟨zs,Ah ky hl,te⟩
 ·rcases Nat.lt_or_ge j k with ai|hge
  ·simp only[if_neg (show ¬ i=k from qg),if_neg (show ¬ j=k from qg)]
   exact h.apc i j n9 ai
  ·exact qke
 ·rcases Nat.lt_or_ge j k with ai|hge
  ·simp only[if_neg (show ¬ i=k from qg),if_neg (show ¬ j=k from qg)]
   exact h.apl i j n9 ai
  ·obtain rfl:j=k:=qg
   simp only[if_neg (show ¬ i=j from qg),if_true];intro b e1 e2;obtain⟨zs,k1,_⟩:=h.look i n9;have:=(k1.lt b e1).2;have:=(ky.lt b e2).1;omega
 ·rcases Nat.lt_or_ge i k with ai|hge
  ·simp only[if_neg (show ¬ i=k from qg)]
   exact h.som i ai
  ·obtain rfl:i=k:=qg
   simp only[if_true];exact hd
theorem Eu.own{is:L T3}(h:Eu w lo' is is.length xs cv lv)(hr:w.ownsRow lo 73 3 v is.length xs)(hl:lo≤lo')(hh:w.heap.size≤hi):Hr w lo hi v is:=
 ⟨xs,cv,lv,⟨hr,λb e=>by have:=(hr.lt b e).2;omega⟩,h.fil,λi hi=>by
  obtain⟨ys,h1,h2⟩:=h.code i hi
  exact⟨ys,⟨Ah h1 hl,λb e=>by have:=(h1.lt b e).2;omega⟩,h2⟩,λi hi=>by
  obtain⟨ys,h1,h2⟩:=h.look i hi;exact⟨ys,⟨Ah h1 hl,λb e=>by have:=(h1.lt b e).2;omega⟩,h2⟩,h.apc,h.apl,h.som⟩
theorem set3_old(u v t:Z)(hj:j<k*3):(((xs.set (k*3) u).set (k*3+1) v).set (k*3+2) t)[j]?=xs[j]?:=by
 simp only[List.getElem?_set];rw[if_neg qg,if_neg qg,if_neg qg]
theorem set3_0(u v t:Z)(hx:k*3+2<xs.length):(((xs.set (k*3) u).set (k*3+1) v).set (k*3+2) t)[k*3]?=M u:=by
 simp only[List.getElem?_set];rw[if_neg qg,if_neg qg,if_pos trivial,if_pos qg]
theorem set3_1(u v t:Z)(hx:k*3+2<xs.length):(((xs.set (k*3) u).set (k*3+1) v).set (k*3+2) t)[k*3+1]?=M v:=by
 simp only[List.getElem?_set];rw[if_neg qg,if_pos trivial,if_pos qj]
theorem set3_2(u v t:Z)(hx:k*3+2<xs.length):(((xs.set (k*3) u).set (k*3+1) v).set (k*3+2) t)[k*3+2]?=M t:=by
 simp only[List.getElem?_set];rw[if_pos trivial,if_pos qj]
theorem heapW_new2(w:E)(o o2:Obj):((w.alloc o).alloc o2).heap[w.heap.size+1]?=M o2:=by
 have h:=Cr (w.alloc o) o2;rw[show(w.alloc o).heap.size=w.heap.size+1 from qi]at h;exact h
theorem heapW_old2(w:E)(o o2:Obj):((w.alloc o).alloc o2).heap[w.heap.size]?=M o:=by
 rw[Lib.alloc_old _ _ _ qi];exact Cr _ _
theorem Bb(h:w.heap[b]?=M (O #[v1,v2,v3] T (0,0))):w.cell? ⟨b,0,N⟩=M v1∧w.cell? ⟨b,1,N⟩=M v2∧w.cell? ⟨b,2,N⟩=M v3:=
 ⟨qao,qao,qao⟩
theorem Ds.setT(ho:Ds w lo hi v ts)(h:Dl w b T)(h9:T≠9)(u:Z):Ds (w.setCell ⟨b,j,N⟩ u) lo hi v ts:=⟨Ak (Bu.own ho) h h9 u,Bu.top ho⟩
theorem Hr.setT(ho:Hr w lo hi v rs)(h:Dl w b T)(h66:T≠73)(h98:T≠174)(h88:T≠115)(u:Z):Hr (w.setCell ⟨b,j,N⟩ u) lo hi v rs:=by
 obtain⟨xs,cv,lv,k⟩:=ho
 exact⟨xs,cv,lv,⟨Ak k.row.own h h66 u,k.row.top⟩,k.fil,λi hi=>by
  obtain⟨ys,k1,k2⟩:=k.code i hi
  exact⟨ys,⟨Ak k1.own h h98 u,k1.top⟩,k2⟩,λi hi=>by
  obtain⟨ys,k1,k2⟩:=k.look i hi;exact⟨ys,⟨Ak k1.own h h88 u,k1.top⟩,k2⟩,k.apc,k.apl,k.som⟩
theorem Eu.setT{is:L T3}(h:Eu w lo is k xs cv lv)(ht:Dl w b T)(h98:T≠174)(h88:T≠115)(u:Z):Eu (w.setCell ⟨b,j,N⟩ u) lo is k xs cv lv:=
 ⟨h.fil,λi hi=>by
  obtain⟨ys,k1,k2⟩:=h.code i hi
  exact⟨ys,Ak k1 ht h98 u,k2⟩,λi hi=>by
  obtain⟨ys,k1,k2⟩:=h.look i hi;exact⟨ys,Ak k1 ht h88 u,k2⟩,h.apc,h.apl,h.som⟩
def gloC(gs:L G3)(j:X):Z:=if j % 3=0 then S (gx gs (j / 3)).name else if j % 3=1 then F (gx gs (j / 3)).ask else S (gx gs (j / 3)).sum
def Lf(gs:L G3):L Z:=(List.range (gs.length*3)).map (gloC gs)
theorem Nl(gs:L G3):(Lf gs).length=gs.length*3:=by simp[Lf]
theorem Qv(gs:L G3)(j:X)(h:j<gs.length*3):(Lf gs)[j]?=M (gloC gs j):=by
 unfold Lf;rw[List.getElem?_map,List.getElem?_range h];rfl
theorem Nm(gs:L G3):Bx gs gs.length (Lf gs):=by
 intro i hi;rw[Qv gs _ qg,Qv gs _ qg,Qv gs _ qg];unfold gloC;exact qjv
theorem gloV_one(gs:L G3):∀u∈Lf gs,u.oneCell'=true:=by
 intro u hu;obtain⟨j,_,rfl⟩:=List.mem_map.mp hu;unfold gloC;split
 ·rfl
 ·split<;>rfl
theorem Yx{gs:L G3}(h:Gf w (M ⟨b,off,N⟩) gs):∀j u,(Lf gs)[j]?=M u→w.cell? ((⟨b,off,N⟩:Addr).add j)=M u:=by
 intro j u hu;rw[Addr.add_lit]
 have hj:j<gs.length*3:=by
  rcases Nat.lt_or_ge j (gs.length*3)with h|h
  ·exact h
  ·rw[List.getElem?_eq_none (by rw[Nl];exact h)]at hu;cases hu
 rw[Qv gs j hj]at hu;obtain rfl:=Option.some.inj hu;obtain⟨b',bz,ha,c1,c2,c3⟩:=h (j / 3) qg;cases ha;unfold gloC;split
 ·rename_i hm
  rw[show off+j=off+j / 3*3 from qg];exact c1
 ·split
  ·rename_i hm
   rw[show off+j=off+j / 3*3+1 from qg];exact c2
  ·rw[show off+j=off+j / 3*3+2 from qg];exact c3
theorem Nx(ss:L By):∀u∈ss.map Value.string,u.oneCell'=true:=by
 intro u hu;obtain⟨s,_,rfl⟩:=List.mem_map.mp hu;rfl
theorem Px(h:Cu w (M ⟨b,off,N⟩) ss):∀j u,(ss.map Value.string)[j]?=M u→w.cell? ((⟨b,off,N⟩:Addr).add j)=M u:=by
 intro j u hu;rw[Addr.add_lit]
 have hj:j<ss.length:=by
  rcases Nat.lt_or_ge j ss.length with h|h
  ·exact h
  ·rw[List.getElem?_eq_none qbh]at hu;cases hu
 rw[map_str ss j hj]at hu;obtain rfl:=Option.some.inj hu;obtain⟨b',bz,ha,c1⟩:=h j hj;cases ha;exact c1
theorem Tryz.info88b:(prog.info? 115).map (λi=>(i.zero,i.size,i.bytes))=M (M (G #[ze,F false,ze]),3,40):=qk
theorem Tryz.info66b:(prog.info? 73).map (λi=>(i.zero,i.size,i.bytes))=M (M (G #[nS,nS,ze]),3,64):=qk
theorem cloneX_any(b off cap:X)(is:L By)(w:E)(hc:Cu w (M ⟨b,off,N⟩) is)(hl:is.length≤1048576):Calls prog 94 #[J (M ⟨b,off,N⟩) is.length cap] w λe w'=>Bw w w'∧∃g cp,e=H (J (p_ g) is.length cp)∧w'.ownsRow w.heap.size 9 1 (J (p_ g) is.length cp) is.length (is.map Value.string):=by
 obtain⟨i0,hi,bq,bi,ci⟩:=info_parts Tryz.info9b;have dw:(w.alloc (O #[] 9)).ownsRow w.heap.size 9 1 (J (p_ w.heap.size) 0 0) 0 []:=World.ownsRow_lit (base:=w.heap.size) (e:=9) (size:=1) w #[] 0 (Nat.le_refl _) qq qi;have hn:=Px (hc.bl ((Below.refl w.heap.size w).alloc (Nat.le_refl _) (O #[] 9)));have HL:Hd ((is.map Value.string).length=is.length*1):=by show _=_;simp
 have HO:=Ab (Nx is);generalize is.map Value.string=xs at *;clear hc;have hq:∀W:E,(binOp .eql 22 (J (M ⟨b,off,N⟩) is.length cap) nS).run prog W=.ok (F false) W:=λW=>Lib.run_eql_slice_nil W 22 9 _ _ _ 0 0 underlying22;go_enter func94,ntmps94
 go_wp2_with (at_builtin;refine wpList_append_own _ rfl (.tmp 5) (.tmp 6) 22 rfl w.heap.size 9 i0 ze 1 16 underlying22 hi bq bi ci rfl qh _ 0 [] rfl dw ⟨b,off,N⟩ is.length cap xs rfl HL.o hn HO.o qq qg qi ?_;intro v' w2 aw ae dj)
 exact qff
def Rz(lo:X)(w:E)(e:Ending)(is:L I3)(gs:L G3)(out:By):Prop:=∃g1 p1 g2 p2,e=H (G #[J (p_ g1) is.length p1,J (p_ g2) gs.length p2,S out])∧w.ownsRow lo 174 3 (J (p_ g1) is.length p1) is.length (Fd is)∧w.ownsRow lo 115 3 (J (p_ g2) gs.length p2) gs.length (Lf gs)

theorem Ru(hz:w.heap[P]?=M (O #[x,y,z] T (0,0)))(u1 u2 u3:Z):(((w.setCell ⟨P,0,N⟩ u1).setCell ⟨P,1,N⟩ u2).setCell ⟨P,2,N⟩ u3).heap[P]?=M (O #[u1,u2,u3] T (0,0)):=by
 have h1:(w.setCell ⟨P,0,N⟩ u1).heap[P]?=M (O #[u1,y,z] T (0,0)):=by rw[jB hz];rfl
 have h2:((w.setCell ⟨P,0,N⟩ u1).setCell ⟨P,1,N⟩ u2).heap[P]?=M (O #[u1,u2,z] T (0,0)):=by rw[jB h1];rfl
 rw[jB h2];rfl

theorem Im(w:E)(dT sT ty elem:TypeId)(g o dLen dCap:X)(a:Addr)(sLen sCap:X)(cur:Array Z)(t:TypeId)(cs:L Z)(hu:prog.underlying dT=M (.slice elem))(hs:(prog.info? elem).map (·.size)=M 1)(hg:w.heap[g]?=M (O cur t (0,0)))(hn:cs.length=Nat.min sLen dLen)(hsrc:∀j v,cs[j]?=M v→w.cell? (a.add j)=M v)(hfit:o+cs.length≤cur.size)(h1:∀v∈cs,v.oneCell'=true):(Builtin.copy_ #[dT,sT] ty #[J (M ⟨g,o,N⟩) dLen dCap,J (M a) sLen sCap]).run prog w =
 .ok (goInt (Nat.min sLen dLen)) (w.setRow g (cur.toList.take o++cs++cur.toList.drop (o+cs.length)).toArray):=by
 have hl:=run_loadCells_list (P:=prog) w a cs hsrc;have cr:=run_storeCells_at prog g o t cs 0 cur w hg (by simpa using hfit) h1
 cases hq:prog.info? elem with
 | none=>simp[hq]at hs
 | some i=>
   (have hi:i.size=1:=by simpa [hq] using hs);simp[Builtin.copy_,run_underlying hu,Builtin.lenOf,Builtin.firstCells,sizeOf,typeInfo,hq,hi,←hn,hl,cr]
theorem Uy{α:Type}(AL cs:L α)(o:X)(h:o≤AL.length):(AL.take o++cs++AL.drop (o+cs.length)).take (o+cs.length)=AL.take o++cs:=by
 rw[List.take_append_of_le_length qj,List.take_of_length_le qj]
theorem shift_take{α:Type}(C xs vs:L α)(i n:X)(hi:i≤n)(hx:C.take (n)=xs)(hl:(n+1)≤C.length)(hv:vs.length=1)(C1 C2:L α)(h1:C1=C.take ((i+1))++xs.drop (i)++C.drop ((i+1)+(xs.drop (i)).length))(h2:C2=C1.take (i)++vs++C1.drop (i+vs.length)):C2.length=C.length∧C2.take ((n+1))=xs.take (i)++vs++xs.drop (i):=by
 have lq:xs.length=n:=by rw[←hx,List.length_take];omega
 have F1:(xs.drop (i)).length=n-i:=by rw[List.length_drop,lq]
 have uu:C1.length=C.length:=by rw[h1];simp[F1];omega
 have e1:C1.take ((n+1))=C.take ((i+1))++xs.drop (i):=by
  have:=Uy C (xs.drop (i)) ((i+1)) qg;rw[←h1,F1,show(i+1)+(n-i)=(n+1) from qg]at this;exact this
 have e2:C1.take (i)=xs.take (i):=by
  have:=congrArg (λl=>l.take (i)) e1;simp only[List.take_take]at this;rw[Nat.min_eq_left qg,List.take_append_of_le_length qj,List.take_take,Nat.min_eq_left qg]at this;rw[this,←hx,List.take_take,Nat.min_eq_left qg]
 have e3:(C1.take ((n+1))).drop ((i+1))=xs.drop (i):=by
  rw[e1,List.drop_append_of_le_length qj,List.drop_of_length_le qj,List.nil_append]
 have M2:C2.length=C.length:=by rw[h2];simp[hv,uu];omega
 refine⟨M2,?_⟩;rw[h2,hv,show i+1=(i+1) from qg,List.take_append,List.take_of_length_le (by simp[hv,uu];omega)];rw[e2];congr 1;rw[←e3,List.drop_take];congr 1;simp[hv,lq];omega
theorem grow_take{α:Type}(R xs vs AE:L α)(i n:X)(hi:i≤n)(lq:xs.length=n)(hR:R=xs.take (i)++AE)(hZ:(n+1-i)≤AE.length)(hv:vs.length=1)(C1 C2:L α)(h1:C1=R.take (i)++vs++R.drop (i+vs.length))(h2:C2=C1.take ((i+1))++xs.drop (i)++C1.drop ((i+1)+(xs.drop (i)).length)):C2.length=R.length∧C2.take ((n+1))=xs.take (i)++vs++xs.drop (i):=by
 have F1:(xs.drop (i)).length=n-i:=by rw[List.length_drop,lq]
 have hRl:R.length=i+AE.length:=by rw[hR];simp[lq];omega
 have uu:C1.length=R.length:=by rw[h1];simp[hv];omega
 have e1:C1.take ((i+1))=xs.take (i)++vs:=by
  have:=Uy R vs (i) qg;rw[←h1,hv,show i+1=(i+1) from qg]at this;rw[this,hR,List.take_append_of_le_length (by simp[lq];omega),List.take_take,Nat.min_self]
 have e2:=Uy C1 (xs.drop (i)) ((i+1)) qg;rw[←h2,F1,show(i+1)+(n-i)=(n+1) from qg,e1]at e2;refine⟨?_,e2⟩;rw[h2];simp[F1,uu];omega
theorem one_drop(h:∀v∈xs,v.oneCell'=true)(k:X):∀v∈xs.drop k,v.oneCell'=true:=λv hv=>h v (List.mem_of_mem_drop hv)
/-! ### Text -/
theorem Tryz.size9:(prog.info? 9).map (·.size)=M 1:=qk
theorem Tryz.szrun9:∀w,(Go.sizeOf 9).run prog w=.ok 1 w:=λw=>by
 obtain⟨i0,hi,bq,bi,ci⟩:=info_parts Tryz.info9b;simp[sizeOf,typeInfo,hi,bi]
theorem Xj(g n c i vb:X)(cur:Array Z)(y:Z)(w:E)(hi:i<n)(Q3:n+1≤c)(zv:c≤maxLen)(hg:w.heap[g]?=M (O cur 9 (0,0)))(hcur:cur.size=c)(hb:w.heap[vb]?=M (O #[y] 9 (0,0)))(hvb:vb≠g)(h1c:∀v∈cur.toList.take (n),v.oneCell'=true)(h1v:∀v∈[y],v.oneCell'=true)(C1 C2:L Z)(e1:C1=cur.toList.take ((i+1))++(cur.toList.take (n)).drop (i)++cur.toList.drop ((i+1)+((cur.toList.take (n)).drop (i)).length))(e2:C2=C1.take (i)++[y]++C1.drop (i+[y].length)):Calls prog 181 #[J (p_ g) n c,I i,J (p_ vb) 1 1] w λe w'=>e=H (J (p_ g) (n+1) c)∧w'=(w.drew.setRow g C1.toArray).setRow g C2.toArray:=by
 unfold maxLen at zv;have F1:((cur.toList.take (n)).drop (i)).length=(n-i):=by rw[List.length_drop,List.length_take,Array.length_toList,hcur];omega
 have uu:C1.length=cur.size:=by rw[e1];simp[F1,hcur];omega
 have hov:∀lb cb,(callFunc 189 #[J (p_ vb) 1 1,J (M ⟨g,(i+1),N⟩) lb cb]).run prog w=.ok (.value (F false)) w:=λlb cb=>by
  rw[run_callFunc_extern func189 qk qk qk (e:=Extern.SlicesOverlaps.overlaps #[22,22] #[4]) qk,
   Lib.run_overlaps_apart w 22 4 9 underlying22 1 Tryz.szrun9 ⟨vb,0,N⟩ ⟨g,(i+1),N⟩ 1 1 lb cb hvb 9 9 1 cur.size (by simp[World.shape?,hb]) (by simp[World.shape?,hg]) qg (fH hb 0) (fH hb 1)]
  rfl
 have hcp1:∀ty dc sc,(Builtin.copy_ #[22,22] ty #[J (M ⟨g,(i+1),N⟩) (n-i) dc,J (M ⟨g,i,N⟩) (n+1-i) sc]).run prog w.drew=.ok (goInt ((n-i:X):Int)) (w.drew.setRow g C1.toArray):=λty dc sc=>by
  have h:=Im w.drew 22 22 ty 9 g ((i+1)) (n-i) dc ⟨g,i,N⟩ (n+1-i) sc cur 9 ((cur.toList.take (n)).drop (i)) underlying22 Tryz.size9 hg (by rw[F1];simp only[Nat.min_def];split<;>omega)
   (λj v hj=>by
     rw[Addr.add_lit,cH (w:=w.drew) (cs:=cur) (T:=9) (fr:=(0,0)) hg];rw[List.getElem?_drop,List.getElem?_take]at hj
     split at hj
     ·rw[←Array.getElem?_toList];exact hj
     ·cases hj) (by rw[F1];omega) (one_drop h1c _)
  rw[←e1,show Nat.min (n+1-i) (n-i)=n-i from qhf]at h;exact h
 obtain⟨W1,hW1⟩:∃W1,W1=w.drew.setRow g C1.toArray:=⟨_,rfl⟩;have hg1:W1.heap[g]?=M (O C1.toArray 9 (0,0)):=by rw[hW1];exact setRow_heap _ _ _ _ _ _ hg
 have ag:W1.heap[vb]?=M (O #[y] 9 (0,0)):=by rw[hW1,setRow_other _ _ _ _ hvb];exact hb
 have hcp2:∀ty dc,(Builtin.copy_ #[22,22] ty #[J (M ⟨g,i,N⟩) (n+1-i) dc,J (p_ vb) 1 1]).run prog W1=.ok (goInt 1) (W1.setRow g C2.toArray):=λty dc=>by
  have h:=Im W1 22 22 ty 9 g (i) (n+1-i) dc ⟨vb,0,N⟩ 1 1 C1.toArray 9 [y] underlying22 Tryz.size9 hg1 (by show 1=_;simp only[Nat.min_def];split<;>omega)
   (λj v hj=>by
     rw[Addr.add_lit,cH ag,Nat.zero_add];simpa using hj) (by simp[uu,hcur];omega) h1v
  rw[←e2,show Nat.min 1 (n+1-i)=1 from qhf]at h;exact h
 rw[←hW1]at hcp1 ⊢;have hzr:¬ ((c:Int)<(n:Int)+1):=qg;have Q1:IntKind.i64.wrap ((i:Int)+1)=(i:Int)+1:=qet;have Q0:IntKind.i64.wrap ((n:Int)+1)=(n:Int)+1:=qet;have hbb1:(0:Int)≤(i:Int)+1:=qg;have og:i≤n:=qg;have htn:((i:Int)+1).toNat=i+1:=qg;have htm:((n:Int)+1).toNat=n+1:=qg;have af:¬ (c=i+1):=qg;have au:(i:Int)≤(n:Int)+1:=qg;have bp:¬ (c=i):=qg;clear hg hb hg1 ag e1 e2 h1c h1v uu F1 hcur hW1;have mixed:prog.follows .mixedOrders=true:=qk;go_enter func181,ntmps181
 go_wp2_with (simp only[hov])
 go_region_law_o (refine step_copy_runI rfl _ _ 22 22 rfl _ _ qex qex (hcp1 _ _ _) ?_)
 go_wp2_with (at_builtin;refine wpList_copy_runI _ rfl _ _ 22 22 rfl _ _ rfl rfl (hcp2 _ _) ?_)
 go_ret;exact⟨rfl,rfl⟩
theorem insertX_grow(g n c i vb:X)(cur:Array Z)(xs:L Z)(y:Z)(w:E)(hi:i<n)(hnc:n≤c)(Q3:c<n+1)(hn:n≤1048576)(hg:w.heap[g]?=M (O cur 9 (0,0)))(ue:cur.toList.take (n)=xs)(lq:xs.length=n)(hb:w.heap[vb]?=M (O #[y] 9 (0,0)))(h1c:∀v∈xs,v.oneCell'=true)(h1v:∀v∈[y],v.oneCell'=true):Calls prog 181 #[J (p_ g) n c,I i,J (p_ vb) 1 1] w λe w'=>∃(AH:X)(C:L Z),e=H (J (p_ w.heap.size) (n+1) AH)∧n+1≤AH∧AH≤maxLen∧C.length=AH∧C.take ((n+1))=xs.take (i)++[y]++xs.drop (i)∧w'.heap[w.heap.size]?=M (O C.toArray 9 (0,0))∧w'.heap.size=w.heap.size+1∧(∀b,b<w.heap.size→w'.heap[b]?=w.heap[b]?)∧w'.os=w.os∧w'.tape=w.tape∧w'.output=w.output:=by
 obtain⟨i0,zr,bq,hzs,hzb⟩:=info_parts Tryz.info9b;have jg:(n:Int)+1-(i:Int)=((n+1-i:X):Int):=qg;have hik:i+(n+1-i)=n+1:=qg
 have ji:∀j v,xs[j]?=M v→∀W:E,W.heap[g]?=w.heap[g]?→W.cell? ⟨g,j,N⟩=M v:=λj v hj W hW=>by
  rw[cH (w:=W) (hW.trans hg),←Array.getElem?_toList];rw[←ue,List.getElem?_take]at hj
  split at hj
  ·exact hj
  ·cases hj
 have hold:(Builtin.firstCells i0.size i (J (p_ g) i c)).run prog w.drew=.ok (xs.take (i)).toArray w.drew:=by
  rw[hzs]
  exact run_firstCells_some w.drew 1 i ⟨g,0,N⟩ i c (xs.take (i)) (by rw[List.length_take];omega) (λj v hj=>by
   rw[Addr.add_lit,Nat.zero_add];rw[List.getElem?_take]at hj
   split at hj
   ·exact ji j v hj _ rfl
   ·cases hj)
 have hrz:∀ty,(Builtin.append_ #[22,3] ty #[J (p_ g) i c,I ((n:Int)+1-(i:Int))]).run prog w =
  .ok (J (p_ w.heap.size) (n+1) (grownCap w (n+1) c 9)) (w.drew.alloc (O ((xs.take (i)).toArray++Builtin.zeroCells ze.cells (n+1-i)++Builtin.zeroCells ze.cells (grownCap w (n+1) c 9-(n+1))) 9)):=λty=>by
  have h:=Lib.run_append_grow_zeros w 22 3 ty 9 i0 _ .i64 .i64 underlying22 underlying3 zr bq (p_ g) i c (xs.take (i)) hold (n+1-i) qg qg qg qg (by rw[hzb];omega) (by rw[hzb,hik];exact growslice_fits Q3 qg);rw[hik]at h;rw[jg];exact h
 obtain⟨AH,hG⟩:∃AH,AH=grownCap w (n+1) c 9:=⟨_,rfl⟩;have hGn:n+1≤AH:=by rw[hG];exact grownCap_ge w _ _ _
 have hGm:AH≤maxLen:=by rw[hG];exact grownCap_le_maxLen w (n+1) c 9 qq
 obtain⟨AE,hZ⟩:∃AE:L Z,AE=(Builtin.zeroCells ze.cells (n+1-i)).toList++(Builtin.zeroCells ze.cells (AH-(n+1))).toList:=⟨_,rfl⟩
 have hZl:AE.length=(AH-i):=by
  rw[hZ];simp[Builtin.zeroCells,Value.cells];omega
 obtain⟨R,hR⟩:∃R:L Z,R=xs.take (i)++AE:=⟨_,rfl⟩;have hRl:R.length=AH:=by rw[hR];simp[lq,hZl];omega
 have hROW:(xs.take (i)).toArray++Builtin.zeroCells ze.cells (n+1-i)++Builtin.zeroCells ze.cells (AH-(n+1))=R.toArray:=by
  apply Array.ext';rw[hR,hZ];simp
 rw[←hG,hROW]at hrz;obtain⟨C1,h1⟩:∃C1,C1=R.take (i)++[y]++R.drop (i+[y].length):=⟨_,rfl⟩;obtain⟨C2,h2⟩:∃C2,C2=C1.take ((i+1))++xs.drop (i)++C1.drop ((i+1)+(xs.drop (i)).length):=⟨_,rfl⟩;obtain⟨M2,ht2⟩:=grow_take R xs [y] AE i n qg lq hR (by rw[hZl];omega) rfl C1 C2 h1 h2;have uu:C1.length=AH:=by rw[h1];simp[hRl];omega
 have F1:(xs.drop (i)).length=(n-i):=by rw[List.length_drop,lq]
 have hvb:=Fp hb;have wz:=Fp hg;have hA:(w.alloc (O R.toArray 9)).heap[w.heap.size]?=M (O R.toArray 9 (0,0)):=Cr _ _
 have hcpA:∀(W:E),W.heap=(w.alloc (O R.toArray 9)).heap→∀ty dc,(Builtin.copy_ #[22,22] ty #[J (M ⟨w.heap.size,i,N⟩) (n+1-i) dc,J (p_ vb) 1 1]).run prog W=.ok (goInt 1) (W.setRow w.heap.size C1.toArray):=λW hW ty dc=>by
  have h:=Im W 22 22 ty 9 w.heap.size (i) (n+1-i) dc ⟨vb,0,N⟩ 1 1 R.toArray 9 [y] underlying22 Tryz.size9 (by rw[hW];exact hA) (by show 1=_;simp only[Nat.min_def];split<;>omega)
   (λj v hj=>by
     rw[Addr.add_lit,cH (w:=W) (cs:=#[y]) (T:=9) (fr:=(0,0)) (by rw[hW,Lib.alloc_old _ _ _ hvb];exact hb),Nat.zero_add];simpa using hj) (by simp[hRl];omega) h1v
  rw[←h1,show Nat.min 1 (n+1-i)=1 from qhf]at h;exact h
 have hcpB:∀(W:E),W.heap=((w.alloc (O R.toArray 9)).setRow w.heap.size C1.toArray).heap→∀ty dc sc,(Builtin.copy_ #[22,22] ty #[J (M ⟨w.heap.size,(i+1),N⟩) (n-i) dc,J (M ⟨g,i,N⟩) (n-i) sc]).run prog W=.ok (goInt ((n-i:X):Int)) (W.setRow w.heap.size C2.toArray):=λW hW ty dc sc=>by
  have h:=Im W 22 22 ty 9 w.heap.size ((i+1)) (n-i) dc ⟨g,i,N⟩ (n-i) sc C1.toArray 9 (xs.drop (i)) underlying22 Tryz.size9 (by rw[hW];exact setRow_heap _ _ _ _ _ _ hA) (by rw[F1];simp)
   (λj v hj=>by
     rw[Addr.add_lit];rw[List.getElem?_drop]at hj;exact ji _ v hj W (by rw[hW,setRow_other _ _ _ _ qg,Lib.alloc_old _ _ _ wz])) (by simp[uu,F1];omega) (one_drop h1c _)
  rw[←h2,show Nat.min (n-i) (n-i)=n-i from qi]at h;exact h
 have hcpA':=hcpA (w.alloc (O R.toArray 9)).drew rfl;have hcpB':=hcpB ((w.alloc (O R.toArray 9)).drew.setRow w.heap.size C1.toArray).drew rfl;clear hcpA hcpB
 have HX:Hd ((((w.alloc (O R.toArray 9)).drew.setRow w.heap.size C1.toArray).drew.setRow w.heap.size C2.toArray).heap[w.heap.size]?=M (O C2.toArray 9 (0,0))∧(((w.alloc (O R.toArray 9)).drew.setRow w.heap.size C1.toArray).drew.setRow w.heap.size C2.toArray).heap.size=w.heap.size+1∧∀b,b<w.heap.size→(((w.alloc (O R.toArray 9)).drew.setRow w.heap.size C1.toArray).drew.setRow w.heap.size C2.toArray).heap[b]?=w.heap[b]?):=by
  refine⟨setRow_heap _ _ _ _ _ _ (setRow_heap (w.alloc (O R.toArray 9)).drew _ _ C1.toArray _ _ hA),qi,λb Io=>?_⟩;rw[setRow_other _ _ _ _ qg];show((w.alloc (O R.toArray 9)).drew.setRow w.heap.size C1.toArray).heap[b]?=_;rw[setRow_other _ _ _ _ qg];exact Lib.alloc_old _ _ _ Io
 have HC2:Hd (C2.length=AH∧C2.take ((n+1))=xs.take (i)++[y]++xs.drop (i)):=⟨by rw[M2,hRl],ht2⟩;have hz3:(c:Int)<(n:Int)+1:=qg;have hGi:¬ (AH=i):=qg;have hGim:¬ (AH=i+1):=qg;have hci:¬ (c=i):=qg;have Q1:IntKind.i64.wrap ((i:Int)+1)=(i:Int)+1:=qet;have Q0:IntKind.i64.wrap ((n:Int)+1)=(n:Int)+1:=qet;have hbb1:(0:Int)≤(i:Int)+1:=qg;have htn:((i:Int)+1).toNat=i+1:=qg;have au:(i:Int)≤(n:Int):=qg;have mixed:prog.follows .mixedOrders=true:=qk;have HGM:=Ab hGm;clear jg hik hold hROW hG hRl hGm uu M2 ht2 h1 h2 hR hZ hZl hg hb ue ji hA h1c h1v F1;go_enter func181,ntmps181
 go_wp2_with (first
  | (at_builtin;refine Lib.wpList_append_run _ rfl _ _ _ _ rfl _ _ rfl rfl _ _ (hrz _) ?_)
  | (at_builtin;refine wpList_copy_runI _ rfl _ _ 22 22 rfl _ _ rfl rfl (hcpA' _ _) ?_))
 go_region_law_o (refine step_copy_runI rfl _ _ 22 22 rfl _ _ qex qex (hcpB' _ _ _) ?_)
 go_wp2;go_ret;exact⟨AH,C2,rfl,hGn,HGM.o,HC2.o.1,HC2.o.2,HX.o.1,HX.o.2.1,HX.o.2.2,rfl,rfl,rfl⟩
theorem insertX_end(B n vb:X)(v:Z)(xs:L Z)(y:Z)(w:E)(ho:w.ownsRow B 9 1 v n xs)(hB:B≤w.heap.size)(hn:n≤5000)(hb:w.heap[vb]?=M (O #[y] 9 (0,0)))(h1v:∀u∈[y],u.oneCell'=true):Calls prog 181 #[v,I n,J (p_ vb) 1 1] w λe w'=>∃g' cp,e=H (J (p_ g') (n+1) cp)∧w'.ownsRow B 9 1 (J (p_ g') (n+1) cp) (n+1) (xs++[y])∧Below B w w'∧Ej v.ownBlock w w'∧(v.ownBlock=M g'∨g'=w.heap.size):=by
 obtain⟨i0,hi,bq,bi,ci⟩:=info_parts Tryz.info9b;have HB:Hd (∀(g' cp:X)(w2:E),w2.ownsRow B 9 1 (J (p_ g') (n+1) cp) (n+1) (xs++[y])→w.grownBy w2 v.ownBlock→Below B w w2∧Ej v.ownBlock w w2):=λg' cp w2 k1 k2=>⟨(Below.refl _ _).grown k2 hB (λk hk=>(ho.lt k hk).1),λb hl hne=>k2.block b hl hne⟩;have HN:Hd (∀j u,[y][j]?=M u→w.cell? ((⟨vb,0,N⟩:Addr).add j)=M u):=World.news_of_block (cs:=#[y]) (t:=9) (fr:=(0,0)) hb;have HO:=Ab ho
 rcases Db ho with⟨rfl,rfl⟩|⟨g,c,rfl⟩
 ·clear hb ho
  exact qfb
 ·have pz:n≤c∧c≤maxLen:=by
   rcases ho.2 with⟨h,_⟩|⟨g',c',cur,hv,_,_,h1,h2,_⟩
   ·cases h
   ·cases hv;exact⟨h1,h2⟩
  obtain⟨V5,hc2⟩:=pz;unfold maxLen at hc2;clear hb ho
  by_cases Q9:c=n
  ·subst Q9
   exact qfb
  ·exact qfb
theorem Sp(B n i vb:X)(v:Z)(xs:L Z)(y:Z)(w:E)(ho:w.ownsRow B 9 1 v n xs)(hB:B≤w.heap.size)(hi:i≤n)(hn:n≤5000)(hb:w.heap[vb]?=M (O #[y] 9 (0,0)))(hne:v.ownBlock≠M vb)(h1c:∀u∈xs,u.oneCell'=true)(h1v:∀u∈[y],u.oneCell'=true):Calls prog 181 #[v,I i,J (p_ vb) 1 1] w λe w'=>∃g' cp,e=H (J (p_ g') (n+1) cp)∧w'.ownsRow B 9 1 (J (p_ g') (n+1) cp) (n+1) (xs.take (i)++[y]++xs.drop (i))∧Below B w w'∧Ej v.ownBlock w w'∧(v.ownBlock=M g'∨g'=w.heap.size):=by
 have lq:xs.length=n:=zo ho.1
 rcases Nat.lt_or_ge i n with ai|hge
 ·rcases ho.2 with⟨_,h0⟩|⟨g,c,cur,rfl,hg,hh,h1,h2,h3,h4⟩
  ·omega
  ·rw[Nat.mul_one]at h3 h4
   have hvb:vb≠g:=λe=>hne (by rw[e];rfl);have hgl:=Fp hh
   rcases Nat.lt_or_ge c (n+1)with hr|hr
   ·refine(insertX_grow g n c i vb cur xs y w ai h1 hr qg hh h4 lq hb h1c h1v).mono ?_
    rintro e w' ⟨AH,C,rfl,k1,k2,k3,k4,k5,k6,k7,k8,k9,k10⟩;refine⟨_,AH,rfl,⟨by simp[lq];omega,Or.inr ⟨w.heap.size,AH,C.toArray,rfl,hB,k5,k1,k2,by simpa using k3,by simpa using k4⟩⟩,⟨k8,k9,k10,qg,λb hbb=>k7 b qg⟩,λb hl _=>k7 b hl,Or.inr rfl⟩
   ·refine(Xj g n c i vb cur y w ai hr h2 hh h3 hb hvb (by rw[h4];exact h1c) h1v _ _ rfl rfl).mono ?_
    rintro e w' ⟨rfl,rfl⟩;rw[h4];obtain⟨l2,t2⟩:=shift_take cur.toList xs [y] i n hi h4 (by rw[Array.length_toList,h3];omega) rfl _ _ rfl rfl;refine⟨g,c,rfl,⟨by simp[lq];omega,Or.inr ⟨g,c,_,rfl,hg,setRow_heap _ _ _ _ _ _ (setRow_heap w.drew _ _ _ _ _ hh),hr,h2,?_,by simpa using t2⟩⟩,?_,?_,Or.inl rfl⟩
    ·rw[List.size_toArray,l2,Array.length_toList,Nat.mul_one];exact h3
    ·exact below_setRow (below_setRow (Below.refl _ _).drew hg _) hg _
    ·intro b hl hne'
     have hbg:b≠g:=λe=>hne' (by rw[e];rfl);rw[setRow_other _ _ _ _ hbg,setRow_other _ _ _ _ hbg];rfl
 ·obtain rfl:i=n:=qg
  refine(insertX_end B i vb v xs y w ho hB hn hb h1v).mono ?_;rintro e w' ⟨g',cp,rfl,k1,k2,k3,k4⟩;refine⟨g',cp,rfl,?_,k2,k3,k4⟩;rw[List.take_of_length_le qg,List.drop_of_length_le qg,List.append_nil];exact k1
structure Wm (n:X) (ts:L By) (t:By) (r:X):Prop where
 le:r≤ts.length
 lo:∀j,j<r→Ax (Ap n (nx ts j)) t=true
 hi:r<ts.length→Ax (Ap n (nx ts r)) t=false
theorem Ue(a:Option Addr)(cap:X)(l:L By)(t:By)(w:E)(In:Cu w a l)(hl:l.length≤1048576)(fc:Hf l):Calls prog 120 #[J a l.length cap,S t] w λe w'=>w=w'∧∃(r:X)(b:Bool),e=H (.tuple #[I r,F b])∧r≤l.length∧(∀j,j<r→Ax (nx l j) t=true)∧(∀j,r≤j→j<l.length→Ax (nx l j) t=false)∧((b=true∧r<l.length∧nx l r=t)∨(b=false∧¬ (r<l.length∧nx l r=t))):=by
 have jt:=Ab fc;have hc:∀i,i<l.length→∃b off,a=M ⟨b,off,N⟩∧w.cell? ⟨b,off+i,N⟩=M (S (nx l i)):=λi hi=>In i hi;clear fc In;go_enter func120,ntmps120;go_wp2
 go_loopw [7,8] (λi j wr=>∃lo hi:X,i=I lo∧j=I hi∧lo≤hi∧hi≤l.length∧Hd (∀j,j<lo→Ax (nx l j) t=true)∧Hd (∀j,hi≤j→j<l.length→Ax (nx l j) t=false)∧w=wr) (λi j _=>(intOf j).toNat-(intOf i).toNat)
 case atStart=>exact⟨0,l.length,rfl,rfl,Nat.zero_le _,Nat.le_refl _,(λj hj=>by omega:∀j,j<0→Ax (nx l j) t=true),(λj h1 h2=>by omega:∀j,l.length≤j→j<l.length→Ax (nx l j) t=false),rfl⟩
 case round=>
  obtain⟨lo,hi,rfl,rfl,h1,h2,HL,HH,rfl⟩:=hrel
  by_cases ai:lo<hi
  ·exact qic
  ·obtain rfl:lo=hi:=qg
   by_cases yq:lo<l.length
   ·obtain⟨b,off,rfl,c1⟩:=hc lo yq
    have hlI:(lo:Int)<(l.length:Int):=qg
    by_cases he:nx l lo=t
    ·have jh:=Fk he
     have HE:=Ab he;clear hc he;generalize nx l lo=s at c1 jh;go_wp2
     go_ret2
     exact⟨rfl,lo,true,rfl,h2,HL.o,HH.o,Or.inl ⟨rfl,yq,HE.o⟩⟩
    ·have jh:=Hi he
     have HE:=Ab he;clear hc he;have hss:=Fk (rfl:nx l lo=nx l lo);generalize nx l lo=s at c1 jh hss;go_wp2
     go_ret2
     exact⟨rfl,lo,false,rfl,h2,HL.o,HH.o,Or.inr ⟨rfl,λh=>HE.o h.2⟩⟩
   ·have hlI:¬ (lo:Int)<(l.length:Int):=qg
    have G6:=Ab yq;go_wp2
    go_ret2
    exact⟨rfl,lo,Or.inl ⟨rfl,h2,HL.o,HH.o,λh=>absurd h G6.o⟩⟩
theorem Ra(a:Option Addr)(cap:X)(l:L By)(t:By)(w:E)(In:Cu w a l)(hl:l.length≤1048576)(fc:Hf l):Calls prog 120 #[J a l.length cap,S t] w λe w'=>w=w'∧∃(r:X)(b:Bool),e=H (.tuple #[I r,F b])∧((b=true∧r<l.length∧nx l r=t)∨(b=false∧¬ El l t)):=by
 have jt:=Ab fc;have hc:∀i,i<l.length→∃b off,a=M ⟨b,off,N⟩∧w.cell? ⟨b,off+i,N⟩=M (S (nx l i)):=λi hi=>In i hi;clear fc In;go_enter func120,ntmps120;go_wp2
 go_loopw [7,8] (λi j wr=>∃lo hi:X,i=I lo∧j=I hi∧lo≤hi∧hi≤l.length∧Hd (∀j,j<lo→Ax (nx l j) t=true)∧Hd (∀j,hi≤j→j<l.length→Ax (nx l j) t=false)∧w=wr) (λi j _=>(intOf j).toNat-(intOf i).toNat)
 case atStart=>exact⟨0,l.length,rfl,rfl,Nat.zero_le _,Nat.le_refl _,(λj hj=>by omega:∀j,j<0→Ax (nx l j) t=true),(λj h1 h2=>by omega:∀j,l.length≤j→j<l.length→Ax (nx l j) t=false),rfl⟩
 case round=>
  obtain⟨lo,hi,rfl,rfl,h1,h2,HL,HH,rfl⟩:=hrel
  by_cases ai:lo<hi
  ·exact qic
  ·obtain rfl:lo=hi:=qg
   by_cases yq:lo<l.length
   ·obtain⟨b,off,rfl,c1⟩:=hc lo yq
    have hlI:(lo:Int)<(l.length:Int):=qg
    by_cases he:nx l lo=t
    ·have jh:=Fk he
     have HE:=Ab he;clear hc he;generalize nx l lo=s at c1 jh;go_wp2
     go_ret2
     exact⟨rfl,lo,true,rfl,Or.inl ⟨rfl,yq,HE.o⟩⟩
    ·have jh:=Hi he
     have HE:=Ab he;clear hc he;have hss:=Fk (rfl:nx l lo=nx l lo);generalize nx l lo=s at c1 jh hss;go_wp2
     go_ret2
     exact⟨rfl,lo,false,rfl,Or.inr ⟨rfl,λh=>HE.o (Nk jt.o HL.o HH.o h).2⟩⟩
   ·have hlI:¬ (lo:Int)<(l.length:Int):=qg
    have G6:=Ab yq;go_wp2
    go_ret2
    exact⟨rfl,lo,Or.inl ⟨rfl,λh=>G6.o (Nk jt.o HL.o HH.o h).1⟩⟩
def Gh(n:X)(ts:L By)(t A:By)(ok:Bool):Prop:=(ok=true∧∃i,i<ts.length∧Ap n (nx ts i)=t∧A=nx ts i)∨(ok=false∧A=⟨#[]⟩∧¬ El (ts.map (Ap n)) t)
theorem has_sums{n:X}{t:By}{i:X}(h:i<ts.length)(e:Ap n (nx ts i)=t):El (ts.map (Ap n)) t:=⟨i,by rw[List.length_map];exact h,by rw[Hj n ts i h];exact e⟩
theorem Gh.unique{n:X}{t A A':By}{ok ok':Bool}(ha:Hf (ts.map (Ap n)))(h:Gh n ts t A ok)(h':Gh n ts t A' ok'):A'=A∧ok'=ok:=by
 rcases h with⟨rfl,i,h1,h2,rfl⟩|⟨rfl,rfl,h1⟩<;>rcases h' with⟨rfl,j,k1,k2,rfl⟩|⟨rfl,rfl,k1⟩
 ·have:i=j:=by
   have hs:∀i,i<ts.length→nx (ts.map (Ap n)) i=Ap n (nx ts i):=λi h=>Hj n ts i h
   rcases Nat.lt_trichotomy i j with n9|n9|n9
   ·have:=ha.pair n9 (by rw[List.length_map];exact k1)
    rw[hs i h1,hs j k1,h2,k2,Fc]at this;cases this
   ·exact n9
   ·have:=ha.pair n9 (by rw[List.length_map];exact h1)
    rw[hs i h1,hs j k1,h2,k2,Fc]at this;cases this
  subst this;exact⟨rfl,rfl⟩
 ·exact absurd (has_sums h1 h2) k1
 ·exact absurd (has_sums k1 k2) h1
 ·exact⟨rfl,rfl⟩
def Hg(ts:L By)(x:By)(r:X):L By:=ts.take r++[x]++ts.drop r
theorem Ix(ts:L By)(x:By)(r:X)(h:r≤ts.length):(Hg ts x r).length=ts.length+1:=by simp[Hg];omega
theorem Qr(ts:L By)(x:By)(r:X):(Hg ts x r).map Value.string=(ts.map Value.string).take r++[S x]++(ts.map Value.string).drop r:=by simp[Hg,List.map_take,List.map_drop]
def Jm(n:X)(ts:L By)(x:By)(r:X):Prop:=r<ts.length∧Ap n (nx ts r)=Ap n x
theorem Gz(h:Av is=true):1≤is.length∧is.length≤200:=by
 unfold Av at h;simp only[Bool.and_eq_true,decide_eq_true_eq]at h;exact⟨h.1.1,h.1.2⟩
theorem Hn(h:w.heap[b]?=M (O #[v1,v2,v3,v4,v5,v6] T (0,0))):w.cell? ⟨b,0,N⟩=M v1∧w.cell? ⟨b,1,N⟩=M v2∧w.cell? ⟨b,2,N⟩=M v3∧w.cell? ⟨b,3,N⟩=M v4∧w.cell? ⟨b,4,N⟩=M v5∧w.cell? ⟨b,5,N⟩=M v6:=
 ⟨qao,qao,qao,qao,qao,qao⟩
theorem Ja{R:X}(h:Below B w w')(hR:B≤R)(u1 u2 u3 u4 u5 u6:Z):Below B w ((((((w'.setCell ⟨R,0,N⟩ u1).setCell ⟨R,1,N⟩ u2).setCell ⟨R,2,N⟩ u3).setCell ⟨R,3,N⟩ u4).setCell ⟨R,4,N⟩ u5).setCell ⟨R,5,N⟩ u6):=
 (((((h.setCell (p:=⟨R,0,N⟩) hR _).setCell (p:=⟨R,1,N⟩) hR _).setCell (p:=⟨R,2,N⟩) hR _).setCell (p:=⟨R,3,N⟩) hR _).setCell (p:=⟨R,4,N⟩) hR _).setCell (p:=⟨R,5,N⟩) hR _
structure ShG (w:E) (g lo hi n:X) (sv tv qv:Z) (ss ts:L By) (rs:L T3):Prop where
 blk:w.heap[g]?=M (O #[I (n:Int),tv,qv,sv] 136 (0,0))
 sx:Ds w lo hi sv ss
 tx:Ds w lo hi tv ts
 qs:Hr w lo hi qv rs
 ne:∀b,sv.ownBlock=M b→tv.ownBlock≠M b
def ShO(w:E)(g lo hi n:X)(sv tv qv:Z)(ts:L By)(rs:L T3):Prop:=ShG w g lo hi n sv tv qv (ts.map (Ap n)) ts rs
theorem ShG.bl{n:X}{tv qv:Z}(h:ShG w g lo hi n sv tv qv ss ts rs)(hb:Bw w w'):ShG w' g lo hi n sv tv qv ss ts rs:=⟨Af h.blk hb,h.sx.bl hb,h.tx.bl hb,h.qs.bl hb,h.ne⟩
theorem Kk(h:w.heap[b]?=M (O #[v1,v2,v3,v4] T (0,0))):w.cell? ⟨b,0,N⟩=M v1∧w.cell? ⟨b,1,N⟩=M v2∧w.cell? ⟨b,2,N⟩=M v3∧w.cell? ⟨b,3,N⟩=M v4∧∀j,w.frozen? ⟨b,j,N⟩=false:=by
 refine⟨?_,?_,?_,?_,λj=>fH h j⟩<;>rw[cH h]<;>rfl
theorem blk4_set3(hz:w.heap[P]?=M (O #[x,y,z,t] T (0,0)))(u1 u2 u3:Z):(((w.setCell ⟨P,0,N⟩ u1).setCell ⟨P,1,N⟩ u2).setCell ⟨P,2,N⟩ u3).heap[P]?=M (O #[u1,u2,u3,t] T (0,0)):=by
 rw[jB (jB (jB hz u1) u2) u3];rfl
theorem blk4_s3(hz:w.heap[P]?=M (O #[x,y,z,t] T (0,0)))(u:Z):(w.setCell ⟨P,3,N⟩ u).heap[P]?=M (O #[x,y,z,u] T (0,0)):=by
 rw[jB hz u];rfl
theorem blk4_s1(hz:w.heap[P]?=M (O #[x,y,z,t] T (0,0)))(u:Z):(w.setCell ⟨P,1,N⟩ u).heap[P]?=M (O #[x,u,z,t] T (0,0)):=by
 rw[jB hz u];rfl
theorem below_set3P(hb:Below B w w')(h:B≤b)(v0 v1 v2:Z):Below B w (((w'.setCell ⟨b,0,N⟩ v0).setCell ⟨b,1,N⟩ v1).setCell ⟨b,2,N⟩ v2):=
 ((hb.setCell (p:=⟨b,0,N⟩) h _).setCell (p:=⟨b,1,N⟩) h _).setCell (p:=⟨b,2,N⟩) h _
theorem map_insX(n:X)(ts:L By)(x:By)(r:X):(Hg ts x r).map (Ap n)=Hg (ts.map (Ap n)) (Ap n x) r:=by simp[Hg,List.map_take,List.map_drop]
def Ji(n:X)(ts:L By)(x:By)(r:X)(cd:Int)(ts':L By)(A B:By):Prop:=
 (Jm n ts x r∧nx ts r≠x∧cd=2∧ts'=ts∧A=nx ts r∧B=x)∨
 (Jm n ts x r∧nx ts r=x∧cd=0∧ts'=ts∧A=⟨#[]⟩∧B=⟨#[]⟩)∨
 (¬ Jm n ts x r∧5000≤ts.length∧cd=3∧ts'=ts∧A=⟨#[]⟩∧B=⟨#[]⟩)∨
 (¬ Jm n ts x r∧¬ 5000≤ts.length∧cd=0∧ts'=Hg ts x r∧A=⟨#[]⟩∧B=⟨#[]⟩)

end Go.Proofs.YtnflkpmmfpfhlaaGreatDoor
