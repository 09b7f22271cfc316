import Derived.Test.YtbkkjodaaijimaaGreatDoorTImI
import Derived.Test.YtbkkjodaaijimaaGreatDoorVsA
namespace Go.Proofs.YtbkkjodaaijimaaGreatDoor
open _root_.Go.Proofs.Tryz Go.RowKit Go.Deep
open Value renaming slice->J,string->S
open Option renaming some->M,none->N
open Go renaming Value->Z,World->E
open _root_ renaming List->L,Nat->X
set_option linter.unusedVariables false
set_option linter.unusedSimpArgs false
variable {w w' W:E} {B e sz n b j lo k T:X} {xs ys:L Z} {cv:X->Z} {ss:L S2} {l:L T2} {s:T2}





theorem Cx{g cap:X}(h:w.ownsRow B e sz (J (p_ g) n cap) n xs)(hb:b≠g)(v:Z):(w.setCell ⟨b,j,N⟩ v).ownsRow B e sz (J (p_ g) n cap) n xs:=by
 refine⟨h.1,?_⟩
 rcases h.2 with⟨h2,_⟩|⟨g',cap,cur,hv,hg,hh,r⟩
 ·cases h2
 ·exact qkf
def insJ(is:L I3)(j:X):Z:=if j % 3=0 then I (ix is (j / 3)).op else if j % 3=1 then S (ix is (j / 3)).text else I (ix is (j / 3)).n
def Di(is:L I3):L Z:=(List.range (is.length*3)).map (insJ is)
theorem Iq(is:L I3):(Di is).length=is.length*3:=by simp[Di]
theorem Pq(is:L I3)(j:X)(h:j<is.length*3):(Di is)[j]?=M (insJ is j):=by
 unfold Di
 rw[List.getElem?_map,List.getElem?_range h];rfl
theorem Kl(is:L I3):Ck is is.length (Di is):=by
 intro i hi
 rw[Pq is _ qb,Pq is _ qb,Pq is _ qb]
 unfold insJ
 exact qis
theorem Pp(is:L I3):∀u∈Di is,u.oneCell'=true:=by
 intro u hu
 obtain⟨j,_,rfl⟩:=List.mem_map.mp hu
 unfold insJ
 split
 ·rfl
 ·split<;>rfl
theorem Ns{off:X}{is:L I3}(h:Bu w (M ⟨b,off,N⟩) is):∀j u,(Di is)[j]?=M u->w.cell? ((⟨b,off,N⟩:Addr).add j)=M u:=by
 intro j u hu
 rw[Addr.add_lit]
 have hj:j<is.length*3:=by
  rcases Nat.lt_or_ge j (is.length*3)with h|h
  ·exact h
  ·rw[List.getElem?_eq_none (by rw[Iq];exact h)]at hu;cases hu
 rw[Pq is j hj]at hu
 obtain rfl:=Option.some.inj hu
 obtain⟨b',bp,ha,c1,c2,c3⟩:=h (j / 3) qb
 cases ha
 unfold insJ
 split
 ·rename_i hm
  rw[show off+j=off+j / 3*3 from qb];exact c1
 ·split
  ·rename_i hm
   rw[show off+j=off+j / 3*3+1 from qb];exact c2
  ·rw[show off+j=off+j / 3*3+2 from qb];exact c3
theorem Tryz.info165b:(prog.info? 143).map (λi=>(i.zero,i.size,i.bytes))=M (M (.agg #[I 0,ze,I 0]),3,32):=qi
theorem Ey.bl{is:L T2}(h:Ey w lo is k xs cv)(hb:Bw w w'):Ey w' lo is k xs cv:=h.same λb _ hl=>hb.block b hl


theorem Dl{p:Addr}{v:Z}{o:Obj}(h:w.cell? p=M v):(w.alloc o).cell? p=M v:=qfp
theorem sx_get(h:k<ss.length):sx ss k=ss[k]:=by simp[sx,gG,h]
theorem tx_old{i:X}(h:i<l.length):tx (l++[s]) i=tx l i:=by
 unfold tx
 rw[gG,gG,List.getElem?_append_left h]
theorem tx_new:tx (l++[s]) l.length=s:=by
 unfold tx
 rw[gG,List.getElem?_append_right (Nat.le_refl _)]
 simp
theorem Ey.ext(h:Ey w lo l l.length xs cv):Ey w lo (l++[s]) l.length xs cv:=
 ⟨λi hi=>by rw[tx_old hi];exact h.fil i hi,λi hi=>by rw[tx_old hi];exact h.code i hi,h.apart⟩
theorem Ey.app{w2:E}(h:Ey w lo l l.length xs cv)(hx:xs.length=l.length*2)(hb:Bw w w2)(hl:lo<=w.heap.size){c:Z}(ho:w2.ownsRow w.heap.size 143 3 c s.code.length ys)(hf:Ck s.code s.code.length ys):Ey w2 lo (l++[s]) (l.length+1) (xs++[S s.name,c]) (λi=>if i=l.length then c else cv i):=by
 refine(h.ext (s:=s)).add hb hl (ys:=ys) (by rw[tx_new];exact ho) (by rw[tx_new];exact hf) (λj hj=>List.getElem?_append_left qb) ?_ ?_
 ·rw[List.getElem?_append_right qb,hx,Nat.sub_self,tx_new];rfl
 ·rw[List.getElem?_append_right qb,hx,show l.length*2+1-l.length*2=1 from qb];rfl
theorem Qn{B' e' P2 n':X}{v u:Z}(h:W.ownsRow B e sz v n xs)(hu:W.ownsRow B' e' P2 u n' ys)(hne:e≠e')(hg:W.grownBy w' u.ownBlock):w'.ownsRow B e sz v n xs:=
 Al h λb eb=>hg.block b (h.lt b eb).2 (λe'=>Px h hu hne b eb e'.symm)


def Qc(l:L S2):L Z:=l.flatMap λs=>[S s.name,S s.text]
theorem Qx(l:L S2):(Qc l).length=l.length*2:=by
 induction l with
 | nil=>rfl
 | cons s l ih=>simp[Qc]at ih ⊢;omega
theorem Qaj(l m:L S2):Qc (l++m)=Qc l++Qc m:=by simp[Qc]
theorem Qai(l:L S2):Kq l l.length (Qc l):=by
 intro i hi
 have e:l=l.take i++(l[i]::l.drop (i+1)):=by rw[<- List.drop_eq_getElem_cons hi,List.take_append_drop]
 have hl:(Qc (l.take i)).length=i*2:=by rw[Qx,List.length_take];omega
 have hs:Qc l=Qc (l.take i)++(S l[i].name::S l[i].text::Qc (l.drop (i+1))):=by
  conv=>lhs;rw[e]
  rw[Qaj];rfl
 rw[hs,List.getElem?_append_right qb,List.getElem?_append_right qb,hl,Nat.sub_self,show i*2+1-i*2=1 from qb,sx_get hi]
 exact⟨rfl,rfl⟩
theorem filled_srcV{l:L S2}(h:Kq l l.length xs)(hl:xs.length=l.length*2):xs=Qc l:=by
 apply List.ext_getElem?
 intro j
 have hf:=Qai l
 rcases Nat.lt_or_ge j (l.length*2)with hj|hj
 ·obtain⟨a1,a2⟩:=h (j / 2) qb;obtain⟨b1,b2⟩:=hf (j / 2) qb
  rcases Nat.mod_two_eq_zero_or_one j with hm|hm
  ·rw[show j=j / 2*2 from qb,a1,b1]
  ·rw[show j=j / 2*2+1 from qb,a2,b2]
 ·rw[List.getElem?_eq_none qb,List.getElem?_eq_none (by rw[Qx];omega)]
theorem Gm.v{hi:X}{v:Z}(h:Gm w lo hi v ss):Bg w lo hi 96 2 v ss.length (Qc ss):=by
 obtain⟨xs,h1,h2⟩:=h
 rw[<- filled_srcV h2 h1.own.1];exact h1
def Cv(w:E)(b T:X):Prop:=∃cs,w.heap[b]?=M (.cells cs T (0,0))
theorem Cv.set{c:X}(h:Cv w b T)(u:Z):Cv (w.setCell ⟨c,j,N⟩ u) b T:=by
 obtain⟨cs,h⟩:=h
 by_cases e:b=c
 ·subst e;exact⟨_,by rw[jB h]⟩
 ·exact⟨cs,by rw[hC w ⟨c,j,N⟩ u b e];exact h⟩
theorem Cv.ne{v:Z}(h:Cv w b T)(ho:w.ownsRow B e sz v n xs)(hne:T≠e):v.ownBlock≠M b:=by
 obtain⟨cs,h⟩:=h
 intro eb
 rcases ho.2 with⟨rfl,_⟩|⟨g,cap,cur,rfl,hg,hh,_⟩
 ·simp[Value.ownBlock]at eb
 ·simp only[Value.ownBlock,Option.some.injEq]at eb;rw[eb,h]at hh;simp at hh;exact hne hh.2
theorem Ao{v:Z}(ho:w.ownsRow B e sz v n xs)(h:Cv w b T)(hne:T≠e)(u:Z):(w.setCell ⟨b,j,N⟩ u).ownsRow B e sz v n xs:=
 Al ho λc ec=>hC w ⟨b,j,N⟩ u c (λe'=>h.ne ho hne (by rw[ec,e']))
structure TC where
 t:T2
 c:Z

def cx(l:L TC)(i:X):TC:=l.getD i ⟨⟨ByteArray.empty,[]⟩,nS⟩
section
variable {w w' W:E} {lo:X} {v1 v2 nv:Z} {l1:L S2} {l2:L TC}
end
theorem Br{W':E}{row:Option X}{o:Obj}(h:W.heap[b]?=M o)(hg:W.grownBy W' row)(hne:row≠M b):W'.heap[b]?=M o:=by rw[hg.block b (El h) (λe=>hne e.symm)];exact h
theorem Fi{c:X}{o:Obj}(h:W.heap[b]?=M o)(hne:b≠c)(u:Z):(W.setCell ⟨c,j,N⟩ u).heap[b]?=M o:=by rw[hC W ⟨c,j,N⟩ u b hne];exact h
theorem Ie{v:Z}(h:w.heap[b]?=M (.cells #[v] T (0,0))):w.cell? ⟨b,0,N⟩=M v:=qag
section
variable {V V':E} {P lo:X} {v1 v2 nv:Z} {l1:L S2} {l2:L TC}
end
theorem Dn{o:Obj}{Q:E->Prop}(h:∀wN,Bw W wN->Hd (wN.heap[W.heap.size]?=M o)->Q wN):Q (W.alloc o):=h _ (aN _ _) (Ch _ _)
theorem Mz{v:Z}(h:w.ownsRow B e sz v n xs)(hne:v≠nS):∃g cp,v=J (p_ g) n cp:=by
 rcases h.2 with⟨q,_⟩|⟨g,cap,cur,q,_⟩
 ·exact absurd q hne
 ·exact⟨g,cap,q⟩
end Go.Proofs.YtbkkjodaaijimaaGreatDoor
