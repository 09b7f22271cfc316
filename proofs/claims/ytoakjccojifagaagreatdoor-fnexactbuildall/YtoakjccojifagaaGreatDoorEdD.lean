import Derived.Test.YtoakjccojifagaaGreatDoorTImI
import Derived.Test.YtoakjccojifagaaGreatDoorVsA
namespace Go.Proofs.YtoakjccojifagaaGreatDoor
open _root_.Go.Proofs.Tryz Go.RowKit Go.Deep
open Value renaming slice->J
open Option renaming some->M,none->N
open Go renaming Value->Z,World->E
open _root_ renaming List->L,Nat->X
set_option linter.unusedVariables false
set_option linter.unusedSimpArgs false
variable {w W:E} {B e sz n b j T:X} {xs:L Z} {v:Z}





theorem Dd{g cap:X}(h:w.ownsRow B e sz (J (p_ g) n cap) n xs)(hb:b≠g)(v:Z):(w.setCell ⟨b,j,N⟩ v).ownsRow B e sz (J (p_ g) n cap) n xs:=by
 refine⟨h.1,?_⟩
 rcases h.2 with⟨h2,_⟩|⟨g',cap,cur,hv,hg,hh,r⟩
 ·cases h2
 ·exact qkt
def insJ(is:L I3)(j:X):Z:=if j % 3=0 then I (ix is (j / 3)).op else if j % 3=1 then .string (ix is (j / 3)).text else I (ix is (j / 3)).n
def Dp(is:L I3):L Z:=(List.range (is.length*3)).map (insJ is)
theorem Iy(is:L I3):(Dp is).length=is.length*3:=by simp[Dp]
theorem Qh(is:L I3)(j:X)(h:j<is.length*3):(Dp is)[j]?=M (insJ is j):=by
 unfold Dp
 rw[List.getElem?_map,List.getElem?_range h];rfl
theorem Ks(is:L I3):Ct is is.length (Dp is):=by
 intro i hi
 rw[Qh is _ qb,Qh is _ qb,Qh is _ qb]
 unfold insJ
 exact qjj
theorem Qg(is:L I3):∀u∈Dp is,u.oneCell'=true:=by
 intro u hu
 obtain⟨j,_,rfl⟩:=List.mem_map.mp hu
 unfold insJ
 split
 ·rfl
 ·split<;>rfl
theorem Nv{off:X}{is:L I3}(h:Ch w (M ⟨b,off,N⟩) is):∀j u,(Dp is)[j]?=M u->w.cell? ((⟨b,off,N⟩:Addr).add j)=M u:=by
 intro j u hu
 rw[Addr.add_lit]
 have hj:j<is.length*3:=by
  rcases Nat.lt_or_ge j (is.length*3)with h|h
  ·exact h
  ·rw[List.getElem?_eq_none (by rw[Iy];exact h)]at hu;cases hu
 rw[Qh is j hj]at hu
 obtain rfl:=Option.some.inj hu
 obtain⟨b',br,ha,c1,c2,c3⟩:=h (j / 3) qb
 cases ha
 unfold insJ
 split
 ·rename_i hm
  rw[show off+j=off+j / 3*3 from qb];exact c1
 ·split
  ·rename_i hm
   rw[show off+j=off+j / 3*3+1 from qb];exact c2
  ·rw[show off+j=off+j / 3*3+2 from qb];exact c3
theorem Tryz.info165b:(prog.info? 139).map (λi=>(i.zero,i.size,i.bytes))=M (M (.agg #[I 0,ze,I 0]),3,32):=qi



theorem Ds{p:Addr}{o:Obj}(h:w.cell? p=M v):(w.alloc o).cell? p=M v:=qgk
theorem Rd{w':E}{B' e' sz' n':X}{u:Z}{ys:L Z}(h:W.ownsRow B e sz v n xs)(hu:W.ownsRow B' e' sz' u n' ys)(hne:e≠e')(hg:W.grownBy w' u.ownBlock):w'.ownsRow B e sz v n xs:=
 Al h λb eb=>hg.block b (h.lt b eb).2 (λe'=>Ra h hu hne b eb e'.symm)



def Dn(w:E)(b T:X):Prop:=∃cs,w.heap[b]?=M (.cells cs T (0,0))
theorem Dn.set{c:X}(h:Dn w b T)(u:Z):Dn (w.setCell ⟨c,j,N⟩ u) b T:=by
 obtain⟨cs,h⟩:=h
 by_cases e:b=c
 ·subst e;exact⟨_,by rw[jB h]⟩
 ·exact⟨cs,by rw[Dj w ⟨c,j,N⟩ u b e];exact h⟩
theorem Dn.ne(h:Dn w b T)(ho:w.ownsRow B e sz v n xs)(hne:T≠e):v.ownBlock≠M b:=by
 obtain⟨cs,h⟩:=h
 intro eb
 rcases ho.2 with⟨rfl,_⟩|⟨g,cap,cur,rfl,hg,hh,_⟩
 ·simp[Value.ownBlock]at eb
 ·simp only[Value.ownBlock,Option.some.injEq]at eb;rw[eb,h]at hh;simp at hh;exact hne hh.2
theorem Ap(ho:w.ownsRow B e sz v n xs)(h:Dn w b T)(hne:T≠e)(u:Z):(w.setCell ⟨b,j,N⟩ u).ownsRow B e sz v n xs:=
 Al ho λc ec=>Dj w ⟨b,j,N⟩ u c (λe'=>h.ne ho hne (by rw[ec,e']))
structure TC where
 t:T2
 c:Z


section
variable {w w' W:E} {lo:X} {v1 v2 nv:Z} {l1:L S2} {l2:L TC}
end
theorem Bx{W':E}{row:Option X}{o:Obj}(h:W.heap[b]?=M o)(hg:W.grownBy W' row)(hne:row≠M b):W'.heap[b]?=M o:=by rw[hg.block b (Fl h) (λe=>hne e.symm)];exact h
theorem Fk{c:X}{o:Obj}(h:W.heap[b]?=M o)(hne:b≠c)(u:Z):(W.setCell ⟨c,j,N⟩ u).heap[b]?=M o:=by rw[Dj W ⟨c,j,N⟩ u b hne];exact h
theorem Jk(h:w.heap[b]?=M (.cells #[v] T (0,0))):w.cell? ⟨b,0,N⟩=M v:=qaj
section
variable {V V':E} {P lo:X} {v1 v2 nv:Z} {l1:L S2} {l2:L TC}
end
theorem Bq{o:Obj}{Q:E->Prop}(h:∀wN,Bw W wN->Hd (wN.heap[W.heap.size]?=M o)->Q wN):Q (W.alloc o):=h _ (aN _ _) (Cu _ _)
theorem Nb(h:w.ownsRow B e sz v n xs)(hne:v≠nS):∃g cp,v=J (p_ g) n cp:=by
 rcases h.2 with⟨q,_⟩|⟨g,cap,cur,q,_⟩
 ·exact absurd q hne
 ·exact⟨g,cap,q⟩
end Go.Proofs.YtoakjccojifagaaGreatDoor
