import Derived.Test.YtfgoholldpeabaaGreatDoorTOrd
namespace Go.Proofs.YtfgoholldpeabaaGreatDoor
open _root_.Go.Proofs.Tryz Go.RowKit Go.Deep
set_option linter.unusedVariables false
set_option linter.unusedSimpArgs false
variable {w W:World} {B e sz n b j T:Nat} {xs:List Value} {v:Value}





theorem Da {g cap:Nat} (h:w.ownsRow B e sz (.slice (p_ g) n cap) n xs) (hb:b≠g) (v:Value):(w.setCell ⟨b,j,none⟩ v).ownsRow B e sz (.slice (p_ g) n cap) n xs:=by
 refine⟨h.1,?_⟩
 rcases h.2 with ⟨h2,_⟩|⟨g',cap,cur,hv,hg,hh,r⟩
 ·cases h2
 ·exact qkq
def insJ (is:List I3) (j:Nat):Value:=if j % 3=0 then I (ix is (j / 3)).op else if j % 3=1 then .string (ix is (j / 3)).text else I (ix is (j / 3)).n
def El (is:List I3):List Value:=(List.range (is.length*3)).map (insJ is)
theorem Ic (is:List I3):(El is).length=is.length*3:=by simp[El]
theorem Pr (is:List I3) (j:Nat) (h:j<is.length*3):(El is)[j]?=some (insJ is j):=by
 unfold El
 rw[List.getElem?_map,List.getElem?_range h];rfl
theorem Ka (is:List I3):Cl is is.length (El is):=by
 intro i hi
 rw[Pr is _ qb,Pr is _ qb,Pr is _ qb]
 unfold insJ
 exact qiw
theorem Pq (is:List I3):∀ u∈El is,u.oneCell'=true:=by
 intro u hu
 obtain⟨j,_,rfl⟩:=List.mem_map.mp hu
 unfold insJ
 split
 ·rfl
 ·split<;>rfl
theorem Nh {off:Nat} {is:List I3} (h:Cj w (some ⟨b,off,none⟩) is):∀ j u,(El is)[j]?=some u->w.cell? ((⟨b,off,none⟩:Addr).add j)=some u:=by
 intro j u hu
 rw[Addr.add_lit]
 have hj:j<is.length*3:=by
  rcases Nat.lt_or_ge j (is.length*3) with h|h
  ·exact h
  ·rw[List.getElem?_eq_none (by rw[Ic];exact h)] at hu;cases hu
 rw[Pr is j hj] at hu
 obtain rfl:=Option.some.inj hu
 obtain⟨b',bq,ha,c1,c2,c3⟩:=h (j / 3) qb
 cases ha
 unfold insJ
 split
 ·rename_i hm
  rw[show off+j=off+j / 3*3 from qb];exact c1
 ·split
  ·rename_i hm
   rw[show off+j=off+j / 3*3+1 from qb];exact c2
  ·rw[show off+j=off+j / 3*3+2 from qb];exact c3
theorem Tryz.info165b:(prog.info? 128).map (fun i=>(i.zero,i.size,i.bytes))=some (some (.agg #[I 0,ze,I 0]),3,32):=qi



theorem Dm {p:Addr} {o:Obj} (h:w.cell? p=some v):(w.alloc o).cell? p=some v:=qfx
theorem Qn {w':World} {B' e' sz' n':Nat} {u:Value} {ys:List Value} (h:W.ownsRow B e sz v n xs) (hu:W.ownsRow B' e' sz' u n' ys) (hne:e≠e') (hg:W.grownBy w' u.ownBlock):w'.ownsRow B e sz v n xs:=
 Aj h fun b eb=>hg.block b (h.lt b eb).2 (fun e'=>Qk h hu hne b eb e'.symm)



def Dk (w:World) (b T:Nat):Prop:=∃ cs,w.heap[b]?=some (.cells cs T (0,0))
theorem Dk.set {c:Nat} (h:Dk w b T) (u:Value):Dk (w.setCell ⟨c,j,none⟩ u) b T:=by
 obtain⟨cs,h⟩:=h
 by_cases e:b=c
 ·subst e;exact⟨_,by rw[jB h]⟩
 ·exact⟨cs,by rw[hC w ⟨c,j,none⟩ u b e];exact h⟩
theorem Dk.ne (h:Dk w b T) (ho:w.ownsRow B e sz v n xs) (hne:T≠e):v.ownBlock≠some b:=by
 obtain⟨cs,h⟩:=h
 intro eb
 rcases ho.2 with ⟨rfl,_⟩|⟨g,cap,cur,rfl,hg,hh,_⟩
 ·simp[Value.ownBlock] at eb
 ·simp only[Value.ownBlock,Option.some.injEq] at eb;rw[eb,h] at hh;simp at hh;exact hne hh.2
theorem Al (ho:w.ownsRow B e sz v n xs) (h:Dk w b T) (hne:T≠e) (u:Value):(w.setCell ⟨b,j,none⟩ u).ownsRow B e sz v n xs:=
 Aj ho fun c ec=>hC w ⟨b,j,none⟩ u c (fun e'=>h.ne ho hne (by rw[ec,e']))
structure TC where
 t:T2
 c:Value


section
variable {w w' W:World} {lo:Nat} {v1 v2 nv:Value} {l1:List S2} {l2:List TC}
end
theorem Bq {W':World} {row:Option Nat} {o:Obj} (h:W.heap[b]?=some o) (hg:W.grownBy W' row) (hne:row≠some b):W'.heap[b]?=some o:=by rw[hg.block b (Fa h) (fun e=>hne e.symm)];exact h
theorem Ez {c:Nat} {o:Obj} (h:W.heap[b]?=some o) (hne:b≠c) (u:Value):(W.setCell ⟨c,j,none⟩ u).heap[b]?=some o:=by rw[hC W ⟨c,j,none⟩ u b hne];exact h
theorem Ho (h:w.heap[b]?=some (.cells #[v] T (0,0))):w.cell? ⟨b,0,none⟩=some v:=qaj
section
variable {V V':World} {P lo:Nat} {v1 v2 nv:Value} {l1:List S2} {l2:List TC}
end
theorem Cc {o:Obj} {Q:World->Prop} (h:∀ wN,Bw W wN->Hd (wN.heap[W.heap.size]?=some o)->Q wN):Q (W.alloc o):=h _ (aN _ _) (Cm _ _)
theorem Ml (h:w.ownsRow B e sz v n xs) (hne:v≠nS):∃ g cp,v=.slice (p_ g) n cp:=by
 rcases h.2 with ⟨q,_⟩|⟨g,cap,cur,q,_⟩
 ·exact absurd q hne
 ·exact⟨g,cap,q⟩
end Go.Proofs.YtfgoholldpeabaaGreatDoor
