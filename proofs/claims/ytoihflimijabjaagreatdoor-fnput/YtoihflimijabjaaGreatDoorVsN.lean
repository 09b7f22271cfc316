import Derived.Test.YtoihflimijabjaaGreatDoorVsB
import Derived.Test.YtoihflimijabjaaGreatDoorVsC
namespace Go.Proofs.YtoihflimijabjaaGreatDoor
open _root_.Go.Proofs.Tryz Go.RowKit Go.Deep
open Value renaming slice->J,string->S,bool->F
open Option renaming some->M,none->N
open Obj renaming cells->O
open Go renaming Value->Z,World->E
open _root_ renaming List->L,Nat->X
set_option linter.unusedVariables false
set_option linter.unusedSimpArgs false
variable {k P:X} {ys xs:L Z} {W w':E} {v:Z}
def Mr(n:X)(s:G3):G3:=⟨s.name,s.ask,Ap n s.sum⟩
theorem gx_map(n:X)(ls:L G3)(k:X)(h:k<ls.length):gx (ls.map (Mr n)) k=Mr n (gx ls k):=by
 unfold gx;exact qkh
def RecOwn(B:X)(w:E)(v1 v2:Z)(is:L I3)(gs:L G3):Prop:=
 ∃xs ys,w.ownsRow B 103 3 v1 is.length xs∧Cf is is.length xs∧w.ownsRow B 79 3 v2 gs.length ys∧Be gs gs.length ys
theorem Px{gs:L G3}(h:Be gs k ys)(hl:ys.length=k*3):Be gs (k+1) (ys++[S (gx gs k).name,F (gx gs k).ask,S (gx gs k).sum]):=by
 intro i hi
 rcases Nat.lt_or_ge i k with hk|hk
 ·obtain⟨h1,h2,h3⟩:=h i hk
  rw[List.getElem?_append_left qg,List.getElem?_append_left qg,List.getElem?_append_left qg];exact⟨h1,h2,h3⟩
 ·obtain rfl:i=k:=qg
  rw[List.getElem?_append_right qg,List.getElem?_append_right qg,List.getElem?_append_right qg,hl,Nat.sub_self,show i*3+1-i*3=1 from qg,show i*3+2-i*3=2 from qg];exact⟨rfl,rfl,rfl⟩
theorem Tryz.info131b:(prog.info? 79).map (λi=>(i.zero,i.size,i.bytes))=M (M (.agg #[ze,F false,ze]),3,40):=qk
theorem Jn{w:E}{b:X}{o:Obj}(h:w.heap[b]?=M o):b<w.heap.size:=by
 rcases Nat.lt_or_ge b w.heap.size with h'|h'
 ·exact h'
 ·rw[Array.getElem?_eq_none h']at h;cases h
theorem Pa(w:E)(o:Obj):(w.alloc o).heap[w.heap.size]?=M o:=qct
theorem step_appG{s x:Operand}{ops:Array Oper}{o:Oper}{a:Act}{K:Act→E→Prop}{Q:Exit→Act→E→Prop}{AG:Prop}(mg:o.guard=N)(ho:o.op=.call { callee:=.builtin .append,args:=#[s,x],argTypes:=#[54,54] })(B:X)(v:Z)(nn:X)(xs:L Z)(hs:a.eval s=v)(ak:W.ownsRow B 79 3 v nn xs)(d:X)(t:By)(q:Bool)(u:By)(hx:a.eval x=J (p_ d) 1 1)(hc:W.heap[d]?=M (O #[S t,F q,S u] 79 (0,0)))(hB:B≤W.heap.size)(hn:nn≤200)(h:∀g' ai w',w'.ownsRow B 79 3 (J (p_ g') (nn+1) ai) (nn+1) (xs++[S t,F q,S u])→W.grownBy w' v.ownBlock→K (a.put o.dst (J (p_ g') (nn+1) ai)) w'):if Region.wanted o (yielded ops a.tmps)=true then Oper.wp prog o a W K Q else AG:=by
 obtain⟨i0,hi,bm,bg,bi⟩:=info_parts Tryz.info131b
 refine step_append_lies (w:=W) mg s x 54 ho B 79 i0 (.agg #[ze,F false,ze]) 3 40 underlying54 hi bm bg bi rfl qh _ nn xs hs ak ⟨d,0,N⟩ 1 1 [S t,F q,S u] hx rfl
  (World.news_of_block (cs:=#[S t,F q,S u]) (t:=79) (fr:=(0,0)) hc) (by intro u hu;simp at hu;rcases hu with rfl|rfl|rfl<;>rfl) qg qn qg hB W.heap.size rfl ?_
 exact qca
structure NS (w:E) (P:X) (s1 v:Z) (sm:By) (k:X) (gs:L G3):Prop where
 blk:w.heap[P]?=M (O #[s1,v,S sm] 56 (0,0))
 own:∃ys,w.ownsRow (P+1) 79 3 v k ys∧Be gs k ys
theorem NS.cell{w:E}{s1:Z}{sm:By}{gs:L G3}(h:NS w P s1 v sm k gs):w.cell? ⟨P,0,N⟩=M s1∧w.cell? ⟨P,1,N⟩=M v∧w.cell? ⟨P,2,N⟩=M (S sm):=
 ⟨qcq,qcq,qcq⟩
theorem NS.bl{w:E}{s1:Z}{sm:By}{gs:L G3}(h:NS w P s1 v sm k gs)(hb:Bw w w'):NS w' P s1 v sm k gs:=by
 obtain⟨ys,h1,h2⟩:=h.own;exact⟨by rw[hb.block P (Jn h.blk)];exact h.blk,ys,Ae h1 hb,h2⟩
theorem NS.put{s1 nv:Z}{sm:By}{gs:L G3}{zs:L Z}(hb:W.heap[P]?=M (O #[s1,v,S sm] 56 (0,0)))(ho:W.ownsRow (P+1) 79 3 v k xs)(hg:W.grownBy w' v.ownBlock)(hn:w'.ownsRow (P+1) 79 3 nv (k+1) zs)(hf:Be gs (k+1) zs):NS (w'.setCell ⟨P,1,N⟩ nv) P s1 nv sm (k+1) gs:=by
 have hbk:w'.heap[P]?=M (O #[s1,v,S sm] 56 (0,0)):=by
  rw[hg.block P (Jn hb) (λe=>by have:=(ho.lt P e.symm).1;omega)];exact hb
 refine⟨?_,zs,?_,hf⟩
 ·rw[jB hbk];rfl
 ·refine⟨hn.1,?_⟩
  rcases hn.2 with h2|⟨g,cap,cur,hv,H7,hh,r⟩
  ·exact Or.inl h2
  ·refine Or.inr ⟨g,cap,cur,hv,H7,?_,r⟩
   rw[hC w' ⟨P,1,N⟩ nv g (by intro e;simp at e;omega)];exact hh
theorem cellA{w:E}{p:Addr}{o:Obj}(h:w.cell? p=M v):(w.alloc o).cell? p=M v:=qfa
theorem Ga{w:E}{B e sz n:X}(h:w.ownsRow B e sz v n xs){r j:X}(hr:∀b,v.ownBlock=M b→b≠r)(u:Z):(w.setCell ⟨r,j,N⟩ u).ownsRow B e sz v n xs:=
 own_keep (ob:=M r) h (λb _ aq=>hC w ⟨r,j,N⟩ u b (λe=>aq (by rw[e]))) (λb hb e=>hr b hb (Option.some.inj e))
theorem NS.add{w6 w7:E}{g' ai:X}{s1:Z}{sm:By}{gs:L G3}{o:Obj}{t u:By}{q:Bool}(h:NS W P s1 v sm k gs)(hy:W.ownsRow (P+1) 79 3 v k ys)(hf:Be gs k ys)(hb:Bw W w6)(hg:(w6.alloc o).grownBy w7 v.ownBlock)(hn:w7.ownsRow (P+1) 79 3 (J (p_ g') (k+1) ai) (k+1) (ys++[S t,F q,S u]))(hG:gx gs k=⟨t,q,u⟩):NS (w7.setCell ⟨P,1,N⟩ (J (p_ g') (k+1) ai)) P s1 (J (p_ g') (k+1) ai) sm (k+1) gs:=by
 have h6:=h.bl hb;have hf2:=Px hf hy.1;rw[hG]at hf2;exact NS.put (by rw[Lib.alloc_old _ _ _ (Jn h6.blk)];exact h6.blk) ((Ae hy hb).alloc _) hg hn hf2
open Go.RowKit Go.Deep
set_option linter.unusedVariables false
end Go.Proofs.YtoihflimijabjaaGreatDoor
