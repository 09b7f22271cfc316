import Derived.Test.YtjlnkepkkdefdaaGreatDoorTOrd
import Derived.Test.YtjlnkepkkdefdaaGreatDoorTClF
import Derived.Below
import Derived.Deep.AppendLies
import Derived.Deep.DeepCutAuto
import Derived.Deep.RegionHeld3
import Derived.Lib.SmallJoins
import Derived.OpenShut
import Derived.ProofKit
import Derived.WalkKit
import Derived.WalkLawsBesides
import Derived.WalkSpells
namespace Go.Proofs.YtjlnkepkkdefdaaGreatDoor
set_option maxHeartbeats 8000000
set_option maxRecDepth 100000
open Go.RowKit Go.Deep
set_option linter.unusedVariables false
set_option linter.unusedSimpArgs false





theorem Yf {w:World} {B e sz n g cap:Nat} {xs:List Value} (h:w.ownsRow B e sz (.slice (some ⟨g,0,none⟩) n cap) n xs) {b j:Nat} (hb:b≠g) (v:Value):(w.setCell ⟨b,j,none⟩ v).ownsRow B e sz (.slice (some ⟨g,0,none⟩) n cap) n xs:=by
 refine⟨h.1,?_⟩
 rcases h.2 with ⟨h2,_⟩|⟨g',cap,cur,hv,hg,hh,r⟩
 ·cases h2
 ·cases hv;refine Or.inr ⟨g,cap,cur,rfl,hg,?_,r⟩;rw[hC w ⟨b,j,none⟩ v g (fun e=>hb e.symm)];exact hh
def insJ (is:List I3) (j:Nat):Value:=if j % 3=0 then .int .i64 (ix is (j / 3)).op else if j % 3=1 then .string (ix is (j / 3)).text else .int .i64 (ix is (j / 3)).n
def Hz (is:List I3):List Value:=(List.range (is.length*3)).map (insJ is)
theorem Ka (is:List I3):(Hz is).length=is.length*3:=by simp[Hz]
theorem Pb (is:List I3) (j:Nat) (h:j<is.length*3):(Hz is)[j]?=some (insJ is j):=by
 unfold Hz
 rw[List.getElem?_map,List.getElem?_range h];rfl
theorem Mb (is:List I3):Fw is is.length (Hz is):=by
 intro i hi
 rw[Pb is _ (by omega),Pb is _ (by omega),Pb is _ (by omega)]
 unfold insJ
 rw[if_pos (by omega),if_neg (by omega),if_pos (by omega),if_neg (by omega),if_neg (by omega),show i*3 / 3=i by omega,show (i*3+1) / 3=i by omega,show (i*3+2) / 3=i by omega]
 exact⟨rfl,rfl,rfl⟩
theorem Zh (is:List I3):∀ u∈Hz is,u.oneCell'=true:=by
 intro u hu
 obtain⟨j,_,rfl⟩:=List.mem_map.mp hu
 unfold insJ
 split
 ·rfl
 ·split<;>rfl
theorem Uy {w:World} {b off:Nat} {is:List I3} (h:Dr w (some ⟨b,off,none⟩) is):∀ j u,(Hz is)[j]?=some u->w.cell? ((⟨b,off,none⟩:Addr).add j)=some u:=by
 intro j u hu
 rw[Addr.add_lit]
 have hj:j<is.length*3:=by
  rcases Nat.lt_or_ge j (is.length*3) with h|h
  ·exact h
  ·rw[List.getElem?_eq_none (by rw[Ka];exact h)] at hu;cases hu
 rw[Pb is j hj] at hu
 obtain rfl:=Option.some.inj hu
 obtain⟨b',off',ha,c1,c2,c3⟩:=h (j / 3) (by omega)
 cases ha
 unfold insJ
 split
 ·rename_i hm
  rw[show off+j=off+j / 3*3 by omega];exact c1
 ·split
  ·rename_i hm
   rw[show off+j=off+j / 3*3+1 by omega];exact c2
  ·rw[show off+j=off+j / 3*3+2 by omega];exact c3
theorem Tryz.info165b:(Tryz.prog.info? 106).map (fun i=>(i.zero,i.size,i.bytes))=some (some (.agg #[.int .i64 0,.string ⟨#[]⟩,.int .i64 0]),3,32):=by kernel_rfl
theorem Er.bl {w w':World} {lo:Nat} {is:List T2} {k:Nat} {xs:List Value} {cv:Nat->Value} (h:Er w lo is k xs cv) (hb:Below w.heap.size w w'):Er w' lo is k xs cv:=h.same fun b _ hl=>hb.block b hl


theorem Ll {w:World} {p:Addr} {v:Value} {o:Obj} (h:w.cell? p=some v):(w.alloc o).cell? p=some v:=by rw[World.cell?_alloc_lt _ _ _ (World.block_lt_of_cell? _ _ h)];exact h
open Classical in
noncomputable def Hs (t:ByteArray) (ss:List S2):List S2:=ss.filter fun s=>decide (s.name≠t)
open Classical in
noncomputable def Iv (t:ByteArray) (ss:List T2):List T2:=ss.filter fun s=>decide (s.name≠t)
theorem Rp {ss:List S2} {k:Nat} (h:k<ss.length):sx ss k=ss[k]:=by simp[sx,gG,h]
theorem Vm {ss:List T2} {k:Nat} (h:k<ss.length):tx ss k=ss[k]:=by simp[tx,gG,h]
theorem fltS_yes {t:ByteArray} {ss:List S2} {k:Nat} (h:k<ss.length) (hn:(sx ss k).name≠t):Hs t (ss.take (k+1))=Hs t (ss.take k)++[sx ss k]:=by
 rw[Rp h] at *
 unfold Hs
 rw[List.take_succ_eq_append_getElem h,List.filter_append]
 simp[hn]
theorem fltS_no {t:ByteArray} {ss:List S2} {k:Nat} (h:k<ss.length) (hn:(sx ss k).name=t):Hs t (ss.take (k+1))=Hs t (ss.take k):=by
 rw[Rp h] at *
 unfold Hs
 rw[List.take_succ_eq_append_getElem h,List.filter_append]
 simp[hn]
theorem fltT_yes {t:ByteArray} {ss:List T2} {k:Nat} (h:k<ss.length) (hn:(tx ss k).name≠t):Iv t (ss.take (k+1))=Iv t (ss.take k)++[tx ss k]:=by
 rw[Vm h] at *
 unfold Iv
 rw[List.take_succ_eq_append_getElem h,List.filter_append]
 simp[hn]
theorem fltT_no {t:ByteArray} {ss:List T2} {k:Nat} (h:k<ss.length) (hn:(tx ss k).name=t):Iv t (ss.take (k+1))=Iv t (ss.take k):=by
 rw[Vm h] at *
 unfold Iv
 rw[List.take_succ_eq_append_getElem h,List.filter_append]
 simp[hn]
theorem Zp (t:ByteArray) (ss:List S2):(Hs t ss).length<=ss.length:=List.length_filter_le _ _
theorem Zo (t:ByteArray) (ss:List T2):(Iv t ss).length<=ss.length:=List.length_filter_le _ _
theorem fltS_take (t:ByteArray) (ss:List S2) (k:Nat) (h:k<=ss.length):(Hs t (ss.take k)).length<=k:=by
 have:=Zp t (ss.take k)
 rw[List.length_take] at this;omega
theorem fltT_take (t:ByteArray) (ss:List T2) (k:Nat) (h:k<=ss.length):(Iv t (ss.take k)).length<=k:=by
 have:=Zo t (ss.take k)
 rw[List.length_take] at this;omega
theorem sx_old {l:List S2} {s:S2} {i:Nat} (h:i<l.length):sx (l++[s]) i=sx l i:=by
 unfold sx
 rw[gG,gG,List.getElem?_append_left h]
theorem sx_new {l:List S2} {s:S2}:sx (l++[s]) l.length=s:=by
 unfold sx
 rw[gG,List.getElem?_append_right (Nat.le_refl _)]
 simp
theorem tx_old {l:List T2} {s:T2} {i:Nat} (h:i<l.length):tx (l++[s]) i=tx l i:=by
 unfold tx
 rw[gG,gG,List.getElem?_append_left h]
theorem tx_new {l:List T2} {s:T2}:tx (l++[s]) l.length=s:=by
 unfold tx
 rw[gG,List.getElem?_append_right (Nat.le_refl _)]
 simp
theorem Zr {l:List S2} {s:S2} {ys:List Value} (h:Jb l l.length ys) (hl:ys.length=l.length*2):Jb (l++[s]) (l.length+1) (ys++[.string s.name,.string s.text]):=by
 intro i hi
 rcases Nat.lt_or_ge i l.length with hk|hk
 ·obtain⟨h1,h2⟩:=h i hk;rw[List.getElem?_append_left (by omega),List.getElem?_append_left (by omega),sx_old hk];exact⟨h1,h2⟩
 ·obtain rfl:i=l.length:=by omega
  rw[List.getElem?_append_right (by omega),List.getElem?_append_right (by omega),hl,Nat.sub_self,show l.length*2+1-l.length*2=1 by omega,sx_new];exact⟨rfl,rfl⟩
theorem Er.ext {w:World} {lo:Nat} {l:List T2} {s:T2} {xs:List Value} {cv:Nat->Value} (h:Er w lo l l.length xs cv):Er w lo (l++[s]) l.length xs cv:=
 ⟨fun i hi=>by rw[tx_old hi];exact h.fil i hi,fun i hi=>by rw[tx_old hi];exact h.code i hi,h.apart⟩
theorem Er.app {w w2:World} {lo:Nat} {l:List T2} {s:T2} {xs:List Value} {cv:Nat->Value} (h:Er w lo l l.length xs cv) (hx:xs.length=l.length*2) (hb:Below w.heap.size w w2) (hl:lo<=w.heap.size) {c:Value} {ys:List Value} (ho:w2.ownsRow w.heap.size 106 3 c s.code.length ys) (hf:Fw s.code s.code.length ys):Er w2 lo (l++[s]) (l.length+1) (xs++[.string s.name,c]) (fun i=>if i=l.length then c else cv i):=by
 refine(h.ext (s:=s)).add hb hl (ys:=ys) (by rw[tx_new];exact ho) (by rw[tx_new];exact hf) (fun j hj=>List.getElem?_append_left (by omega)) ?_ ?_
 ·rw[List.getElem?_append_right (by omega),hx,Nat.sub_self,tx_new];rfl
 ·rw[List.getElem?_append_right (by omega),hx,show l.length*2+1-l.length*2=1 by omega];rfl
structure WS (w:World) (P:Nat) (v1 v2:Value) (l1:List S2) (l2:List T2):Prop where
 blk:w.heap[P]?=some (.cells #[v1,v2] 26 (0,0))
 s:∃ xs,w.ownsRow (P+1) 98 2 v1 l1.length xs/\Jb l1 l1.length xs
 t:∃ xs cv,w.ownsRow (P+1) 62 2 v2 l2.length xs/\Er w (P+1) l2 l2.length xs cv
theorem WS.cell {w:World} {P:Nat} {v1 v2:Value} {l1:List S2} {l2:List T2} (h:WS w P v1 v2 l1 l2):w.cell? ⟨P,0,none⟩=some v1/\w.cell? ⟨P,1,none⟩=some v2:=
 ⟨by rw[cH h.blk];rfl,by rw[cH h.blk];rfl⟩
theorem WS.bl {w w':World} {P:Nat} {v1 v2:Value} {l1:List S2} {l2:List T2} (h:WS w P v1 v2 l1 l2) (hb:Below w.heap.size w w'):WS w' P v1 v2 l1 l2:=by
 obtain⟨xs,h1,h2⟩:=h.s
 obtain⟨zs,cv,h3,h4⟩:=h.t
 exact⟨by rw[hb.block P (Dj h.blk)];exact h.blk,⟨xs,Ac h1 hb,h2⟩,zs,cv,Ac h3 hb,h4.bl hb⟩
theorem WS.zero {w:World} {P:Nat} (h:w.heap[P]?=some (.cells #[.slice none 0 0,.slice none 0 0] 26 (0,0))):WS w P (.slice none 0 0) (.slice none 0 0) [] []:=
 ⟨h,⟨[],World.ownsRow_nil _ _ _ _,fun i hi=>by simp at hi⟩,[],fun _=>.slice none 0 0,World.ownsRow_nil _ _ _ _,Er.zero _ _ _ _⟩
theorem Fv {W w':World} {B B' e e' sz sz' n n':Nat} {v u:Value} {xs ys:List Value} (h:W.ownsRow B e sz v n xs) (hu:W.ownsRow B' e' sz' u n' ys) (hne:e≠e') (hg:W.grownBy w' u.ownBlock):w'.ownsRow B e sz v n xs:=
 Cn h fun b eb=>hg.block b (h.lt b eb).2 (fun e'=>neT h hu hne b eb e'.symm)
theorem Sr {W w':World} {lo B' sz' n' e':Nat} {u:Value} {ys:List Value} {l:List T2} {k:Nat} {xs:List Value} {cv:Nat->Value} (h:Er W lo l k xs cv) (hu:W.ownsRow B' e' sz' u n' ys) (hne:106≠e') (hg:W.grownBy w' u.ownBlock):Er w' lo l k xs cv:=
 ⟨h.fil,fun i hi=>by obtain⟨zs,h1,h2⟩:=h.code i hi;exact⟨zs,Fv h1 hu hne hg,h2⟩,h.apart⟩
theorem Os {w:World} {P e sz n j:Nat} {v:Value} {xs:List Value} (h:w.ownsRow (P+1) e sz v n xs) (u:Value):(w.setCell ⟨P,j,none⟩ u).ownsRow (P+1) e sz v n xs:=
 Cn h fun b eb=>hC w ⟨P,j,none⟩ u b (by have:=(h.lt b eb).1;show b≠P;omega)
theorem WS.putS {W w':World} {P:Nat} {v1 v2 nv:Value} {l1:List S2} {l2:List T2} {s:S2} {ys:List Value} (h:WS W P v1 v2 l1 l2) (hy:W.ownsRow (P+1) 98 2 v1 l1.length ys) (hf:Jb l1 l1.length ys) (hg:W.grownBy w' v1.ownBlock) (hn:w'.ownsRow (P+1) 98 2 nv (l1.length+1) (ys++[.string s.name,.string s.text])):WS (w'.setCell ⟨P,0,none⟩ nv) P nv v2 (l1++[s]) l2:=by
 have hbk:w'.heap[P]?=some (.cells #[v1,v2] 26 (0,0)):=by
  rw[hg.block P (Dj h.blk) (fun e=>by have:=(hy.lt P e.symm).1;omega)];exact h.blk
 obtain⟨zs,cv,h3,h4⟩:=h.t
 have hlen:(l1++[s]).length=l1.length+1:=by simp
 refine⟨by rw[jB hbk];rfl,⟨ys++[.string s.name,.string s.text],?_,?_⟩,zs,cv,Os (Fv h3 hy (by decide) hg) _,(Sr h4 hy (by decide) hg).set (Nat.lt_succ_self _) _⟩
 ·rw[hlen];exact Os hn _
 ·rw[hlen];exact Zr hf hy.1
theorem WS.putT {W0 W w':World} {P:Nat} {v1 v2 nv c:Value} {l1:List S2} {l2:List T2} {s:T2} {ys zs:List Value} {cv:Nat->Value} (h:WS W0 P v1 v2 l1 l2) (hb:Below W0.heap.size W0 W) (hP:P+1<=W0.heap.size) (hy:W0.ownsRow (P+1) 62 2 v2 l2.length ys) (hp:Er W0 (P+1) l2 l2.length ys cv) (hc:W.ownsRow W0.heap.size 106 3 c s.code.length zs) (hz:Fw s.code s.code.length zs) (hg:W.grownBy w' v2.ownBlock) (hn:w'.ownsRow (P+1) 62 2 nv (l2.length+1) (ys++[.string s.name,c])):WS (w'.setCell ⟨P,1,none⟩ nv) P v1 nv l1 (l2++[s]):=by
 have hW:=h.bl hb
 have hyW:=Ac hy hb
 have hbk:w'.heap[P]?=some (.cells #[v1,v2] 26 (0,0)):=by
  rw[hg.block P (Dj hW.blk) (fun e=>by have:=(hyW.lt P e.symm).1;omega)];exact hW.blk
 obtain⟨xs,h1,h2⟩:=hW.s
 have hpa:=Sr (hp.app hy.1 hb hP hc hz) hyW (by decide) hg
 have hlen:(l2++[s]).length=l2.length+1:=by simp
 refine⟨by rw[jB hbk];rfl,⟨xs,Os (Fv h1 hyW (by decide) hg) _,h2⟩,ys++[.string s.name,c],fun i=>if i=l2.length then c else cv i,?_,?_⟩
 ·rw[hlen];exact Os hn _
 ·rw[hlen];exact hpa.set (Nat.lt_succ_self _) _
theorem WS.own {w:World} {P lo hi:Nat} {v1 v2:Value} {l1:List S2} {l2:List T2} (h:WS w P v1 v2 l1 l2) (hl:lo<=P+1) (hh:w.heap.size<=hi):Lr w lo hi v1 l1/\Lf w lo hi v2 l2:=by
 obtain⟨xs,h1,h2⟩:=h.s
 obtain⟨zs,cv,h3,h4⟩:=h.t
 exact⟨⟨xs,⟨Co h1 hl,fun b e=>by have:=(h1.lt b e).2;omega⟩,h2⟩,h4.own (Co h3 hl) hl hh⟩
theorem Tryz.info103b:(Tryz.prog.info? 98).map (fun i=>(i.zero,i.size,i.bytes))=some (some (.agg #[.string ⟨#[]⟩,.string ⟨#[]⟩]),2,32):=by kernel_rfl
theorem Tryz.info118b:(Tryz.prog.info? 62).map (fun i=>(i.zero,i.size,i.bytes))=some (some (.agg #[.string ⟨#[]⟩,.slice none 0 0]),2,40):=by kernel_rfl
theorem Et {s x:Operand} {W:World} {ops:Array Oper} {o:Oper} {a:Act} {K:Act->World->Prop} {Q:Exit->Act->World->Prop} {E:Prop} (hgd:o.guard=none)
  (ho:o.op=.call { callee:=.builtin .append,args:=#[s,x],argTypes:=#[24,24] }) (B:Nat) (v:Value) (nn:Nat) (xs:List Value)
  (hs:a.eval s=v) (hown:W.ownsRow B 62 2 v nn xs) (d:Nat) (t:ByteArray) (u:Value) (hu1:u.oneCell'=true) (hx:a.eval x=.slice (some ⟨d,0,none⟩) 1 1) (hc:W.heap[d]?=some (.cells #[.string t,u] 62 (0,0))) (hB:B<=W.heap.size) (hn:nn<=300)
  (h:∀ g' cap' w',w'.ownsRow B 62 2 (.slice (some ⟨g',0,none⟩) (nn+1) cap') (nn+1) (xs++[.string t,u])->W.grownBy w' v.ownBlock->K (a.put o.dst (.slice (some ⟨g',0,none⟩) (nn+1) cap')) w') :
  if Region.wanted o (yielded ops a.tmps)=true then Oper.wp Tryz.prog o a W K Q else E:=by
 obtain⟨i0,hi,hz0,hz1,hz2⟩:=info_parts Tryz.info118b
 refine step_append_lies (w:=W) hgd s x 24 ho B 62 i0 (.agg #[.string ⟨#[]⟩,.slice none 0 0]) 2 40 Tryz.underlying24 hi hz0 hz1 hz2 rfl (by decide) _ nn xs hs hown ⟨d,0,none⟩ 1 1 [.string t,u] hx rfl
  (World.news_of_block (cs:=#[.string t,u]) (t:=62) (fr:=(0,0)) hc) (by intro u' hu;simp at hu;rcases hu with rfl|rfl<;>first|rfl|exact hu1) (by omega) (by unfold maxLen;omega) (by omega) hB W.heap.size rfl ?_
 intro g' cap' w' h1 h2 h3 h4
 exact h g' cap' w' h1 h2
theorem Kv {s x:Operand} {W:World} {ops:Array Oper} {o:Oper} {a:Act} {K:Act->World->Prop} {Q:Exit->Act->World->Prop} {E:Prop} (hgd:o.guard=none)
  (ho:o.op=.call { callee:=.builtin .append,args:=#[s,x],argTypes:=#[23,23] }) (B:Nat) (v:Value) (nn:Nat) (xs:List Value)
  (hs:a.eval s=v) (hown:W.ownsRow B 98 2 v nn xs) (d:Nat) (t u:ByteArray) (hx:a.eval x=.slice (some ⟨d,0,none⟩) 1 1) (hc:W.heap[d]?=some (.cells #[.string t,.string u] 98 (0,0))) (hB:B<=W.heap.size) (hn:nn<=300)
  (h:∀ g' cap' w',w'.ownsRow B 98 2 (.slice (some ⟨g',0,none⟩) (nn+1) cap') (nn+1) (xs++[.string t,.string u])->W.grownBy w' v.ownBlock->K (a.put o.dst (.slice (some ⟨g',0,none⟩) (nn+1) cap')) w') :
  if Region.wanted o (yielded ops a.tmps)=true then Oper.wp Tryz.prog o a W K Q else E:=by
 obtain⟨i0,hi,hz0,hz1,hz2⟩:=info_parts Tryz.info103b
 refine step_append_lies (w:=W) hgd s x 23 ho B 98 i0 (.agg #[.string ⟨#[]⟩,.string ⟨#[]⟩]) 2 32 Tryz.underlying23 hi hz0 hz1 hz2 rfl (by decide) _ nn xs hs hown ⟨d,0,none⟩ 1 1 [.string t,.string u] hx rfl
  (World.news_of_block (cs:=#[.string t,.string u]) (t:=98) (fr:=(0,0)) hc) (by intro u' hu;simp at hu;rcases hu with rfl|rfl<;>rfl) (by omega) (by unfold maxLen;omega) (by omega) hB W.heap.size rfl ?_
 intro g' cap' w' h1 h2 h3 h4
 exact h g' cap' w' h1 h2
def CopyP (a:Option Addr) (cap:Nat) (is:List I3) (W:World):Prop:=Calls Tryz.prog 97 #[.agg #[.slice a is.length cap]] W fun e w'=>Below W.heap.size W w'/\∃ g cp,e=.returned (.agg #[.slice (some ⟨g,0,none⟩) is.length cp])/\w'.ownsRow W.heap.size 106 3 (.slice (some ⟨g,0,none⟩) is.length cp) is.length (Hz is)
def RowC (w:World) (a:Option Addr) (is:List T2):Prop:=
 ∀ i,i<is.length->∃ b off,a=some ⟨b,off,none⟩/\w.cell? ⟨b,off+i*2,none⟩=some (.string (tx is i).name)/\∃ a' cap',w.cell? ⟨b,off+i*2+1,none⟩=some (.slice a' (tx is i).code.length cap')/\∀ W,Below w.heap.size w W->CopyP a' cap' (tx is i).code W
theorem Ua (sa ta:Option Addr) (c1 c2:Nat) (ss:List S2) (ts:List T2) (t:ByteArray) (w:World) (rs:Iz w sa ss) (rt:RowC w ta ts) (h1:ss.length<=300) (h2:ts.length<=300) :
  Calls Tryz.prog 99 #[.agg #[.slice sa ss.length c1,.slice ta ts.length c2],.string t] w fun e w'=>Below w.heap.size w w'/\∃ v1 v2,e=.returned (.agg #[v1,v2])/\Lr w' w.heap.size w'.heap.size v1 (Hs t ss)/\Lf w' w.heap.size w'.heap.size v2 (Iv t ts):=by
 obtain⟨P,eP⟩:∃ P,w.heap.size+1+1=P:=⟨_,rfl⟩
 obtain⟨w5,ew5⟩:∃ w5,((w.alloc (.cells #[.slice sa ss.length c1,.slice ta ts.length c2] 26)).alloc (.cells #[.slice none 0 0,.slice none 0 0] 26)).alloc (.cells #[.slice none 0 0,.slice none 0 0] 26)=w5:=⟨_,rfl⟩
 have hw5:w5.heap.size=P+1:=by rw[<- ew5,<- eP];simp
 have hB5:Below w.heap.size w w5:=by rw[<- ew5];exact((aN _ _).alloc (by simp) _).alloc (by simp;omega) _
 have s0:w5.cell? ⟨w.heap.size,0,none⟩=some (.slice sa ss.length c1):=by rw[<- ew5];simp[go_sem]
 have s1:w5.cell? ⟨w.heap.size,1,none⟩=some (.slice ta ts.length c2):=by rw[<- ew5];simp[go_sem]
 have HW0:Hd (WS w5 P (.slice none 0 0) (.slice none 0 0) (Hs t (ss.take 0)) []):=WS.zero (by
  have h:=Al ((w.alloc (.cells #[.slice sa ss.length c1,.slice ta ts.length c2] 26)).alloc (.cells #[.slice none 0 0,.slice none 0 0] 26)) (.cells #[.slice none 0 0,.slice none 0 0] 26);rw[ew5,show ((w.alloc (.cells #[.slice sa ss.length c1,.slice ta ts.length c2] 26)).alloc (.cells #[.slice none 0 0,.slice none 0 0] 26)).heap.size=P from by rw[<- eP];simp] at h;exact h)
 have KB5:Hd (w5.heap[w.heap.size+1]?=some (.cells #[.slice none 0 0,.slice none 0 0] 26 (0,0))):=by
  have h:=Al (w.alloc (.cells #[.slice sa ss.length c1,.slice ta ts.length c2] 26)) (.cells #[.slice none 0 0,.slice none 0 0] 26);rw[show (w.alloc (.cells #[.slice sa ss.length c1,.slice ta ts.length c2] 26)).heap.size=w.heap.size+1 from by simp] at h;show _=_;rw[<- ew5,Lib.alloc_old _ _ _ (by simp)];exact h
 have HRS:Hd (Iz w sa ss):=rs
 have HRT:Hd (RowC w ta ts):=rt
 have hwP:w.heap.size+1<P:=by omega
 clear rs rt
 have EW5:Hd (((w.alloc (.cells #[.slice sa ss.length c1,.slice ta ts.length c2] 26)).alloc (.cells #[.slice none 0 0,.slice none 0 0] 26)).alloc (.cells #[.slice none 0 0,.slice none 0 0] 26)=w5):=ew5
 clear ew5
 go_enter Tryz.func99,Tryz.ntmps99
 go_wp2
 rw[EW5.o]
 clear EW5 eP
 have HW5:Hd (w5.heap.size=P+1):=hw5
 clear hw5
 go_loopw [6] (fun i wr=>∃(k:Nat) (v1:Value),k<=ss.length/\i=.int .i64 k/\Hd (WS wr P v1 (.slice none 0 0) (Hs t (ss.take k)) [])/\Below P w5 wr/\P+1<=wr.heap.size) (fun i _=>ss.length-(intOf i).toNat)
 case atStart=>exact⟨0,_,Nat.zero_le _,rfl,HW0.o,Below.refl _ _,by rw[HW5.o];exact Nat.le_refl _⟩
 case round=>
  obtain⟨k,v1,hk,rfl,HW,hbr,hsz⟩:=hrel;have hw:Below w.heap.size w wr:=hB5.trans (hbr.mono (by omega));have dZ:wr.cell? ⟨w.heap.size,0,none⟩=some (.slice sa ss.length c1):=by rw[hbr.cell (p:=⟨w.heap.size,0,none⟩) (by simp;omega)];exact s0
  by_cases hlt:k<ss.length
  ·obtain⟨b,off,rfl,y1,y2⟩:=HRS.o k hlt;have hbl:b<w.heap.size:=World.block_lt_of_cell? _ _ y1;have c1':=Ab hw y1;have c2':=Ab hw y2;have HFN:Hd ((sx ss k).name=t->Hs t (ss.take (k+1))=Hs t (ss.take k)):=fltS_no hlt;have HFA:Hd ((sx ss k).name≠t->Hs t (ss.take (k+1))=Hs t (ss.take k)++[sx ss k]):=fltS_yes hlt;have hln:(Hs t (ss.take k)).length<=300:=by have:=fltS_take t ss k hk;omega
   obtain⟨s,es⟩:∃ s,sx ss k=s:=⟨_,rfl⟩;rw[es] at c1' c2' HFN HFA;clear es y1 y2;have hkI:(k:Int)<(ss.length:Int):=by omega
   have hk0:(0:Int)<=(k:Int):=by omega
   by_cases hno:s.name=t
   ·have heq:=Eh hno;have HF2:Hd (Hs t (ss.take (k+1))=Hs t (ss.take k)):=HFN.o hno;clear hno HFN HFA;go_wp2;go_roundw
    case rel=>exact⟨k+1,_,by omega,by go_num,(by rw[HF2.o];exact HW.o),hbr,hsz⟩
    case measure=>simp[intOf];omega
   ·have heq:=Es hno;have HFY:Hd (Hs t (ss.take (k+1))=Hs t (ss.take k)++[s]):=HFA.o hno;clear hno HFN HFA;obtain⟨L,eL⟩:∃ L,Hs t (ss.take k)=L:=⟨_,rfl⟩;rw[eL] at HFY HW hln;clear eL;obtain⟨ys,hys,hfy⟩:=HW.o.s;have HYS:Hd (wr.ownsRow (P+1) 98 2 v1 L.length ys):=hys;have HFI:Hd (Jb L L.length ys):=hfy;have dP:=HW.o.cell.1;clear hys hfy;go_wp2_with fail;refine Lt.begin 10 (fun w'=>w'.cell? ⟨P,0,none⟩=some v1/\w'.cell? ⟨w.heap.size,0,none⟩=some (.slice (some ⟨b,off,none⟩) ss.length c1)/\w'.cell? ⟨b,off+k*2,none⟩=some (.string s.name)/\w'.cell? ⟨b,off+k*2+1,none⟩=some (.string s.text)) (by kernel_rfl) ?_;(have hS0:wr.drew.cell? ⟨P,0,none⟩=some v1/\wr.drew.cell? ⟨w.heap.size,0,none⟩=some (.slice (some ⟨b,off,none⟩) ss.length c1)/\wr.drew.cell? ⟨b,off+k*2,none⟩=some (.string s.name)/\wr.drew.cell? ⟨b,off+k*2+1,none⟩=some (.string s.text):=by simp[*]);change K 0 _
    iterate 7
     refine Lt.ti (v:=?_) hS0 ?_ ?_;rotate_left 1
     ·intro w hSw;(try dsimp only at hSw);go_simp;first|done|with_reducible rfl
     simp only[gX]
    obtain⟨w6,ew6⟩:∃ w6,wr.drew=w6:=⟨_,rfl⟩;(have hb7:Below wr.heap.size wr w6:=by rw[<- ew6];exact(Below.refl _ _).drew);rw[ew6] at hS0 ⊢;clear ew6;refine Lt.sp (i:=7) (fun K hK=>?_);go_simp;refine hK.out _ _ (fun _=>⟨Ll hS0.1,Ll hS0.2.1,Ll hS0.2.2.1,Ll hS0.2.2.2⟩) (fun hS8=>?_);replace hS8:=hS8 (by decide);clear hK K hS0;refine Lt.sp (i:=8) (fun K hK=>?_);refine Kv rfl (by rfl) (P+1) v1 _ ys (by rfl) ((Ac HYS.o hb7).alloc _) w6.heap.size s.name s.text (by rfl) (Al _ _) (by have:=hb7.size;simp;omega) hln ?_;intro g' cap' w7 hown7 hgrow;have hsz6:=hb7.size
    have KC:∀(p:Addr) (u:Value),p.block<=P->World.cell? (w6.alloc _) p=some u->w7.cell? p=some u:=fun p u hp h=>by
     rw[hgrow.cell_far p (World.block_lt_of_cell? _ _ h) (fun e=>by have:=(HYS.o.lt _ e.symm).1;omega)];exact h
    have x0:=KC ⟨P,0,none⟩ _ (Nat.le_refl _) hS8.1;have x1:=KC ⟨w.heap.size,0,none⟩ _ (by show w.heap.size<=P;omega) hS8.2.1;have x2:=KC _ _ (by show b<=P;omega) hS8.2.2.1;have x3:=KC _ _ (by show b<=P;omega) hS8.2.2.2;have HNP:Hd (WS (w7.setCell ⟨P,0,none⟩ (.slice (some ⟨g',0,none⟩) (L.length+1) cap')) P (.slice (some ⟨g',0,none⟩) (L.length+1) cap') (.slice none 0 0) (L++[s]) []):=WS.putS (HW.o.bl (hb7.alloc hb7.size _)) ((Ac HYS.o hb7).alloc _) HFI.o hgrow hown7;have hbP7:Below P w5 w7:=((hbr.trans (hb7.mono (by omega))).alloc (by omega) _).grown hgrow (by simp;omega) (fun m hm=>by have:=(HYS.o.lt m hm).1;omega);(have hs7:P+1<=w7.heap.size:=by have h2:=hgrow.size;simp at h2;omega);(have fz:w7.frozen? ⟨P,0,none⟩=false:=by rw[hgrow.frozen_far ⟨P,0,none⟩ (by simp;omega) (fun e=>by have h:=(HYS.o.lt _ e.symm).1;exact absurd h (Nat.not_succ_le_self _))];exact fH (by rw[Lib.alloc_old _ _ _ (by omega)];exact(HW.o.bl hb7).blk) 0);refine hK.out _ _ (fun _=>⟨x0,x1,x2,x3⟩) (fun hS9=>?_);replace hS9:=hS9 (by decide);clear hK K hS8 hgrow hown7 KC;simp only[gX];refine Lt.ti (i:=9) (v:=?_) hS9 ?_ ?_;rotate_left 1
    ·intro w hSw;(try dsimp only at hSw);go_simp;first|done|with_reducible rfl
    simp only[gX];refine Lt.sp (i:=10) (fun K hK=>?_);go_simp;refine hK.out _ _ (fun h=>absurd rfl h) (fun _=>?_);clear hK K hS9;refine Lt.done (by kernel_rfl) ?_ _;go_wp2;go_roundw
    case rel=>exact⟨k+1,_,by omega,by go_num,(by rw[HFY.o];exact HNP.o),hbP7.setCell (p:=⟨P,0,none⟩) (Nat.le_refl _) _,by simpa using hs7⟩
    case measure=>simp[intOf];omega
  ·have ek:k=ss.length:=by omega
   subst ek;rw[List.take_of_length_le (Nat.le_refl _)] at HW;have HW1:Hd (WS wr P v1 (.slice none 0 0) (Hs t ss) (Iv t (ts.take 0))):=HW.o;have HB1:Hd (Below P w5 wr):=hbr;have hsz1:=hsz;clear HW hbr hw hsz HW0 s0 HRS;go_wp2;clear dZ
   go_loopw [7] (fun i wr=>∃(k:Nat) (v2:Value),k<=ts.length/\i=.int .i64 k/\Hd (WS wr P v1 v2 (Hs t ss) (Iv t (ts.take k)))/\Below P w5 wr/\P+1<=wr.heap.size) (fun i _=>ts.length-(intOf i).toNat)
   case atStart=>exact⟨0,_,Nat.zero_le _,rfl,HW1.o,HB1.o,hsz1⟩
   case round=>
    obtain⟨k,v2,hk,rfl,HW,hbr,hsz⟩:=hrel;have hw:Below w.heap.size w wr:=hB5.trans (hbr.mono (by omega));have dZ:wr.cell? ⟨w.heap.size,1,none⟩=some (.slice ta ts.length c2):=by rw[hbr.cell (p:=⟨w.heap.size,1,none⟩) (by simp;omega)];exact s1
    by_cases hlt:k<ts.length
    ·obtain⟨b,off,rfl,y1,x,p,y2,y3⟩:=HRT.o k hlt;have hbl:b<w.heap.size:=World.block_lt_of_cell? _ _ y1;have c1':=Ab hw y1;have c2':=Ab hw y2;have c3':∀ W':World,Below wr.heap.size wr W'->CopyP x p (tx ts k).code W':=fun W' hW'=>y3 W' (bt hw hW');have HFN:Hd ((tx ts k).name=t->Iv t (ts.take (k+1))=Iv t (ts.take k)):=fltT_no hlt;have HFA:Hd ((tx ts k).name≠t->Iv t (ts.take (k+1))=Iv t (ts.take k)++[tx ts k]):=fltT_yes hlt;(have hln:(Iv t (ts.take k)).length<=300:=by have:=fltT_take t ts k hk;omega);obtain⟨s,es⟩:∃ s,tx ts k=s:=⟨_,rfl⟩;rw[es] at c1' c2' c3' HFN HFA;clear es y1 y2 y3;(have hkI:(k:Int)<(ts.length:Int):=by omega);have hk0:(0:Int)<=(k:Int):=by omega
     by_cases hno:s.name=t
     ·have heq:=Eh hno;have HF2:Hd (Iv t (ts.take (k+1))=Iv t (ts.take k)):=HFN.o hno;clear hno HFN HFA c3';go_wp2;go_roundw
      case rel=>exact⟨k+1,_,by omega,by go_num,(by rw[HF2.o];exact HW.o),hbr,hsz⟩
      case measure=>simp[intOf];omega
     ·have heq:=Es hno;have HFY:Hd (Iv t (ts.take (k+1))=Iv t (ts.take k)++[s]):=HFA.o hno;clear hno HFN HFA;obtain⟨L,eL⟩:∃ L,Iv t (ts.take k)=L:=⟨_,rfl⟩;rw[eL] at HFY HW hln;clear eL;obtain⟨ys,cv,hys,hpt⟩:=HW.o.t;have HYS:Hd (wr.ownsRow (P+1) 62 2 v2 L.length ys):=hys;have HPT:Hd (Er wr (P+1) L L.length ys cv):=hpt;have dP:=HW.o.cell.2;have HCP:Hd (∀ W':World,Below wr.heap.size wr W'->Calls Tryz.prog 97 #[.agg #[.slice x s.code.length p]] W' fun e w'=>Below W'.heap.size W' w'/\∃ g cp,e=.returned (.agg #[.slice (some ⟨g,0,none⟩) s.code.length cp])/\w'.ownsRow W'.heap.size 106 3 (.slice (some ⟨g,0,none⟩) s.code.length cp) s.code.length (Hz s.code)):=c3';clear hys hpt c3';go_wp2_with fail;refine Lt.begin 19 (fun w'=>w'.cell? ⟨P,1,none⟩=some v2/\w'.cell? ⟨w.heap.size,1,none⟩=some (.slice (some ⟨b,off,none⟩) ts.length c2)/\w'.cell? ⟨b,off+k*2,none⟩=some (.string s.name)/\w'.cell? ⟨b,off+k*2+1,none⟩=some (.slice x s.code.length p)) (by kernel_rfl) ?_;(have hS0:wr.drew.cell? ⟨P,1,none⟩=some v2/\wr.drew.cell? ⟨w.heap.size,1,none⟩=some (.slice (some ⟨b,off,none⟩) ts.length c2)/\wr.drew.cell? ⟨b,off+k*2,none⟩=some (.string s.name)/\wr.drew.cell? ⟨b,off+k*2+1,none⟩=some (.slice x s.code.length p):=by simp[*]);change K 0 _
      iterate 14
       refine Lt.ti (v:=?_) hS0 ?_ ?_;rotate_left 1
       ·intro w hSw;(try dsimp only at hSw);go_simp;first|done|with_reducible rfl
       simp only[gX]
      refine Lt.sp (i:=14) (fun K hK=>?_);go_simp;refine(HCP.o _ ((Below.refl _ _).drew)).mono ?_;rintro e w6 ⟨hb6,gc,cpc,rfl,hoc⟩;have hb7:Below wr.heap.size wr w6:=(Below.drew (Below.refl _ _)).trans (hb6.mono (by simp));have HOC:Hd (w6.ownsRow wr.heap.size 106 3 (.slice (some ⟨gc,0,none⟩) s.code.length cpc) s.code.length (Hz s.code)):=Co hoc (by simp);refine hK.out _ _ (fun _=>⟨Ab hb7 dP,Ab hb7 dZ,Ab hb7 c1',Ab hb7 c2'⟩) (fun hS6=>?_);replace hS6:=hS6 (by decide);clear hK K hS0 hb6 hoc;refine Lt.ti (i:=15) (v:=?_) hS6 ?_ ?_;rotate_left 1
      ·intro w hSw;(try dsimp only at hSw);go_simp;first|done|with_reducible rfl
      simp only[gX];refine Lt.sp (i:=16) (fun K hK=>?_);go_simp;refine hK.out _ _ (fun _=>⟨Ll hS6.1,Ll hS6.2.1,Ll hS6.2.2.1,Ll hS6.2.2.2⟩) (fun hS8=>?_);replace hS8:=hS8 (by decide);clear hK K hS6;refine Lt.sp (i:=17) (fun K hK=>?_);refine Et rfl (by rfl) (P+1) v2 _ ys (by rfl) ((Ac HYS.o hb7).alloc _) w6.heap.size s.name (.slice (some ⟨gc,0,none⟩) s.code.length cpc) rfl (by rfl) (Al _ _) (by have:=hb7.size;simp;omega) hln ?_;intro g' cap' w7 hown7 hgrow;have hsz6:=hb7.size
      have KC:∀(p:Addr) (u:Value),p.block<=P->World.cell? (w6.alloc _) p=some u->w7.cell? p=some u:=fun p u hp h=>by
       rw[hgrow.cell_far p (World.block_lt_of_cell? _ _ h) (fun e=>by have:=(HYS.o.lt _ e.symm).1;omega)];exact h
      have x0:=KC ⟨P,1,none⟩ _ (Nat.le_refl _) hS8.1;have x1:=KC ⟨w.heap.size,1,none⟩ _ (by show w.heap.size<=P;omega) hS8.2.1;have x2:=KC _ _ (by show b<=P;omega) hS8.2.2.1;have x3:=KC _ _ (by show b<=P;omega) hS8.2.2.2;have HNP:Hd (WS (w7.setCell ⟨P,1,none⟩ (.slice (some ⟨g',0,none⟩) (L.length+1) cap')) P v1 (.slice (some ⟨g',0,none⟩) (L.length+1) cap') (Hs t ss) (L++[s])):=WS.putT HW.o (hb7.alloc (by omega) _) hsz HYS.o HPT.o (HOC.o.alloc _) (Mb _) hgrow hown7;have hbP7:Below P w5 w7:=((hbr.trans (hb7.mono (by omega))).alloc (by omega) _).grown hgrow (by simp;omega) (fun m hm=>by have:=(HYS.o.lt m hm).1;omega);(have hs7:P+1<=w7.heap.size:=by have h2:=hgrow.size;simp at h2;omega);(have fz:w7.frozen? ⟨P,1,none⟩=false:=by rw[hgrow.frozen_far ⟨P,1,none⟩ (by simp;omega) (fun e=>by have h:=(HYS.o.lt _ e.symm).1;exact absurd h (Nat.not_succ_le_self _))];exact fH (by rw[Lib.alloc_old _ _ _ (by omega)];exact(HW.o.bl hb7).blk) 1);refine hK.out _ _ (fun _=>⟨x0,x1,x2,x3⟩) (fun hS9=>?_);replace hS9:=hS9 (by decide);clear hK K hS8 hgrow hown7 KC;simp only[gX];refine Lt.ti (i:=18) (v:=?_) hS9 ?_ ?_;rotate_left 1
      ·intro w hSw;(try dsimp only at hSw);go_simp;first|done|with_reducible rfl
      simp only[gX];refine Lt.sp (i:=19) (fun K hK=>?_);go_simp;refine hK.out _ _ (fun h=>absurd rfl h) (fun _=>?_);clear hK K hS9;refine Lt.done (by kernel_rfl) ?_ _;go_wp2;go_roundw
      case rel=>exact⟨k+1,_,by omega,by go_num,(by rw[HFY.o];exact HNP.o),hbP7.setCell (p:=⟨P,1,none⟩) (Nat.le_refl _) _,by simpa using hs7⟩
      case measure=>simp[intOf];omega
    ·(have ek:k=ts.length:=by omega);subst ek;rw[List.take_of_length_le (Nat.le_refl _)] at HW;(have kbr:wr.heap[w.heap.size+1]?=some (.cells #[.slice none 0 0,.slice none 0 0] 26 (0,0)):=by rw[hbr.block _ hwP];exact KB5.o);(have r0:wr.cell? ⟨w.heap.size+1,0,none⟩=some (.slice none 0 0):=by rw[cH kbr];rfl);(have r1:wr.cell? ⟨w.heap.size+1,1,none⟩=some (.slice none 0 0):=by rw[cH kbr];rfl);have fr:∀ j,wr.frozen? ⟨w.heap.size+1,j,none⟩=false:=fun j=>fH kbr j;obtain⟨d0,d1⟩:=HW.o.cell;obtain⟨o1,o2⟩:=HW.o.own (lo:=P+1) (hi:=wr.heap.size) (Nat.le_refl _) (Nat.le_refl _);have HO1:Hd (Lr wr (P+1) wr.heap.size v1 (Hs t ss)):=o1;have HO2:Hd (Lf wr (P+1) wr.heap.size v2 (Iv t ts)):=o2;obtain⟨a1,p1,rfl,_⟩:=o1.sl;obtain⟨a2,p2,rfl,_⟩:=o2.sl;(have hR:w.heap.size<=w.heap.size+1:=by omega);clear kbr hbr o1 o2 HW HW1 HB1;go_wp2;refine bR (v:=.agg #[.slice a1 (Hs t ss).length p1,.slice a2 (Iv t ts).length p2]) (by simp[results,Tryz.results99,go_sem,r0,r1]) rfl ⟨(hw.setCell (p:=⟨w.heap.size+1,0,none⟩) hR _).setCell (p:=⟨w.heap.size+1,1,none⟩) hR _,_,_,rfl,?_,?_⟩
     ·exact((HO1.o.set (by omega) _).set (by omega) _).wide (by omega) (by simp)
     ·exact((HO2.o.set (by omega) _).set (by omega) _).wide (by omega) (by simp)

def Fp (l:List S2):List Value:=l.flatMap fun s=>[.string s.name,.string s.text]
theorem Ls (l:List S2):(Fp l).length=l.length*2:=by
 induction l with
 | nil=>rfl
 | cons s l ih=>simp[Fp] at ih ⊢;omega
theorem Lu (l m:List S2):Fp (l++m)=Fp l++Fp m:=by simp[Fp]
theorem srcV_one (s:S2):Fp [s]=[.string s.name,.string s.text]:=rfl
theorem Xo (l:List S2):Jb l l.length (Fp l):=by
 intro i hi
 have e:l=l.take i++(l[i] :: l.drop (i+1)):=by rw[<- List.drop_eq_getElem_cons hi,List.take_append_drop]
 have hl:(Fp (l.take i)).length=i*2:=by rw[Ls,List.length_take];omega
 have hs:Fp l=Fp (l.take i)++(.string l[i].name :: .string l[i].text :: Fp (l.drop (i+1))):=by
  conv=>lhs;rw[e]
  rw[Lu];rfl
 rw[hs,List.getElem?_append_right (by omega),List.getElem?_append_right (by omega),hl,Nat.sub_self,show i*2+1-i*2=1 by omega,Rp hi]
 exact⟨rfl,rfl⟩
theorem Zq {l:List S2} {xs:List Value} (h:Jb l l.length xs) (hl:xs.length=l.length*2):xs=Fp l:=by
 apply List.ext_getElem?
 intro j
 have hf:=Xo l
 rcases Nat.lt_or_ge j (l.length*2) with hj|hj
 ·obtain⟨a1,a2⟩:=h (j / 2) (by omega);obtain⟨b1,b2⟩:=hf (j / 2) (by omega)
  rcases Nat.mod_two_eq_zero_or_one j with hm|hm
  ·rw[show j=j / 2*2 by omega,a1,b1]
  ·rw[show j=j / 2*2+1 by omega,a2,b2]
 ·rw[List.getElem?_eq_none (by omega),List.getElem?_eq_none (by rw[Ls];omega)]
theorem Lr.v {w:World} {lo hi:Nat} {v:Value} {ss:List S2} (h:Lr w lo hi v ss):Dd w lo hi 98 2 v ss.length (Fp ss):=by
 obtain⟨xs,h1,h2⟩:=h
 rw[<- Zq h2 h1.own.1];exact h1
def Cx (w:World) (b T:Nat):Prop:=∃ cs,w.heap[b]?=some (.cells cs T (0,0))
theorem Cx.set {w:World} {b T c j:Nat} (h:Cx w b T) (u:Value):Cx (w.setCell ⟨c,j,none⟩ u) b T:=by
 obtain⟨cs,h⟩:=h
 by_cases e:b=c
 ·subst e;exact⟨_,by rw[jB h]⟩
 ·exact⟨cs,by rw[hC w ⟨c,j,none⟩ u b e];exact h⟩
theorem Cx.ne {w:World} {b T B e sz n:Nat} {v:Value} {xs:List Value} (h:Cx w b T) (ho:w.ownsRow B e sz v n xs) (hne:T≠e):v.ownBlock≠some b:=by
 obtain⟨cs,h⟩:=h
 intro eb
 rcases ho.2 with ⟨rfl,_⟩|⟨g,cap,cur,rfl,hg,hh,_⟩
 ·simp[Value.ownBlock] at eb
 ·simp only[Value.ownBlock,Option.some.injEq] at eb;rw[eb,h] at hh;simp at hh;exact hne hh.2
theorem Fk {w:World} {b T B e sz n j:Nat} {v:Value} {xs:List Value} (ho:w.ownsRow B e sz v n xs) (h:Cx w b T) (hne:T≠e) (u:Value):(w.setCell ⟨b,j,none⟩ u).ownsRow B e sz v n xs:=
 Cn ho fun c ec=>hC w ⟨b,j,none⟩ u c (fun e'=>h.ne ho hne (by rw[ec,e']))
structure TC where
 t:T2
 c:Value
def Ha (l:List TC):List Value:=l.flatMap fun a=>[.string a.t.name,a.c]
theorem Nj (l:List TC):(Ha l).length=l.length*2:=by
 induction l with
 | nil=>rfl
 | cons s l ih=>simp[Ha] at ih ⊢;omega
theorem Nk (l m:List TC):Ha (l++m)=Ha l++Ha m:=by simp[Ha]
theorem tcV_one (s:TC):Ha [s]=[.string s.t.name,s.c]:=rfl
theorem tcV_at (l:List TC) (i:Nat) (hi:i<l.length):(Ha l)[i*2]?=some (.string l[i].t.name)/\(Ha l)[i*2+1]?=some l[i].c:=by
 have e:l=l.take i++(l[i] :: l.drop (i+1)):=by rw[<- List.drop_eq_getElem_cons hi,List.take_append_drop]
 have hl:(Ha (l.take i)).length=i*2:=by rw[Nj,List.length_take];omega
 have hs:Ha l=Ha (l.take i)++(.string l[i].t.name :: l[i].c :: Ha (l.drop (i+1))):=by
  conv=>lhs;rw[e]
  rw[Nk];rfl
 rw[hs,List.getElem?_append_right (by omega),List.getElem?_append_right (by omega),hl,Nat.sub_self,show i*2+1-i*2=1 by omega]
 exact⟨rfl,rfl⟩
def ApC (a b:TC):Prop:=∀ k,a.c.ownBlock=some k->b.c.ownBlock≠some k
structure Codes (w:World) (lo hi:Nat) (l:List TC):Prop where
 code:∀ a∈l,∃ ys,Dd w lo hi 106 3 a.c a.t.code.length ys/\Fw a.t.code a.t.code.length ys
 apart:l.Pairwise ApC
theorem Lf.toC {w:World} {lo hi:Nat} {v:Value} {ts:List T2} (h:Lf w lo hi v ts):∃ l:List TC,l.map (·.t)=ts/\Dd w lo hi 62 2 v ts.length (Ha l)/\Codes w lo hi l:=by
 obtain⟨xs,cv,h⟩:=h
 obtain⟨l,el⟩:∃ l:List TC,l=(List.range ts.length).map (fun i=>⟨tx ts i,cv i⟩):=⟨_,rfl⟩
 have hl:l.length=ts.length:=by rw[el];simp
 have hg:∀ i (hi:i<l.length),l[i]=⟨tx ts i,cv i⟩:=fun i hi=>by subst el;simp
 have hx:xs=Ha l:=by
  apply List.ext_getElem?;intro j
  rcases Nat.lt_or_ge j (ts.length*2) with hj|hj
  ·obtain⟨a1,a2⟩:=h.fil (j / 2) (by omega);obtain⟨b1,b2⟩:=tcV_at l (j / 2) (by omega);rw[hg] at b1 b2
   rcases Nat.mod_two_eq_zero_or_one j with hm|hm
   ·rw[show j=j / 2*2 by omega,a1,b1]
   ·rw[show j=j / 2*2+1 by omega,a2,b2]
  ·rw[List.getElem?_eq_none (by rw[h.row.own.1];omega),List.getElem?_eq_none (by rw[Nj];omega)]
 refine⟨l,?_,by rw[<- hx];exact h.row,fun a ha=>?_,?_⟩
 ·apply List.ext_getElem
  ·simp[hl]
  ·intro i h1 h2;rw[List.getElem_map,hg];exact Vm h2
 ·obtain⟨i,hi,e⟩:=List.getElem_of_mem ha;rw[hg] at e;subst e;exact h.code i (by omega)
 ·rw[List.pairwise_iff_getElem];intro i j hi hj hij;rw[hg,hg];exact h.apart i j hij (by omega)
theorem Nv {B b:Nat} {w w':World} (h:Below B w w') (hb:B<=b) (v1 v2:Value):Below B w ((w'.setCell ⟨b,0,none⟩ v1).setCell ⟨b,1,none⟩ v2):=(h.setCell (p:=⟨b,0,none⟩) hb _).setCell (p:=⟨b,1,none⟩) hb _
def cx (l:List TC) (i:Nat):TC:=l.getD i ⟨⟨ByteArray.empty,[]⟩,.slice none 0 0⟩
theorem cx_get {l:List TC} {k:Nat} (h:k<l.length):cx l k=l[k]:=by simp[cx,gG,h]
end Go.Proofs.YtjlnkepkkdefdaaGreatDoor
