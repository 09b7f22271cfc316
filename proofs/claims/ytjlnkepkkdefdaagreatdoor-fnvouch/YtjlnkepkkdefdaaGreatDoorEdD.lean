import Derived.Test.YtjlnkepkkdefdaaGreatDoorDrF
import Derived.Test.YtjlnkepkkdefdaaGreatDoorBas
namespace Go.Proofs.YtjlnkepkkdefdaaGreatDoor
open Go.RowKit Go.Deep
set_option linter.unusedVariables false
set_option linter.unusedSimpArgs false
structure Dw (w:World) (lo:Nat) (v1 v2:Value) (l1:List S2) (l2:List TC):Prop where
 s:w.ownsRow lo 98 2 v1 l1.length (Fp l1)
 t:w.ownsRow lo 62 2 v2 l2.length (Ha l2)
 c:∀ a∈l2,w.ownsRow lo 106 3 a.c a.t.code.length (Di a.t.code)
section
variable {w w' W:World} {lo:Nat} {v1 v2 nv:Value} {l1:List S2} {l2:List TC}
theorem Dw.keep (h:Dw w lo v1 v2 l1 l2) (hk:∀ b,lo<=b->b<w.heap.size->w'.heap[b]?=w.heap[b]?):Dw w' lo v1 v2 l1 l2:=⟨Fs h.s hk,Fs h.t hk,fun a ha=>Fs (h.c a ha) hk⟩
theorem Dw.bl (h:Dw w lo v1 v2 l1 l2) (hb:Below w.heap.size w w'):Dw w' lo v1 v2 l1 l2:=h.keep fun b _ hl=>hb.block b hl
theorem Dw.gb {R:Nat} (h:Dw w lo v1 v2 l1 l2) (hg:w.grownBy w' (some R)) (hR:R<lo):Dw w' lo v1 v2 l1 l2:=h.keep fun b hb hl=>hg.block b hl (fun e=>by injection e with e;omega)
theorem Dw.base {lo':Nat} (h:Dw w lo v1 v2 l1 l2) (hl:lo'<=lo):Dw w lo' v1 v2 l1 l2:=⟨Co h.s hl,Co h.t hl,fun a ha=>Co (h.c a ha) hl⟩
theorem Dw.zero (w:World) (lo:Nat):Dw w lo (.slice none 0 0) (.slice none 0 0) [] []:=⟨World.ownsRow_nil _ _ _ _,World.ownsRow_nil _ _ _ _,fun a ha=>by cases ha⟩
theorem Dw.putS {s:S2} (h:Dw W lo v1 v2 l1 l2) (hg:W.grownBy w' v1.ownBlock) (hn:w'.ownsRow lo 98 2 nv (l1.length+1) (Fp l1++[.string s.name,.string s.text])):Dw w' lo nv v2 (l1++[s]) l2:=by
 refine⟨?_,Fv h.t h.s (by decide) hg,fun a ha=>Fv (h.c a ha) h.s (by decide) hg⟩
 rw[Lu,srcV_one,List.length_append]
 exact hn
theorem Dw.putT {s:T2} {c:Value} (h:Dw W lo v1 v2 l1 l2) (hc:W.ownsRow lo 106 3 c s.code.length (Di s.code)) (hg:W.grownBy w' v2.ownBlock) (hn:w'.ownsRow lo 62 2 nv (l2.length+1) (Ha l2++[.string s.name,c])):Dw w' lo v1 nv l1 (l2++[⟨s,c⟩]):=by
 refine⟨Fv h.s h.t (by decide) hg,?_,fun a ha=>?_⟩
 ·rw[Nk,tcV_one,List.length_append];exact hn
 ·rcases List.mem_append.1 ha with q|q
  ·exact Fv (h.c a q) h.t (by decide) hg
  ·obtain rfl:a=⟨s,c⟩:=by simpa using q
   exact Fv hc h.t (by decide) hg
theorem Rh (l:List TC) (i:Nat) (hi:i<l.length):(Ha l)[i*2]?=some (.string (cx l i).t.name)/\(Ha l)[i*2+1]?=some (cx l i).c:=by
 have e:Ha l=Ha (l.take i)++Ha (l.drop i):=by rw[<- Nk,List.take_append_drop]
 have hl:(Ha (l.take i)).length=i*2:=by rw[Nj,List.length_take];congr 1;omega
 rw[e,List.getElem?_append_right (by omega),List.getElem?_append_right (by omega),hl,List.drop_eq_getElem_cons hi,cx_get hi]
 refine⟨?_,?_⟩
 ·rw[Nat.sub_self];rfl
 ·rw[show i*2+1-i*2=1 by omega];rfl
theorem Xn (l:List S2) (i:Nat) (hi:i<l.length):(Fp l)[i*2]?=some (.string (sx l i).name)/\(Fp l)[i*2+1]?=some (.string (sx l i).text):=by
 have e:Fp l=Fp (l.take i)++Fp (l.drop i):=by rw[<- Lu,List.take_append_drop]
 have hl:(Fp (l.take i)).length=i*2:=by rw[Ls,List.length_take];congr 1;omega
 rw[e,List.getElem?_append_right (by omega),List.getElem?_append_right (by omega),hl,List.drop_eq_getElem_cons hi,Rp hi]
 refine⟨?_,?_⟩
 ·rw[Nat.sub_self];rfl
 ·rw[show i*2+1-i*2=1 by omega];rfl
theorem Dw.tc (h:Dw w lo v1 v2 l1 l2) (i:Nat) (hi:i<l2.length):∃ g cap,v2=.slice (some ⟨g,0,none⟩) l2.length cap/\lo<=g/\w.cell? ⟨g,i*2,none⟩=some (.string (cx l2 i).t.name)/\w.cell? ⟨g,i*2+1,none⟩=some (cx l2 i).c/\∀ j,w.frozen? ⟨g,j,none⟩=false:=by
 rcases h.t.2 with ⟨_,q⟩|⟨g,cap,cur,rfl,hg,_⟩
 ·omega
 ·refine⟨g,cap,rfl,hg,?_,?_,fun j=>h.t.frozenAt j⟩
  ·rw[h.t.cellAt (i*2) (by omega)];exact(Rh l2 i hi).1
  ·rw[h.t.cellAt (i*2+1) (by omega)];exact(Rh l2 i hi).2
theorem Dw.sc (h:Dw w lo v1 v2 l1 l2) (i:Nat) (hi:i<l1.length):∃ g cap,v1=.slice (some ⟨g,0,none⟩) l1.length cap/\lo<=g/\w.cell? ⟨g,i*2,none⟩=some (.string (sx l1 i).name)/\w.cell? ⟨g,i*2+1,none⟩=some (.string (sx l1 i).text)/\∀ j,w.frozen? ⟨g,j,none⟩=false:=by
 rcases h.s.2 with ⟨_,q⟩|⟨g,cap,cur,rfl,hg,_⟩
 ·omega
 ·refine⟨g,cap,rfl,hg,?_,?_,fun j=>h.s.frozenAt j⟩
  ·rw[h.s.cellAt (i*2) (by omega)];exact(Xn l1 i hi).1
  ·rw[h.s.cellAt (i*2+1) (by omega)];exact(Xn l1 i hi).2
theorem Dw.s1 (h:Dw w lo v1 v2 l1 l2):∃ a cap,v1=.slice a l1.length cap:=by
 rcases h.s.2 with ⟨q,q'⟩|⟨g,cap,cur,rfl,_⟩
 ·exact⟨none,0,by rw[q,q']⟩
 ·exact⟨_,_,rfl⟩
theorem Dw.s2 (h:Dw w lo v1 v2 l1 l2):∃ a cap,v2=.slice a l2.length cap:=by
 rcases h.t.2 with ⟨q,q'⟩|⟨g,cap,cur,rfl,_⟩
 ·exact⟨none,0,by rw[q,q']⟩
 ·exact⟨_,_,rfl⟩
theorem Ee {B e sz n g m c j:Nat} {B' e' sz':Nat} {v:Value} {xs ys:List Value} (h:w.ownsRow B e sz v n xs) (hu:w.ownsRow B' e' sz' (.slice (some ⟨g,0,none⟩) m c) m ys) (hne:e≠e') (u:Value):(w.setCell ⟨g,j,none⟩ u).ownsRow B e sz v n xs:=
 Fv h hu hne (Ci w g j u)
end
theorem Ej {w:World} {B n:Nat} {v:Value} {is:List I3} (hn:n=is.length) (h:w.ownsRow B 106 3 v n (Di is)):∃ a cap,v=.slice a n cap/\Dr w a is:=by
 rcases h.2 with ⟨q,q'⟩|⟨g,cap,cur,rfl,_⟩
 ·exact⟨none,0,by rw[q,q'],fun i hi=>by omega⟩
 ·refine⟨_,cap,rfl,fun i hi=>⟨g,0,rfl,?_,?_,?_⟩⟩
  ·rw[Nat.zero_add,h.cellAt (i*3) (by omega)];exact Ia is i 0 hi (by omega)
  ·rw[Nat.zero_add,h.cellAt (i*3+1) (by omega)];exact Ia is i 1 hi (by omega)
  ·rw[Nat.zero_add,h.cellAt (i*3+2) (by omega)];exact Ia is i 2 hi (by omega)
structure Tm (l1:List S2) (l2:List TC):Prop where
 n1:l1.length<=202
 n2:l2.length<=202
 s:∀ x∈l1,x.name.size<=50000/\x.text.size<=50000
 t:∀ a∈l2,a.t.name.size<=50000/\a.t.code.length<=400/\∀ x∈a.t.code,x.text.size<=50000
theorem Dq {l:List TC} {i:Nat} (h:i<l.length):cx l i∈l:=by rw[cx_get h];exact List.getElem_mem _
theorem Vp {l:List S2} {i:Nat} (h:i<l.length):sx l i∈l:=by rw[Rp h];exact List.getElem_mem _
theorem Vl (l:List TC) (i:Nat) (h:i<l.length):tx (l.map (·.t)) i=(cx l i).t:=by rw[Vm (by simpa using h),cx_get h];simp
theorem Dw.rows {w:World} {lo:Nat} {v1 v2:Value} {l1:List S2} {l2:List TC} (h:Dw w lo v1 v2 l1 l2):∃ sa c1 ta c2,v1=.slice sa l1.length c1/\v2=.slice ta l2.length c2/\Iz w sa l1/\Iy w ta (l2.map (·.t)):=by
 obtain⟨sa,c1,e1⟩:=h.s1
 obtain⟨ta,c2,e2⟩:=h.s2
 refine⟨sa,c1,ta,c2,e1,e2,fun i hi=>?_,fun i hi=>?_⟩
 ·obtain⟨g,cap,e,_,q1,q2,_⟩:=h.sc i hi;rw[e1] at e;cases e;exact⟨g,0,rfl,by rw[Nat.zero_add];exact q1,by rw[Nat.zero_add];exact q2⟩
 ·rw[List.length_map] at hi;obtain⟨g,cap,e,_,q1,q2,_⟩:=h.tc i hi;rw[e2] at e;cases e;obtain⟨a',cap',e3,r3⟩:=Ej rfl (h.c _ (Dq hi));rw[Vl l2 i hi];exact⟨g,0,rfl,by rw[Nat.zero_add];exact q1,a',cap',by rw[Nat.zero_add,q2,e3],r3⟩
theorem Dw.ok {w:World} {lo:Nat} {v1 v2:Value} {l1:List S2} {l2:List TC} (h:Dw w lo v1 v2 l1 l2) (hb:Tm l1 l2):∃ sa c1 ta c2,v1=.slice sa l1.length c1/\v2=.slice ta (l2.map (·.t)).length c2/\Mx w sa l1 ta (l2.map (·.t))/\Mu l1 (l2.map (·.t)):=by
 obtain⟨sa,c1,ta,c2,e1,e2,r1,r2⟩:=h.rows
 have hs:∀ i,(sx l1 i).name.size<=50000/\(sx l1 i).text.size<=50000:=fun i=>by
  rcases Nat.lt_or_ge i l1.length with q|q
  ·exact hb.s _ (Vp q)
  ·have e:sx l1 i=⟨ByteArray.empty,ByteArray.empty⟩:=by simp[sx,gG,q]
   rw[e];exact⟨Nat.zero_le _,Nat.zero_le _⟩
 have ht:∀ i,(tx (l2.map (·.t)) i).name.size<=50000/\(tx (l2.map (·.t)) i).code.length<=400/\∀ x∈(tx (l2.map (·.t)) i).code,x.text.size<=50000:=fun i=>by
  rcases Nat.lt_or_ge i l2.length with q|q
  ·rw[Vl l2 i q];exact hb.t _ (Dq q)
  ·have e:tx (l2.map (·.t)) i=⟨ByteArray.empty,[]⟩:=by simp[tx,gG,q]
   rw[e];exact⟨Nat.zero_le _,Nat.zero_le _,fun x hx=>by cases hx⟩
 have n1:=hb.n1
 have n2:=hb.n2
 refine⟨sa,c1,ta,c2,e1,by rw[List.length_map];exact e2,⟨r1,r2,by unfold maxLen;omega,by unfold maxLen;rw[List.length_map];omega,fun i=>?_,fun i=>?_,fun i=>?_,fun i=>?_,fun i j=>?_⟩,⟨by omega,by rw[List.length_map];omega,fun i _=>?_⟩⟩
 ·have:=(hs i).1;unfold maxLen;omega
 ·have:=(hs i).2;unfold maxLen;omega
 ·have:=(ht i).1;unfold maxLen;omega
 ·have:=(ht i).2.1;unfold maxLen;omega
 ·have h3:(ix (tx (l2.map (·.t)) i).code j).text.size<=50000:=by
   rcases Nat.lt_or_ge j (tx (l2.map (·.t)) i).code.length with q|q
   ·(have e:ix (tx (l2.map (·.t)) i).code j=(tx (l2.map (·.t)) i).code[j]:=by simp[ix,gG,q]);rw[e];exact(ht i).2.2 _ (List.getElem_mem _)
   ·(have e:ix (tx (l2.map (·.t)) i).code j=Go.Proofs.YtjlnkepkkdefdaaGreatDoor.i0:=by simp[ix,gG,q]);rw[e];exact Nat.zero_le _
  unfold maxLen;omega
 ·have:=(ht i).2.1;omega
theorem Br {W W':World} {R b:Nat} {o:Obj} (h:W.heap[b]?=some o) (hg:W.grownBy W' (some R)) (hne:b≠R):W'.heap[b]?=some o:=by rw[hg.block b (Dj h) (fun e=>by injection e with e;omega)];exact h
theorem Cj {W W':World} {b:Nat} {row:Option Nat} {o:Obj} (h:W.heap[b]?=some o) (hg:W.grownBy W' row) (hne:row≠some b):W'.heap[b]?=some o:=by rw[hg.block b (Dj h) (fun e=>hne e.symm)];exact h
theorem Bp {W:World} {b c j:Nat} {o:Obj} (h:W.heap[b]?=some o) (hne:b≠c) (u:Value):(W.setCell ⟨c,j,none⟩ u).heap[b]?=some o:=by rw[hC W ⟨c,j,none⟩ u b hne];exact h
theorem own_gb {W W':World} {R lo e sz n:Nat} {v:Value} {xs:List Value} (h:W.ownsRow lo e sz v n xs) (hg:W.grownBy W' (some R)) (hR:R<lo):W'.ownsRow lo e sz v n xs:=Fs h fun b hb hl=>hg.block b hl (fun e=>by injection e with e;omega)
theorem Cg {W W':World} {lo e sz n:Nat} {v:Value} {xs:List Value} (h:W.ownsRow lo e sz v n xs) (hb:Below W.heap.size W W'):W'.ownsRow lo e sz v n xs:=Fs h fun b _ hl=>hb.block b hl
theorem Bd.grow {B R:Nat} {a:Option Addr} {len cap p K:Nat} {w0 w w':World} {row:Option Nat} (h:Bd B R a len cap p K w0 w) (hB:B<=w0.heap.size) (hg:w.grownBy w' row) (hr:∀ k,row=some k->w0.heap.size<=k):Bd B R a len cap p K w0 w':=by
 obtain⟨h1,p',h2,h3⟩:=h
 exact⟨Gh h1 hg (fun k hk=>Or.inr (hr k hk)),p',h2,h3.kept (Nat.le_trans hB h1.size) hg (fun k hk=>Nat.le_trans hB (hr k hk))⟩
theorem Bd.set {B R:Nat} {a:Option Addr} {len cap p K b j:Nat} {w0 w:World} (h:Bd B R a len cap p K w0 w) (hB:B<=w0.heap.size) (hb:w0.heap.size<=b) (u:Value):Bd B R a len cap p K w0 (w.setCell ⟨b,j,none⟩ u):=h.grow hB (Ci w b j u) (fun k hk=>by cases hk;exact hb)
theorem Bd.size {B R:Nat} {a:Option Addr} {len cap p K:Nat} {w0 w:World} (h:Bd B R a len cap p K w0 w):w0.heap.size<=w.heap.size:=h.1.size
theorem Ck {w:World} {b T:Nat} {v:Value} (h:w.heap[b]?=some (.cells #[v] T (0,0))):w.cell? ⟨b,0,none⟩=some v:=by rw[cH h];rfl
theorem Dw.setT {w:World} {b j lo T:Nat} {v1 v2:Value} {l1:List S2} {l2:List TC} (h:Dw w lo v1 v2 l1 l2) (ht:Cx w b T) (h1:T≠98) (h2:T≠62) (h3:T≠106) (u:Value):Dw (w.setCell ⟨b,j,none⟩ u) lo v1 v2 l1 l2:=⟨Fk h.s ht h1 u,Fk h.t ht h2 u,fun a ha=>Fk (h.c a ha) ht h3 u⟩
structure Sw (V:World) (P lo:Nat) (v1 v2:Value) (l1:List S2) (l2:List TC):Prop where
 blk:V.heap[P]?=some (.cells #[v1,v2] 26 (0,0))
 dw:Dw V lo v1 v2 l1 l2
 bd:Tm l1 l2
 ge:lo<=P
section
variable {V V':World} {P lo:Nat} {v1 v2 nv:Value} {l1:List S2} {l2:List TC}
theorem Sw.c (h:Sw V P lo v1 v2 l1 l2):V.cell? ⟨P,0,none⟩=some v1/\V.cell? ⟨P,1,none⟩=some v2/\∀ j,V.frozen? ⟨P,j,none⟩=false:=⟨(Am h.blk).1,(Am h.blk).2,fun j=>fH h.blk j⟩
theorem Sw.bl (h:Sw V P lo v1 v2 l1 l2) (hb:Below V.heap.size V V'):Sw V' P lo v1 v2 l1 l2:=⟨Aa h.blk hb,h.dw.bl hb,h.bd,h.ge⟩
theorem Sw.gb {R:Nat} (h:Sw V P lo v1 v2 l1 l2) (hg:V.grownBy V' (some R)) (hR:R<lo):Sw V' P lo v1 v2 l1 l2:=⟨Br h.blk hg (by have:=h.ge;omega),h.dw.gb hg hR,h.bd,h.ge⟩
theorem Sw.set {b j T:Nat} (h:Sw V P lo v1 v2 l1 l2) (ht:Cx V b T) (h1:T≠98) (h2:T≠62) (h3:T≠106) (hne:b≠P) (u:Value):Sw (V.setCell ⟨b,j,none⟩ u) P lo v1 v2 l1 l2:=⟨Bp h.blk (fun e=>hne e.symm) u,h.dw.setT ht h1 h2 h3 u,h.bd,h.ge⟩
theorem Sw.noR (h:Sw V P lo v1 v2 l1 l2):v1.ownBlock≠some P/\v2.ownBlock≠some P:=⟨Cx.ne (T:=26) ⟨_,h.blk⟩ h.dw.s (by decide),Cx.ne (T:=26) ⟨_,h.blk⟩ h.dw.t (by decide)⟩
theorem Tm.putS {s:S2} (h:Tm l1 l2) (hn:l1.length<=201) (hs:s.name.size<=50000/\s.text.size<=50000):Tm (l1++[s]) l2:=by
 refine⟨by simp;omega,h.n2,fun x hx=>?_,h.t⟩
 rcases List.mem_append.1 hx with q|q
 ·exact h.s x q
 ·obtain rfl:x=s:=by simpa using q
  exact hs
theorem Tm.putT {s:TC} (h:Tm l1 l2) (hn:l2.length<=201) (hs:s.t.name.size<=50000/\s.t.code.length<=400/\∀ x∈s.t.code,x.text.size<=50000):Tm l1 (l2++[s]):=by
 refine⟨h.n1,by simp;omega,h.s,fun x hx=>?_⟩
 rcases List.mem_append.1 hx with q|q
 ·exact h.t x q
 ·obtain rfl:x=s:=by simpa using q
  exact hs
theorem Sw.putS {s:S2} (h:Sw V P lo v1 v2 l1 l2) (hg:V.grownBy V' v1.ownBlock) (hn:V'.ownsRow lo 98 2 nv (l1.length+1) (Fp l1++[.string s.name,.string s.text])) (hl:l1.length<=201) (hs:s.name.size<=50000/\s.text.size<=50000):Sw (V'.setCell ⟨P,0,none⟩ nv) P lo nv v2 (l1++[s]) l2:=by
 have hb:=Cj h.blk hg h.noR.1
 exact⟨by rw[jB hb];rfl,(h.dw.putS hg hn).setT ⟨_,hb⟩ (by decide) (by decide) (by decide) nv,h.bd.putS hl hs,h.ge⟩
theorem Sw.putT {s:T2} {c:Value} (h:Sw V P lo v1 v2 l1 l2) (hc:V.ownsRow lo 106 3 c s.code.length (Di s.code)) (hg:V.grownBy V' v2.ownBlock) (hn:V'.ownsRow lo 62 2 nv (l2.length+1) (Ha l2++[.string s.name,c])) (hl:l2.length<=201) (hs:s.name.size<=50000/\s.code.length<=400/\∀ x∈s.code,x.text.size<=50000):Sw (V'.setCell ⟨P,1,none⟩ nv) P lo v1 nv l1 (l2++[⟨s,c⟩]):=by
 have hb:=Cj h.blk hg h.noR.2
 exact⟨by rw[jB hb];rfl,(h.dw.putT hc hg hn).setT ⟨_,hb⟩ (by decide) (by decide) (by decide) nv,h.bd.putT hl hs,h.ge⟩
theorem Sw.app {row:Option Nat} (h:Sw V P lo v1 v2 l1 l2) (hg:V.grownBy V' row) (hr:row=v1.ownBlock\/row=v2.ownBlock):V'.heap[P]?=some (.cells #[v1,v2] 26 (0,0)):=Cj h.blk hg (by rcases hr with rfl|rfl<;>first|exact h.noR.1|exact h.noR.2)
end
theorem Tm.nil:Tm [] []:=⟨by simp,by simp,fun x hx=>(by cases hx),fun x hx=>(by cases hx)⟩
theorem Kr {α:Type} {p:α->Prop} {l:List α} {x:α} (h:∀ a∈l,p a) (hx:p x):∀ a∈l++[x],p a:=fun a ha=>by
 rcases List.mem_append.1 ha with q|q
 ·exact h a q
 ·obtain rfl:=List.mem_singleton.1 q;exact hx
theorem short2 {x y:I3} (h1:x.text.size<=50000) (h2:y.text.size<=50000):∀ a∈[x,y],a.text.size<=50000:=fun a ha=>by
 simp at ha
 rcases ha with rfl|rfl<;>assumption
theorem short3 {x y z:I3} (h1:x.text.size<=50000) (h2:y.text.size<=50000) (h3:z.text.size<=50000):∀ a∈[x,y,z],a.text.size<=50000:=fun a ha=>by
 simp at ha
 rcases ha with rfl|rfl|rfl<;>assumption
theorem Dw.ret {w:World} {b lo:Nat} {x y v1 v2:Value} {l1:List S2} {l2:List TC} (h:Dw w lo v1 v2 l1 l2) (hb:w.heap[b]?=some (.cells #[x,y] 26 (0,0))):Dw ((w.setCell ⟨b,0,none⟩ v1).setCell ⟨b,1,none⟩ v2) lo v1 v2 l1 l2:=
 (h.setT ⟨_,hb⟩ (by decide) (by decide) (by decide) _).setT (Cx.set ⟨_,hb⟩ _) (by decide) (by decide) (by decide) _
theorem Bz {W:World} {o:Obj} {Q:World->Prop} (h:∀ wN,Below W.heap.size W wN->Hd (wN.heap[W.heap.size]?=some o)->Q wN):Q (W.alloc o):=h _ (aN _ _) (Al _ _)
end Go.Proofs.YtjlnkepkkdefdaaGreatDoor
