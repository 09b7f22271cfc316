import Derived.Test.YtoihflimijabjaaGreatDoorBas
import Derived.Test.YtoihflimijabjaaGreatDoorDrF
namespace Go.Proofs.YtoihflimijabjaaGreatDoor
open Value renaming slice->J,string->S,agg->G,pointer->D
open Option renaming some->M,none->N
open Obj renaming cells->O
open Go renaming Value->Z,World->E
open Ending renaming returned->H
open _root_ renaming List->L,Nat->X
set_option maxHeartbeats 16000000
set_option maxRecDepth 100000
open _root_.Go.Proofs.Tryz Go.RowKit Go.Deep
set_option linter.unusedVariables false
set_option linter.unusedSimpArgs false
variable {B n i R b j e sz p T pb g:X} {v v1 v2:Z} {is:L I3} {l1:L S2} {l2:L TC} {W W' w0:E} {xs:L Z} {a:Option Addr}
section
variable {w w' W:E} {lo:X} {v1 v2 nv:Z} {l1:L S2} {l2:L TC}
end
open Go.RowKit Go.Deep
set_option linter.unusedVariables false
structure Dw (w:E) (lo:X) (v1 v2:Z) (l1:L S2) (l2:L TC):Prop where
 s:w.ownsRow lo 110 2 v1 l1.length (Eb l1)
 t:w.ownsRow lo 113 2 v2 l2.length (Jc l2)
 c:∀a∈l2,w.ownsRow lo 103 3 a.c a.t.code.length (Dd a.t.code)
section
variable {w w' W:E} {lo:X} {v1 v2 nv:Z} {l1:L S2} {l2:L TC}
theorem Dw.keep(h:Dw w lo v1 v2 l1 l2)(hk:∀b,lo<=b->b<w.heap.size->w'.heap[b]?=w.heap[b]?):Dw w' lo v1 v2 l1 l2:=⟨Ff h.s hk,Ff h.t hk,λa ha=>Ff (h.c a ha) hk⟩
theorem Dw.bl(h:Dw w lo v1 v2 l1 l2)(hb:Bw w w'):Dw w' lo v1 v2 l1 l2:=h.keep λb _ hl=>hb.block b hl
theorem Dw.gb{R:X}(h:Dw w lo v1 v2 l1 l2)(hg:w.grownBy w' (M R))(hR:R<lo):Dw w' lo v1 v2 l1 l2:=h.keep λb hb hl=>hg.block b hl (λe=>qbu)
theorem Dw.base{lo':X}(h:Dw w lo v1 v2 l1 l2)(hl:lo'<=lo):Dw w lo' v1 v2 l1 l2:=⟨Al h.s hl,Al h.t hl,λa ha=>Al (h.c a ha) hl⟩
theorem Dw.zero(w:E)(lo:X):Dw w lo nS nS [] []:=⟨World.ownsRow_nil _ _ _ _,World.ownsRow_nil _ _ _ _,λa ha=>by cases ha⟩
theorem Dw.putS{s:S2}(h:Dw W lo v1 v2 l1 l2)(hg:W.grownBy w' v1.ownBlock)(hn:w'.ownsRow lo 110 2 nv (l1.length+1) (Eb l1++[S s.name,S s.text])):Dw w' lo nv v2 (l1++[s]) l2:=by
 refine⟨?_,Dz h.t h.s qh hg,λa ha=>Dz (h.c a ha) h.s qh hg⟩
 rw[Jf,Wj,List.length_append]
 exact hn
theorem Dw.putT{s:T2}{c:Z}(h:Dw W lo v1 v2 l1 l2)(hc:W.ownsRow lo 103 3 c s.code.length (Dd s.code))(hg:W.grownBy w' v2.ownBlock)(hn:w'.ownsRow lo 113 2 nv (l2.length+1) (Jc l2++[S s.name,c])):Dw w' lo v1 nv l1 (l2++[⟨s,c⟩]):=by
 refine⟨Dz h.s h.t qh hg,?_,λa ha=>?_⟩
 ·rw[Kc,tcV_one,List.length_append];exact hn
 ·rcases List.mem_append.1 ha with q|q
  ·exact Dz (h.c a q) h.t qh hg
  ·obtain rfl:a=⟨s,c⟩:=by simpa using q
   exact Dz hc h.t qh hg
theorem Qo(l:L TC)(i:X)(hi:i<l.length):(Jc l)[i*2]?=M (S (cx l i).t.name)/\(Jc l)[i*2+1]?=M (cx l i).c:=by
 have e:Jc l=Jc (l.take i)++Jc (l.drop i):=by rw[<- Kc,List.take_append_drop]
 have hl:(Jc (l.take i)).length=i*2:=by rw[Ml,List.length_take];congr 1;omega
 rw[e,List.getElem?_append_right qg,List.getElem?_append_right qg,hl,List.drop_eq_getElem_cons hi,Mu hi]
 refine⟨?_,?_⟩
 ·rw[Nat.sub_self];rfl
 ·rw[show i*2+1-i*2=1 from qg];rfl
theorem Wk(l:L S2)(i:X)(hi:i<l.length):(Eb l)[i*2]?=M (S (sx l i).name)/\(Eb l)[i*2+1]?=M (S (sx l i).text):=by
 have e:Eb l=Eb (l.take i)++Eb (l.drop i):=by rw[<- Jf,List.take_append_drop]
 have hl:(Eb (l.take i)).length=i*2:=by rw[Kz,List.length_take];congr 1;omega
 rw[e,List.getElem?_append_right qg,List.getElem?_append_right qg,hl,List.drop_eq_getElem_cons hi,Ol hi]
 refine⟨?_,?_⟩
 ·rw[Nat.sub_self];rfl
 ·rw[show i*2+1-i*2=1 from qg];rfl
theorem Dw.tc(h:Dw w lo v1 v2 l1 l2)(i:X)(hi:i<l2.length):∃g cap,v2=J (p_ g) l2.length cap/\lo<=g/\w.cell? ⟨g,i*2,N⟩=M (S (cx l2 i).t.name)/\w.cell? ⟨g,i*2+1,N⟩=M (cx l2 i).c/\∀j,w.frozen? ⟨g,j,N⟩=false:=by
 rcases h.t.2 with⟨_,q⟩|⟨g,cap,cur,rfl,hg,_⟩
 ·omega
 ·refine⟨g,cap,rfl,hg,?_,?_,λj=>h.t.frozenAt j⟩
  ·rw[h.t.cellAt (i*2) qg];exact(Qo l2 i hi).1
  ·rw[h.t.cellAt (i*2+1) qg];exact(Qo l2 i hi).2
theorem Dw.sc(h:Dw w lo v1 v2 l1 l2)(i:X)(hi:i<l1.length):∃g cap,v1=J (p_ g) l1.length cap/\lo<=g/\w.cell? ⟨g,i*2,N⟩=M (S (sx l1 i).name)/\w.cell? ⟨g,i*2+1,N⟩=M (S (sx l1 i).text)/\∀j,w.frozen? ⟨g,j,N⟩=false:=by
 rcases h.s.2 with⟨_,q⟩|⟨g,cap,cur,rfl,hg,_⟩
 ·omega
 ·refine⟨g,cap,rfl,hg,?_,?_,λj=>h.s.frozenAt j⟩
  ·rw[h.s.cellAt (i*2) qg];exact(Wk l1 i hi).1
  ·rw[h.s.cellAt (i*2+1) qg];exact(Wk l1 i hi).2
theorem Dw.s1(h:Dw w lo v1 v2 l1 l2):∃a cap,v1=J a l1.length cap:=by
 rcases h.s.2 with⟨q,q'⟩|⟨g,cap,cur,rfl,_⟩
 ·exact⟨N,0,by rw[q,q']⟩
 ·exact⟨_,_,rfl⟩
theorem Dw.s2(h:Dw w lo v1 v2 l1 l2):∃a cap,v2=J a l2.length cap:=by
 rcases h.t.2 with⟨q,q'⟩|⟨g,cap,cur,rfl,_⟩
 ·exact⟨N,0,by rw[q,q']⟩
 ·exact⟨_,_,rfl⟩
theorem Nf{B e sz n g m c j:X}{B' e' sz':X}{v:Z}{xs ys:L Z}(h:w.ownsRow B e sz v n xs)(hu:w.ownsRow B' e' sz' (J (p_ g) m c) m ys)(aq:e≠e')(u:Z):(w.setCell ⟨g,j,N⟩ u).ownsRow B e sz v n xs:=
 Dz h hu aq (Bp w g j u)
end
theorem Iq{w:E}(hn:n=is.length)(h:w.ownsRow B 103 3 v n (Dd is)):∃a cap,v=J a n cap/\Dl w a is:=by
 rcases h.2 with⟨q,q'⟩|⟨g,cap,cur,rfl,_⟩
 ·exact⟨N,0,by rw[q,q'],λi hi=>qg⟩
 ·refine⟨_,cap,rfl,λi hi=>⟨g,0,rfl,?_,?_,?_⟩⟩
  ·rw[Nat.zero_add,h.cellAt (i*3) qg];exact Fa is i 0 hi qg
  ·rw[Nat.zero_add,h.cellAt (i*3+1) qg];exact Fa is i 1 hi qg
  ·rw[Nat.zero_add,h.cellAt (i*3+2) qg];exact Fa is i 2 hi qg
structure Yi (l1:L S2) (l2:L TC):Prop where
 n1:l1.length<=202
 n2:l2.length<=202
 s:∀x∈l1,x.name.size<=50000/\x.text.size<=50000
 t:∀a∈l2,a.t.name.size<=50000/\a.t.code.length<=400/\∀x∈a.t.code,x.text.size<=50000
theorem Kl{l:L TC}(h:i<l.length):cx l i∈l:=by rw[Mu h];exact List.getElem_mem _
theorem Uo{l:L S2}(h:i<l.length):sx l i∈l:=by rw[Ol h];exact List.getElem_mem _
theorem tx_map(l:L TC)(i:X)(h:i<l.length):tx (l.map (·.t)) i=(cx l i).t:=by rw[Mk Zl,Mu h];simp
theorem Dw.rows{w:E}{lo:X}(h:Dw w lo v1 v2 l1 l2):∃sa c1 ta c2,v1=J sa l1.length c1/\v2=J ta l2.length c2/\Hz w sa l1/\Jq w ta (l2.map (·.t)):=by
 obtain⟨sa,c1,e1⟩:=h.s1
 obtain⟨ta,c2,e2⟩:=h.s2
 refine⟨sa,c1,ta,c2,e1,e2,λi hi=>?_,λi hi=>?_⟩
 ·obtain⟨g,cap,e,_,q1,q2,_⟩:=h.sc i hi;rw[e1]at e;cases e;exact⟨g,0,rfl,by rw[Nat.zero_add];exact q1,by rw[Nat.zero_add];exact q2⟩
 ·rw[List.length_map]at hi;obtain⟨g,cap,e,_,q1,q2,_⟩:=h.tc i hi;rw[e2]at e;cases e;obtain⟨a',ai,e3,r3⟩:=Iq rfl (h.c _ (Kl hi));rw[tx_map l2 i hi];exact⟨g,0,rfl,by rw[Nat.zero_add];exact q1,a',ai,by rw[Nat.zero_add,q2,e3],r3⟩
theorem Dw.ok{w:E}{lo:X}(h:Dw w lo v1 v2 l1 l2)(hb:Yi l1 l2):∃sa c1 ta c2,v1=J sa l1.length c1/\v2=J ta (l2.map (·.t)).length c2/\Ku w sa l1 ta (l2.map (·.t))/\Hi l1 (l2.map (·.t)):=by
 obtain⟨sa,c1,ta,c2,e1,e2,r1,r2⟩:=h.rows
 have hs:∀i,(sx l1 i).name.size<=50000/\(sx l1 i).text.size<=50000:=λi=>by
  rcases Nat.lt_or_ge i l1.length with q|q
  ·exact hb.s _ (Uo q)
  ·have e:sx l1 i=⟨ByteArray.empty,ByteArray.empty⟩:=by simp[sx,gG,q]
   rw[e];exact⟨Nat.zero_le _,Nat.zero_le _⟩
 have ht:∀i,(tx (l2.map (·.t)) i).name.size<=50000/\(tx (l2.map (·.t)) i).code.length<=400/\∀x∈(tx (l2.map (·.t)) i).code,x.text.size<=50000:=λi=>by
  rcases Nat.lt_or_ge i l2.length with q|q
  ·rw[tx_map l2 i q];exact hb.t _ (Kl q)
  ·have e:tx (l2.map (·.t)) i=⟨ByteArray.empty,[]⟩:=by simp[tx,gG,q]
   rw[e];exact⟨Nat.zero_le _,Nat.zero_le _,λx hx=>qbl⟩
 have n1:=hb.n1
 have n2:=hb.n2
 refine⟨sa,c1,ta,c2,e1,by rw[List.length_map];exact e2,⟨r1,r2,qn,by unfold maxLen;rw[List.length_map];omega,λi=>?_,λi=>?_,λi=>?_,λi=>?_,λi j=>?_⟩,⟨qg,by rw[List.length_map];omega,λi _=>?_⟩⟩
 ·have:=(hs i).1;unfold maxLen;omega
 ·have:=(hs i).2;unfold maxLen;omega
 ·have:=(ht i).1;unfold maxLen;omega
 ·have:=(ht i).2.1;unfold maxLen;omega
 ·have h3:(ix (tx (l2.map (·.t)) i).code j).text.size<=50000:=by
   rcases Nat.lt_or_ge j (tx (l2.map (·.t)) i).code.length with q|q
   ·have e:ix (tx (l2.map (·.t)) i).code j=(tx (l2.map (·.t)) i).code[j]:=qce;rw[e];exact(ht i).2.2 _ (List.getElem_mem _)
   ·have e:ix (tx (l2.map (·.t)) i).code j=Go.Proofs.YtoihflimijabjaaGreatDoor.i0:=qce;rw[e];exact Nat.zero_le _
  unfold maxLen;omega
 ·have:=(ht i).2.1;omega
open Go.RowKit Go.Deep
set_option linter.unusedVariables false
theorem Az{o:Obj}(h:W.heap[b]?=M o)(hg:W.grownBy W' (M R))(aq:b≠R):W'.heap[b]?=M o:=by rw[hg.block b (An h) (λe=>qbu)];exact h
theorem Ao{row:Option X}{o:Obj}(h:W.heap[b]?=M o)(hg:W.grownBy W' row)(aq:row≠M b):W'.heap[b]?=M o:=by rw[hg.block b (An h) (λe=>aq e.symm)];exact h
theorem Af{c:X}{o:Obj}(h:W.heap[b]?=M o)(aq:b≠c)(u:Z):(W.setCell ⟨c,j,N⟩ u).heap[b]?=M o:=by rw[hC W ⟨c,j,N⟩ u b aq];exact h
theorem Mp{lo:X}(h:W.ownsRow lo e sz v n xs)(hg:W.grownBy W' (M R))(hR:R<lo):W'.ownsRow lo e sz v n xs:=Ff h λb hb hl=>hg.block b hl (λe=>qbu)
theorem Ce{lo:X}(h:W.ownsRow lo e sz v n xs)(hb:Bw W W'):W'.ownsRow lo e sz v n xs:=Ff h λb _ hl=>hb.block b hl
theorem Ba.grow{len cap K:X}{w w':E}{row:Option X}(h:Ba B R a len cap p K w0 w)(hB:B<=w0.heap.size)(hg:w.grownBy w' row)(hr:∀k,row=M k->w0.heap.size<=k):Ba B R a len cap p K w0 w':=by
 obtain⟨h1,p',h2,h3⟩:=h
 exact⟨Fq h1 hg (λk hk=>Or.inr (hr k hk)),p',h2,h3.kept (Nat.le_trans hB h1.size) hg (λk hk=>Nat.le_trans hB (hr k hk))⟩
theorem Ba.set{len cap K:X}{w:E}(h:Ba B R a len cap p K w0 w)(hB:B<=w0.heap.size)(hb:w0.heap.size<=b)(u:Z):Ba B R a len cap p K w0 (w.setCell ⟨b,j,N⟩ u):=h.grow hB (Bp w b j u) (λk hk=>by cases hk;exact hb)
theorem Ba.size{len cap K:X}{w:E}(h:Ba B R a len cap p K w0 w):w0.heap.size<=w.heap.size:=h.1.size
theorem Dx{w:E}(h:w.heap[b]?=M (O #[v] T (0,0))):w.cell? ⟨b,0,N⟩=M v:=qah
section
variable {V V':E} {P lo:X} {v1 v2 nv:Z} {l1:L S2} {l2:L TC}
end
theorem Dw.setT{w:E}{lo:X}(h:Dw w lo v1 v2 l1 l2)(ht:Ai w b T)(h1:T≠110)(h2:T≠113)(h3:T≠103)(u:Z):Dw (w.setCell ⟨b,j,N⟩ u) lo v1 v2 l1 l2:=⟨Ak h.s ht h1 u,Ak h.t ht h2 u,λa ha=>Ak (h.c a ha) ht h3 u⟩
structure Sw (V:E) (P lo:X) (v1 v2:Z) (l1:L S2) (l2:L TC):Prop where
 blk:V.heap[P]?=M (O #[v1,v2] 44 (0,0))
 dw:Dw V lo v1 v2 l1 l2
 bd:Yi l1 l2
 ge:lo<=P
section
variable {V V':E} {P lo:X} {v1 v2 nv:Z} {l1:L S2} {l2:L TC}
theorem Sw.c(h:Sw V P lo v1 v2 l1 l2):V.cell? ⟨P,0,N⟩=M v1/\V.cell? ⟨P,1,N⟩=M v2/\∀j,V.frozen? ⟨P,j,N⟩=false:=⟨(Bg h.blk).1,(Bg h.blk).2,λj=>fH h.blk j⟩
theorem Sw.bl(h:Sw V P lo v1 v2 l1 l2)(hb:Bw V V'):Sw V' P lo v1 v2 l1 l2:=⟨Ac h.blk hb,h.dw.bl hb,h.bd,h.ge⟩
theorem Sw.gb{R:X}(h:Sw V P lo v1 v2 l1 l2)(hg:V.grownBy V' (M R))(hR:R<lo):Sw V' P lo v1 v2 l1 l2:=⟨Az h.blk hg (zo h.ge),h.dw.gb hg hR,h.bd,h.ge⟩
theorem Sw.set{b j T:X}(h:Sw V P lo v1 v2 l1 l2)(ht:Ai V b T)(h1:T≠110)(h2:T≠113)(h3:T≠103)(aq:b≠P)(u:Z):Sw (V.setCell ⟨b,j,N⟩ u) P lo v1 v2 l1 l2:=⟨Af h.blk (λe=>aq e.symm) u,h.dw.setT ht h1 h2 h3 u,h.bd,h.ge⟩
theorem Sw.noR(h:Sw V P lo v1 v2 l1 l2):v1.ownBlock≠M P/\v2.ownBlock≠M P:=⟨Ai.ne (T:=44) ⟨_,h.blk⟩ h.dw.s qh,Ai.ne (T:=44) ⟨_,h.blk⟩ h.dw.t qh⟩
theorem Yi.putS{s:S2}(h:Yi l1 l2)(hn:l1.length<=201)(hs:s.name.size<=50000/\s.text.size<=50000):Yi (l1++[s]) l2:=by
 refine⟨qj,h.n2,λx hx=>?_,h.t⟩
 rcases List.mem_append.1 hx with q|q
 ·exact h.s x q
 ·obtain rfl:x=s:=by simpa using q
  exact hs
theorem Yi.putT{s:TC}(h:Yi l1 l2)(hn:l2.length<=201)(hs:s.t.name.size<=50000/\s.t.code.length<=400/\∀x∈s.t.code,x.text.size<=50000):Yi l1 (l2++[s]):=by
 refine⟨h.n1,qj,h.s,λx hx=>?_⟩
 rcases List.mem_append.1 hx with q|q
 ·exact h.t x q
 ·obtain rfl:x=s:=by simpa using q
  exact hs
theorem Sw.putS{s:S2}(h:Sw V P lo v1 v2 l1 l2)(hg:V.grownBy V' v1.ownBlock)(hn:V'.ownsRow lo 110 2 nv (l1.length+1) (Eb l1++[S s.name,S s.text]))(hl:l1.length<=201)(hs:s.name.size<=50000/\s.text.size<=50000):Sw (V'.setCell ⟨P,0,N⟩ nv) P lo nv v2 (l1++[s]) l2:=by
 have hb:=Ao h.blk hg h.noR.1
 exact⟨by rw[jB hb];rfl,(h.dw.putS hg hn).setT ⟨_,hb⟩ qh qh qh nv,h.bd.putS hl hs,h.ge⟩
theorem Sw.putT{s:T2}{c:Z}(h:Sw V P lo v1 v2 l1 l2)(hc:V.ownsRow lo 103 3 c s.code.length (Dd s.code))(hg:V.grownBy V' v2.ownBlock)(hn:V'.ownsRow lo 113 2 nv (l2.length+1) (Jc l2++[S s.name,c]))(hl:l2.length<=201)(hs:s.name.size<=50000/\s.code.length<=400/\∀x∈s.code,x.text.size<=50000):Sw (V'.setCell ⟨P,1,N⟩ nv) P lo v1 nv l1 (l2++[⟨s,c⟩]):=by
 have hb:=Ao h.blk hg h.noR.2
 exact⟨by rw[jB hb];rfl,(h.dw.putT hc hg hn).setT ⟨_,hb⟩ qh qh qh nv,h.bd.putT hl hs,h.ge⟩
theorem Sw.app{row:Option X}(h:Sw V P lo v1 v2 l1 l2)(hg:V.grownBy V' row)(hr:row=v1.ownBlock\/row=v2.ownBlock):V'.heap[P]?=M (O #[v1,v2] 44 (0,0)):=Ao h.blk hg (by rcases hr with rfl|rfl<;>first|exact h.noR.1|exact h.noR.2)
end
theorem Yi.nil:Yi [] []:=⟨qi,qi,λx hx=>qbl,λx hx=>qbl⟩
theorem Si{α:Type}{p:α->Prop}{l:L α}{x:α}(h:∀a∈l,p a)(hx:p x):∀a∈l++[x],p a:=λa ha=>by
 rcases List.mem_append.1 ha with q|q
 ·exact h a q
 ·obtain rfl:=List.mem_singleton.1 q;exact hx
theorem Dw.ret{w:E}{lo:X}{x y:Z}(h:Dw w lo v1 v2 l1 l2)(hb:w.heap[b]?=M (O #[x,y] 44 (0,0))):Dw ((w.setCell ⟨b,0,N⟩ v1).setCell ⟨b,1,N⟩ v2) lo v1 v2 l1 l2:=
 (h.setT ⟨_,hb⟩ qh qh qh _).setT (Ai.set ⟨_,hb⟩ _) qh qh qh _
theorem Bm{o:Obj}{Q:E->Prop}(h:∀wN,Bw W wN->Hd (wN.heap[W.heap.size]?=M o)->Q wN):Q (W.alloc o):=h _ (aN _ _) (Am _ _)
open Go.RowKit Go.Deep
set_option linter.unusedVariables false
section
variable {V V':E} {P lo:X} {v1 v2 nv:Z} {l1:L S2} {l2:L TC}
end
theorem own_lit{d:X}{cs:Array Z}{lo:X}(h:W.heap[d]?=M (O cs 103 (0,0)))(hl:lo<=d)(hc:cs.toList=Dd is)(hn:n=is.length)(hs:n<=1000):W.ownsRow lo 103 3 (J (p_ d) n n) n (Dd is):=by
 have e:cs.size=n*3:=by rw[<- Array.length_toList,hc,Ch,hn]
 refine⟨by rw[Ch,hn],Or.inr ⟨d,n,cs,rfl,hl,h,Nat.le_refl _,qn,e,?_⟩⟩
 rw[hc,List.take_of_length_le qdp]
open Go.RowKit Go.Deep
set_option linter.unusedVariables false
theorem Nx{ys:L Z}(h:Cf is is.length ys)(hl:ys.length=is.length*3):ys=Dd is:=by
 refine List.ext_getElem? λj=>?_
 rcases Nat.lt_or_ge j (is.length*3)with q|q
 ·have h1:=h (j / 3) qg;have h2:=Fa is (j / 3) (j % 3) qg qg;rw[show j / 3*3+j % 3=j from qg]at h2;rw[h2]
  rcases(show j % 3=0\/j % 3=1\/j % 3=2 from qg)with r|r|r
  ·rw[r];rw[show j / 3*3=j from qg]at h1;exact h1.1
  ·rw[r];rw[show j / 3*3+1=j from qg]at h1;exact h1.2.1
  ·rw[r];rw[show j / 3*3+2=j from qg]at h1;exact h1.2.2
 ·rw[List.getElem?_eq_none qg,List.getElem?_eq_none qdp]
theorem insV_eq(is:L I3):Cy is=Dd is:=Nx (Ez is) (Gc is)
theorem Rt(b off:X)(cap:X)(is:L I3)(w:E)(hc:Dl w (M ⟨b,off,N⟩) is)(hl:is.length<=1048576):Calls prog 66 #[G #[J (M ⟨b,off,N⟩) is.length cap]] w λe w'=>Bw w w'/\∃g cp,e=H (G #[J (p_ g) is.length cp])/\w'.ownsRow w.heap.size 103 3 (J (p_ g) is.length cp) is.length (Cy is):=by
 obtain⟨i0,hi,bm,bg,bi⟩:=info_parts Tryz.info165b
 have ba:Bw w ((w.alloc (O #[J (M ⟨b,off,N⟩) is.length cap] 53)).alloc (O #[nS] 53)):=(aN _ _).alloc qi _
 have ah:Bw w (((w.alloc (O #[J (M ⟨b,off,N⟩) is.length cap] 53)).alloc (O #[nS] 53)).alloc (O #[] 103)):=ba.alloc qj _
 have de:(((w.alloc (O #[J (M ⟨b,off,N⟩) is.length cap] 53)).alloc (O #[nS] 53)).alloc (O #[] 103)).ownsRow (w.heap.size+1+1) 103 3 (J (p_ (w.heap.size+1+1)) 0 0) 0 []:=by
  exact qdw
 have hn:=Lw (hc.bl ah)
 have HL:Hd ((Cy is).length=is.length*3):=Gc is
 have HO:Hd (∀u∈Cy is,u.oneCell'=true):=Nq is
 generalize Cy is=xs at *
 clear hc ba
 go_enter func66,ntmps66
 go_wp2_with (at_builtin;refine wpList_append_own _ rfl (.tmp 3) (.tmp 5) 51 rfl (w.heap.size+1+1) 103 i0 (G #[I 0,ze,I 0]) 3 32 underlying51 hi bm bg bi rfl qh _ 0 [] rfl de ⟨b,off,N⟩ is.length cap xs rfl HL.o hn HO.o qn qg qi ?_;intro v' w2 af ae bn;have pp:∃g cp,v'=J (p_ g) (0+is.length) cp:=Jv af (λe=>by cases (bn.1 e).1);clear bn;have il:Below (w.heap.size+1+1) (((w.alloc (O #[J (M ⟨b,off,N⟩) is.length cap] 53)).alloc (O #[nS] 53)).alloc (O #[] 103)) w2:=(Below.refl _ _).grown ae qi (λk hk=>(de.lt k hk).1);have c1:w2.cell? ⟨w.heap.size+1,0,N⟩=M nS:=(by rw[il.cell (p:=⟨w.heap.size+1,0,N⟩) qi];simp[go_sem]);have f1:w2.frozen? ⟨w.heap.size+1,0,N⟩=false:=(by rw[il.frozen (p:=⟨w.heap.size+1,0,N⟩) qi];simp[go_sem]);have hB:Bw w w2:=ah.trans (il.mono qg);rw[Nat.zero_add,List.nil_append]at af;rw[Nat.zero_add]at pp;obtain⟨g,cp,rfl⟩:=pp;have hg:=(af.lt g rfl).1;have lp:Hd (w2.ownsRow w.heap.size 103 3 (J (p_ g) is.length cp) is.length xs):=Al af qg;clear ae de hn il af ah)
 exact qea
theorem Ru(w:E):Calls prog 66 #[G #[nS]] w λe w'=>Bw w w'/\∃g cp,e=H (G #[J (p_ g) 0 cp])/\w'.ownsRow w.heap.size 103 3 (J (p_ g) 0 cp) 0 []:=by
 obtain⟨i0,hi,bm,bg,bi⟩:=info_parts Tryz.info165b
 have ba:Bw w ((w.alloc (O #[nS] 53)).alloc (O #[nS] 53)):=(aN _ _).alloc qi _
 have ah:Bw w (((w.alloc (O #[nS] 53)).alloc (O #[nS] 53)).alloc (O #[] 103)):=ba.alloc qj _
 have de:(((w.alloc (O #[nS] 53)).alloc (O #[nS] 53)).alloc (O #[] 103)).ownsRow (w.heap.size+1+1) 103 3 (J (p_ (w.heap.size+1+1)) 0 0) 0 []:=by
  have h:=World.ownsRow_lit (base:=w.heap.size+1+1) (e:=103) (size:=3) ((w.alloc (O #[nS] 53)).alloc (O #[nS] 53)) #[] 0 qi qn qi;rw[show((w.alloc (O #[nS] 53)).alloc (O #[nS] 53)).heap.size=w.heap.size+1+1 from qi]at h;exact h
 clear ba
 go_enter func66,ntmps66
 go_wp2_with (at_builtin;refine wpList_append_own_none rfl (.tmp 3) (.tmp 5) 51 rfl (w.heap.size+1+1) 103 i0 3 underlying51 hi _ 0 [] rfl de rfl ?_)
 have h2:=World.ownsRow_lit (base:=w.heap.size+1+1) (e:=103) (size:=3) ((w.alloc (O #[nS] 53)).alloc (O #[J (p_ (w.heap.size+1+1)) 0 0] 53)) #[] 0 qi qn qi
 rw[show((w.alloc (O #[nS] 53)).alloc (O #[J (p_ (w.heap.size+1+1)) 0 0] 53)).heap.size=w.heap.size+1+1 from qi]at h2
 exact bR (v:=G #[J (p_ (w.heap.size+1+1)) 0 0]) (by simp[results,results66,go_sem]) rfl ⟨((aN _ _).alloc qi _).alloc qj _,_,_,rfl,Al h2 qg⟩
theorem Ta{w:E}{c:Z}(h:w.ownsRow B 103 3 c is.length (Dd is))(hl:is.length<=1048576):∃a cap,c=J a is.length cap/\∀W:E,Bw w W->CopyP a cap is W:=by
 obtain⟨a,cap,rfl,r3⟩:=Iq rfl h
 refine⟨a,cap,rfl,λW hW=>?_⟩
 rcases h.2 with⟨q,q'⟩|⟨g,ai,cur,q,_⟩
 ·obtain rfl:is=[]:=List.eq_nil_of_length_eq_zero q';cases q;unfold CopyP;refine(Ru W).mono ?_;rintro e w' ⟨h1,g,cp,rfl,h2⟩;exact⟨h1,g,cp,rfl,h2⟩
 ·cases q;exact Rt g 0 _ is W (r3.bl hW) hl
open Go.RowKit Go.Deep
set_option linter.unusedVariables false
theorem Ba.prgm{len cap K:X}{w:E}(h:Ba B R a len cap p K w0 w)(hB:B<=w0.heap.size)(hp:p+K<=60000):Calls prog 68 #[D (p_ R)] w λe w'=>∃(g n c:X)(is:L I3),e=H (G #[J (p_ g) n c])/\Ow w w' g n c is/\0<n/\n<=400/\Ba B R a len cap p (K+1300) w0 w'/\w.grownBy w' (M R):=by
 obtain⟨h1,p',h2,h3⟩:=h
 refine(Nj B R a len cap p' w h3 (Nat.le_trans hB h1.size) qg).mono ?_
 rintro e w' ⟨g,n,c,is,rfl,ho,h0,hL,hk⟩
 exact⟨g,n,c,is,rfl,ho,h0,hL,Ba.then h1 h2 hk,hk.1⟩
def PB(W:E)(pb lo:X):Prop:=∃(c:Z)(is:L I3),W.heap[pb]?=M (O #[c] 53 (0,0))/\W.ownsRow lo 103 3 c is.length (Dd is)/\0<is.length/\is.length<=400/\∀x∈is,x.text.size<=50000
theorem PB.bl{lo:X}(h:PB W pb lo)(hb:Bw W W'):PB W' pb lo:=by
 obtain⟨c,is,h1,h2,h3⟩:=h
 exact⟨c,is,Ac h1 hb,Ce h2 hb,h3⟩
theorem PB.gb{lo:X}(h:PB W pb lo)(hg:W.grownBy W' (M R))(hR:R<lo)(hl:lo<=pb):PB W' pb lo:=by
 obtain⟨c,is,h1,h2,h3⟩:=h
 exact⟨c,is,Az h1 hg qg,Mp h2 hg hR,h3⟩
theorem PB.put{lo:X}{c:Z}(h:PB W pb lo)(h2:W.ownsRow lo 103 3 c is.length (Dd is))(h3:0<is.length)(h4:is.length<=400)(h5:∀x∈is,x.text.size<=50000):PB (W.setCell ⟨pb,0,N⟩ c) pb lo:=by
 obtain⟨c',is',h1,_⟩:=h
 exact⟨c,is,qdl,Ak h2 ⟨_,h1⟩ qh c,h3,h4,h5⟩
theorem PB.t{lo:X}(h:PB W pb lo):Ai W pb 53:=by
 obtain⟨c,is,h1,_⟩:=h
 exact⟨_,h1⟩
theorem PB.new{w:E}{c lo:X}(ho:Ow w0 w g n c is)(hl:lo<=w0.heap.size)(h0:0<n)(hL:n<=400)(eW:w.alloc (O #[J (p_ g) n c] 53)=W):PB W w.heap.size lo:=by
 subst eW
 have e:=ho.ln
 subst e
 exact⟨_,is,Am _ _,Ce (Al ho.row hl) (aN _ _),h0,hL,ho.tx⟩
theorem short6{x y z u v t:I3}(h1:x.text.size<=50000)(h2:y.text.size<=50000)(h3:z.text.size<=50000)(h4:u.text.size<=50000)(h5:v.text.size<=50000)(h6:t.text.size<=50000):∀a∈[x,y,z,u,v,t],a.text.size<=50000:=λa ha=>by
 simp at ha
 rcases ha with rfl|rfl|rfl|rfl|rfl|rfl<;>assumption
theorem ext_small(s:By)(i j:X)(h:s.size<=10):(s.extract i j).size<=50000:=by rw[ByteArray.size_extract];omega
theorem Vb{w:E}{lo:X}(h:w.ownsRow lo 113 2 v2 l2.length (Jc l2))(i:X)(hi:i<l2.length){cp:X}(e:v2=J (p_ g) l2.length cp):w.cell? ⟨g,i*2,N⟩=M (S (cx l2 i).t.name)/\w.cell? ⟨g,i*2+1,N⟩=M (cx l2 i).c:=by
 subst e
 exact⟨by rw[h.cellAt (i*2) qg];exact(Qo l2 i hi).1,by rw[h.cellAt (i*2+1) qg];exact(Qo l2 i hi).2⟩
theorem Zy(B R:X)(a:Option Addr)(len cap p:X)(w:E)(h:Rd B w R a len cap p)(aj:B<=w.heap.size)(hp:p<=20000):Calls prog 47 #[D (p_ R)] w λe w'=>∃v1 v2 l1 l2,e=H (G #[v1,v2])/\Dw w' w.heap.size v1 v2 l1 l2/\Yi l1 l2/\Ba B R a len cap p 11000 w w'/\l1.length<=6/\l2.length<=8/\∀x∈l2,0<x.t.code.length:=by
 have P8:=h.lt
 have df:R<w.heap.size:=qg
 obtain⟨w2,e2⟩:=Aj ((w.alloc (O #[nS,nS] 44)).alloc (O #[nS,nS] 44))
 obtain⟨P,eP⟩:=Aj (w.heap.size+1)
 have a9:Bw w w2:=by rw[<- e2];exact(aN _ _).alloc qi _
 have xz:Hd (w2.heap[w.heap.size]?=M (O #[nS,nS] 44 (0,0))):=by show _=_;rw[<- e2,Lib.alloc_old _ _ _ qi];exact Am _ _
 have q2:w2.heap[P]?=M (O #[nS,nS] 44 (0,0)):=by
  have hh:=Am (w.alloc (O #[nS,nS] 44)) (O #[nS,nS] 44);rw[show(w.alloc (O #[nS,nS] 44)).heap.size=P from by simpa using eP,e2]at hh;exact hh
 have fo:Hd (Sw w2 P w.heap.size nS nS [] []):=⟨q2,Dw.zero _ _,Yi.nil,qg⟩
 have L7:Hd (Ba B R a len cap p (0) w w2):=⟨Fr (Im w R) a9,p,qg,h.bl aj a9⟩
 have hPw:w.heap.size<=P:=qg
 have hPn:w.heap.size≠P:=qg
 have E2:Hd ((w.alloc (O #[nS,nS] 44)).alloc (O #[nS,nS] 44)=w2):=e2
 clear e2 q2 a9 h
 go_enter func47,ntmps47
 go_wp2_with fail
 rw[E2.o]
 clear E2 eP
 go_loopw [4] (λi wr=>∃(k:X)(v1:Z)(l1:L S2),k<=6/\i=I k/\l1.length<=k/\Hd (Sw wr P w.heap.size v1 nS l1 [])/\Hd (Ba B R a len cap p (14*k) w wr)/\Hd (wr.heap[w.heap.size]?=M (O #[nS,nS] 44 (0,0)))) (λi _=>6-(intOf i).toNat)
 case atStart=>exact⟨0,_,[],qg,rfl,Nat.le_refl _,fo,L7,xz⟩
 case round=>
  obtain⟨k,v1,l1,hk,rfl,o6,HS,HR,HQ⟩:=hrel;clear fo L7 xz
  by_cases au:k<6
  ·have gi:(k:Int)<6:=qg;go_wp2_with fail;refine(HR.o.pick qg 5 qg qg).mono ?_;rintro e w1 ⟨x,rfl,hx,az,am⟩;replace HS:=Ad (HS.o.gb am qg);replace HQ:=Ad (Az HQ.o am qg);replace HR:=Ad az;clear am az
   rcases Nat.eq_zero_or_pos x with rfl|I8
   ·go_wp2;go_roundw
    case rel=>exact⟨k+1,_,_,qg,qp,qg,HS,Ad (HR.o.more qg),HQ⟩
    case measure=>simp[intOf];omega
   ·have hx0I:(0:Int)<(x:Int):=qg;go_wp2_with fail;refine(HR.o.text aj qg).mono ?_;rintro e w3 ⟨t0,rfl,O1,az,am⟩;replace HS:=Ad (HS.o.gb am qg);replace HQ:=Ad (Az HQ.o am qg);replace HR:=Ad az;clear am az;go_wp2_with fail;refine(HR.o.pick qg 2 qg qg).mono ?_;rintro e w4 ⟨y,rfl,hy,az,am⟩;replace HS:=Ad (HS.o.gb am qg);replace HQ:=Ad (Az HQ.o am qg);replace HR:=Ad az;clear am az
    rcases Nat.eq_zero_or_pos y with rfl|nd
    case' inl=>
     go_wp2_with fail;refine(HR.o.name aj qg).mono ?_;rintro e w5 ⟨n1,rfl,pp,az,am⟩;replace HS:=Ad (HS.o.gb am qg);replace HQ:=Ad (Az HQ.o am qg);replace HR:=Ad az;clear am az;go_wp2_with fail;refine(HR.o.name aj qg).mono ?_;rintro e wT ⟨n2,rfl,yv,az,am⟩;replace HS:=Ad (HS.o.gb am qg);replace HQ:=Ad (Az HQ.o am qg);replace HR:=Ad az;clear am az;replace HR:=Ad (HR.o.more (K':=14*k+14) qg);obtain⟨tt,ett,htt⟩:∃x:By,n1++⟨#[32]⟩++n2++⟨#[32]⟩++t0=x/\x.size<=50000:=⟨_,rfl,by simp only[ByteArray.size_append];show n1.size+1+n2.size+1+t0.size<=50000;omega⟩;go_wp2_with fail
    case' inr=>
     have S5:¬ ((y:Int)=0):=qg;obtain⟨wT,rfl⟩:∃z,z=w4:=⟨_,rfl⟩;replace HR:=Ad (HR.o.more (K':=14*k+14) qg);obtain⟨tt,ett,htt⟩:∃x:By,t0=x/\x.size<=50000:=⟨_,rfl,qg⟩;go_wp2_with fail
    all_goals
     clear ett;have we:IntKind.i64.wrap ((k:Int)+1)=(k:Int)+1:=qcs;have h6a:(k:Int)+1<=6:=qg;have h0a:(0:Int)<=(k:Int)+1:=qg;have hka:(k:Int)<=(k:Int)+1:=qg;refine Lt.begin 11 (λw'=>w'.heap[P]?=M (O #[v1,nS] 44 (0,0))) qk ?_;obtain⟨wD,eD⟩:=Aj wT.drew;rw[eD];have ao:Bw wT wD:=qbb;clear eD;replace HS:=Ad (HS.o.bl ao);replace HR:=Ad (HR.o.bl aj ao);replace HQ:=Ad (Ac HQ.o ao);have aw:(λw'=>w'.heap[P]?=M (O #[v1,nS] 44 (0,0))) wD:=HS.o.blk;change K 0 _
     iterate 8
      refine Lt.ti (v:=?_) aw ?_ ?_;rotate_left 1
      ·exact qlb
      simp only[gX]
     refine Lt.sp (i:=8) (λK hK=>?_);go_simp;refine Bm (Q:=λx=>K _ x) ?_;intro wG f6 HG
     try dsimp only
     replace HS:=Ad (HS.o.bl f6);replace HR:=Ad (HR.o.bl aj f6);replace HQ:=Ad (Ac HQ.o f6);have bj:(λw'=>w'.heap[P]?=M (O #[v1,nS] 44 (0,0))) wG:=HS.o.blk;refine hK.out _ _ (λ_=>bj) (λ_=>?_);clear hK K f6
     try simp only[gX]
     refine Lt.sp (i:=9) (λK hK=>?_);refine Qy rfl qo w.heap.size v1 _ (Eb l1) qo HS.o.dw.s wD.heap.size _ _ qo HG.o HR.o.size qg ?_;intro g' ai w7 bw ae;have HN:=Ad (HS.o.putS (s:=⟨_,_⟩) ae bw qg ⟨ext_small _ _ _ qh,by first|exact htt|(show tt.size<=50000;exact htt)⟩);have io:∀j,Value.ownBlock v1=M j->w.heap.size<=j:=λj hj=>(HS.o.dw.s.lt j hj).1;have zl:=Ad (HS.o.app ae (Or.inl rfl));have L6:=Ad ((HR.o.grow aj ae io).set (b:=P) (j:=0) aj hPw (J (p_ g') (l1.length+1) ai));have Q7:=Ad (Af (Ao HQ.o ae (Ai.ne ⟨_,HQ.o⟩ HS.o.dw.s qh)) qg (c:=P) (j:=0) (J (p_ g') (l1.length+1) ai));obtain⟨c0,c1⟩:=Bg zl.o;have fz:=λj=>fH zl.o j;have li:(λw'=>w'.heap[P]?=M (O #[v1,nS] 44 (0,0))) w7:=zl.o;refine hK.out _ _ (λ_=>li) (λ_=>?_);clear hK K ae bw io;simp only[gX];refine Lt.ti (i:=10) (v:=?_) li ?_ ?_;rotate_left 1
     ·exact qlb
     simp only[gX];refine Lt.sp (i:=11) (λK hK=>?_);go_simp;refine hK.out _ _ (λh=>absurd rfl h) (λ_=>?_);clear hK K;refine Lt.done qk ?_ _;go_wp2;go_roundw
     case rel=>exact⟨k+1,_,_,qg,qp,qj,HN,Ad (L6.o.more qg),Q7⟩
     case measure=>simp[intOf];omega
  ·obtain rfl:k=6:=qg;go_wp2_with fail;refine(HR.o.pick qg 8 qg qg).mono ?_;rintro e w3 ⟨x,rfl,hx,az,am⟩;replace HS:=Ad (HS.o.gb am qg);replace HQ:=Ad (Az HQ.o am qg);replace HR:=Ad az;clear am az;replace HR:=Ad (HR.o.more (K':=100) qg);have L4:=HS;have ky:=HR;have HQ3:=HQ;clear HS HR HQ;go_wp2_with fail
   go_loopw [7] (λi wr=>∃(k:X)(v2:Z)(l2:L TC),k<=1+x/\i=I k/\l2.length=k/\Hd (Sw wr P w.heap.size v1 v2 l1 l2)/\Hd (Ba B R a len cap p (100+1320*k) w wr)/\Hd (wr.heap[w.heap.size]?=M (O #[nS,nS] 44 (0,0)))/\Hd (∀y∈l2,0<y.t.code.length)) (λi _=>1+x-(intOf i).toNat)
   case atStart=>exact⟨0,_,[],qg,rfl,rfl,L4,Ad (ky.o.more qg),HQ3,(λy hy=>(by cases hy):∀y∈([]:L TC),0<y.t.code.length)⟩
   case round=>
    obtain⟨k,v2,l2,hk,rfl,xq,HS,HR,HQ,HC⟩:=hrel;subst xq;clear L4 ky HQ3
    by_cases au:l2.length<1+x
    ·have gi:(l2.length:Int)<1+(x:Int):=qg;have ji:=HR.o.size;go_wp2_with fail;refine(HR.o.prgm aj qg).mono ?_;rintro e w5 ⟨g,n,c,is,rfl,ho,h0,hL,az,am⟩;replace HS:=Ad (HS.o.gb am qg);replace HQ:=Ad (Az HQ.o am qg);replace HR:=Ad az;clear am az;obtain⟨w6,e6⟩:=Aj (w5.alloc (O #[J (p_ g) n c] 53));have cj:Bw w5 w6:=qfc;have dh:Hd (PB w6 w5.heap.size w.heap.size):=PB.new ho ji h0 hL e6;have G6:w.heap.size<=w5.heap.size:=HR.o.size;have hpP:P<w5.heap.size:=An HS.o.blk;have hpQ:w.heap.size<w5.heap.size:=An HQ.o;replace HS:=Ad (HS.o.bl cj);replace HR:=Ad (HR.o.bl aj cj);replace HQ:=Ad (Ac HQ.o cj);clear cj ho h0 hL ji
     rcases Nat.eq_zero_or_pos l2.length with fe|tr
     ·have hkz:¬ (0:Int)<(l2.length:Int):=qg;clear fe;go_wp2_with fail;clear e6;refine(HR.o.pick qg 2 qg qg).mono ?_;rintro e w8 ⟨z,rfl,hz,az,am⟩;replace HS:=Ad (HS.o.gb am qg);replace HQ:=Ad (Az HQ.o am qg);replace dh:=Ad (dh.o.gb am df G6);replace HR:=Ad az;clear am az
      rcases Nat.eq_zero_or_pos z with rfl|bm
      ·go_wp2_with fail;obtain⟨nm,enm,iw⟩:∃y:By,(⟨#[97]⟩:By)=y/\y.size<=50000:=⟨_,rfl,qh⟩;rw[enm];clear enm;refine(Cm _ _).mono ?_;rintro e y1 ⟨rfl,ah⟩;replace HS:=Ad (HS.o.bl ah);replace HR:=Ad (HR.o.bl aj ah);replace HQ:=Ad (Ac HQ.o ah);replace dh:=Ad (dh.o.bl ah);clear ah;go_wp2_with fail;refine(Bu _ _).mono ?_;rintro e y2 ⟨rfl,ah⟩;replace HS:=Ad (HS.o.bl ah);replace HR:=Ad (HR.o.bl aj ah);replace HQ:=Ad (Ac HQ.o ah);replace dh:=Ad (dh.o.bl ah);clear ah;go_wp2_with fail;refine(HR.o.text aj qg).mono ?_;rintro e y3 ⟨t3,rfl,ht3,az,am⟩;replace HS:=Ad (HS.o.gb am qg);replace HQ:=Ad (Az HQ.o am qg);replace dh:=Ad (dh.o.gb am df G6);replace HR:=Ad az;clear am az;go_wp2_with fail;refine(Cm _ _).mono ?_;rintro e y4 ⟨rfl,ah⟩;replace HS:=Ad (HS.o.bl ah);replace HR:=Ad (HR.o.bl aj ah);replace HQ:=Ad (Ac HQ.o ah);replace dh:=Ad (dh.o.bl ah);clear ah;go_wp2_with fail;refine(Bu _ _).mono ?_;rintro e y5 ⟨rfl,ah⟩;replace HS:=Ad (HS.o.bl ah);replace HR:=Ad (HR.o.bl aj ah);replace HQ:=Ad (Ac HQ.o ah);replace dh:=Ad (dh.o.bl ah);clear ah;go_wp2_with fail;refine(HR.o.pick qg 9 qg qg).mono ?_;rintro e y6 ⟨q9,rfl,hq9,az,am⟩;replace HS:=Ad (HS.o.gb am qg);replace HQ:=Ad (Az HQ.o am qg);replace dh:=Ad (dh.o.gb am df G6);replace HR:=Ad az;clear am az;go_wp2_with fail;refine(Er _ _ _).mono ?_;rintro e y7 ⟨rfl,ah⟩;replace HS:=Ad (HS.o.bl ah);replace HR:=Ad (HR.o.bl aj ah);replace HQ:=Ad (Ac HQ.o ah);replace dh:=Ad (dh.o.bl ah);clear ah;go_wp2_with fail;refine(Bu _ _).mono ?_;rintro e y8 ⟨rfl,ah⟩;replace HS:=Ad (HS.o.bl ah);replace HR:=Ad (HR.o.bl aj ah);replace HQ:=Ad (Ac HQ.o ah);replace dh:=Ad (dh.o.bl ah);clear ah;obtain⟨cb,mh⟩:=dh.o.t;have hs8:=HR.o.size;have dy:=An mh;obtain⟨y9,e9⟩:=Aj (y8.alloc (O #[I 1,S nm,I 0,I 12,ze,I 0,I 1,S t3,I 0,I 2,ze,I 0,I 3,ze,I (1+(q9:Int)),I 15,ze,I 0] 103));(have py:Bw y8 y9:=by rw[<- e9];exact aN _ _);(have h9:y9.heap[y8.heap.size]?=M (O #[I 1,S nm,I 0,I 12,ze,I 0,I 1,S t3,I 0,I 2,ze,I 0,I 3,ze,I (1+(q9:Int)),I 15,ze,I 0] 103 (0,0)):=by rw[<- e9];exact Am _ _);replace mh:=Ac mh py;replace HS:=Ad (HS.o.bl py);replace HR:=Ad (HR.o.bl aj py);replace HQ:=Ad (Ac HQ.o py);replace dh:=Ad (dh.o.bl py);clear py;(have hc31:∃c3,y9.heap[w5.heap.size]?=M (O #[c3] 53 (0,0)):=by obtain⟨c3,_,h3,_⟩:=dh.o;exact⟨c3,h3⟩);obtain⟨c3,xv⟩:=hc31;have d31:=Dx xv;have f31:=λj=>fH xv j;have lm:=Ad (dh.o.put (is:=[⟨1,nm,0⟩,⟨12,⟨#[]⟩,0⟩,⟨1,t3,0⟩,⟨2,⟨#[]⟩,0⟩,⟨3,⟨#[]⟩,1+(q9:Int)⟩,⟨15,⟨#[]⟩,0⟩]) (own_lit (n:=6) h9 hs8 rfl rfl qg) qi qi (short6 iw (Nat.zero_le _) (by show t3.size<=50000;omega) (Nat.zero_le _) (Nat.zero_le _) (Nat.zero_le _)));have fa:=Ad (HS.o.set (j:=0) ⟨_,xv⟩ qh qh qh qg (J (p_ y8.heap.size) 6 6));have t6:=Ad (Af HQ.o (c:=w5.heap.size) (j:=0) qg (J (p_ y8.heap.size) 6 6));have HR9:=Ad (HR.o.set (b:=w5.heap.size) (j:=0) aj G6 (J (p_ y8.heap.size) 6 6));clear HS HQ HR dh mh h9 xv hs8 dy;have HS:=fa;have HQ:=t6;have HR:=HR9;have dh:=lm;clear fa t6 HR9 lm;go_wp2_with fail;clear e9;obtain⟨yz,ez⟩:=Aj (y9.setCell ⟨w5.heap.size,0,N⟩ (J (p_ y8.heap.size) 6 6));rw[ez]at HS HQ HR dh ⊢;clear ez;obtain⟨cc,ci,mh,jx,si,hc4,K2⟩:=dh.o;have iu:=Ad mh;have fb:=Ad jx;have ug:=Ad K2;clear mh jx K2 dh;obtain⟨ca,cp,rfl,_⟩:=Iq rfl fb.o;refine Lt.begin 10 (λw'=>w'.heap[P]?=M (O #[v1,v2] 44 (0,0))/\w'.heap[w5.heap.size]?=M (O #[J ca ci.length cp] 53 (0,0))) qk ?_;obtain⟨wD,eD⟩:=Aj yz.drew;rw[eD];have ao:Bw yz wD:=qbb;exact qgj
      ·have hz0I:¬ ((z:Int)=0):=qg;go_wp2_with fail;obtain⟨cc,ci,mh,jx,si,hc4,K2⟩:=dh.o;have iu:=Ad mh;have fb:=Ad jx;have ug:=Ad K2;clear mh jx K2 dh;obtain⟨ca,cp,rfl,_⟩:=Iq rfl fb.o;refine Lt.begin 10 (λw'=>w'.heap[P]?=M (O #[v1,v2] 44 (0,0))/\w'.heap[w5.heap.size]?=M (O #[J ca ci.length cp] 53 (0,0))) qk ?_;obtain⟨wD,eD⟩:=Aj w8.drew;rw[eD];have ao:Bw w8 wD:=qbb;exact qgj
     ·have hkz:(0:Int)<(l2.length:Int):=qg;obtain⟨g2,ki,rfl,H7,_⟩:=HS.o.dw.tc 0 tr;go_wp2_with fail;clear e6;refine(HR.o.pick qg 5 qg qg).mono ?_;rintro e w7 ⟨y,rfl,hy,az,am⟩;replace HS:=Ad (HS.o.gb am qg);replace HQ:=Ad (Az HQ.o am qg);replace dh:=Ad (dh.o.gb am df G6);replace HR:=Ad az;clear am az
      rcases Nat.eq_zero_or_pos y with rfl|nd
      ·go_wp2_with fail;refine Lt.begin 11 (λw'=>w'.heap[P]?=M (O #[v1,J (p_ g2) l2.length ki] 44 (0,0))/\w'.ownsRow w.heap.size 113 2 (J (p_ g2) l2.length ki) l2.length (Jc l2)) qk ?_;obtain⟨wD,eD⟩:=Aj w7.drew;rw[eD];have ao:Bw w7 wD:=qbb;clear eD;replace HS:=Ad (HS.o.bl ao);replace HR:=Ad (HR.o.bl aj ao);replace HQ:=Ad (Ac HQ.o ao);replace dh:=Ad (dh.o.bl ao);have aw:(λw'=>w'.heap[P]?=M (O #[v1,J (p_ g2) l2.length ki] 44 (0,0))/\w'.ownsRow w.heap.size 113 2 (J (p_ g2) l2.length ki) l2.length (Jc l2)) wD:=⟨HS.o.blk,HS.o.dw.t⟩;change K 0 _
       iterate 6
        refine Lt.ti (v:=?_) aw ?_ ?_;rotate_left 1
        ·exact qks
        simp only[gX]
       refine Lt.sp (i:=6) (λK hK=>?_);go_simp;refine(HR.o.pick qg (l2.length:Int) qg qg).mono ?_;rintro e wA ⟨j,rfl,hj,Z6,up⟩;replace hj:j<l2.length:=qg;replace HS:=Ad (HS.o.gb up qg);replace HR:=Ad Z6;replace HQ:=Ad (Az HQ.o up qg);replace dh:=Ad (dh.o.gb up df G6);have bj:(λw'=>w'.heap[P]?=M (O #[v1,J (p_ g2) l2.length ki] 44 (0,0))/\w'.ownsRow w.heap.size 113 2 (J (p_ g2) l2.length ki) l2.length (Jc l2)) wA:=⟨HS.o.blk,HS.o.dw.t⟩;refine hK.out _ _ (λ_=>bj) (λ_=>?_);clear hK K up Z6
       try simp only[gX]
       have hjI:(j:Int)<(l2.length:Int):=qg;obtain⟨a3,p3,ec3,hcp3⟩:=Ta (HS.o.dw.c _ (Kl hj)) (by have:=(HS.o.bd.t _ (Kl hj)).2.1;omega);change K 7 _
       iterate 3
        refine Lt.ti (v:=?_) bj ?_ ?_;rotate_left 1
        ·rintro w ⟨gm,fl⟩;obtain⟨c0,c1⟩:=Bg gm;obtain⟨c2,c3⟩:=Vb fl j hj rfl;rw[ec3]at c3;go_simp;first|done|with_reducible rfl
        simp only[gX]
       refine Lt.sp (i:=10) (λK hK=>?_);go_simp;refine(hcp3 _ (Below.refl _ _)).mono ?_;rintro e wB ⟨il,g3,p4,rfl,hob⟩;rw[insV_eq]at hob;have If:=Ad (Al (B':=w.heap.size) hob HR.o.size);clear hob;replace HS:=Ad (HS.o.bl il);replace HR:=Ad (HR.o.bl aj il);replace HQ:=Ad (Ac HQ.o il);replace dh:=Ad (dh.o.bl il);have cz:(λw'=>w'.heap[P]?=M (O #[v1,J (p_ g2) l2.length ki] 44 (0,0))/\w'.ownsRow w.heap.size 113 2 (J (p_ g2) l2.length ki) l2.length (Jc l2)) wB:=⟨HS.o.blk,HS.o.dw.t⟩;refine hK.out _ _ (λ_=>cz) (λ_=>?_);clear hK K il
       try simp only[gX]
       refine Lt.sp (i:=11) (λK hK=>?_);(have xv:∃c3,wB.heap[w5.heap.size]?=M (O #[c3] 53 (0,0)):=by obtain⟨c3,_,h3,_⟩:=dh.o;exact⟨c3,h3⟩);obtain⟨c3,xv⟩:=xv;have d31:=Dx xv;have f31:=λj=>fH xv j;have lm:=Ad (dh.o.put If.o (HC.o _ (Kl hj)) (HS.o.bd.t _ (Kl hj)).2.1 (HS.o.bd.t _ (Kl hj)).2.2);have fa:=Ad (HS.o.set (j:=0) ⟨_,xv⟩ qh qh qh qg (J (p_ g3) (cx l2 j).t.code.length p4));have t6:=Ad (Af HQ.o (c:=w5.heap.size) (j:=0) qg (J (p_ g3) (cx l2 j).t.code.length p4));have HR9:=Ad (HR.o.set (b:=w5.heap.size) (j:=0) aj G6 (J (p_ g3) (cx l2 j).t.code.length p4));go_simp;refine hK.out _ _ (λh=>absurd rfl h) (λ_=>?_);clear hK K;refine Lt.done qk ?_ _;clear HS HQ HR dh xv d31 f31 If;have HS:=fa;have HQ:=t6;have HR:=HR9;have dh:=lm;clear fa t6 HR9 lm;obtain⟨yy,ey⟩:=Aj (wB.setCell ⟨w5.heap.size,0,N⟩ (J (p_ g3) (cx l2 j).t.code.length p4));rw[ey]at HS HQ HR dh ⊢;clear ey;exact qgf
      ·have S5:¬ ((y:Int)=0):=qg;exact qgf
    ·have ek:l2.length=1+x:=qg;obtain⟨d0,d1,_⟩:=HS.o.c;obtain⟨r0,r1⟩:=Bg HQ.o;have fr:=λj=>fH HQ.o j;obtain⟨a1,p1,rfl⟩:=HS.o.dw.s1;obtain⟨a2,p2,rfl⟩:=HS.o.dw.s2;have HE:=Ad ek;have gi:¬ (l2.length:Int)<1+(x:Int):=qg;clear ek;go_wp2;refine bR (v:=G #[J a1 l1.length p1,J a2 l2.length p2]) (by simp[results,results47,go_sem,r0,r1]) rfl ?_;exact⟨J a1 l1.length p1,J a2 l2.length p2,rfl,l1,l2,HS.o.dw.ret HQ.o,HS.o.bd,((HR.o.set aj (Nat.le_refl _) _).set aj (Nat.le_refl _) _).more qg,o6,qg,HC.o⟩
theorem Xc(B R:X)(a:Option Addr)(len cap p:X)(w:E){lo:X}(h:Rd B w R a len cap p)(aj:B<=w.heap.size)(hp:p<=50000)(hd:Dw w lo v1 v2 l1 l2)(i6:Yi l1 l2)(P7:R<lo):Calls prog 49 #[D (p_ R),G #[v1,v2]] w λe w'=>∃s:By,e=H (S s)/\s.size<=50000/\Ba B R a len cap p 10 w w':=by
 have P8:=h.lt
 have df:R<w.heap.size:=qg
 obtain⟨s1,q1,rfl⟩:=hd.s1
 obtain⟨s2,q2,rfl⟩:=hd.s2
 obtain⟨w1,e1⟩:=Aj (w.alloc (O #[J s1 l1.length q1,J s2 l2.length q2] 44))
 have ah:Bw w w1:=by rw[<- e1];exact aN _ _
 have HP:Hd (w1.heap[w.heap.size]?=M (O #[J s1 l1.length q1,J s2 l2.length q2] 44 (0,0))):=by show _=_;rw[<- e1];exact Am _ _
 have HR:Hd (Ba B R a len cap p (0) w w1):=⟨Fr (Im w R) ah,p,qg,h.bl aj ah⟩
 have HD:=Ad (hd.bl ah)
 have HBD:=Ad i6
 have yv:=i6.n2
 obtain⟨c0,c1⟩:=Bg HP.o
 clear ah h hd i6
 rcases Nat.eq_zero_or_pos l2.length with fe|tr
 ·have hkz:¬ (0:Int)<(l2.length:Int):=qg;clear fe;go_enter func49,ntmps49;obtain⟨wL,eL⟩:=Aj (w1.alloc (O #[S ⟨#[97]⟩,S ⟨#[110,111,110,101]⟩,ze,S ⟨#[120,32,121]⟩,S ⟨#[116,48]⟩] 9));have bz:Bw w1 wL:=by rw[<- eL];exact aN _ _
  have HL:Hd (wL.heap[w1.heap.size]?=M (O #[S ⟨#[97]⟩,S ⟨#[110,111,110,101]⟩,ze,S ⟨#[120,32,121]⟩,S ⟨#[116,48]⟩] 9 (0,0))):=by show _=_;rw[<- eL];exact Am _ _
  have hLR:R<w1.heap.size:=zo HR.o.size;exact qhx
 ·have hkz:(0:Int)<(l2.length:Int):=qg;obtain⟨g2,ki,ev,H7,_⟩:=HD.o.tc 0 tr;cases ev;go_enter func49,ntmps49;go_wp2_with fail;clear e1 c0 c1;refine(HR.o.pick qg 8 qg qg).mono ?_;rintro e w2 ⟨x,rfl,hx,az,am⟩;replace HP:=Ad (Az HP.o am qg);replace HD:=Ad (HD.o.gb am P7);clear HR;have HR:=Ad az;clear az am
  rcases Nat.eq_zero_or_pos x with rfl|I8
  ·clear HP HD;obtain⟨wL,eL⟩:=Aj (w2.alloc (O #[S ⟨#[97]⟩,S ⟨#[110,111,110,101]⟩,ze,S ⟨#[120,32,121]⟩,S ⟨#[116,48]⟩] 9));have bz:Bw w2 wL:=by rw[<- eL];exact aN _ _
   have HL:Hd (wL.heap[w2.heap.size]?=M (O #[S ⟨#[97]⟩,S ⟨#[110,111,110,101]⟩,ze,S ⟨#[120,32,121]⟩,S ⟨#[116,48]⟩] 9 (0,0))):=by show _=_;rw[<- eL];exact Am _ _
   have hLR:R<w2.heap.size:=zo HR.o.size;exact qhx
  ·have hx0I:(0:Int)<(x:Int):=qg;go_wp2_with fail;refine Lt.begin 10 (λw'=>w'.heap[w.heap.size]?=M (O #[J s1 l1.length q1,J (p_ g2) l2.length q2] 44 (0,0))/\w'.ownsRow lo 113 2 (J (p_ g2) l2.length q2) l2.length (Jc l2)) qk ?_;obtain⟨wD,eD⟩:=Aj w2.drew;rw[eD];have ao:Bw w2 wD:=qbb;clear eD;replace HD:=Ad (HD.o.bl ao);replace HR:=Ad (HR.o.bl aj ao);replace HP:=Ad (Ac HP.o ao);have aw:(λw'=>w'.heap[w.heap.size]?=M (O #[J s1 l1.length q1,J (p_ g2) l2.length q2] 44 (0,0))/\w'.ownsRow lo 113 2 (J (p_ g2) l2.length q2) l2.length (Jc l2)) wD:=⟨HP.o,HD.o.t⟩;change K 0 _
   iterate 6
    refine Lt.ti (v:=?_) aw ?_ ?_;rotate_left 1
    ·exact qks
    simp only[gX]
   refine Lt.sp (i:=6) (λK hK=>?_);go_simp;refine(HR.o.pick qg (l2.length:Int) qg qg).mono ?_;rintro e wA ⟨j,rfl,hj,Z6,up⟩;replace hj:j<l2.length:=qg;replace HD:=Ad (HD.o.gb up P7);replace HR:=Ad Z6;replace HP:=Ad (Az HP.o up qg);have bj:(λw'=>w'.heap[w.heap.size]?=M (O #[J s1 l1.length q1,J (p_ g2) l2.length q2] 44 (0,0))/\w'.ownsRow lo 113 2 (J (p_ g2) l2.length q2) l2.length (Jc l2)) wA:=⟨HP.o,HD.o.t⟩;refine hK.out _ _ (λ_=>bj) (λ_=>?_);clear hK K up Z6
   try simp only[gX]
   have hjI:(j:Int)<(l2.length:Int):=qg;change K 7 _
   iterate 3
    refine Lt.ti (v:=?_) bj ?_ ?_;rotate_left 1
    ·rintro w ⟨gm,fl⟩;obtain⟨c0,c1⟩:=Bg gm;obtain⟨c2,c3⟩:=Vb fl j hj rfl;go_simp;first|done|with_reducible rfl
    simp only[gX]
   refine Lt.sp (i:=10) (λK hK=>?_);go_simp;refine hK.out _ _ (λh=>absurd rfl h) (λ_=>?_);clear hK K;refine Lt.done qk ?_ _;go_wp2;go_ret;exact⟨_,rfl,(HBD.o.t _ (Kl hj)).1,HR.o.more qg⟩
section
variable {P:Program} {ops:Array Oper} {Q:Exit->Act->E->Prop} {AD:E->Prop} {z:X}
end
theorem Tk:∀(l:L S2)(i:X)(t:By),i<l.length->(Eb l).set (i*2+1) (S t)=Eb (l.set i ⟨(sx l i).name,t⟩)
 | [],i,t,h=>qak
 | e::r,0,t,h=>rfl
 | e::r,i+1,t,h=>by
  have ih:=Tk r i t Zl;have e1:sx (e::r) (i+1)=sx r i:=rfl;rw[e1,List.set_cons_succ];show(Value.string e.name::Value.string e.text::Eb r).set ((i+1)*2+1) _=Value.string e.name::Value.string e.text::Eb (r.set i _);rw[show(i+1)*2+1=(i*2+1)+1+1 from qg,List.set_cons_succ,List.set_cons_succ,ih]
theorem Tl:∀(l:L S2)(i:X)(t:By),i<l.length->(Eb l).set (i*2) (S t)=Eb (l.set i ⟨t,(sx l i).text⟩)
 | [],i,t,h=>qak
 | e::r,0,t,h=>rfl
 | e::r,i+1,t,h=>by
  have ih:=Tl r i t Zl;have e1:sx (e::r) (i+1)=sx r i:=rfl;rw[e1,List.set_cons_succ];show(Value.string e.name::Value.string e.text::Eb r).set ((i+1)*2) _=Value.string e.name::Value.string e.text::Eb (r.set i _);rw[show(i+1)*2=i*2+1+1 from qg,List.set_cons_succ,List.set_cons_succ,ih]
theorem Wx{α:Type}{p:α->Prop}{l:L α}{x:α}(h:∀a∈l,p a)(hx:p x):∀a∈l.set i x,p a:=λa ha=>by
 rcases List.mem_or_eq_of_mem_set ha with q|q
 ·exact h a q
 ·rw[q];exact hx
section
variable {V:E} {P lo g cap:X} {v1 v2:Z} {l1:L S2} {l2:L TC}
theorem Sw.setT(h:Sw V P lo (J (p_ g) l1.length cap) v2 l1 l2)(i:X)(hi:i<l1.length){t:By}(ht:t.size<=50000):Sw (V.setCell ⟨g,i*2+1,N⟩ (S t)) P lo (J (p_ g) l1.length cap) v2 (l1.set i ⟨(sx l1 i).name,t⟩) l2:=by
 have du:=h.dw.s.stored (i*2+1) (S t)
 rw[Tk l1 i t hi]at du
 have hP:P≠g:=λe=>h.noR.1 (by rw[e];rfl)
 refine⟨?_,⟨by rw[List.length_set];exact du.1,Nf h.dw.t h.dw.s qh _,λa ha=>Nf (h.dw.c a ha) h.dw.s qh _⟩,⟨by rw[List.length_set];exact h.bd.n1,h.bd.n2,Wx h.bd.s ⟨(h.bd.s _ (Uo hi)).1,ht⟩,h.bd.t⟩,h.ge⟩
 exact Af h.blk hP _
theorem Sw.setN(h:Sw V P lo (J (p_ g) l1.length cap) v2 l1 l2)(i:X)(hi:i<l1.length){t:By}(ht:t.size<=50000):Sw (V.setCell ⟨g,i*2,N⟩ (S t)) P lo (J (p_ g) l1.length cap) v2 (l1.set i ⟨t,(sx l1 i).text⟩) l2:=by
 have du:=h.dw.s.stored (i*2) (S t)
 rw[Tl l1 i t hi]at du
 have hP:P≠g:=λe=>h.noR.1 (by rw[e];rfl)
 refine⟨?_,⟨by rw[List.length_set];exact du.1,Nf h.dw.t h.dw.s qh _,λa ha=>Nf (h.dw.c a ha) h.dw.s qh _⟩,⟨by rw[List.length_set];exact h.bd.n1,h.bd.n2,Wx h.bd.s ⟨ht,(h.bd.s _ (Uo hi)).2⟩,h.bd.t⟩,h.ge⟩
 exact Af h.blk hP _
end
end Go.Proofs.YtoihflimijabjaaGreatDoor
