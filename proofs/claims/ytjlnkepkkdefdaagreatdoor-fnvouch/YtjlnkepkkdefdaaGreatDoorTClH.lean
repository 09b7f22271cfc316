import Derived.Test.YtjlnkepkkdefdaaGreatDoorTClF
import Derived.Test.YtjlnkepkkdefdaaGreatDoorTNStepJ
import Derived.Deep.RegionHeld3
import Derived.Deep.RegionLaw
namespace Go.Proofs.YtjlnkepkkdefdaaGreatDoor
open Go.RowKit
set_option linter.unusedVariables false
set_option maxHeartbeats 8000000
set_option maxRecDepth 100000
set_option linter.unusedSimpArgs false
structure Jt (W0:World) (sa ta:Option Addr) (ss:List S2) (ts:List T2):Prop where
 rs:Iz W0 sa ss
 rt:Iy W0 ta ts
 v:SpV ss ts
 l1:ss.length<=200
 l2:ts.length<=200
 xc:∀ i j,(ix (tx ts i).code j).text.size<=9223372036854775807
def Tk (W0:World) (h:Nat) (sv tv:Value) (ss:List S2) (ts:List T2) (st:List ByteArray):Prop:=
 ∀(w:World) (ms:Ms) (nm:ByteArray) (mv kv:Value) (vs:Nat->Value),Bh W0.heap.size h sv tv w ms st mv kv vs->Ja ss ts ms st->Aq nm->phi ts ms<=0->Below W0.heap.size W0 w→
  Calls Tryz.prog 45 #[.pointer (some ⟨h,0,none⟩),.string nm] w fun e w'=>Tj W0.heap.size h sv tv ss ts ms st vs nm w e w'
theorem Da {w:World} {base e sz n:Nat} {v:Value} {xs:List Value} (ho:w.ownsRow base e sz v n xs) {b:Nat} {T:TypeId} {cs:Array Value} (hb:w.heap[b]?=some (.cells cs T (0,0))) (hT:T≠e) (j:Nat) (u:Value):(w.setCell ⟨b,j,none⟩ u).ownsRow base e sz v n xs:=by
 refine⟨ho.1,?_⟩
 rcases ho.2 with r|⟨g,cap,cur,rfl,hg,hh,r⟩
 ·exact Or.inl r
 ·refine Or.inr ⟨g,cap,cur,rfl,hg,?_,r⟩
  rw[hC w ⟨b,j,none⟩ _ g (fun e'=>by
   have e':g=b:=e';subst e';rw[hh] at hb;injection hb with hb;injection hb with _ h5;exact hT h5.symm)]
  exact hh
theorem Ar.set {w:World} {B:Nat} {v:Value} {ls:List G3} (h:Ar w B v ls) {b:Nat} {T:TypeId} {cs:Array Value} (hb:w.heap[b]?=some (.cells cs T (0,0))) (hT:T≠45) (j:Nat) (u:Value):Ar (w.setCell ⟨b,j,none⟩ u) B v ls:=by
 obtain⟨xs,h1,h2⟩:=h
 exact⟨xs,Da h1 hb hT j u,h2⟩
theorem Bh.set {B h:Nat} {sv tv:Value} {w:World} {ms:Ms} {st:List ByteArray} {mv kv:Value} {vs:Nat->Value} (s:Bh B h sv tv w ms st mv kv vs) {b:Nat} {T:TypeId} {cs:Array Value} (hb:w.heap[b]?=some (.cells cs T (0,0))) (h1:T≠45) (h2:T≠72) (h3:T≠9) (hne:b≠h) (j:Nat) (u:Value):Bh B h sv tv (w.setCell ⟨b,j,none⟩ u) ms st mv kv vs:=
 ⟨s.hB,by rw[hC w ⟨b,j,none⟩ _ h (fun e=>hne e.symm)];exact s.blk,Da s.row hb h2 j u,Da s.stk hb h3 j u,fun i d hi e=>(s.lks i d hi e).set hb h1 j u⟩
theorem Ff.set {h:Nat} {sv tv:Value} {w:World} {a:Um} {v:Value} (d:Ff h sv tv w a v) {b:Nat} (hne:b≠h) {T:TypeId} {cs:Array Value} (hb:w.heap[b]?=some (.cells cs T (0,0))) (hT:T≠9) (j:Nat) (u:Value):Ff h sv tv (w.setCell ⟨b,j,none⟩ u) a v:=by
 obtain⟨mv,kv,c,t,chv,k1,k2,k3⟩:=d
 refine⟨mv,kv,c,t,chv,by rw[hC w ⟨b,j,none⟩ _ h (fun e=>hne e.symm)];exact k1,k2,?_⟩
 cases a with
 | ok d=>exact k3
 | circle ch=>obtain⟨e1,e2,base,e3⟩:=k3;exact⟨e1,e2,base,Da e3 hb hT j u⟩
 | deep nm=>exact k3
theorem Ff.set3 {h:Nat} {sv tv:Value} {w:World} {a:Um} {v:Value} (d:Ff h sv tv w a v) {b:Nat} {u0 u1 u2:Value} (hb:w.heap[b]?=some (.cells #[u0,u1,u2] 32 (0,0))) (hne:b≠h) (v0 v1 v2:Value):Ff h sv tv (((w.setCell ⟨b,0,none⟩ v0).setCell ⟨b,1,none⟩ v1).setCell ⟨b,2,none⟩ v2) a v:=by
 have e1:=jB hb v0 (i:=0)
 have e2:=jB e1 v1 (i:=1)
 exact((d.set hne hb (by decide) 0 v0).set hne e1 (by decide) 1 v1).set hne e2 (by decide) 2 v2
theorem Bh.set3 {B h:Nat} {sv tv:Value} {w:World} {ms:Ms} {st:List ByteArray} {mv kv:Value} {vs:Nat->Value} (s:Bh B h sv tv w ms st mv kv vs) {b:Nat} {u0 u1 u2:Value} (hb:w.heap[b]?=some (.cells #[u0,u1,u2] 32 (0,0))) (hne:b≠h) (v0 v1 v2:Value):Bh B h sv tv (((w.setCell ⟨b,0,none⟩ v0).setCell ⟨b,1,none⟩ v1).setCell ⟨b,2,none⟩ v2) ms st mv kv vs:=by
 have e1:=jB hb v0 (i:=0)
 have e2:=jB e1 v1 (i:=1)
 exact((s.set hb (by decide) (by decide) (by decide) hne 0 v0).set e1 (by decide) (by decide) (by decide) hne 1 v1).set e2 (by decide) (by decide) (by decide) hne 2 v2
theorem Ar.set3 {w:World} {B:Nat} {v:Value} {ls:List G3} (h:Ar w B v ls) {b:Nat} {u0 u1 u2:Value} (hb:w.heap[b]?=some (.cells #[u0,u1,u2] 32 (0,0))) (v0 v1 v2:Value):Ar (((w.setCell ⟨b,0,none⟩ v0).setCell ⟨b,1,none⟩ v1).setCell ⟨b,2,none⟩ v2) B v ls:=by
 have e1:=jB hb v0 (i:=0)
 have e2:=jB e1 v1 (i:=1)
 exact((h.set hb (by decide) 0 v0).set e1 (by decide) 1 v1).set e2 (by decide) 2 v2
theorem Kz {B h b:Nat} {w w':World} (k:KS B h w w') (hB:B<=b) (hn:w.heap.size<=b) (v0 v1 v2:Value):KS B h w (((w'.setCell ⟨b,0,none⟩ v0).setCell ⟨b,1,none⟩ v1).setCell ⟨b,2,none⟩ v2):=((k.setN hB hn 0 v0).setN hB hn 1 v1).setN hB hn 2 v2
theorem Nq {w:World} {base e sz n:Nat} {v:Value} {xs:List Value} (ho:w.ownsRow base e sz v n xs) {b:Nat} (hb:v.ownBlock≠some b) (j:Nat) (u:Value):(w.setCell ⟨b,j,none⟩ u).ownsRow base e sz v n xs:=by
 refine⟨ho.1,?_⟩
 rcases ho.2 with r|⟨g,cap,cur,rfl,hg,hh,r⟩
 ·exact Or.inl r
 ·refine Or.inr ⟨g,cap,cur,rfl,hg,?_,r⟩;rw[hC w ⟨b,j,none⟩ _ g (fun e'=>hb (by have e':g=b:=e';simp[Value.ownBlock,e']))];exact hh
theorem Bh.set127 {B h:Nat} {sv tv:Value} {w:World} {ms:Ms} {st:List ByteArray} {mv kv:Value} {vs:Nat->Value} (s:Bh B h sv tv w ms st mv kv vs) {b:Nat} {u0 u1 u2:Value} (hb:w.heap[b]?=some (.cells #[u0,u1,u2] 122 (0,0))) (hne:b≠h) (v0 v1 v2:Value):Bh B h sv tv (((w.setCell ⟨b,0,none⟩ v0).setCell ⟨b,1,none⟩ v1).setCell ⟨b,2,none⟩ v2) ms st mv kv vs:=by
 have e1:=jB hb v0 (i:=0)
 have e2:=jB e1 v1 (i:=1)
 exact((s.set hb (by decide) (by decide) (by decide) hne 0 v0).set e1 (by decide) (by decide) (by decide) hne 1 v1).set e2 (by decide) (by decide) (by decide) hne 2 v2
theorem Tc {w:World} {b b':Nat} {o:Obj} (h:w.heap[b']?=some o) (hne:b'≠b) (v0 v1 v2:Value):(((w.setCell ⟨b,0,none⟩ v0).setCell ⟨b,1,none⟩ v1).setCell ⟨b,2,none⟩ v2).heap[b']?=some o:=by
 rw[hC _ ⟨b,2,none⟩ _ b' hne,hC _ ⟨b,1,none⟩ _ b' hne,hC _ ⟨b,0,none⟩ _ b' hne]
 exact h
theorem Qt {w:World} {base e sz n:Nat} {v:Value} {xs:List Value} (ho:w.ownsRow base e sz v n xs) {b:Nat} (hb:v.ownBlock≠some b) (v0 v1 v2:Value):(((w.setCell ⟨b,0,none⟩ v0).setCell ⟨b,1,none⟩ v1).setCell ⟨b,2,none⟩ v2).ownsRow base e sz v n xs:=Nq (Nq (Nq ho hb 0 v0) hb 1 v1) hb 2 v2
theorem KS.grownNew {B h base e sz n:Nat} {W V w':World} {v:Value} {xs:List Value} (k:KS B h W V) (ho:V.ownsRow base e sz v n xs) (hb:W.heap.size<=base) (hB:B<=W.heap.size) (hg:V.grownBy w' v.ownBlock):KS B h W w':=by
 have hs:=k.bl.size
 refine⟨k.bl.grown hg (by omega) (fun q hq=>by have:=(ho.lt q hq).1;omega),fun b cs T h1 h2 h3 h4=>?_⟩
 have hl:=Af h4
 rw[hg.block b (by omega) (fun e=>by have:=(ho.lt b e.symm).1;omega)]
 exact k.keep b cs T h1 h2 h3 h4
theorem Fh {base e sz n:Nat} {V w':World} {v:Value} {xs:List Value} (ho:V.ownsRow base e sz v n xs) (hg:V.grownBy w' v.ownBlock) {b:Nat} {cs:Array Value} {T:TypeId} (hT:T≠e) (h:V.heap[b]?=some (.cells cs T (0,0))):w'.heap[b]?=some (.cells cs T (0,0)):=by
 rw[hg.block b (Af h) ?_]
 ·exact h
 ·intro e1
  rcases ho.2 with ⟨rfl,_⟩|⟨g,cap,cur,rfl,hb,hh,_⟩
  ·simp[Value.ownBlock] at e1
  ·simp[Value.ownBlock] at e1;subst e1;rw[h] at hh;injection hh with hh;injection hh with _ h5;exact hT h5
def Gy (ms:Ms) (vs:Nat->Value) (v:Value):Prop:=∀ i d,i<ms.length->(mx ms i).2=some d->∀ b,v.ownBlock=some b->(vs i).ownBlock≠some b
theorem Gy.new {B h:Nat} {sv tv:Value} {w:World} {ms:Ms} {st:List ByteArray} {mv kv:Value} {vs:Nat->Value} (s:Bh B h sv tv w ms st mv kv vs) {v:Value} (hv:∀ b,v.ownBlock=some b->w.heap.size<=b):Gy ms vs v:=by
 intro i d hi hd b hb e
 obtain⟨ys,k1,_⟩:=s.lks i d hi hd
 have:=(k1.lt b e).2
 have:=hv b hb
 omega
theorem Gy.grown {B h:Nat} {sv tv:Value} {w:World} {ms:Ms} {st:List ByteArray} {mv kv:Value} {vs:Nat->Value} (s:Bh B h sv tv w ms st mv kv vs) {v:Value} {g n cap:Nat} (a:Gy ms vs v) (hg:v.ownBlock=some g\/g=w.heap.size):Gy ms vs (.slice (some ⟨g,0,none⟩) n cap):=by
 rcases hg with hg|hg
 ·intro i d hi hd b hb;simp[Value.ownBlock] at hb;subst hb;exact a i d hi hd g hg
 ·exact Gy.new s (fun b hb=>by simp[Value.ownBlock] at hb;omega)
theorem Gy.fr {w:World} {ms ms':Ms} {vs vs':Nat->Value} {v:Value} (a:Gy ms vs v) (f:Fr w ms vs ms' vs') (hv:∀ b,v.ownBlock=some b->b<w.heap.size):Gy ms' vs' v:=by
 intro i d hi hd b hb e
 rcases f i d b hi hd e with ⟨d',q1,q2,q3⟩|q
 ·exact a i d' q1 q2 b hb q3
 ·have:=hv b hb;omega
theorem Mt {B h base m n:Nat} {sv tv:Value} {W V w':World} {ms:Ms} {st:List ByteArray} {mv kv yv lv:Value} {vs:Nat->Value} {xs zs:List Value} {o:Obj} (s:Bh B h sv tv V ms st mv kv vs) (hy:V.ownsRow base 122 3 yv n xs) (hl:V.ownsRow base 45 3 lv m zs) (k:KS B h W V) (hb:W.heap.size<=base) (hB:B<=W.heap.size) (hg:(V.alloc o).grownBy w' yv.ownBlock) :
  Bh B h sv tv w' ms st mv kv vs/\w'.ownsRow base 45 3 lv m zs/\KS B h W w'/\(∀(b:Nat) (cs:Array Value) (T:TypeId),T≠122->V.heap[b]?=some (Obj.cells cs T (0,0))->w'.heap[b]?=some (Obj.cells cs T (0,0))):=by
 have hbA:Below V.heap.size V (V.alloc o):=aN _ _
 have s1:=s.bl hbA
 have y1:=Ac hy hbA
 have l1:=Ac hl hbA
 have hs:=k.bl.size
 have k1:KS B h W (V.alloc o):=k.trans (KS.old hbA (by omega))
 refine⟨s1.grown y1 hg (by decide) (by decide) (by decide) (lks_ne s1 y1 (by decide)),Hn l1 y1 (by decide) hg,k1.grownNew y1 hb hB hg,fun b cs T hT hh=>Fh y1 hg hT ?_⟩
 rw[hbA.block b (Af hh)]
 exact hh
theorem Pk {B h base m n:Nat} {sv tv:Value} {W V w':World} {ms:Ms} {st:List ByteArray} {mv kv yv lv:Value} {vs:Nat->Value} {xs zs:List Value} {o:Obj} (s:Bh B h sv tv V ms st mv kv vs) (hy:V.ownsRow base 122 3 yv n xs) (hl:V.ownsRow base 45 3 lv m zs) (k:KS B h W V) (hb:W.heap.size<=base) (hB:B<=W.heap.size) (ha:Gy ms vs lv) (hg:(V.alloc o).grownBy w' lv.ownBlock) :
  Bh B h sv tv w' ms st mv kv vs/\w'.ownsRow base 122 3 yv n xs/\KS B h W w'/\(∀ g m' cap',lv.ownBlock=some g\/g=V.heap.size+1->Gy ms vs (.slice (some ⟨g,0,none⟩) m' cap')):=by
 have hbA:Below V.heap.size V (V.alloc o):=aN _ _
 have s1:=s.bl hbA
 have y1:=Ac hy hbA
 have l1:=Ac hl hbA
 have hs:=k.bl.size
 have k1:KS B h W (V.alloc o):=k.trans (KS.old hbA (by omega))
 refine⟨s1.grown l1 hg (by decide) (by decide) (by decide) (fun i d hi hd b hb=>ha i d hi hd b hb),Hn y1 l1 (by decide) hg,k1.grownNew l1 hb hB hg,fun g m' cap' hq=>Gy.grown s1 ha ?_⟩
 rcases hq with hq|hq
 ·exact Or.inl hq
 ·right;simp;exact hq
theorem Mn {s x:Operand} {W:World} {ops:Array Oper} {o:Oper} {a:Act} {K:Act->World->Prop} {Q:Exit->Act->World->Prop} {E:Prop} (hgd:o.guard=none)
  (ho:o.op=.call { callee:=.builtin .append,args:=#[s,x],argTypes:=#[29,29] }) (B:Nat) (sa:Option Addr) (nn cap:Nat) (xs:List Value)
  (hs:a.eval s=.slice sa nn cap) (hown:W.ownsRow B 45 3 (.slice sa nn cap) nn xs) (d:Nat) (t u:ByteArray) (q:Bool) (hx:a.eval x=.slice (some ⟨d,0,none⟩) 1 1) (hc:W.heap[d]?=some (.cells #[.string t,.bool q,.string u] 45 (0,0))) (hB:B<=W.heap.size) (hn:nn<=200)
  (h:∀ g' cap' w',w'.ownsRow B 45 3 (.slice (some ⟨g',0,none⟩) (nn+1) cap') (nn+1) (xs++[.string t,.bool q,.string u])->W.grownBy w' (Value.slice sa nn cap).ownBlock->((Value.slice sa nn cap).ownBlock=some g'\/g'=W.heap.size)->K (a.put o.dst (.slice (some ⟨g',0,none⟩) (nn+1) cap')) w') :
  if Region.wanted o (yielded ops a.tmps)=true then Oper.wp Tryz.prog o a W K Q else E:=by
 obtain⟨i0,hi,hz0,hz1,hz2⟩:=info_parts Tryz.info45
 refine step_append_lies (w:=W) hgd s x 29 ho B 45 i0 (.agg #[.string ⟨#[]⟩,.bool false,.string ⟨#[]⟩]) 3 40 Tryz.underlying29 hi hz0 hz1 hz2 rfl (by decide) _ nn xs hs hown ⟨d,0,none⟩ 1 1 [.string t,.bool q,.string u] hx rfl
  (World.news_of_block (cs:=#[.string t,.bool q,.string u]) (t:=45) (fr:=(0,0)) hc) (by intro u hu;simp at hu;rcases hu with rfl|rfl|rfl<;>rfl) (by omega) (by unfold maxLen;omega) (by omega) hB W.heap.size rfl ?_
 intro g' cap' w' h1 h2 h3 h4
 exact h g' cap' w' h1 h2 h3
section
open Go.Deep
theorem Xs (W0:World) (h:Nat) (sa ta a:Option Addr) (c1 c2 cap:Nat) (ss:List S2) (ts:List T2) (is:List I3) (ms:Ms) (st:List ByteArray) (mv kv:Value) (vs:Nat->Value) (w:World) (hE:Jt W0 sa ta ss ts)
  (hM:Tk W0 h (.slice sa ss.length c1) (.slice ta ts.length c2) ss ts st) (hsh:Bh W0.heap.size h (.slice sa ss.length c1) (.slice ta ts.length c2) w ms st mv kv vs) (hi:Ja ss ts ms st) (hp:phi ts ms<=-199) (hW:Below W0.heap.size W0 w) (hr:Dr W0 a is) (hv:Ah is=true) (hix:∀ j,(ix is j).text.size<=9223372036854775807) :
  Calls Tryz.prog 78 #[.pointer (some ⟨h,0,none⟩),.agg #[.slice a is.length cap]] w fun e w'=>RunP W0.heap.size h (.slice sa ss.length c1) (.slice ta ts.length c2) ss ts ms st vs is w e w':=by
 have hBw:W0.heap.size<=w.heap.size:=hW.size
 have hhw:h<w.heap.size:=Af hsh.blk
 obtain⟨W,eW⟩:∃ W,((w.alloc (.cells #[.slice a is.length cap] 37)).alloc (.cells #[.int .i64 0,.string ⟨#[]⟩,.slice none 0 0] 32))=W:=⟨_,rfl⟩
 have hb0:Below w.heap.size w W:=by rw[<- eW];exact(aN _ _).alloc (by simp) _
 have hWs:W.heap.size=w.heap.size+1+1:=by rw[<- eW];simp
 have HPB:Hd (W.heap[w.heap.size]?=some (.cells #[.slice a is.length cap] 37 (0,0))):=by
  show W.heap[w.heap.size]?=_;rw[<- eW,Lib.alloc_old _ _ _ (by simp)];exact Aj _ _
 have HRB:Hd (W.heap[w.heap.size+1]?=some (.cells #[.int .i64 0,.string ⟨#[]⟩,.slice none 0 0] 32 (0,0))):=by
  show W.heap[w.heap.size+1]?=_;rw[<- eW];have h:=Aj (w.alloc (.cells #[.slice a is.length cap] 37)) (.cells #[.int .i64 0,.string ⟨#[]⟩,.slice none 0 0] 32);rw[show (w.alloc (.cells #[.slice a is.length cap] 37)).heap.size=w.heap.size+1 from by simp] at h;exact h
 have HWS:Hd (W.heap.size=w.heap.size+1+1):=hWs
 have hwW:w.heap.size<=W.heap.size:=by omega
 obtain⟨W1,eW1⟩:∃ W1,((W.alloc (.cells #[] 122)).alloc (.cells #[] 45))=W1:=⟨_,rfl⟩
 have hb1:Below W.heap.size W W1:=by rw[<- eW1];exact(aN _ _).alloc (by simp) _
 have HR0:Hd (W1.ownsRow W.heap.size 122 3 (.slice (some ⟨W.heap.size,0,none⟩) 0 0) 0 (Bl [])):=by
  show World.ownsRow _ _ _ _ _ _ _;rw[<- eW1];exact(World.ownsRow_lit W #[] 0 (Nat.le_refl _) (by unfold maxLen;omega) rfl).alloc _
 have HL0:Hd (W1.ownsRow W.heap.size 45 3 (.slice (some ⟨W.heap.size+1,0,none⟩) 0 0) 0 (Ig [])):=by
  show World.ownsRow _ _ _ _ _ _ _;rw[<- eW1];have h:=World.ownsRow_lit (base:=W.heap.size) (e:=45) (size:=3) (W.alloc (.cells #[] 122)) #[] 0 (by simp) (by unfold maxLen;omega) rfl;rw[show (W.alloc (.cells #[] 122)).heap.size=W.heap.size+1 from by simp] at h;exact h
 have HSH:Hd (Bh W0.heap.size h (.slice sa ss.length c1) (.slice ta ts.length c2) W1 ms st mv kv vs):=(hsh.bl hb0).bl hb1
 have HA0:Hd (Gy ms vs (.slice (some ⟨W.heap.size+1,0,none⟩) 0 0)):=Gy.new hsh (fun b hb=>by simp[Value.ownBlock] at hb;omega)
 have HI:Hd (Ja ss ts ms st):=hi
 have HPH:Hd (phi ts ms<=-199):=hp
 have HM:Hd (Tk W0 h (.slice sa ss.length c1) (.slice ta ts.length c2) ss ts st):=hM
 have HE:Hd (Jt W0 sa ta ss ts):=hE
 have HB0:Hd (Below w.heap.size w W):=hb0
 have HKS0:Hd (KS W0.heap.size h W W1):=KS.old hb1 (by omega)
 have HW:Hd (Below W0.heap.size W0 w):=hW
 have HRW:Hd (Dr W0 a is):=hr
 have HV:Hd (Ah is=true):=hv
 have HIX:Hd (∀ j,(ix is j).text.size<=9223372036854775807):=hix
 have hil:=(Ed hv).2
 have HRO:Hd (Hk is [] []):=⟨hv,fun i hi=>by simp at hi,rfl⟩
 have hl1:=hE.l1
 have hl2:=hE.l2
 obtain⟨i0,hi0,hz0,hzz1,hzz2⟩:=info_parts Tryz.info122
 clear hM hE hsh hi hp hW hr hv hix hb0 hb1 hWs
 go_enter Tryz.func78,Tryz.ntmps78
 go_wp2_with fail
 clear eW eW1
 go_loopw [6,7] (fun v u wr=>∃(ys:List R3) (ls:List G3) (m1:Ms) (mv kv:Value) (vs':Nat->Value) (ra la:Option Addr) (rc lc:Nat),ys.length<=200/\v=.slice ra ys.length rc/\u=.slice la ls.length lc/\Hd (Hk is ys ls)/\Hd (∀ ms' a,Av ss ts m1 st (.run is ys ls) ms' a->Av ss ts ms st (.run is [] []) ms' a)/\Hd (Bh W0.heap.size h (.slice sa ss.length c1) (.slice ta ts.length c2) wr m1 st mv kv vs')/\Hd (Ja ss ts m1 st)/\Hd (phi ts m1<=-199+(ys.length:Int))/\Hd (wr.ownsRow W.heap.size 122 3 (.slice ra ys.length rc) ys.length (Bl ys))/\Hd (wr.ownsRow W.heap.size 45 3 (.slice la ls.length lc) ls.length (Ig ls))/\Hd (KS W0.heap.size h W wr)/\Hd (Gy m1 vs' (.slice la ls.length lc))/\Hd (Fr w ms vs m1 vs')) (fun v _ _=>200-lenV v)
 case atStart=>exact⟨[],[],ms,mv,kv,vs,some ⟨W.heap.size,0,none⟩,some ⟨W.heap.size+1,0,none⟩,0,0,by simp,rfl,rfl,HRO.o,(fun ms' a k=>k:∀ ms' a,Av ss ts ms st (.run is [] []) ms' a->Av ss ts ms st (.run is [] []) ms' a),HSH.o,HI.o,(by have:=HPH.o;simp;omega:phi ts ms<=-199+(([]:List R3).length:Int)),HR0.o,HL0.o,HKS0.o,HA0.o,Fr.refl w ms vs⟩
 case round=>
  clear HSH HI HPH HRO HR0 HL0 HKS0 HA0;obtain⟨ys,ls,m1,mv',kv',vs',ra,la,rc,lc,hk,rfl,rfl,HRO,HDO,HSH,HI,HPH,HYS,HLS,HKS,HAP,HFR⟩:=hrel;have HBW:Hd (Below W0.heap.size W0 wr):=(HW.o.trans (HB0.o.mono hBw)).trans HKS.o.bl;have hszr:W.heap.size<=wr.heap.size:=HKS.o.bl.size;have hpb:wr.cell? ⟨w.heap.size,0,none⟩=some (.slice a is.length cap):=by rw[cH (HKS.o.keep w.heap.size _ 37 (by decide) (by decide) (by omega) HPB.o)];rfl
  have HNX:Hd (∀ V:World,Dr V a is->Nx V ra ys->Calls Tryz.prog 106 #[.agg #[.slice a is.length cap],.slice ra ys.length rc] V fun e w'=>Below V.heap.size V w'/\∃ r,Az is ys Gc r/\e=.returned (resT r)):=fun V hV hR=>Vu a ra cap rc is ys V hV hR (by omega) HIX.o (rx_any HRO.o.ok) HV.o (reps_of (gs:=[]) HRO.o.ok hk);go_wp2_with fail;refine(HNX.o _ (HRW.o.bl HBW.o) (rowR_of HYS.o)).mono ?_;rintro e w2 ⟨hb2,rs,hful,rfl⟩;have HS2:Hd (Bh W0.heap.size h (.slice sa ss.length c1) (.slice ta ts.length c2) w2 m1 st mv' kv' vs'):=HSH.o.bl hb2;have HY2:Hd (w2.ownsRow W.heap.size 122 3 (.slice ra ys.length rc) ys.length (Bl ys)):=Ac HYS.o hb2;have HL2:Hd (w2.ownsRow W.heap.size 45 3 (.slice la ls.length lc) ls.length (Ig ls)):=Ac HLS.o hb2;have HK2:Hd (KS W0.heap.size h W w2):=HKS.o.trans (KS.old hb2 (by omega));have HB2:Hd (Below W0.heap.size W0 w2):=HBW.o.trans (hb2.mono (by omega));have hsz2:W.heap.size<=w2.heap.size:=HK2.o.bl.size;clear hb2 hpb HNX HSH HYS HLS HKS HBW hszr
  cases rs with
  | over c t n=>
   have HDN:Hd (Av ss ts ms st (.run is [] []) m1 (.ok ⟨c,t,ls⟩)):=HDO.o _ _ (.over hful);clear hful;unfold resT Ao;have hbA:Below w2.heap.size w2 (w2.alloc (.cells #[.bool true,.int .i64 c,.string t,.bool false,.string ⟨#[]⟩,.int .i64 n] 115)):=aN _ _;have HS3:Hd (Bh W0.heap.size h (.slice sa ss.length c1) (.slice ta ts.length c2) (w2.alloc (.cells #[.bool true,.int .i64 c,.string t,.bool false,.string ⟨#[]⟩,.int .i64 n] 115)) m1 st mv' kv' vs'):=HS2.o.bl hbA;have HL3:Hd (Ar (w2.alloc (.cells #[.bool true,.int .i64 c,.string t,.bool false,.string ⟨#[]⟩,.int .i64 n] 115)) W0.heap.size (.slice la ls.length lc) ls):=(Sb HL2.o (by omega)).bl hbA;have HK3:Hd (KS W0.heap.size h W (w2.alloc (.cells #[.bool true,.int .i64 c,.string t,.bool false,.string ⟨#[]⟩,.int .i64 n] 115))):=HK2.o.trans (KS.old hbA (by omega));have HR3:Hd ((w2.alloc (.cells #[.bool true,.int .i64 c,.string t,.bool false,.string ⟨#[]⟩,.int .i64 n] 115)).heap[w.heap.size+1]?=some (.cells #[.int .i64 0,.string ⟨#[]⟩,.slice none 0 0] 32 (0,0))):=HK3.o.keep _ _ 32 (by decide) (by decide) (by omega) HRB.o;obtain⟨z0,z1,z2,zf⟩:=Gi (HK2.o.keep _ _ 32 (by decide) (by decide) (by omega) HRB.o);have hne:w.heap.size+1<w2.heap.size:=by have:=HWS.o;omega
   have HX:Hd (((((w2.setCell ⟨w.heap.size+1,0,none⟩ (.int .i64 c)).setCell ⟨w.heap.size+1,1,none⟩ (.string t)).setCell ⟨w.heap.size+1,2,none⟩ (.slice none 0 0)).alloc (.cells #[.bool true,.int .i64 c,.string t,.bool false,.string ⟨#[]⟩,.int .i64 n] 115)).heap[w.heap.size+1]?=some (.cells #[.int .i64 c,.string t,.slice none 0 0] 32 (0,0))):=by
    have e:=Cz (HK2.o.keep _ _ 32 (by decide) (by decide) (by omega) HRB.o) (.int .i64 c) (.string t) (.slice none 0 0);show _=_;rw[Lib.alloc_old _ _ _ (Af e)];exact e
   clear hbA HS3 HL3 HK3 HR3;go_wp2_with fail;have hR2:=HK2.o.keep _ _ 32 (by decide) (by decide) (by omega) HRB.o;have hh':w.heap.size+1≠h:=by omega
   obtain⟨y0,y1,y2,_⟩:=Gi HX.o;have hks:KS W0.heap.size h w w2:=(KS.old HB0.o hBw).trans HK2.o;have hk3:=Kz hks (b:=w.heap.size+1) (by omega) (by omega) (.int .i64 c) (.string t) (.slice none 0 0);have hs3:=HS2.o.set3 hR2 hh' (.int .i64 c) (.string t) (.slice none 0 0);have hl3:=(Sb HL2.o (B':=W0.heap.size) (by omega)).set3 hR2 (.int .i64 c) (.string t) (.slice none 0 0);have hbA:∀ V:World,∀ o:Obj,Below V.heap.size V (V.alloc o):=fun V o=>aN _ _;refine bR (v:=.tuple #[.agg #[.int .i64 c,.string t,.slice none 0 0],.slice la ls.length lc]) (by simp[results,Tryz.results78,go_sem,y0,y1,y2]) rfl ⟨hk3.trans (KS.old (hbA _ _) (by have:=hk3.bl.size;omega)),m1,.ok ⟨c,t,ls⟩,HDN.o,Or.inl ⟨⟨c,t,ls⟩,.slice la ls.length lc,mv',kv',vs',rfl,rfl,⟨hl3.bl (hbA _ _),fun b hb=>⟨by have:=(HL2.o.lt b hb).1;have:=HWS.o;omega,fun i d hi hd=>HAP.o i d hi hd b hb⟩⟩,hs3.bl (hbA _ _),HFR.o⟩⟩
  | wait ask nm n=>
   obtain⟨hlt,hnm⟩:=HRO.o.wait hful;have HLE:Hd (ls.length=ys.length):=HRO.o.eq;have hl200:ls.length<200:=by have:=HLE.o;omega
   have HHAS:Hd (∀ V,Below w2.heap.size w2 V->Calls Tryz.prog 107 #[.pointer (some ⟨h,0,none⟩),.string nm] V fun e w'=>Below V.heap.size V w'/\e=.returned (.bool (Cb ss ts nm))):=fun V hV=>by
    have s1:=HS2.o.bl hV;obtain⟨k0,k1,_⟩:=s1.cells;have hb:=HB2.o.trans (hV.mono (by have:=HB2.o.size;omega));exact has_any h sa ta c1 c2 ss ts nm V k0 k1 (HE.o.rs.bl hb) (HE.o.rt.bl hb) (by omega) (by omega)
   obtain⟨V,eV⟩:∃ V,w2.alloc (.cells #[.bool false,.int .i64 0,.string ⟨#[]⟩,.bool ask,.string nm,.int .i64 n] 115)=V:=⟨_,rfl⟩;have hbV:Below w2.heap.size w2 V:=by rw[<- eV];exact aN _ _
   have hVs:V.heap.size=w2.heap.size+1:=by rw[<- eV];simp
   have HTB:Hd (V.heap[w2.heap.size]?=some (.cells #[.bool false,.int .i64 0,.string ⟨#[]⟩,.bool ask,.string nm,.int .i64 n] 115 (0,0))):=by
    show _=_;rw[<- eV];exact Aj _ _
   have HSV:Hd (Bh W0.heap.size h (.slice sa ss.length c1) (.slice ta ts.length c2) V m1 st mv' kv' vs'):=HS2.o.bl hbV;have HYV:Hd (V.ownsRow W.heap.size 122 3 (.slice ra ys.length rc) ys.length (Bl ys)):=Ac HY2.o hbV;have HLV:Hd (V.ownsRow W.heap.size 45 3 (.slice la ls.length lc) ls.length (Ig ls)):=Ac HL2.o hbV;have HKV:Hd (KS W0.heap.size h W V):=HK2.o.trans (KS.old hbV (by omega));have HBV:Hd (Below W0.heap.size W0 V):=HB2.o.trans (hbV.mono (by omega));have HHV:=HHAS.o V hbV;have HVV:Hd (Below w2.heap.size w2 V):=hbV;have t0:V.cell? ⟨w2.heap.size,0,none⟩=some (.bool false):=by rw[cH HTB.o];rfl
   have t3:V.cell? ⟨w2.heap.size,3,none⟩=some (.bool ask):=by rw[cH HTB.o];rfl
   have t4:V.cell? ⟨w2.heap.size,4,none⟩=some (.string nm):=by rw[cH HTB.o];rfl
   unfold resT Ao
   cases ask with
   | false=>
    have HD1:Hd (∀ ms' a,Av ss ts m1 st (.run is (ys++[⟨Cb ss ts nm,0,⟨#[]⟩⟩]) (ls++[⟨nm,false,Cw (Cb ss ts nm)⟩])) ms' a->Av ss ts ms st (.run is [] []) ms' a):=fun ms' a k=>HDO.o _ _ (.has hful k);generalize Cb ss ts nm=b at HHV HD1;have HHW:Hd (Calls Tryz.prog 107 #[.pointer (some ⟨h,0,none⟩),.string nm] V fun e w'=>Below V.heap.size V w'/\e=.returned (.bool b)):=HHV;clear hful HHV HHAS hbV
    go_wp2_with (first|(go_at_call 107;refine HHW.o.mono ?_;rintro e w3 ⟨hb3,rfl⟩;have HS3:Hd (Bh W0.heap.size h (.slice sa ss.length c1) (.slice ta ts.length c2) w3 m1 st mv' kv' vs'):=HSV.o.bl hb3;have HY3:Hd (w3.ownsRow W.heap.size 122 3 (.slice ra ys.length rc) ys.length (Bl ys)):=Ac HYV.o hb3;have HL3:Hd (w3.ownsRow W.heap.size 45 3 (.slice la ls.length lc) ls.length (Ig ls)):=Ac HLV.o hb3;have HK3:Hd (KS W0.heap.size h W w3):=HKV.o.trans (KS.old hb3 (by omega));have HT3:Hd (w3.heap[w2.heap.size]?=some (.cells #[.bool false,.int .i64 0,.string ⟨#[]⟩,.bool false,.string nm,.int .i64 n] 115 (0,0))):=Ag hb3 HTB.o;have hs3:W.heap.size<=w3.heap.size:=HK3.o.bl.size;clear hb3)|(at_builtin;refine wpList_append_own _ rfl (.tmp 32) (.tmp 35) 174 rfl W.heap.size 122 i0 (.agg #[.bool false,.int .i64 0,.string ⟨#[]⟩]) 3 32 Tryz.underlying174 hi0 hz0 hzz1 hzz2 rfl (by decide) _ _ _ rfl (HY3.o.alloc _) ⟨w3.heap.size,0,none⟩ 1 1 [.bool b,.int .i64 0,.string ⟨#[]⟩] rfl rfl (Jn _ _ _ _ _) (by intro u hu;simp at hu;rcases hu with rfl|rfl|rfl<;>rfl) (by unfold maxLen;omega) (by omega) (by simp;omega) ?_;intro v4 w4 hown4 hgrow4 hnil4))
    obtain⟨g4,cp4,rfl⟩:∃ g cp,v4=.slice (some ⟨g,0,none⟩) (ys.length+1) cp:=by
     rcases hown4.2 with ⟨e,h0⟩|⟨g,cap,cur,e,_⟩
     ·omega
     ·exact⟨g,cap,e⟩
    obtain⟨s4,l4,k4,f4⟩:=Mt HS3.o HY3.o HL3.o HK3.o (Nat.le_refl _) (by omega) hgrow4;have HS4:Hd (Bh W0.heap.size h (.slice sa ss.length c1) (.slice ta ts.length c2) w4 m1 st mv' kv' vs'):=s4;have HY4:Hd (w4.ownsRow W.heap.size 122 3 (.slice (some ⟨g4,0,none⟩) (ys.length+1) cp4) (ys.length+1) (Bl ys++[.bool b,.int .i64 0,.string ⟨#[]⟩])):=hown4;have HL4:Hd (w4.ownsRow W.heap.size 45 3 (.slice la ls.length lc) ls.length (Ig ls)):=l4;have HK4:Hd (KS W0.heap.size h W w4):=k4;have HLA:Hd (∀ o:Obj,(w4.alloc o).ownsRow W.heap.size 45 3 (.slice la ls.length lc) ls.length (Ig ls)):=fun o=>l4.alloc o;(have q4:w4.cell? ⟨w2.heap.size,4,none⟩=some (.string nm):=by rw[cH (f4 _ _ 115 (by decide) HT3.o)];rfl);have hs4:W.heap.size<=w4.heap.size:=k4.bl.size;obtain⟨f,ef⟩:∃ f,Cw b=f:=⟨_,rfl⟩;have EF:Hd (Cw b=f):=ef;clear ef s4 hown4 l4 k4 f4 hgrow4 hnil4 HS3 HY3 HL3 HK3 HT3 HSV HYV HLV HKV HBV HTB HHW t0 t3 t4 HVV
    go_region_law (first|(refine Ur rfl rfl b f EF.o ?_ ?_;(focus (first|rfl|(simp[Act.eval];done))))|(refine Mn rfl rfl W.heap.size la ls.length lc (Ig ls) ?_ ?_ w4.heap.size nm f false ?_ ?_ ?_ ?_ ?_;(focus (first|rfl|(simp[Act.eval];done)));(focus (exact HLA.o _));(focus (first|rfl|(simp[Act.eval];done)));(focus (exact Aj _ _));(focus (simp;omega));(focus omega);intro g' cap2 w5 hown5 hgrow5 hat5;have HFIN:Hd (_/\_/\_/\_):=Pk (o:=.cells #[.string nm,.bool false,.string f] 45) HS4.o HY4.o HL4.o HK4.o (Nat.le_refl _) (by omega) HAP.o (w':=w5) ⟨hgrow5.os,hgrow5.tape,hgrow5.output,hgrow5.size,hgrow5.block⟩;have HAT:Hd ((Value.slice la ls.length lc).ownBlock=some g'\/g'=w4.heap.size+1):=(by rcases hat5 with q|q;(exact Or.inl q);(right;simpa using q));have HO5:Hd (w5.ownsRow W.heap.size 45 3 (.slice (some ⟨g',0,none⟩) (ls.length+1) cap2) (ls.length+1) (Ig ls++[.string nm,.bool false,.string f])):=hown5;clear hown5 hgrow5 hat5))
    all_goals
     simp[Act.put];go_wp2_with fail;obtain⟨s5,y5,k5,a5⟩:=HFIN.o
     have HY5:Hd (w5.ownsRow W.heap.size 122 3 (.slice (some ⟨g4,0,none⟩) (ys++[⟨b,0,⟨#[]⟩⟩]:List R3).length cp4) (ys++[⟨b,0,⟨#[]⟩⟩]:List R3).length (Bl (ys++[⟨b,0,⟨#[]⟩⟩]))):=by
      show World.ownsRow _ _ _ _ _ _ _;rw[List.length_append,List.length_singleton,Hv];exact y5
     have HL5:Hd (w5.ownsRow W.heap.size 45 3 (.slice (some ⟨g',0,none⟩) (ls++[⟨nm,false,Cw b⟩]:List G3).length cap2) (ls++[⟨nm,false,Cw b⟩]:List G3).length (Ig (ls++[⟨nm,false,Cw b⟩]))):=by
      show World.ownsRow _ _ _ _ _ _ _;rw[List.length_append,List.length_singleton,Ph,EF.o];exact HO5.o
     have HR5:Hd (Hk is (ys++[(⟨b,0,⟨#[]⟩⟩:R3)]) (ls++[(⟨nm,false,Cw b⟩:G3)])):=HRO.o.has b _
     have HP5:Hd (phi ts m1<=-199+((ys++[(⟨b,0,⟨#[]⟩⟩:R3)]).length:Int)):=by
      have:=HPH.o;show _<=_;simp;omega
     have HS5:Hd (Bh W0.heap.size h (.slice sa ss.length c1) (.slice ta ts.length c2) w5 m1 st mv' kv' vs'):=s5;have HK5:Hd (KS W0.heap.size h W w5):=k5;have HA5:Hd (Gy m1 vs' (.slice (some ⟨g',0,none⟩) (ls++[(⟨nm,false,Cw b⟩:G3)]).length cap2)):=a5 _ _ _ HAT.o
     go_round
     case rel=>exact⟨ys++[(⟨b,0,⟨#[]⟩⟩:R3)],ls++[(⟨nm,false,Cw b⟩:G3)],m1,mv',kv',vs',some ⟨g4,0,none⟩,some ⟨g',0,none⟩,cp4,cap2,by simp;omega,by simp,by simp,HR5,HD1,HS5,HI,HP5,HY5,HL5,HK5,HA5,HFR⟩
     case measure=>simp[lenV];omega
   | true=>
    have HD1:Hd (∀ ms1 d,Av ss ts m1 st (.make nm) ms1 (.ok d)->∀ ms' a,Av ss ts ms1 st (.run is (ys++[Kw ss ts nm d]) (ls++[⟨nm,true,Bn d.c d.t⟩])) ms' a->Av ss ts ms st (.run is [] []) ms' a):=fun ms1 d k ms' a k'=>HDO.o _ _ (.asked hful k k');have HDF:Hd (∀ ms' a,Av ss ts m1 st (.make nm) ms' a->a.stop->Av ss ts ms st (.run is [] []) ms' a):=fun ms' a k k'=>HDO.o _ _ (.askfell hful k k');have HMK:Hd (Calls Tryz.prog 45 #[.pointer (some ⟨h,0,none⟩),.string nm] V fun e w'=>Tj W0.heap.size h (.slice sa ss.length c1) (.slice ta ts.length c2) ss ts m1 st vs' nm V e w'):=HM.o V m1 nm mv' kv' vs' HSV.o HI.o hnm (by have:=HPH.o;omega) HBV.o;clear hful HHV hbV;go_wp2_with fail;refine HMK.o.mono ?_;rintro e w3 ⟨hk3,m2,an,hdo,⟨d,mv2,kv2,vs2,rfl,rfl,hs3,hfr3⟩|⟨v,rfl,hdead⟩⟩
    ·(have hhw2:w2.heap.size≠h:=by omega);obtain⟨hi2,hpre,hlk0⟩:=Av.inv HE.o.v hdo HI.o hnm trivial d rfl;have hlk:lk m2 nm=some (some d):=hlk0;have hmd:=hi2.done nm d hlk;have hph:=Av.phi_le HE.o.v hdo hnm HI.o trivial
     have HP2:Hd (phi ts m2<=-199+(ys.length:Int)+1):=by
      have:=HPH.o;simp only at hph;show _<=_;omega
     have HI2:Hd (Ja ss ts m2 st):=hi2;have HA2:Hd (Gy m2 vs2 (.slice la ls.length lc)):=HAP.o.fr hfr3 (fun b hb=>(HLV.o.lt b hb).2);have HF2:Hd (Fr w ms vs m2 vs2):=HFR.o.trans (by omega) hfr3
     have HD3:=HD1.o m2 d hdo
     have HR3:=HRO.o.asked hmd ⟨nm,true,Bn d.c d.t⟩;obtain⟨y,ey⟩:∃ y,Kw ss ts nm d=y:=⟨_,rfl⟩;obtain⟨f,ef⟩:∃ f,Bn d.c d.t=f:=⟨_,rfl⟩;rw[ey,ef] at HD3 HR3;have HD2:Hd (∀ ms' a,Av ss ts m2 st (.run is (ys++[y]) (ls++[(⟨nm,true,f⟩:G3)])) ms' a->Av ss ts ms st (.run is [] []) ms' a):=HD3;have HR2:Hd (Hk is (ys++[y]) (ls++[(⟨nm,true,f⟩:G3)])):=HR3;have HSw3:Hd (Bh W0.heap.size h (.slice sa ss.length c1) (.slice ta ts.length c2) w3 m2 st mv2 kv2 vs2):=hs3;have HYw3:Hd (w3.ownsRow W.heap.size 122 3 (.slice ra ys.length rc) ys.length (Bl ys)):=own_ks HYV.o hk3 (by decide) (by decide) (own_ne HSV.o HYV.o (by decide));have HLw3:Hd (w3.ownsRow W.heap.size 45 3 (.slice la ls.length lc) ls.length (Ig ls)):=own_ks HLV.o hk3 (by decide) (by decide) (own_ne HSV.o HLV.o (by decide));have HKw3:Hd (KS W0.heap.size h W w3):=HKV.o.trans hk3;have HTw3:Hd (w3.heap[w2.heap.size]?=some (.cells #[.bool false,.int .i64 0,.string ⟨#[]⟩,.bool true,.string nm,.int .i64 n] 115 (0,0))):=hk3.keep _ _ 115 (by decide) (by decide) hhw2 HTB.o;have HBw3:Hd (Below W0.heap.size W0 w3):=HBV.o.trans hk3.bl;have HTB3:=HTw3;have hs33:W.heap.size<=w3.heap.size:=HKw3.o.bl.size;have HYN:Hd (∀ b,(Value.slice ra ys.length rc).ownBlock=some b->b<w3.heap.size):=fun b hb=>(HYw3.o.lt b hb).2;have HLN:Hd (∀ b,(Value.slice la ls.length lc).ownBlock=some b->b<w3.heap.size):=fun b hb=>(HLw3.o.lt b hb).2;obtain⟨dc,dt,dls⟩:=d;obtain⟨V3,eV3⟩:∃ V3,(w3.alloc (.cells #[.int .i64 dc,.string dt,.slice none 0 0] 32)).alloc (.cells #[.bool true,.int .i64 dc,.string dt] 122)=V3:=⟨_,rfl⟩;(have hbV3:Below w3.heap.size w3 V3:=by rw[<- eV3];exact(aN _ _).alloc (by simp) _);have hV3s:V3.heap.size=w3.heap.size+1+1:=by rw[<- eV3];simp
     have HQV3:Hd (V3.heap[w3.heap.size]?=some (.cells #[.int .i64 dc,.string dt,.slice none 0 0] 32 (0,0))):=by
      show _=_;rw[<- eV3,Lib.alloc_old _ _ _ (by simp)];exact Aj _ _
     have HPV3:Hd (V3.heap[w3.heap.size+1]?=some (.cells #[.bool true,.int .i64 dc,.string dt] 122 (0,0))):=by
      show _=_;rw[<- eV3];have h:=Aj (w3.alloc (.cells #[.int .i64 dc,.string dt,.slice none 0 0] 32)) (.cells #[.bool true,.int .i64 dc,.string dt] 122);rw[show (w3.alloc (.cells #[.int .i64 dc,.string dt,.slice none 0 0] 32)).heap.size=w3.heap.size+1 from by simp] at h;exact h
     have HSV3:Hd (Bh W0.heap.size h (.slice sa ss.length c1) (.slice ta ts.length c2) V3 m2 st mv2 kv2 vs2):=HSw3.o.bl hbV3;have HYV3:Hd (V3.ownsRow W.heap.size 122 3 (.slice ra ys.length rc) ys.length (Bl ys)):=Ac HYw3.o hbV3;have HLV3:Hd (V3.ownsRow W.heap.size 45 3 (.slice la ls.length lc) ls.length (Ig ls)):=Ac HLw3.o hbV3;have HKV3:Hd (KS W0.heap.size h W V3):=HKw3.o.trans (KS.old hbV3 (by have:=HKw3.o.bl.size;omega));have HTV3:Hd (V3.heap[w2.heap.size]?=some (.cells #[.bool false,.int .i64 0,.string ⟨#[]⟩,.bool true,.string nm,.int .i64 n] 115 (0,0))):=Ag hbV3 HTw3.o;have HBV3:Hd (Below W0.heap.size W0 V3):=HBw3.o.trans (hbV3.mono (by have:=HBw3.o.size;omega));have w7:w3.cell? ⟨h,7,none⟩=some (.bool false):=hs3.cells.2.2.2.2.1;have hh3:h<w3.heap.size:=Af hs3.blk;have v7:V3.cell? ⟨h,7,none⟩=some (.bool false):=HSV3.o.cells.2.2.2.2.1;have HC0:Hd (0<=dc):=hmd.c0;have HC5:Hd (dc<=5):=hmd.c5;have HT2:Hd (dt.size<=2000):=hmd.t2;have HEF:Bn dc dt=f:=ef;have EF:Hd (Bn dc dt=f):=HEF;(have HNO:Hd (¬ Lm ss ts nm->dc=4/\dt=nm):=fun q=>by have:=hmd.no q;cases this;exact⟨rfl,rfl⟩);have HEY:Hd (Kw ss ts nm ⟨dc,dt,dls⟩=y):=ey;obtain⟨p0,p1,p2,pf⟩:=Gi HPV3.o;obtain⟨r0,r1,r2,rf⟩:=Gi HQV3.o;(have t4':V3.cell? ⟨w2.heap.size,4,none⟩=some (.string nm):=by rw[cH HTV3.o];rfl);clear hlk0 hlk hpre hmd hph hi2 hfr3 ey ef HD3 HR3 hs3 hk3 hbV3 HEF hdo t0 t3 t4 HSw3 HYw3 HLw3 HTw3 HMK HM HSV HYV HLV HKV HTB
     by_cases h4:dc=4
     ·subst h4
      have HHV3:Hd (Calls Tryz.prog 107 #[.pointer (some ⟨h,0,none⟩),.string nm] V3 fun e w'=>Below V3.heap.size V3 w'/\e=.returned (.bool (Cb ss ts nm))):=by
       obtain⟨k0,k1,_⟩:=HSV3.o.cells;exact has_any h sa ta c1 c2 ss ts nm V3 k0 k1 (HE.o.rs.bl HBV3.o) (HE.o.rt.bl HBV3.o) (by omega) (by omega)
      cases hth:Cb ss ts nm with
      | true=>
       rw[hth] at HHV3;(have HRP:Hd (y=⟨true,4,dt⟩):=by show _=_;rw[<- HEY.o];unfold Kw;rw[if_pos hth]);clear hth
       go_upto_region 16 with (first|(go_at_call 107;refine HHV3.o.mono ?_;rintro e w7 ⟨hbw7,rfl⟩))
       have HSw7:Hd (Bh W0.heap.size h (.slice sa ss.length c1) (.slice ta ts.length c2) w7 m2 st mv2 kv2 vs2):=HSV3.o.bl hbw7;have HYw7:Hd (w7.ownsRow W.heap.size 122 3 (.slice ra ys.length rc) ys.length (Bl ys)):=Ac HYV3.o hbw7;have HLw7:Hd (w7.ownsRow W.heap.size 45 3 (.slice la ls.length lc) ls.length (Ig ls)):=Ac HLV3.o hbw7;have HKw7:Hd (KS W0.heap.size h W w7):=HKV3.o.trans (KS.old hbw7 (by have:=HKV3.o.bl.size;omega));have HTw7:Hd (w7.heap[w2.heap.size]?=some (.cells #[.bool false,.int .i64 0,.string ⟨#[]⟩,.bool true,.string nm,.int .i64 n] 115 (0,0))):=Ag hbw7 HTV3.o;have HQw7:Hd (w7.heap[w3.heap.size]?=some (.cells #[.int .i64 4,.string dt,.slice none 0 0] 32 (0,0))):=Ag hbw7 HQV3.o;have HPw7:Hd (w7.heap[w3.heap.size+1]?=some (.cells #[.bool true,.int .i64 4,.string dt] 122 (0,0))):=Ag hbw7 HPV3.o;clear hbw7 HSV3 HYV3 HLV3 HTV3 HQV3 HPV3 HHV3 p0 p1 p2 pf r0 r1 r2 rf;have hsw7:W.heap.size<=w7.heap.size:=HKw7.o.bl.size;obtain⟨p0,p1,p2,pf⟩:=Gi HPw7.o;clear pf
       go_wp2_with (first|(at_builtin;refine wpList_append_own _ rfl (.tmp 74) (.tmp 76) 174 rfl W.heap.size 122 i0 (.agg #[.bool false,.int .i64 0,.string ⟨#[]⟩]) 3 32 Tryz.underlying174 hi0 hz0 hzz1 hzz2 rfl (by decide) _ _ _ rfl (HYw7.o.alloc _) ⟨w7.heap.size,0,none⟩ 1 1 [.bool true,.int .i64 4,.string dt] rfl rfl (Jn _ _ _ _ _) (by intro u hu;simp at hu;rcases hu with rfl|rfl|rfl<;>rfl) (by unfold maxLen;omega) (by omega) (by simp;omega) ?_;intro v4 w4 hown4 hgrow4 hnil4))
       obtain⟨g4,cp4,rfl⟩:∃ g cp,v4=.slice (some ⟨g,0,none⟩) (ys.length+1) cp:=by
        rcases hown4.2 with ⟨e,h0⟩|⟨g,cap,cur,e,_⟩
        ·omega
        ·exact⟨g,cap,e⟩
       obtain⟨s4,l4,k4,f4⟩:=Mt HSw7.o HYw7.o HLw7.o HKw7.o (Nat.le_refl _) (by omega) hgrow4;have HS4:Hd (Bh W0.heap.size h (.slice sa ss.length c1) (.slice ta ts.length c2) w4 m2 st mv2 kv2 vs2):=s4;have HY4:Hd (w4.ownsRow W.heap.size 122 3 (.slice (some ⟨g4,0,none⟩) (ys.length+1) cp4) (ys.length+1) (Bl ys++[.bool true,.int .i64 4,.string dt])):=hown4;have HL4:Hd (w4.ownsRow W.heap.size 45 3 (.slice la ls.length lc) ls.length (Ig ls)):=l4;have HK4:Hd (KS W0.heap.size h W w4):=k4;have HT4:Hd (w4.heap[w2.heap.size]?=some (.cells #[.bool false,.int .i64 0,.string ⟨#[]⟩,.bool true,.string nm,.int .i64 n] 115 (0,0))):=f4 _ _ 115 (by decide) HTw7.o;obtain⟨r0,r1,r2,rf⟩:=Gi (f4 _ _ 32 (by decide) HQw7.o);(have q4:w4.cell? ⟨w2.heap.size,4,none⟩=some (.string nm):=by rw[cH HT4.o];rfl);have hs4:W.heap.size<=w4.heap.size:=k4.bl.size;clear rf s4 hown4 l4 k4 f4 hgrow4 hnil4 HSw7 HYw7 HLw7 HKw7 HTw7 HPw7 HQw7 p0 p1 p2
       go_region_law (first|(refine Pu rfl rfl _ _ f EF.o HC0.o HC5.o HT2.o ?_ ?_;(focus (first|rfl|(simp[Act.eval];done)));intro w6 hb6x;have hb6:Below w4.heap.size w4 w6:=⟨hb6x.os,hb6x.tape,hb6x.output,hb6x.size,hb6x.block⟩;have HS6:Hd (Bh W0.heap.size h (.slice sa ss.length c1) (.slice ta ts.length c2) w6 m2 st mv2 kv2 vs2):=HS4.o.bl hb6;have HY6:Hd (w6.ownsRow W.heap.size 122 3 (.slice (some ⟨g4,0,none⟩) (ys.length+1) cp4) (ys.length+1) (Bl ys++[.bool true,.int .i64 4,.string dt])):=Ac HY4.o hb6;have HL6:Hd (w6.ownsRow W.heap.size 45 3 (.slice la ls.length lc) ls.length (Ig ls)):=Ac HL4.o hb6;have HK6:Hd (KS W0.heap.size h W w6):=HK4.o.trans (KS.old hb6 (by omega));have HLA:Hd (∀ o:Obj,(w6.alloc o).ownsRow W.heap.size 45 3 (.slice la ls.length lc) ls.length (Ig ls)):=(fun o=>HL6.o.alloc o);have q6:w6.cell? ⟨w2.heap.size,4,none⟩=some (.string nm):=(by rw[cH (Ag hb6 HT4.o)];rfl);have hs6:W.heap.size<=w6.heap.size:=HK6.o.bl.size;clear hb6x hb6)|(refine Mn rfl rfl W.heap.size la ls.length lc (Ig ls) ?_ ?_ w6.heap.size nm f true ?_ ?_ ?_ ?_ ?_;(focus (first|rfl|(simp[Act.eval];done)));(focus (exact HLA.o _));(focus (first|rfl|(simp[Act.eval];done)));(focus (exact Aj _ _));(focus (simp;omega));(focus omega);intro g' cap2 w5 hown5 hgrow5 hat5;have HFIN:Hd (_/\_/\_/\_):=Pk (o:=.cells #[.string nm,.bool true,.string f] 45) HS6.o HY6.o HL6.o HK6.o (Nat.le_refl _) (by omega) HA2.o (w':=w5) ⟨hgrow5.os,hgrow5.tape,hgrow5.output,hgrow5.size,hgrow5.block⟩;have HAT:Hd ((Value.slice la ls.length lc).ownBlock=some g'\/g'=w6.heap.size+1):=(by rcases hat5 with q|q;(exact Or.inl q);(right;simpa using q));have HO5:Hd (w5.ownsRow W.heap.size 45 3 (.slice (some ⟨g',0,none⟩) (ls.length+1) cap2) (ls.length+1) (Ig ls++[.string nm,.bool true,.string f])):=hown5;clear hown5 hgrow5 hat5))
       all_goals
        simp[Act.put];go_wp2_with fail;obtain⟨s5,y5,k5,a5⟩:=HFIN.o
        have HY5:Hd (w5.ownsRow W.heap.size 122 3 (.slice (some ⟨g4,0,none⟩) (ys++[y]).length cp4) (ys++[y]).length (Bl (ys++[y]))):=by
         show World.ownsRow _ _ _ _ _ _ _;rw[List.length_append,List.length_singleton,Hv,HRP.o];exact y5
        have HL5:Hd (w5.ownsRow W.heap.size 45 3 (.slice (some ⟨g',0,none⟩) (ls++[(⟨nm,true,f⟩:G3)]).length cap2) (ls++[(⟨nm,true,f⟩:G3)]).length (Ig (ls++[(⟨nm,true,f⟩:G3)]))):=by
         show World.ownsRow _ _ _ _ _ _ _;rw[List.length_append,List.length_singleton,Ph];exact HO5.o
        have HP5:Hd (phi ts m2<=-199+((ys++[y]).length:Int)):=by
         have:=HP2.o;show _<=_;simp;omega
        have HS5:Hd (Bh W0.heap.size h (.slice sa ss.length c1) (.slice ta ts.length c2) w5 m2 st mv2 kv2 vs2):=s5;have HK5:Hd (KS W0.heap.size h W w5):=k5;have HA5:Hd (Gy m2 vs2 (.slice (some ⟨g',0,none⟩) (ls++[(⟨nm,true,f⟩:G3)]).length cap2)):=a5 _ _ _ HAT.o
        go_round
        case rel=>exact⟨ys++[y],ls++[(⟨nm,true,f⟩:G3)],m2,mv2,kv2,vs2,some ⟨g4,0,none⟩,some ⟨g',0,none⟩,cp4,cap2,by simp;omega,by simp,by simp,HR2,HD2,HS5,HI2,HP5,HY5,HL5,HK5,HA5,HF2⟩
        case measure=>simp[lenV];omega
      | false=>
       rw[hth] at HHV3;(have hnot:¬ Lm ss ts nm:=fun q=>by unfold Cb at hth;simp[q] at hth);(have HRP:Hd (y=⟨false,0,⟨#[]⟩⟩):=by show _=_;rw[<- HEY.o];unfold Kw;rw[hth];rfl);(have HYB:Hd ((Value.slice ra ys.length rc).ownBlock≠some (w3.heap.size+1)):=fun e=>by have:=HYN.o _ e;omega);(have HLB:Hd ((Value.slice la ls.length lc).ownBlock≠some (w3.heap.size+1)):=fun e=>by have:=HLN.o _ e;omega);(have hne7:w3.heap.size+1≠h:=by omega);(have hne8:w2.heap.size≠w3.heap.size+1:=by have:=Af HTB3.o;omega);clear hth hnot
       go_upto_region 16 with (first|(go_at_call 107;refine HHV3.o.mono ?_;rintro e w7 ⟨hbw7,rfl⟩;have hP7:w7.heap[w3.heap.size+1]?=some (.cells #[.bool true,.int .i64 4,.string dt] 122 (0,0)):=Ag hbw7 HPV3.o;have HPw7:Hd (w7.heap[w3.heap.size+1]?=some (.cells #[.bool true,.int .i64 4,.string dt] 122 (0,0))):=hP7;obtain⟨m0,mm1,mm2,mf⟩:=Gi hP7;obtain⟨X,eX⟩:∃ X,((w7.setCell ⟨w3.heap.size+1,0,none⟩ (.bool false)).setCell ⟨w3.heap.size+1,1,none⟩ (.int .i64 0)).setCell ⟨w3.heap.size+1,2,none⟩ (.string ⟨#[]⟩)=X:=⟨_,rfl⟩;clear hP7))
       have HSw7:Hd (Bh W0.heap.size h (.slice sa ss.length c1) (.slice ta ts.length c2) w7 m2 st mv2 kv2 vs2):=HSV3.o.bl hbw7;have HYw7:Hd (w7.ownsRow W.heap.size 122 3 (.slice ra ys.length rc) ys.length (Bl ys)):=Ac HYV3.o hbw7;have HLw7:Hd (w7.ownsRow W.heap.size 45 3 (.slice la ls.length lc) ls.length (Ig ls)):=Ac HLV3.o hbw7;have HKw7:Hd (KS W0.heap.size h W w7):=HKV3.o.trans (KS.old hbw7 (by have:=HKV3.o.bl.size;omega));have HTw7:Hd (w7.heap[w2.heap.size]?=some (.cells #[.bool false,.int .i64 0,.string ⟨#[]⟩,.bool true,.string nm,.int .i64 n] 115 (0,0))):=Ag hbw7 HTV3.o;(have HSX:Hd (Bh W0.heap.size h (.slice sa ss.length c1) (.slice ta ts.length c2) X m2 st mv2 kv2 vs2):=by rw[<- eX];exact HSw7.o.set127 HPw7.o hne7 _ _ _);(have HYX:Hd (X.ownsRow W.heap.size 122 3 (.slice ra ys.length rc) ys.length (Bl ys)):=by rw[<- eX];exact Qt HYw7.o HYB.o _ _ _);(have HLX:Hd (X.ownsRow W.heap.size 45 3 (.slice la ls.length lc) ls.length (Ig ls)):=by rw[<- eX];exact Qt HLw7.o HLB.o _ _ _);(have HKX:Hd (KS W0.heap.size h W X):=by rw[<- eX];exact Kz HKw7.o (by omega) (by omega) _ _ _);(have HTX:Hd (X.heap[w2.heap.size]?=some (.cells #[.bool false,.int .i64 0,.string ⟨#[]⟩,.bool true,.string nm,.int .i64 n] 115 (0,0))):=by rw[<- eX];exact Tc HTw7.o hne8 _ _ _);(have HQX:Hd (X.heap[w3.heap.size]?=some (.cells #[.int .i64 4,.string dt,.slice none 0 0] 32 (0,0))):=by rw[<- eX];exact Tc (Ag hbw7 HQV3.o) (by omega) _ _ _);(have HPX:Hd (X.heap[w3.heap.size+1]?=some (.cells #[.bool false,.int .i64 0,.string ⟨#[]⟩] 122 (0,0))):=by rw[<- eX];exact Cz HPw7.o _ _ _);clear hbw7 HSV3 HYV3 HLV3 HTV3 HQV3 HPV3 HHV3 HSw7 HYw7 HLw7 HKw7 HTw7 HPw7 p0 p1 p2 pf r0 r1 r2 rf m0 mm1 mm2 mf eX HTB3 HYN HLN;have hsX:W.heap.size<=X.heap.size:=HKX.o.bl.size;obtain⟨p0,p1,p2,pf⟩:=Gi HPX.o;clear pf
       go_wp2_with (first|(at_builtin;refine wpList_append_own _ rfl (.tmp 74) (.tmp 76) 174 rfl W.heap.size 122 i0 (.agg #[.bool false,.int .i64 0,.string ⟨#[]⟩]) 3 32 Tryz.underlying174 hi0 hz0 hzz1 hzz2 rfl (by decide) _ _ _ rfl (HYX.o.alloc _) ⟨X.heap.size,0,none⟩ 1 1 [.bool false,.int .i64 0,.string ⟨#[]⟩] rfl rfl (Jn _ _ _ _ _) (by intro u hu;simp at hu;rcases hu with rfl|rfl|rfl<;>rfl) (by unfold maxLen;omega) (by omega) (by simp;omega) ?_;intro v4 w4 hown4 hgrow4 hnil4))
       obtain⟨g4,cp4,rfl⟩:∃ g cp,v4=.slice (some ⟨g,0,none⟩) (ys.length+1) cp:=by
        rcases hown4.2 with ⟨e,h0⟩|⟨g,cap,cur,e,_⟩
        ·omega
        ·exact⟨g,cap,e⟩
       obtain⟨s4,l4,k4,f4⟩:=Mt HSX.o HYX.o HLX.o HKX.o (Nat.le_refl _) (by omega) hgrow4;have HS4:Hd (Bh W0.heap.size h (.slice sa ss.length c1) (.slice ta ts.length c2) w4 m2 st mv2 kv2 vs2):=s4;have HY4:Hd (w4.ownsRow W.heap.size 122 3 (.slice (some ⟨g4,0,none⟩) (ys.length+1) cp4) (ys.length+1) (Bl ys++[.bool false,.int .i64 0,.string ⟨#[]⟩])):=hown4;have HL4:Hd (w4.ownsRow W.heap.size 45 3 (.slice la ls.length lc) ls.length (Ig ls)):=l4;have HK4:Hd (KS W0.heap.size h W w4):=k4;have HT4:Hd (w4.heap[w2.heap.size]?=some (.cells #[.bool false,.int .i64 0,.string ⟨#[]⟩,.bool true,.string nm,.int .i64 n] 115 (0,0))):=f4 _ _ 115 (by decide) HTX.o;obtain⟨r0,r1,r2,rf⟩:=Gi (f4 _ _ 32 (by decide) HQX.o);(have q4:w4.cell? ⟨w2.heap.size,4,none⟩=some (.string nm):=by rw[cH HT4.o];rfl);have hs4:W.heap.size<=w4.heap.size:=k4.bl.size;clear rf s4 hown4 l4 k4 f4 hgrow4 hnil4 HSX HYX HLX HKX HTX HPX HQX p0 p1 p2
       go_region_law (first|(refine Pu rfl rfl _ _ f EF.o HC0.o HC5.o HT2.o ?_ ?_;(focus (first|rfl|(simp[Act.eval];done)));intro w6 hb6x;have hb6:Below w4.heap.size w4 w6:=⟨hb6x.os,hb6x.tape,hb6x.output,hb6x.size,hb6x.block⟩;have HS6:Hd (Bh W0.heap.size h (.slice sa ss.length c1) (.slice ta ts.length c2) w6 m2 st mv2 kv2 vs2):=HS4.o.bl hb6;have HY6:Hd (w6.ownsRow W.heap.size 122 3 (.slice (some ⟨g4,0,none⟩) (ys.length+1) cp4) (ys.length+1) (Bl ys++[.bool false,.int .i64 0,.string ⟨#[]⟩])):=Ac HY4.o hb6;have HL6:Hd (w6.ownsRow W.heap.size 45 3 (.slice la ls.length lc) ls.length (Ig ls)):=Ac HL4.o hb6;have HK6:Hd (KS W0.heap.size h W w6):=HK4.o.trans (KS.old hb6 (by omega));have HLA:Hd (∀ o:Obj,(w6.alloc o).ownsRow W.heap.size 45 3 (.slice la ls.length lc) ls.length (Ig ls)):=(fun o=>HL6.o.alloc o);have q6:w6.cell? ⟨w2.heap.size,4,none⟩=some (.string nm):=(by rw[cH (Ag hb6 HT4.o)];rfl);have hs6:W.heap.size<=w6.heap.size:=HK6.o.bl.size;clear hb6x hb6)|(refine Mn rfl rfl W.heap.size la ls.length lc (Ig ls) ?_ ?_ w6.heap.size nm f true ?_ ?_ ?_ ?_ ?_;(focus (first|rfl|(simp[Act.eval];done)));(focus (exact HLA.o _));(focus (first|rfl|(simp[Act.eval];done)));(focus (exact Aj _ _));(focus (simp;omega));(focus omega);intro g' cap2 w5 hown5 hgrow5 hat5;have HFIN:Hd (_/\_/\_/\_):=Pk (o:=.cells #[.string nm,.bool true,.string f] 45) HS6.o HY6.o HL6.o HK6.o (Nat.le_refl _) (by omega) HA2.o (w':=w5) ⟨hgrow5.os,hgrow5.tape,hgrow5.output,hgrow5.size,hgrow5.block⟩;have HAT:Hd ((Value.slice la ls.length lc).ownBlock=some g'\/g'=w6.heap.size+1):=(by rcases hat5 with q|q;(exact Or.inl q);(right;simpa using q));have HO5:Hd (w5.ownsRow W.heap.size 45 3 (.slice (some ⟨g',0,none⟩) (ls.length+1) cap2) (ls.length+1) (Ig ls++[.string nm,.bool true,.string f])):=hown5;clear hown5 hgrow5 hat5))
       all_goals
        simp[Act.put];go_wp2_with fail;obtain⟨s5,y5,k5,a5⟩:=HFIN.o
        have HY5:Hd (w5.ownsRow W.heap.size 122 3 (.slice (some ⟨g4,0,none⟩) (ys++[y]).length cp4) (ys++[y]).length (Bl (ys++[y]))):=by
         show World.ownsRow _ _ _ _ _ _ _;rw[List.length_append,List.length_singleton,Hv,HRP.o];exact y5
        have HL5:Hd (w5.ownsRow W.heap.size 45 3 (.slice (some ⟨g',0,none⟩) (ls++[(⟨nm,true,f⟩:G3)]).length cap2) (ls++[(⟨nm,true,f⟩:G3)]).length (Ig (ls++[(⟨nm,true,f⟩:G3)]))):=by
         show World.ownsRow _ _ _ _ _ _ _;rw[List.length_append,List.length_singleton,Ph];exact HO5.o
        have HP5:Hd (phi ts m2<=-199+((ys++[y]).length:Int)):=by
         have:=HP2.o;show _<=_;simp;omega
        have HS5:Hd (Bh W0.heap.size h (.slice sa ss.length c1) (.slice ta ts.length c2) w5 m2 st mv2 kv2 vs2):=s5;have HK5:Hd (KS W0.heap.size h W w5):=k5;have HA5:Hd (Gy m2 vs2 (.slice (some ⟨g',0,none⟩) (ls++[(⟨nm,true,f⟩:G3)]).length cap2)):=a5 _ _ _ HAT.o
        go_round
        case rel=>exact⟨ys++[y],ls++[(⟨nm,true,f⟩:G3)],m2,mv2,kv2,vs2,some ⟨g4,0,none⟩,some ⟨g',0,none⟩,cp4,cap2,by simp;omega,by simp,by simp,HR2,HD2,HS5,HI2,HP5,HY5,HL5,HK5,HA5,HF2⟩
        case measure=>simp[lenV];omega
     ·have HRP:Hd (y=⟨true,dc,dt⟩):=by
       show _=_;rw[<- HEY.o]
       have hth:Cb ss ts nm=true:=by
        by_cases q:Lm ss ts nm
        ·unfold Cb;simp[q]
        ·exact absurd (HNO.o q).1 h4
       unfold Kw;rw[if_pos hth]
      clear HTB3 HYN HLN
      go_upto_region 16 with fail
      clear p0 p1 p2 pf r0 r1 r2 rf h4 hV3s eV3;have hsV3:W.heap.size<=V3.heap.size:=HKV3.o.bl.size;obtain⟨p0,p1,p2,pf⟩:=Gi HPV3.o;clear pf
      go_wp2_with (first|(at_builtin;refine wpList_append_own _ rfl (.tmp 74) (.tmp 76) 174 rfl W.heap.size 122 i0 (.agg #[.bool false,.int .i64 0,.string ⟨#[]⟩]) 3 32 Tryz.underlying174 hi0 hz0 hzz1 hzz2 rfl (by decide) _ _ _ rfl (HYV3.o.alloc _) ⟨V3.heap.size,0,none⟩ 1 1 [.bool true,.int .i64 dc,.string dt] rfl rfl (Jn _ _ _ _ _) (by intro u hu;simp at hu;rcases hu with rfl|rfl|rfl<;>rfl) (by unfold maxLen;omega) (by omega) (by simp;omega) ?_;intro v4 w4 hown4 hgrow4 hnil4))
      obtain⟨g4,cp4,rfl⟩:∃ g cp,v4=.slice (some ⟨g,0,none⟩) (ys.length+1) cp:=by
       rcases hown4.2 with ⟨e,h0⟩|⟨g,cap,cur,e,_⟩
       ·omega
       ·exact⟨g,cap,e⟩
      obtain⟨s4,l4,k4,f4⟩:=Mt HSV3.o HYV3.o HLV3.o HKV3.o (Nat.le_refl _) (by omega) hgrow4;have HS4:Hd (Bh W0.heap.size h (.slice sa ss.length c1) (.slice ta ts.length c2) w4 m2 st mv2 kv2 vs2):=s4;have HY4:Hd (w4.ownsRow W.heap.size 122 3 (.slice (some ⟨g4,0,none⟩) (ys.length+1) cp4) (ys.length+1) (Bl ys++[.bool true,.int .i64 dc,.string dt])):=hown4;have HL4:Hd (w4.ownsRow W.heap.size 45 3 (.slice la ls.length lc) ls.length (Ig ls)):=l4;have HK4:Hd (KS W0.heap.size h W w4):=k4;have HT4:Hd (w4.heap[w2.heap.size]?=some (.cells #[.bool false,.int .i64 0,.string ⟨#[]⟩,.bool true,.string nm,.int .i64 n] 115 (0,0))):=f4 _ _ 115 (by decide) HTV3.o;obtain⟨r0,r1,r2,rf⟩:=Gi (f4 _ _ 32 (by decide) HQV3.o);(have q4:w4.cell? ⟨w2.heap.size,4,none⟩=some (.string nm):=by rw[cH HT4.o];rfl);have hs4:W.heap.size<=w4.heap.size:=k4.bl.size;clear rf s4 hown4 l4 k4 f4 hgrow4 hnil4 HSV3 HYV3 HLV3 HKV3 HTV3 HPV3 HQV3 p0 p1 p2
      go_region_law (first|(refine Pu rfl rfl _ _ f EF.o HC0.o HC5.o HT2.o ?_ ?_;(focus (first|rfl|(simp[Act.eval];done)));intro w6 hb6x;have hb6:Below w4.heap.size w4 w6:=⟨hb6x.os,hb6x.tape,hb6x.output,hb6x.size,hb6x.block⟩;have HS6:Hd (Bh W0.heap.size h (.slice sa ss.length c1) (.slice ta ts.length c2) w6 m2 st mv2 kv2 vs2):=HS4.o.bl hb6;have HY6:Hd (w6.ownsRow W.heap.size 122 3 (.slice (some ⟨g4,0,none⟩) (ys.length+1) cp4) (ys.length+1) (Bl ys++[.bool true,.int .i64 dc,.string dt])):=Ac HY4.o hb6;have HL6:Hd (w6.ownsRow W.heap.size 45 3 (.slice la ls.length lc) ls.length (Ig ls)):=Ac HL4.o hb6;have HK6:Hd (KS W0.heap.size h W w6):=HK4.o.trans (KS.old hb6 (by omega));have HLA:Hd (∀ o:Obj,(w6.alloc o).ownsRow W.heap.size 45 3 (.slice la ls.length lc) ls.length (Ig ls)):=(fun o=>HL6.o.alloc o);have q6:w6.cell? ⟨w2.heap.size,4,none⟩=some (.string nm):=(by rw[cH (Ag hb6 HT4.o)];rfl);have hs6:W.heap.size<=w6.heap.size:=HK6.o.bl.size;clear hb6x hb6)|(refine Mn rfl rfl W.heap.size la ls.length lc (Ig ls) ?_ ?_ w6.heap.size nm f true ?_ ?_ ?_ ?_ ?_;(focus (first|rfl|(simp[Act.eval];done)));(focus (exact HLA.o _));(focus (first|rfl|(simp[Act.eval];done)));(focus (exact Aj _ _));(focus (simp;omega));(focus omega);intro g' cap2 w5 hown5 hgrow5 hat5;have HFIN:Hd (_/\_/\_/\_):=Pk (o:=.cells #[.string nm,.bool true,.string f] 45) HS6.o HY6.o HL6.o HK6.o (Nat.le_refl _) (by omega) HA2.o (w':=w5) ⟨hgrow5.os,hgrow5.tape,hgrow5.output,hgrow5.size,hgrow5.block⟩;have HAT:Hd ((Value.slice la ls.length lc).ownBlock=some g'\/g'=w6.heap.size+1):=(by rcases hat5 with q|q;(exact Or.inl q);(right;simpa using q));have HO5:Hd (w5.ownsRow W.heap.size 45 3 (.slice (some ⟨g',0,none⟩) (ls.length+1) cap2) (ls.length+1) (Ig ls++[.string nm,.bool true,.string f])):=hown5;clear hown5 hgrow5 hat5))
      all_goals
       simp[Act.put];go_wp2_with fail;obtain⟨s5,y5,k5,a5⟩:=HFIN.o
       have HY5:Hd (w5.ownsRow W.heap.size 122 3 (.slice (some ⟨g4,0,none⟩) (ys++[y]).length cp4) (ys++[y]).length (Bl (ys++[y]))):=by
        show World.ownsRow _ _ _ _ _ _ _;rw[List.length_append,List.length_singleton,Hv,HRP.o];exact y5
       have HL5:Hd (w5.ownsRow W.heap.size 45 3 (.slice (some ⟨g',0,none⟩) (ls++[(⟨nm,true,f⟩:G3)]).length cap2) (ls++[(⟨nm,true,f⟩:G3)]).length (Ig (ls++[(⟨nm,true,f⟩:G3)]))):=by
        show World.ownsRow _ _ _ _ _ _ _;rw[List.length_append,List.length_singleton,Ph];exact HO5.o
       have HP5:Hd (phi ts m2<=-199+((ys++[y]).length:Int)):=by
        have:=HP2.o;show _<=_;simp;omega
       have HS5:Hd (Bh W0.heap.size h (.slice sa ss.length c1) (.slice ta ts.length c2) w5 m2 st mv2 kv2 vs2):=s5;have HK5:Hd (KS W0.heap.size h W w5):=k5;have HA5:Hd (Gy m2 vs2 (.slice (some ⟨g',0,none⟩) (ls++[(⟨nm,true,f⟩:G3)]).length cap2)):=a5 _ _ _ HAT.o
       go_round
       case rel=>exact⟨ys++[y],ls++[(⟨nm,true,f⟩:G3)],m2,mv2,kv2,vs2,some ⟨g4,0,none⟩,some ⟨g',0,none⟩,cp4,cap2,by simp;omega,by simp,by simp,HR2,HD2,HS5,HI2,HP5,HY5,HL5,HK5,HA5,HF2⟩
       case measure=>simp[lenV];omega
    ·have HDN:Hd (Av ss ts ms st (.run is [] []) m2 an):=HDF.o _ _ hdo hdead.stop;have HDD:Hd (Ff h (.slice sa ss.length c1) (.slice ta ts.length c2) w3 an v):=hdead;obtain⟨mv3,kv3,c,t,ca,cn,cc,hblk,rfl⟩:=hdead.o;(have d4:w3.cell? ⟨h,4,none⟩=some (.int .i64 c):=by rw[cH hblk];rfl);(have d5:w3.cell? ⟨h,5,none⟩=some (.string t):=by rw[cH hblk];rfl);(have d6:w3.cell? ⟨h,6,none⟩=some (.slice ca cn cc):=by rw[cH hblk];rfl);(have d7:w3.cell? ⟨h,7,none⟩=some (.bool true):=by rw[cH hblk];rfl);have HK3:Hd (KS W0.heap.size h W w3):=HKV.o.trans hk3;have hR3:w3.heap[w.heap.size+1]?=some (.cells #[.int .i64 0,.string ⟨#[]⟩,.slice none 0 0] 32 (0,0)):=HK3.o.keep _ _ 32 (by decide) (by decide) (by omega) HRB.o;obtain⟨z0,z1,z2,zf⟩:=Gi hR3;have HR3:Hd (w3.heap[w.heap.size+1]?=some (.cells #[.int .i64 0,.string ⟨#[]⟩,.slice none 0 0] 32 (0,0))):=hR3;have hlt3:w.heap.size+1<w3.heap.size:=Af hR3;(have hh3:h<w3.heap.size:=by omega);have hne3:¬ w.heap.size+1=h:=by omega
     have HX:Hd (((((w3.setCell ⟨w.heap.size+1,0,none⟩ (.int .i64 c)).setCell ⟨w.heap.size+1,1,none⟩ (.string t)).setCell ⟨w.heap.size+1,2,none⟩ (.slice ca cn cc)).alloc (.cells #[.int .i64 c,.string t,.slice ca cn cc] 32)).heap[w.heap.size+1]?=some (.cells #[.int .i64 c,.string t,.slice ca cn cc] 32 (0,0))):=by
      have e:=Cz hR3 (.int .i64 c) (.string t) (.slice ca cn cc);show _=_;rw[Lib.alloc_old _ _ _ (Af e)];exact e
     clear hblk hR3 hdead hdo hk3 HSV HYV HLV HKV HBV HTB HMK HM;go_wp2_with fail;obtain⟨y0,y1,y2,_⟩:=Gi HX.o;have hks:KS W0.heap.size h w w3:=(KS.old HB0.o hBw).trans HK3.o;have hk3:=Kz hks (b:=w.heap.size+1) (by omega) (by omega) (.int .i64 c) (.string t) (.slice ca cn cc);have hd3:=HDD.o.set3 HR3.o hne3 (.int .i64 c) (.string t) (.slice ca cn cc);have hbA:∀ V:World,∀ o:Obj,Below V.heap.size V (V.alloc o):=fun V o=>aN _ _;exact bR (v:=.tuple #[.agg #[.int .i64 c,.string t,.slice ca cn cc],.slice la ls.length lc]) (by simp[results,Tryz.results78,go_sem,y0,y1,y2]) rfl ⟨hk3.trans (KS.old (hbA _ _) (by have:=hk3.bl.size;omega)),m2,an,HDN.o,Or.inr ⟨_,_,rfl,hd3.bl (hbA _ _)⟩⟩
end
end Go.Proofs.YtjlnkepkkdefdaaGreatDoor
