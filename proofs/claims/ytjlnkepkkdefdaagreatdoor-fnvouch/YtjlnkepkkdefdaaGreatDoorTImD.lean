import Derived.Test.YtjlnkepkkdefdaaGreatDoorTNPlainS
import Derived.Test.YtjlnkepkkdefdaaGreatDoorTClL
namespace Go.Proofs.YtjlnkepkkdefdaaGreatDoor
open Go.RowKit
set_option linter.unusedVariables false
set_option maxHeartbeats 8000000
set_option maxRecDepth 100000
set_option linter.unusedSimpArgs false
section
open Go.Deep
section
variable {B h mb k:Nat} {sv tv fv:Value} {w:World} {ms:Ms} {st al:List ByteArray} {av kv:Value} {vs:ByteArray->Value}
theorem Gx.le {k':Nat} (s:Gx B h mb k sv tv fv w ms st al av kv vs) (hk:k'<=k):Gx B h mb k' sv tv fv w ms st al av kv vs:=by
 obtain⟨n,hn,hm⟩:=s.map
 exact⟨s.hB,s.mB,s.blk,⟨n,by omega,hm⟩,s.ask,s.stk,s.dis,s.lks⟩
theorem row2_of {g n cap n':Nat} {v:Value} (hl:v.ownBlock=some g\/w.heap.size<=g):Cc w v (.slice (some ⟨g,n',none⟩) n cap):=fun b hb=>by
 simp[Value.ownBlock] at hb
 subst hb
 exact hl
theorem Gx.blkSet {w':World} {cs:Array Value} (s:Gx B h mb k sv tv fv w ms st al av kv vs) {j:Nat} {u:Value} (hw:w'.heap[h]?=some (.cells #[sv,tv,.map (some mb),av,kv,fv] 140 (0,0))) (hj:#[sv,tv,.map (some mb),av,kv,fv].setIfInBounds j u=cs):(w'.setCell ⟨h,j,none⟩ u).heap[h]?=some (.cells cs 140 (0,0)):=by
 rw[jB hw,hj]
theorem Gx.askd (s:Gx B h mb k sv tv fv w ms st al av kv vs) {w2:World} {o:Obj} {g cp:Nat} {nm:ByteArray} (hg:(w.alloc o).grownBy w2 av.ownBlock) (ho:w2.ownsRow B 9 1 (.slice (some ⟨g,0,none⟩) (al.length+1) cp) (al.length+1) (Bf al++[.string nm])) (hl:av.ownBlock=some g\/g=w.heap.size+1) (hB:B<=w.heap.size) :
  Gx B h mb (k+2) sv tv fv (w2.setCell ⟨h,3,none⟩ (.slice (some ⟨g,0,none⟩) (al.length+1) cp)) ms st (al++[nm]) (.slice (some ⟨g,0,none⟩) (al.length+1) cp) kv vs/\KP B h mb av kv w (w2.setCell ⟨h,3,none⟩ (.slice (some ⟨g,0,none⟩) (al.length+1) cp))/\Cc w av (.slice (some ⟨g,0,none⟩) (al.length+1) cp):=by
 have hoA:=Ac s.ask (Ak w o)
 have s1:=s.bl (Ak w o)
 have hhA:h<(w.alloc o).heap.size:=Af s1.blk
 obtain⟨n,hn,hm⟩:=s1.map
 have hgb:∀ b,b<(w.alloc o).heap.size->av.ownBlock≠some b->w2.heap[b]?=(w.alloc o).heap[b]?:=fun b h1 h2=>hg.block b h1 (fun e=>h2 e.symm)
 have hh:w2.heap[h]?=some (.cells #[sv,tv,.map (some mb),av,kv,fv] 140 (0,0)):=by rw[hgb h hhA (Ad s1.ask (by decide) s1.blk)];exact s1.blk
 have hgh:∀ b,(Value.slice (some ⟨g,0,none⟩) (al.length+1) cp).ownBlock=some b->b≠h:=fun b q e=>by
  subst e;exact Ad ho (by decide) hh q
 have hset:∀ b,b≠h->(w2.setCell ⟨h,3,none⟩ (.slice (some ⟨g,0,none⟩) (al.length+1) cp)).heap[b]?=w2.heap[b]?:=fun b hb=>hC w2 ⟨h,3,none⟩ _ b hb
 have hkb:∀ b,kv.ownBlock=some b->b≠h/\w2.heap[b]?=(w.alloc o).heap[b]?:=fun b q=>⟨fun e=>by subst e;exact Ad s1.stk (by decide) s1.blk q,hgb b (Hm s1.stk b q).2 (fun e=>s.dis b e q)⟩
 refine⟨⟨s.hB,s.mB,s1.blkSet hh rfl,⟨n,by rw[List.length_append,List.length_singleton];omega,hm.same ?_⟩,?_,Cn s1.stk (fun b q=>by rw[hset b (hkb b q).1];exact(hkb b q).2),?_,fun x d e=>(s1.lks x d e).keptB (fun b q=>?_)⟩,⟨?_,fun b h1 h2 h3 h4 h5=>?_⟩,row2_of (by rcases hl with q|q;exact Or.inl q;exact Or.inr (by omega))⟩
 ·rw[hset mb s1.hne.symm,hgb mb hm.lt (Hl s1.ask hm)]
 ·rw[List.length_append,List.length_singleton,show Bf (al++[nm])=Bf al++[.string nm] from by simp[Bf]];exact Cn ho (fun b q=>hset b (hgh b q))
 ·intro b q e;simp[Value.ownBlock] at q;subst q
  rcases hl with q|q
  ·exact s.dis _ q e
  ·have:=(Hm s.stk _ e).2;omega
 ·obtain⟨xs,k1,_⟩:=s1.lks x d e;have hbl:=(k1.lt b q).2;rw[hset b (fun e'=>by subst e';exact Ad k1 (by decide) s1.blk q)];refine hgb b hbl (fun e'=>?_);obtain⟨_,cur,hh'⟩:=Ef s1.ask e';exact Ad k1 (by decide) hh' q
 ·refine Below.setCell (p:=⟨h,3,none⟩) (((Below.refl B w).alloc hB _).grown hg (by simp;omega) (fun b q=>?_)) s.hB _;exact(Hm s.ask b q).1
 ·rw[hset b h2,hgb b (by simp;omega) h4,Lib.alloc_old _ _ _ h1]
theorem Gx.push (s:Gx B h mb (k+1) sv tv fv w ms st al av kv vs) {w2:World} {o:Obj} {g cp:Nat} {nm:ByteArray} (hg:(w.alloc o).grownBy w2 kv.ownBlock) (ho:w2.ownsRow B 9 1 (.slice (some ⟨g,0,none⟩) (st.length+1) cp) (st.length+1) (Bf st++[.string nm])) (hl:kv.ownBlock=some g\/g=w.heap.size+1) (hB:B<=w.heap.size) :
  Gx B h mb k sv tv fv (w2.setCell ⟨h,4,none⟩ (.slice (some ⟨g,0,none⟩) (st.length+1) cp)) ms (st++[nm]) al av (.slice (some ⟨g,0,none⟩) (st.length+1) cp) vs/\KP B h mb av kv w (w2.setCell ⟨h,4,none⟩ (.slice (some ⟨g,0,none⟩) (st.length+1) cp))/\Cc w kv (.slice (some ⟨g,0,none⟩) (st.length+1) cp):=by
 have s1:=s.bl (Ak w o)
 have hhA:h<(w.alloc o).heap.size:=Af s1.blk
 obtain⟨n,hn,hm⟩:=s1.map
 have hgb:∀ b,b<(w.alloc o).heap.size->kv.ownBlock≠some b->w2.heap[b]?=(w.alloc o).heap[b]?:=fun b h1 h2=>hg.block b h1 (fun e=>h2 e.symm)
 have hh:w2.heap[h]?=some (.cells #[sv,tv,.map (some mb),av,kv,fv] 140 (0,0)):=by rw[hgb h hhA (Ad s1.stk (by decide) s1.blk)];exact s1.blk
 have hgh:∀ b,(Value.slice (some ⟨g,0,none⟩) (st.length+1) cp).ownBlock=some b->b≠h:=fun b q e=>by
  subst e;exact Ad ho (by decide) hh q
 have hset:∀ b,b≠h->(w2.setCell ⟨h,4,none⟩ (.slice (some ⟨g,0,none⟩) (st.length+1) cp)).heap[b]?=w2.heap[b]?:=fun b hb=>hC w2 ⟨h,4,none⟩ _ b hb
 have hkb:∀ b,av.ownBlock=some b->b≠h/\w2.heap[b]?=(w.alloc o).heap[b]?:=fun b q=>⟨fun e=>by subst e;exact Ad s1.ask (by decide) s1.blk q,hgb b (Hm s1.ask b q).2 (fun e=>s.dis b q e)⟩
 refine⟨⟨s.hB,s.mB,s1.blkSet hh rfl,⟨n,by rw[List.length_append,List.length_singleton];omega,hm.same ?_⟩,Cn s1.ask (fun b q=>by rw[hset b (hkb b q).1];exact(hkb b q).2),?_,?_,fun x d e=>(s1.lks x d e).keptB (fun b q=>?_)⟩,⟨?_,fun b h1 h2 h3 h4 h5=>?_⟩,row2_of (by rcases hl with q|q;exact Or.inl q;exact Or.inr (by omega))⟩
 ·rw[hset mb s1.hne.symm,hgb mb hm.lt (Hl s1.stk hm)]
 ·rw[List.length_append,List.length_singleton,show Bf (st++[nm])=Bf st++[.string nm] from by simp[Bf]];exact Cn ho (fun b q=>hset b (hgh b q))
 ·intro b e q;simp[Value.ownBlock] at q;subst q
  rcases hl with q|q
  ·exact s.dis _ e q
  ·have:=(Hm s.ask _ e).2;omega
 ·obtain⟨xs,k1,_⟩:=s1.lks x d e;have hbl:=(k1.lt b q).2;rw[hset b (fun e'=>by subst e';exact Ad k1 (by decide) s1.blk q)];refine hgb b hbl (fun e'=>?_);obtain⟨_,cur,hh'⟩:=Ef s1.stk e';exact Ad k1 (by decide) hh' q
 ·refine Below.setCell (p:=⟨h,4,none⟩) (((Below.refl B w).alloc hB _).grown hg (by simp;omega) (fun b q=>?_)) s.hB _;exact(Hm s.stk b q).1
 ·rw[hset b h2,hgb b (by simp;omega) h5,Lib.alloc_old _ _ _ h1]
theorem Gx.pop {g cp:Nat} {nm:ByteArray} (s:Gx B h mb k sv tv fv w ms (st++[nm]) al av (.slice (some ⟨g,0,none⟩) (st.length+1) cp) vs) :
  Gx B h mb (k+1) sv tv fv (w.setCell ⟨h,4,none⟩ (.slice (some ⟨g,0,none⟩) st.length cp)) ms st al av (.slice (some ⟨g,0,none⟩) st.length cp) vs:=by
 obtain⟨n,hn,hm⟩:=s.map
 rw[List.length_append,List.length_singleton] at hn
 have hset:∀ b,b≠h->(w.setCell ⟨h,4,none⟩ (.slice (some ⟨g,0,none⟩) st.length cp)).heap[b]?=w.heap[b]?:=fun b hb=>hC w ⟨h,4,none⟩ _ b hb
 have hstk:w.ownsRow B 9 1 (.slice (some ⟨g,0,none⟩) st.length cp) st.length (Bf st):=by
  have q:=s.stk;rw[List.length_append,List.length_singleton] at q;exact Rv q
 refine⟨s.hB,s.mB,s.blkSet s.blk rfl,⟨n,by omega,hm.same (hset mb s.hne.symm)⟩,Cn s.ask (fun b q=>hset b (fun e=>?_)),Cn hstk (fun b q=>hset b (fun e=>?_)),fun b q e=>s.dis b q (by simpa [Value.ownBlock] using e),fun x d e=>(s.lks x d e).keptB (fun b q=>hset b (fun e'=>?_))⟩
 ·subst e;exact Ad s.ask (by decide) s.blk q
 ·subst e;exact Ad hstk (by decide) s.blk q
 ·subst e';obtain⟨xs,k1,_⟩:=s.lks x d e;exact Ad k1 (by decide) s.blk q
open Classical in
theorem Gx.mark {w2:World} {n:Nat} {ms':Ms} {vs':ByteArray->Value} {nm:ByteArray} {v:Value} (s:Gx B h mb k sv tv fv w ms st al av kv vs) (hn:n+st.length+k<=2*al.length) (hm:Jp w2 mb n (fun x=>if x=nm then some v else Fz ms vs x)) (hg:w.grownBy w2 (some mb)) (he:∀ x,Fz ms' vs' x=if x=nm then some v else Fz ms vs x) (hl:∀ x d,lk ms' x=some (some d)->Ar w B (vs' x) d.ls) :
  Gx B h mb k sv tv fv w2 ms' st al av kv vs':=by
 obtain⟨n0,_,hm0⟩:=s.map
 have hgb:∀ b,b<w.heap.size->b≠mb->w2.heap[b]?=w.heap[b]?:=fun b h1 h2=>hg.block b h1 (fun e=>h2 (by injection e))
 refine⟨s.hB,s.mB,by rw[hgb h (Af s.blk) s.hne];exact s.blk,⟨n,hn,hm.congr fun x=>(he x).symm⟩,Cn s.ask (fun b q=>hgb b (Hm s.ask b q).2 (fun e=>?_)),Cn s.stk (fun b q=>hgb b (Hm s.stk b q).2 (fun e=>?_)),s.dis,fun x d e=>(hl x d e).keptB (fun b q=>?_)⟩
 ·subst e;exact Hl s.ask hm0 q
 ·subst e;exact Hl s.stk hm0 q
 ·obtain⟨xs,k1,_⟩:=hl x d e;exact hgb b (k1.lt b q).2 (fun e'=>by subst e';exact Hl k1 hm0 q)
end
end
section
open Go.Deep
theorem make_all (W0:World) (h:Nat) (sa ta:Option Addr) (c1 c2:Nat) (ss:List S2) (ts:List T2) (hE:Jt W0 sa ta ss ts):∀(n:Nat) (st:List ByteArray),60-st.length=n->st.length<=60->Tk W0 h (.slice sa ss.length c1) (.slice ta ts.length c2) ss ts st:=by
 intro n
 induction n with
 | zero=>
  intro st hn h60 w ms nm mv kv vs hs hi hnm hp hb;have hl:=Ol hi hE.l2 (by omega)
  cases hk:lk ms nm with
  | none=>exact Yn W0 h sa ta c1 c2 ss ts ms st mv kv vs nm w hE hs hi hb (by omega) hk h60 hnm hp (fun q=>by omega)
  | some o=>
   cases o with
   | none=>exact Qu W0 h sa ta c1 c2 ss ts ms st mv kv vs nm w hE hs hi hb (by omega) hk h60
   | some d=>exact Ry W0.heap.size h _ _ ss ts ms st mv kv vs nm d w hs hb.size (by omega) hk
 | succ n ih=>
  intro st hn h60 w ms nm mv kv vs hs hi hnm hp hb;have hl:=Ol hi hE.l2 (by omega)
  cases hk:lk ms nm with
  | none=>exact Yn W0 h sa ta c1 c2 ss ts ms st mv kv vs nm w hE hs hi hb (by omega) hk h60 hnm hp (fun q=>ih (st++[nm]) (by simp;omega) (by simp;omega))
  | some o=>
   cases o with
   | none=>exact Qu W0 h sa ta c1 c2 ss ts ms st mv kv vs nm w hE hs hi hb (by omega) hk h60
   | some d=>exact Ry W0.heap.size h _ _ ss ts ms st mv kv vs nm d w hs hb.size (by omega) hk
end
section
open Go.Deep
def Pl (W0:World) (h mb:Nat) (sv tv fv:Value) (ss:List S2) (ts:List T2) (st:List ByteArray):Prop:=
 ∀(w:World) (ms:Ms) (nm:ByteArray) (av kv:Value) (vs:ByteArray->Value),Ml W0.heap.size h mb sv tv fv w ms st av kv vs->Ja ss ts ms st->Aq nm->phi ts ms<=0->Below W0.heap.size W0 w→
  Calls Tryz.prog 75 #[.pointer (some ⟨h,0,none⟩),.string nm] w fun e w'=>Ql W0.heap.size h mb sv tv fv ss ts ms st av kv vs nm w e w'
def LookP (B h mb:Nat) (sv tv fv:Value) (ss:List S2) (ts:List T2) (ms:Ms) (st:List ByteArray) (av kv:Value) (vs:ByteArray->Value) (nm:ByteArray) (w:World) (e:Ending) (w':World):Prop:=
 KP B h mb av kv w w'/\∃ ms' a,Av ss ts ms st (.make nm) ms' a/\((∃ d av' kv' vs',a=.ok d/\e=.returned (.tuple #[.agg #[.bool (Cb ss ts nm),.int .i64 d.c,.string d.t],.string (Bn d.c d.t)])/\Ml B h mb sv tv fv w' ms' st av' kv' vs'/\Cc w av av'/\Cc w kv kv'/\Mz w ms vs ms' vs')\/(∃ v,e=Ty v/\Ie B w' a v))
theorem KP.set3 {B h mb b:Nat} {av kv:Value} {w w':World} (k:KP B h mb av kv w w') (hB:B<=b) (hn:w.heap.size<=b) (v0 v1 v2:Value):KP B h mb av kv w (((w'.setCell ⟨b,0,none⟩ v0).setCell ⟨b,1,none⟩ v1).setCell ⟨b,2,none⟩ v2):=((k.setN hB hn).setN hB hn).setN hB hn
theorem Ju {w:World} {b b':Nat} (h:b'≠b) (v0 v1 v2:Value):(((w.setCell ⟨b,0,none⟩ v0).setCell ⟨b,1,none⟩ v1).setCell ⟨b,2,none⟩ v2).heap[b']?=w.heap[b']?:=by
 rw[hC _ ⟨b,2,none⟩ _ b' h,hC _ ⟨b,1,none⟩ _ b' h,hC _ ⟨b,0,none⟩ _ b' h]
theorem Gx.set3 {B h mb k:Nat} {sv tv fv:Value} {w:World} {ms:Ms} {st al:List ByteArray} {av kv:Value} {vs:ByteArray->Value} (s:Gx B h mb k sv tv fv w ms st al av kv vs) {b:Nat} {T:TypeId} {cs:Array Value} (hb:w.heap[b]?=some (.cells cs T (0,0))) (h1:T≠45) (h2:T≠9) (hne:b≠h) (v0 v1 v2:Value):Gx B h mb k sv tv fv (((w.setCell ⟨b,0,none⟩ v0).setCell ⟨b,1,none⟩ v1).setCell ⟨b,2,none⟩ v2) ms st al av kv vs:=s.kept fun b' q=>Ju (s.far hb h1 h2 hne b' q) _ _ _
theorem thing_of {ss:List S2} {ts:List T2} {nm:ByteArray} {b:Bool} (h:b=true↔(Fi (Ai ss) nm\/Fi (Ae ts) nm)):b=Cb ss ts nm:=by
 unfold Cb Lm
 by_cases q:Fi (Ai ss) nm\/Fi (Ae ts) nm
 ·rw[h.mpr q];simp[q]
 ·cases b with
  | false=>simp[q]
  | true=>exact absurd (h.mp rfl) q
theorem Xc (sa ta:Option Addr) (c1 c2:Nat) (ss:List S2) (ts:List T2) (nm:ByteArray) (W0 w:World) (hE:Jt W0 sa ta ss ts) (hW:Below W0.heap.size W0 w):Calls Tryz.prog 124 #[.agg #[.slice sa ss.length c1,.slice ta ts.length c2],.string nm] w fun e w'=>Below w.heap.size w w'/\e=.returned (.bool (Cb ss ts nm)):=by
 have:=hE.l1
 have:=hE.l2
 refine(Ze sa ta c1 c2 ss ts nm w (hE.rs.bl hW) (hE.rt.bl hW) (by omega) (by omega) hE.v.ascS hE.v.ascT).mono ?_
 rintro e w' ⟨hb,b,rfl,hbi⟩
 exact⟨hb,by rw[thing_of hbi]⟩
theorem look_has (W0:World) (h mb k:Nat) (sa ta:Option Addr) (c1 c2:Nat) (fv:Value) (ss:List S2) (ts:List T2) (ms:Ms) (st al:List ByteArray) (av kv:Value) (vs:ByteArray->Value) (nm:ByteArray) (w:World) (hE:Jt W0 sa ta ss ts) (s:Gx W0.heap.size h mb k (.slice sa ss.length c1) (.slice ta ts.length c2) fv w ms st al av kv vs) (hW:Below W0.heap.size W0 w) :
  Calls Tryz.prog 102 #[.pointer (some ⟨h,0,none⟩),.string nm,.bool false] w fun e w'=>e=.returned (.tuple #[.agg #[.bool (Cb ss ts nm),.int .i64 0,.string ⟨#[]⟩],.string (Cw (Cb ss ts nm))])/\Below w.heap.size w w':=by
 obtain⟨W,eW⟩:∃ W,w.alloc (.cells #[.bool false,.int .i64 0,.string ⟨#[]⟩] 122)=W:=⟨_,rfl⟩
 have hbW:Below w.heap.size w W:=by rw[<- eW];exact Ak _ _
 have HR:Hd (W.heap[w.heap.size]?=some (.cells #[.bool false,.int .i64 0,.string ⟨#[]⟩] 122 (0,0))):=by
  show _=_;rw[<- eW];exact Aj _ _
 obtain⟨x0,x1,_⟩:=(s.bl hbW).cells
 have HTH:=Xc sa ta c1 c2 ss ts nm W0 W hE (hW.trans (hbW.mono hW.size))
 have HB:Hd (Below w.heap.size w W):=hbW
 generalize Cb ss ts nm=tb at HTH ⊢
 have HT:Hd (Calls Tryz.prog 124 #[.agg #[.slice sa ss.length c1,.slice ta ts.length c2],.string nm] W fun e w'=>Below W.heap.size W w'/\e=.returned (.bool tb)):=HTH
 obtain⟨f,ef⟩:∃ f,Cw tb=f:=⟨_,rfl⟩
 have HF:Hd (∀ V:World,Calls Tryz.prog 91 #[.bool tb] V fun e w'=>e=.returned (.string f)/\V=w'):=fun V=>by rw[<- ef];exact Km tb V
 rw[ef]
 clear ef HTH s hW hE hbW
 go_enter Tryz.func102,Tryz.ntmps102
 go_wp2_with fail
 refine HT.o.mono ?_
 rintro e w3 ⟨hb3,rfl⟩
 have HR3:Hd (w3.heap[w.heap.size]?=some (.cells #[.bool false,.int .i64 0,.string ⟨#[]⟩] 122 (0,0))):=Ag hb3 HR.o
 have HB3:Hd (Below w.heap.size w w3):=Bo HB.o hb3
 obtain⟨z0,z1,z2,zf⟩:=Gi HR3.o
 clear hb3 HR HT x0 x1
 go_wp2_with (first|(go_at_call 91;refine(HF.o _).mono ?_;rintro e w4 ⟨rfl,rfl⟩))
 obtain⟨y0,y1,y2,_⟩:=Gi (Cz HR3.o (.bool tb) (.int .i64 0) (.string ⟨#[]⟩))
 exact bR (v:=.tuple #[.agg #[.bool tb,.int .i64 0,.string ⟨#[]⟩],.string f]) (by simp[results,Tryz.results102,go_sem,y0,y1,y2]) rfl ⟨rfl,Bc HB3.o (Nat.le_refl _) _ _ _⟩
theorem look_ask (W0:World) (h mb:Nat) (sa ta:Option Addr) (c1 c2:Nat) (fv:Value) (ss:List S2) (ts:List T2) (ms:Ms) (st:List ByteArray) (av kv:Value) (vs:ByteArray->Value) (nm:ByteArray) (w:World) (hE:Jt W0 sa ta ss ts) (s:Ml W0.heap.size h mb (.slice sa ss.length c1) (.slice ta ts.length c2) fv w ms st av kv vs) (hW:Below W0.heap.size W0 w) (hU:Pl W0 h mb (.slice sa ss.length c1) (.slice ta ts.length c2) fv ss ts st) (hI:Ja ss ts ms st) (hnm:Aq nm) (hph:phi ts ms<=0) :
  Calls Tryz.prog 102 #[.pointer (some ⟨h,0,none⟩),.string nm,.bool true] w fun e w'=>LookP W0.heap.size h mb (.slice sa ss.length c1) (.slice ta ts.length c2) fv ss ts ms st av kv vs nm w e w':=by
 obtain⟨W,eW⟩:∃ W,w.alloc (.cells #[.bool false,.int .i64 0,.string ⟨#[]⟩] 122)=W:=⟨_,rfl⟩
 have hbW:Below w.heap.size w W:=by rw[<- eW];exact Ak _ _
 have hB:=hW.size
 have hhw:h<w.heap.size:=Af s.blk
 have HR:Hd (W.heap[w.heap.size]?=some (.cells #[.bool false,.int .i64 0,.string ⟨#[]⟩] 122 (0,0))):=by
  show _=_;rw[<- eW];exact Aj _ _
 obtain⟨x0,x1,_⟩:=(s.bl hbW).cells
 have HTH:=Xc sa ta c1 c2 ss ts nm W0 W hE (hW.trans (hbW.mono hW.size))
 have HB:Hd (Below w.heap.size w W):=hbW
 have HU:Hd (∀ V,Below w.heap.size w V->Calls Tryz.prog 75 #[.pointer (some ⟨h,0,none⟩),.string nm] V fun e w'=>Ql W0.heap.size h mb (.slice sa ss.length c1) (.slice ta ts.length c2) fv ss ts ms st av kv vs nm V e w'):=fun V hV=>hU V ms nm av kv vs (s.bl hV) hI hnm hph (hW.trans (hV.mono hB))
 have HS:Hd (Ml W0.heap.size h mb (.slice sa ss.length c1) (.slice ta ts.length c2) fv w ms st av kv vs):=s
 obtain⟨tb,etb⟩:∃ tb,Cb ss ts nm=tb:=⟨_,rfl⟩
 unfold LookP
 rw[etb] at HTH ⊢
 have HT:Hd (Calls Tryz.prog 124 #[.agg #[.slice sa ss.length c1,.slice ta ts.length c2],.string nm] W fun e w'=>Below W.heap.size W w'/\e=.returned (.bool tb)):=HTH
 have HLK:Hd (∀ ms' d,Av ss ts ms st (.make nm) ms' (.ok d)->lk ms' nm=some (some d)):=fun ms' d hd=>(Av.inv hE.v hd hI hnm trivial d rfl).2.2
 clear etb HTH s hW hE hbW hU hI hnm hph
 go_enter Tryz.func102,Tryz.ntmps102
 go_wp2_with fail
 refine HT.o.mono ?_
 rintro e w3 ⟨hb3,rfl⟩
 have HR3:Hd (w3.heap[w.heap.size]?=some (.cells #[.bool false,.int .i64 0,.string ⟨#[]⟩] 122 (0,0))):=Ag hb3 HR.o
 have HB3:Hd (Below w.heap.size w w3):=Bo HB.o hb3
 have hlt3:w.heap.size<w3.heap.size:=Af HR3.o
 clear hb3 HR HT x0 x1
 go_wp2_with fail
 refine(HU.o w3 HB3.o).mono ?_
 rintro e w4 ⟨hk4,ms',an,hdo,⟨d,av',kv',vs',rfl,rfl,hs4,ha4,hkk4,hf4⟩|⟨v,rfl,hv⟩⟩
 ·have HR4:w4.heap[w.heap.size]?=some (.cells #[.bool false,.int .i64 0,.string ⟨#[]⟩] 122 (0,0)):=by
   have s3:=HS.o.bl HB3.o;obtain⟨n,_,hm⟩:=s3.map;rw[hk4.keep _ hlt3 (by omega) (fun e=>hm.notCells (e▸HR3.o)) (Ad s3.ask (by decide) HR3.o) (Ad s3.stk (by decide) HR3.o)];exact HR3.o
  have HK4:Hd (KP W0.heap.size h mb av kv w w4):=(KP.old HB3.o hB).trans (Cc.refl _ _) (Cc.refl _ _) hk4;have hws:w.heap.size<=w3.heap.size:=HB3.o.size;have HRW:Hd (Cc w av av'/\Cc w kv kv'/\Mz w ms vs ms' vs'):=⟨fun b q=>(ha4 b q).imp id (fun q=>by omega),fun b q=>(hkk4 b q).imp id (fun q=>by omega),fun x d b h1 h2=>(hf4 x d b h1 h2).imp id (fun q=>by omega)⟩
  have HDO:Hd (Av ss ts ms st (.make nm) ms' (.ok d)):=hdo
  obtain⟨dc,dt,dls⟩:=d;obtain⟨fo,efo⟩:∃ fo,Bn dc dt=fo:=⟨_,rfl⟩;have EF:Hd (Bn dc dt=fo):=efo;unfold Ik;simp only[efo]
  obtain⟨la,ln,lc,hlv⟩:∃ a n c,vs' nm=.slice a n c:=by
   have hl:lk ms' nm=some (some ⟨dc,dt,dls⟩):=HLK.o ms' _ hdo
   exact Jj (hs4.lks nm _ hl)
  rw[hlv];obtain⟨V,eV⟩:∃ V,w4.alloc (.cells #[.bool true,.int .i64 dc,.string dt,.slice none 0 0,.string fo,.slice la ln lc] 59)=V:=⟨_,rfl⟩;obtain⟨U,eU⟩:∃ U,V.drew=U:=⟨_,rfl⟩;have hbU:Below w4.heap.size w4 U:=by rw[<- eU,<- eV];exact(Ak _ _).drew
  have HSU:Hd (Ml W0.heap.size h mb (.slice sa ss.length c1) (.slice ta ts.length c2) fv U ms' st av' kv' vs'):=hs4.bl hbU;have HKU:Hd (KP W0.heap.size h mb av kv w U):=HK4.o.after hbU (by have:=HK4.o.bl.size;omega)
  have HMU:Hd (U.heap[w4.heap.size]?=some (.cells #[.bool true,.int .i64 dc,.string dt,.slice none 0 0,.string fo,.slice la ln lc] 59 (0,0))):=by
   show _=_;rw[<- eU,<- eV];exact Aj _ _
  have HRU:Hd (U.heap[w.heap.size]?=some (.cells #[.bool false,.int .i64 0,.string ⟨#[]⟩] 122 (0,0))):=Ag hbU HR4;obtain⟨⟨m0,m1,m2,m3,m4,m5⟩,mf⟩:=Nu HMU.o;obtain⟨z0,z1,z2,zf⟩:=Gi HRU.o;have hne4:¬ w4.heap.size=w.heap.size:=by have:=Af HR4;omega
  have hne5:¬ w.heap.size=w4.heap.size:=by omega
  clear hbU hs4 hk4 HR4 ha4 hkk4 hf4 hdo efo hlv HK4
  go_upto_region 5 with fail
  clear eV;go_region;clear eU;go_wp2_with fail;obtain⟨y0,y1,y2,_⟩:=Gi (Cz HRU.o (.bool tb) (.int .i64 dc) (.string dt));refine bR (v:=.tuple #[.agg #[.bool tb,.int .i64 dc,.string dt],.string (Bn dc dt)]) (by simp[results,Tryz.results102,go_sem,y0,y1,y2,EF.o]) rfl ⟨HKU.o.set3 (by omega) (Nat.le_refl _) _ _ _,ms',_,HDO.o,Or.inl ⟨_,av',kv',vs',rfl,rfl,HSU.o.set3 HRU.o (by decide) (by decide) (by omega) _ _ _,HRW.o.1,HRW.o.2.1,HRW.o.2.2⟩⟩
 ·unfold Ty;dsimp only;have hws:w.heap.size<=w3.heap.size:=HB3.o.size;have HK4:Hd (KP W0.heap.size h mb av kv w w4):=(KP.old HB3.o hB).trans (Cc.refl _ _) (Cc.refl _ _) hk4;have HDV:Hd (Av ss ts ms st (.make nm) ms' an/\Ie W0.heap.size w4 an v):=⟨hdo,hv⟩;clear hk4 hdo hv;go_wp2_with fail;exact⟨rfl,HK4.o,ms',an,HDV.o.1,Or.inr ⟨v,rfl,HDV.o.2⟩⟩
end
end Go.Proofs.YtjlnkepkkdefdaaGreatDoor
