import Derived.Test.YtjlnkepkkdefdaaGreatDoorTVoG
import Derived.Maps.OwnSet
import Derived.Maps.Views
import Derived.Test.YtjlnkepkkdefdaaGreatDoorTNSmall
import Derived.Deep.RegionWith
import Derived.Deep.RegionHeld3
namespace Go.Proofs.YtjlnkepkkdefdaaGreatDoor
open Go.RowKit
set_option linter.unusedVariables false
set_option maxHeartbeats 8000000
set_option maxRecDepth 100000
set_option linter.unusedSimpArgs false
def kS (k:ByteArray):Lit:=.string k.data.toList
theorem kS_inj {a b:ByteArray} (h:kS a=kS b):a=b:=by
 unfold kS at h
 injection h with h
 apply ByteArray.ext
 exact Array.ext' h
theorem kS_key (k:ByteArray):WideAt.IsKeyLit (kS k):=by unfold kS;trivial
def Jp (w:World) (b n:Nat) (f:ByteArray->Option Value):Prop:=
 ∃ D:DataW Value,w.ownsMap Tryz.prog 9 (fun v=>some (.held v,[])) b n D/\∀ k:ByteArray,Maps.has D (kS k)=(f k).isSome/\∀ v,f k=some v->∀ z,D.atKey (kS k) z=.held v
theorem Jp.made (w:World):Jp (w.alloc (.map #[] 0)) w.heap.size 0 (fun _=>none):=⟨_,World.ownsMap_made w _ _ _,fun k=>⟨rfl,fun v h=>by cases h⟩⟩
theorem Jp.same {w w':World} {b n:Nat} {f:ByteArray->Option Value} (h:Jp w b n f) (he:w'.heap[b]?=w.heap[b]?):Jp w' b n f:=by
 obtain⟨D,⟨es,cl,h1,h2⟩,h3⟩:=h
 exact⟨D,⟨es,cl,he.trans h1,h2⟩,h3⟩
theorem Jp.lt {w:World} {b n:Nat} {f:ByteArray->Option Value} (h:Jp w b n f):b<w.heap.size:=by obtain⟨D,h1,_⟩:=h;exact h1.lt
theorem Jp.notCells {w:World} {b n:Nat} {f:ByteArray->Option Value} (h:Jp w b n f) {cs:Array Value} {T:TypeId} {fr:Nat × Nat} (hc:w.heap[b]?=some (.cells cs T fr)):False:=by
 obtain⟨D,⟨es,cl,h1,_⟩,_⟩:=h
 rw[hc] at h1;cases h1
def Ih:Value:=.agg #[.bool false,.int .i64 0,.string ⟨#[]⟩,.slice none 0 0,.string ⟨#[]⟩,.slice none 0 0]
theorem zero59 (w:World):(zeroValue 59).run Tryz.prog w=.ok Ih w:=by kernel_rfl
theorem key_of (k:ByteArray) (h:k.size<=maxLen):keyOf Tryz.prog 9 (.string k)=some (kS k):=Go.WideMaps.keyOf_string_mk Tryz.underlying9 h
theorem Jp.look {w:World} {b n:Nat} {f:ByteArray->Option Value} (h:Jp w b n f) {k:ByteArray} (hk:k.size<=maxLen):(Instr.lookup 138 (.map (some b)) (.string k) true).run Tryz.prog w=.ok (.tuple #[(f k).getD Ih,.bool (f k).isSome]) w:=by
 obtain⟨D,h1,h2⟩:=h
 obtain⟨v,ps,h3,h4⟩:=h1.look_ok (Maps.string_keyed Tryz.underlying9) Tryz.underlying138 (zero59 w) (zd:=.held Ih) (zp:=[]) rfl (key_of k hk)
 have h5:(DataW.held v:DataW Value)=D.atKey (kS k) (.held Ih):=by
  simp only[Option.some.injEq,Prod.mk.injEq] at h4;exact h4.1
 have h6:v=(f k).getD Ih:=by
  cases hf:f k with
  | none=>
   have h7:=(h2 k).1;rw[hf] at h7;rw[Maps.atKey_of_not_has h7] at h5;exact DataW.held.inj h5
  | some u=>
   rw[(h2 k).2 u hf] at h5;exact DataW.held.inj h5
 rw[h3,(h2 k).1,h6]
open Classical in
theorem Jp.store {w:World} {b n:Nat} {f:ByteArray->Option Value} (h:Jp w b n f) {k:ByteArray} (hk:k.size<=maxLen) (hn:n<maxLen) (v:Value):∃ w',(Instr.mapUpdate 138 (.map (some b)) (.string k) v).run Tryz.prog w=.ok () w'/\Jp w' b (n+1) (fun x=>if x=k then some v else f x)/\w.grownBy w' (some b):=by
 obtain⟨D,h1,h2⟩:=h
 obtain⟨w',h3,h4,h5⟩:=h1.update (Maps.string_keyed Tryz.underlying9) Tryz.underlying138 hn (key_of k hk) (val:=v) (d:=.held v) (ps:=[]) rfl
 refine⟨w',h3,⟨_,h4,fun x=>?_⟩,h5⟩
 by_cases hx:x=k
 ·subst hx;simp only[if_true];exact⟨Maps.has_put_same h1.isMap (kS_key _) _,fun v' e z=>by cases e;exact Maps.atKey_put_same h1.isMap (kS_key _) _ _⟩
 ·simp only[if_neg hx];have hne:kS x≠kS k:=fun e=>hx (kS_inj e);exact⟨by rw[Maps.has_put_other hne];exact(h2 x).1,fun v' e z=>by rw[Maps.atKey_put_other hne];exact(h2 x).2 v' e z⟩
theorem Jp.congr {w:World} {b n:Nat} {f g:ByteArray->Option Value} (h:Jp w b n f) (e:∀ k,f k=g k):Jp w b n g:=by
 obtain rfl:f=g:=funext e
 exact h
def Ik (d:Md) (v:Value):Value:=.agg #[.bool true,.int .i64 d.c,.string d.t,.slice none 0 0,.string (Bn d.c d.t),v]
noncomputable def Fz (ms:Ms) (vs:ByteArray->Value) (nm:ByteArray):Option Value:=
 match lk ms nm with
 | none=>none
 | some none=>some Ih
 | some (some d)=>some (Ik d (vs nm))
structure KP (B h mb:Nat) (av kv:Value) (w w':World):Prop where
 bl:Below B w w'
 keep:∀ b,b<w.heap.size->b≠h->b≠mb->av.ownBlock≠some b->kv.ownBlock≠some b->w'.heap[b]?=w.heap[b]?
def Cc (w:World) (v v':Value):Prop:=∀ b,v'.ownBlock=some b->v.ownBlock=some b\/w.heap.size<=b
theorem Cc.refl (w:World) (v:Value):Cc w v v:=fun b h=>Or.inl h
theorem Cc.trans {w w1:World} {v v1 v2:Value} (h:Cc w v v1) (hs:w.heap.size<=w1.heap.size) (k:Cc w1 v1 v2):Cc w v v2:=fun b hb=>by
 rcases k b hb with q|q
 ·exact h b q
 ·exact Or.inr (by omega)
theorem KP.old {B h mb:Nat} {av kv:Value} {w w':World} (hb:Below w.heap.size w w') (hB:B<=w.heap.size):KP B h mb av kv w w':=⟨hb.mono hB,fun b h1 _ _ _ _=>hb.block b h1⟩
theorem KP.trans {B h mb:Nat} {av kv av1 kv1:Value} {w w1 w2:World} (k:KP B h mb av kv w w1) (ha:Cc w av av1) (hk:Cc w kv kv1) (l:KP B h mb av1 kv1 w1 w2):KP B h mb av kv w w2:=⟨k.bl.trans l.bl,fun b h1 h2 h3 h4 h5=>by
 have hs:=k.bl.size
 rw[l.keep b (by omega) h2 h3 (fun e=>by rcases ha b e with q|q;exact h4 q;omega) (fun e=>by rcases hk b e with q|q;exact h5 q;omega)]
 exact k.keep b h1 h2 h3 h4 h5⟩
theorem KP.after {B h mb:Nat} {av kv:Value} {w w1 w2:World} (k:KP B h mb av kv w w1) (hb:Below w1.heap.size w1 w2) (hB:B<=w1.heap.size):KP B h mb av kv w w2:=k.trans (Cc.refl _ _) (Cc.refl _ _) (KP.old hb hB)
theorem KP.setN {B h mb b' j:Nat} {av kv v:Value} {w w':World} (k:KP B h mb av kv w w') (hB:B<=b') (hn:w.heap.size<=b'):KP B h mb av kv w (w'.setCell ⟨b',j,none⟩ v):=⟨k.bl.setCell (p:=⟨b',j,none⟩) hB _,fun b h1 h2 h3 h4 h5=>by rw[hC w' ⟨b',j,none⟩ _ b (by simp;omega)];exact k.keep b h1 h2 h3 h4 h5⟩
theorem KP.setH {B h mb j:Nat} {av kv v:Value} {w w':World} (k:KP B h mb av kv w w') (hB:B<=h):KP B h mb av kv w (w'.setCell ⟨h,j,none⟩ v):=⟨k.bl.setCell (p:=⟨h,j,none⟩) hB _,fun b h1 h2 h3 h4 h5=>by rw[hC w' ⟨h,j,none⟩ _ b (by simpa using h2)];exact k.keep b h1 h2 h3 h4 h5⟩
theorem KP.mapped {B h mb:Nat} {av kv:Value} {w w1 w2:World} (k:KP B h mb av kv w w1) (hB:B<=mb) (hg:w1.grownBy w2 (some mb)) (hBw:B<=w1.heap.size):KP B h mb av kv w w2:=⟨k.bl.grown hg hBw (fun b e=>by injection e with e;omega),fun b h1 h2 h3 h4 h5=>by
 have hs:=k.bl.size
 rw[hg.block b (by omega) (fun e=>h3 (by injection e))]
 exact k.keep b h1 h2 h3 h4 h5⟩
structure Gx (B h mb k:Nat) (sv tv fv:Value) (w:World) (ms:Ms) (st al:List ByteArray) (av kv:Value) (vs:ByteArray->Value):Prop where
 hB:B<=h
 mB:B<=mb
 blk:w.heap[h]?=some (.cells #[sv,tv,.map (some mb),av,kv,fv] 140 (0,0))
 map:∃ n,n+st.length+k<=2*al.length/\Jp w mb n (Fz ms vs)
 ask:w.ownsRow B 9 1 av al.length (Bf al)
 stk:w.ownsRow B 9 1 kv st.length (Bf st)
 dis:∀ b,av.ownBlock=some b->kv.ownBlock≠some b
 lks:∀ nm d,lk ms nm=some (some d)->Ar w B (vs nm) d.ls
theorem Gx.bl {B h mb k:Nat} {sv tv fv:Value} {w w':World} {ms:Ms} {st al:List ByteArray} {av kv:Value} {vs:ByteArray->Value} (s:Gx B h mb k sv tv fv w ms st al av kv vs) (hb:Below w.heap.size w w'):Gx B h mb k sv tv fv w' ms st al av kv vs:=by
 obtain⟨n,hn,hm⟩:=s.map
 exact⟨s.hB,s.mB,by rw[hb.block h (Af s.blk)];exact s.blk,⟨n,hn,hm.same (hb.block mb hm.lt)⟩,Ac s.ask hb,Ac s.stk hb,s.dis,fun nm d e=>(s.lks nm d e).bl hb⟩
theorem Gx.cells {B h mb k:Nat} {sv tv fv:Value} {w:World} {ms:Ms} {st al:List ByteArray} {av kv:Value} {vs:ByteArray->Value} (s:Gx B h mb k sv tv fv w ms st al av kv vs):w.cell? ⟨h,0,none⟩=some sv/\w.cell? ⟨h,1,none⟩=some tv/\w.cell? ⟨h,2,none⟩=some (.map (some mb))/\w.cell? ⟨h,3,none⟩=some av/\w.cell? ⟨h,4,none⟩=some kv/\w.cell? ⟨h,5,none⟩=some fv/\∀ j,w.frozen? ⟨h,j,none⟩=false:=by
 refine⟨?_,?_,?_,?_,?_,?_,fun j=>fH s.blk j⟩<;>rw[cH s.blk]<;>rfl
theorem Gx.hne {B h mb k:Nat} {sv tv fv:Value} {w:World} {ms:Ms} {st al:List ByteArray} {av kv:Value} {vs:ByteArray->Value} (s:Gx B h mb k sv tv fv w ms st al av kv vs):h≠mb:=fun e=>by
 obtain⟨n,_,hm⟩:=s.map
 subst e
 exact hm.notCells s.blk
theorem Ef {w:World} {B e sz n b:Nat} {v:Value} {xs:List Value} (ho:w.ownsRow B e sz v n xs) (hb:v.ownBlock=some b):B<=b/\∃ cur,w.heap[b]?=some (.cells cur e (0,0)):=by
 rcases ho.2 with ⟨rfl,_⟩|⟨g,cap,cur,rfl,hg,hh,_⟩
 ·simp[Value.ownBlock] at hb
 ·simp[Value.ownBlock] at hb;subst hb;exact⟨hg,cur,hh⟩
theorem Ad {w:World} {B e sz n b:Nat} {v:Value} {xs:List Value} (ho:w.ownsRow B e sz v n xs) {cs:Array Value} {T:TypeId} (hT:T≠e) (hb:w.heap[b]?=some (.cells cs T (0,0))):v.ownBlock≠some b:=fun q=>by
 obtain⟨_,cur,hh⟩:=Ef ho q
 rw[hb] at hh
 injection hh with hh
 injection hh with _ h5
 exact hT h5
theorem Hl {w:World} {B e sz n b m:Nat} {v:Value} {xs:List Value} {f:ByteArray->Option Value} (ho:w.ownsRow B e sz v n xs) (hm:Jp w b m f):v.ownBlock≠some b:=fun q=>by
 obtain⟨_,cur,hh⟩:=Ef ho q
 exact hm.notCells hh
theorem Cn {w w':World} {B e sz n:Nat} {v:Value} {xs:List Value} (ho:w.ownsRow B e sz v n xs) (hk:∀ b,v.ownBlock=some b->w'.heap[b]?=w.heap[b]?):w'.ownsRow B e sz v n xs:=by
 refine⟨ho.1,?_⟩
 rcases ho.2 with k|⟨g,cap,cur,rfl,hg,hh,r⟩
 ·exact Or.inl k
 ·exact Or.inr ⟨g,cap,cur,rfl,hg,by rw[hk g (by simp[Value.ownBlock])];exact hh,r⟩
theorem Ar.keptB {w w':World} {B:Nat} {v:Value} {ls:List G3} (h:Ar w B v ls) (hk:∀ b,v.ownBlock=some b->w'.heap[b]?=w.heap[b]?):Ar w' B v ls:=by
 obtain⟨xs,h1,h2⟩:=h
 exact⟨xs,Cn h1 hk,h2⟩
theorem Gx.kept {B h mb k:Nat} {sv tv fv:Value} {w w':World} {ms:Ms} {st al:List ByteArray} {av kv:Value} {vs:ByteArray->Value} (s:Gx B h mb k sv tv fv w ms st al av kv vs) (hk:∀ b,(b=h\/b=mb\/av.ownBlock=some b\/kv.ownBlock=some b\/∃ nm d,lk ms nm=some (some d)/\(vs nm).ownBlock=some b)->w'.heap[b]?=w.heap[b]?):Gx B h mb k sv tv fv w' ms st al av kv vs:=by
 obtain⟨n,hn,hm⟩:=s.map
 exact⟨s.hB,s.mB,by rw[hk h (Or.inl rfl)];exact s.blk,⟨n,hn,hm.same (hk mb (Or.inr (Or.inl rfl)))⟩,Cn s.ask (fun b q=>hk b (by simp[q])),Cn s.stk (fun b q=>hk b (by simp[q])),s.dis,fun nm d e=>(s.lks nm d e).keptB (fun b q=>hk b (Or.inr (Or.inr (Or.inr (Or.inr ⟨nm,d,e,q⟩)))))⟩
theorem Gx.far {B h mb k:Nat} {sv tv fv:Value} {w:World} {ms:Ms} {st al:List ByteArray} {av kv:Value} {vs:ByteArray->Value} (s:Gx B h mb k sv tv fv w ms st al av kv vs) {b:Nat} {T:TypeId} {cs:Array Value} (hb:w.heap[b]?=some (.cells cs T (0,0))) (h1:T≠45) (h2:T≠9) (h3:b≠h):∀ b',(b'=h\/b'=mb\/av.ownBlock=some b'\/kv.ownBlock=some b'\/∃ nm d,lk ms nm=some (some d)/\(vs nm).ownBlock=some b')->b'≠b:=by
 obtain⟨n,hn,hm⟩:=s.map
 rintro b' (rfl|rfl|q|q|⟨nm,d,e,q⟩) rfl
 ·exact h3 rfl
 ·exact hm.notCells hb
 ·exact Ad s.ask h2 hb q
 ·exact Ad s.stk h2 hb q
 ·obtain⟨xs,k1,_⟩:=s.lks nm d e;exact Ad k1 h1 hb q
theorem Gx.set {B h mb k:Nat} {sv tv fv:Value} {w:World} {ms:Ms} {st al:List ByteArray} {av kv:Value} {vs:ByteArray->Value} (s:Gx B h mb k sv tv fv w ms st al av kv vs) {b:Nat} {T:TypeId} {cs:Array Value} (hb:w.heap[b]?=some (.cells cs T (0,0))) (h1:T≠45) (h2:T≠9) (h3:b≠h) (j:Nat) (u:Value):Gx B h mb k sv tv fv (w.setCell ⟨b,j,none⟩ u) ms st al av kv vs:=s.kept fun b' q=>hC w ⟨b,j,none⟩ _ b' (s.far hb h1 h2 h3 b' q)
abbrev Ml (B h mb:Nat) (sv tv fv:Value) (w:World) (ms:Ms) (st:List ByteArray) (av kv:Value) (vs:ByteArray->Value):Prop:=Gx B h mb 0 sv tv fv w ms st (Eo ms) av kv vs
def Ie (B:Nat) (w:World) (a:Um) (v:Value):Prop:=
 match a with
 | .ok _=>False
 | .circle ch=>∃ ca cn cc,v=.agg #[.int .i64 6,.string ⟨#[]⟩,.slice ca cn cc]/\w.ownsRow B 9 1 (.slice ca cn cc) ch.length (Bf ch)
 | .deep nm=>v=.agg #[.int .i64 7,.string nm,.slice none 0 0]
theorem Ie.stop {B:Nat} {w:World} {a:Um} {v:Value} (h:Ie B w a v):a.stop:=by
 cases a
 ·exact h
 ·trivial
 ·trivial
theorem Ie.bl {B:Nat} {w w':World} {a:Um} {v:Value} (h:Ie B w a v) (hb:Below w.heap.size w w'):Ie B w' a v:=by
 cases a with
 | ok d=>exact h
 | circle ch=>obtain⟨ca,cn,cc,e,ho⟩:=h;exact⟨ca,cn,cc,e,Ac ho hb⟩
 | deep nm=>exact h
def Mz (w:World) (ms:Ms) (vs:ByteArray->Value) (ms':Ms) (vs':ByteArray->Value):Prop:=∀ nm d b,lk ms' nm=some (some d)->(vs' nm).ownBlock=some b->(∃ d',lk ms nm=some (some d')/\(vs nm).ownBlock=some b)\/w.heap.size<=b
theorem Mz.refl (w:World) (ms:Ms) (vs:ByteArray->Value):Mz w ms vs ms vs:=fun nm d b h1 h2=>Or.inl ⟨d,h1,h2⟩
theorem Mz.trans {w w1:World} {ms m1 m2:Ms} {vs v1 v2:ByteArray->Value} (h:Mz w ms vs m1 v1) (hs:w.heap.size<=w1.heap.size) (k:Mz w1 m1 v1 m2 v2):Mz w ms vs m2 v2:=fun nm d b h1 h2=>by
 rcases k nm d b h1 h2 with ⟨d',q1,q2⟩|q
 ·exact h nm d' b q1 q2
 ·exact Or.inr (by omega)
def Ty (v:Value):Ending:=.panicked [{ v:=.iface 141 v,recovered:=false }]
def Ql (B h mb:Nat) (sv tv fv:Value) (ss:List S2) (ts:List T2) (ms:Ms) (st:List ByteArray) (av kv:Value) (vs:ByteArray->Value) (nm:ByteArray) (w:World) (e:Ending) (w':World):Prop:=
 KP B h mb av kv w w'/\∃ ms' a,Av ss ts ms st (.make nm) ms' a/\((∃ d av' kv' vs',a=.ok d/\e=.returned (Ik d (vs' nm))/\Ml B h mb sv tv fv w' ms' st av' kv' vs'/\Cc w av av'/\Cc w kv kv'/\Mz w ms vs ms' vs')\/(∃ v,e=Ty v/\Ie B w' a v))
def RunI (B h mb:Nat) (sv tv fv:Value) (ss:List S2) (ts:List T2) (ms:Ms) (st:List ByteArray) (av kv:Value) (vs:ByteArray->Value) (is:List I3) (w:World) (e:Ending) (w':World):Prop:=
 KP B h mb av kv w w'/\∃ ms' a,Av ss ts ms st (.run is [] []) ms' a/\((∃ d lv av' kv' vs',a=.ok d/\e=.returned (.tuple #[lv,.agg #[.int .i64 d.c,.string d.t,.slice none 0 0]])/\(Ar w' B lv d.ls/\∀ b,lv.ownBlock=some b->w.heap.size<=b)/\Ml B h mb sv tv fv w' ms' st av' kv' vs'/\Cc w av av'/\Cc w kv kv'/\Mz w ms vs ms' vs')\/(∃ v,e=Ty v/\Ie B w' a v))
def Rc (n:Nat):ByteArray:=⟨#[UInt8.ofNat (48+n)]⟩
theorem Vf (n:Nat):(Rc n).size=1:=rfl
theorem itoa_in (n:Nat) (hn:n<=5) (w:World):Calls Tryz.prog 31 #[.int .i64 n] w fun e w'=>e=.returned (.string (Rc n))/\w=w':=by
 rcases (show n=0\/n=1\/n=2\/n=3\/n=4\/n=5 by omega) with rfl|rfl|rfl|rfl|rfl|rfl
 all_goals
  go_enter Tryz.func31,Tryz.ntmps31;go_wp2;go_ret;exact⟨rfl,rfl⟩
theorem l2Dec_in (n:Nat) (hn:n<=5) (w:World):Calls Tryz.prog 33 #[.int .i64 n] w fun e w'=>e=.returned (.string (Rc n))/\Below w.heap.size w w':=by
 have hu:=Sx n (by omega)
 unfold Rc
 generalize UInt8.ofNat (48+n)=u at *
 have hcv:=Sz (w.alloc (.cells #[.int .u8 (48+n)] 5)) w.heap.size (48+n) u hu (by simp[go_sem])
 clear hu
 go_enter Tryz.func33,Tryz.ntmps33
 go_wp2
 go_ret
 exact⟨rfl,aN _ _⟩
theorem Bo {w a b:World} (h:Below w.heap.size w a) (k:Below a.heap.size a b):Below w.heap.size w b:=h.trans (k.mono h.size)
theorem Og (m:Nat) (t:ByteArray) (a:Option Addr) (cap:Nat) (w:World) (hm:m<=5) (ht:t.size<=2000) :
  Calls Tryz.prog 14 #[.agg #[.int .i64 m,.string t,.slice a 0 cap]] w fun e w'=>e=.returned (.string (Rc m++(⟨#[58]⟩:ByteArray)++t))/\Below w.heap.size w w':=by
 have hd:(Rc m).size<=1:=Nat.le_of_eq (Vf m)
 have HC:Hd (∀ W:World,Calls Tryz.prog 33 #[.int .i64 m] W fun e w'=>e=.returned (.string (Rc m))/\Below W.heap.size W w'):=fun W=>l2Dec_in m hm W
 generalize Rc m=d at *
 have HD:Hd (∀ W:World,W.cell? ⟨w.heap.size,1,none⟩=some (.string t)->Calls Tryz.prog 33 #[.int .i64 m] W fun e w'=>e=.returned (.string d)/\Below W.heap.size W w'/\w'.cell? ⟨w.heap.size,1,none⟩=some (.string t)):=fun W hW=>(HC.o W).mono fun e w' ⟨he,hb⟩=>⟨he,hb,Ab hb hW⟩
 have hx0:(w.alloc (.cells #[.int .i64 m,.string t,.slice a 0 cap] 32)).cell? ⟨w.heap.size,0,none⟩=some (.int .i64 m):=by simp[go_sem]
 have hx1:(w.alloc (.cells #[.int .i64 m,.string t,.slice a 0 cap] 32)).cell? ⟨w.heap.size,1,none⟩=some (.string t):=by simp[go_sem]
 go_enter Tryz.func14,Tryz.ntmps14
 go_wp2
 go_region_with (first|(go_at_call 33;refine(HD.o _ ?_).mono ?_;(focus (simp[go_sem];done));rintro e w1 ⟨rfl,hb1,hcc⟩))
 all_goals
  go_wp2;go_ret;exact⟨rfl,((aN _ _).drew.trans (hb1.mono (by simp)))⟩
theorem Pc (m:Nat) (t:ByteArray) (a:Option Addr) (cap:Nat) (w:World) (hm:m<=5) (ht:t.size<=2000) :
  Calls Tryz.prog 12 #[.agg #[.int .i64 m,.string t,.slice a 0 cap]] w fun e w'=>e=.returned (.string (Rc m++(⟨#[58]⟩:ByteArray)++t))/\Below w.heap.size w w':=by
 have hd:(Rc m).size<=1:=Nat.le_of_eq (Vf m)
 have HC:Hd (∀ W:World,Calls Tryz.prog 31 #[.int .i64 m] W fun e w'=>e=.returned (.string (Rc m))/\W=w'):=fun W=>itoa_in m hm W
 generalize Rc m=d at *
 have hx0:(w.alloc (.cells #[.int .i64 m,.string t,.slice a 0 cap] 32)).cell? ⟨w.heap.size,0,none⟩=some (.int .i64 m):=by simp[go_sem]
 have hx1:(w.alloc (.cells #[.int .i64 m,.string t,.slice a 0 cap] 32)).cell? ⟨w.heap.size,1,none⟩=some (.string t):=by simp[go_sem]
 go_enter Tryz.func12,Tryz.ntmps12
 go_wp2
 go_region_with (first|(go_at_call 31;refine(HC.o _).mono ?_;rintro e w1 ⟨rfl,rfl⟩))
 all_goals
  go_wp2;go_ret;exact⟨rfl,(aN _ _).drew⟩
end Go.Proofs.YtjlnkepkkdefdaaGreatDoor
