import Derived.Test.YtfgoholldpeabaaGreatDoorBdC
import Derived.Test.YtfgoholldpeabaaGreatDoorBsR
namespace Go.Proofs.YtfgoholldpeabaaGreatDoor
open _root_.Go.Proofs.Tryz Go.RowKit Go.Deep
set_option linter.unusedVariables false
set_option linter.unusedSimpArgs false
set_option maxHeartbeats 8000000
set_option maxRecDepth 100000
variable {ms ms':Mm} {vs:By->Value} {x nm t:By} {d:Md} {st:List By} {lv v sv tv av kv u0 u1 u2 u3 u4 u5:Value} {y:Bool} {w w' w1 W:World} {b n k j B R sn sn' h al xi:Nat} {f:By->Bool->Option ByteArray} {cs:Array Value} {T:TypeId} {ss:List S2} {ts:List T2} {l:List Value} {s s':Sb} {a:Act} {is:List I3} {ops:Array Oper} {Q:Exit->Act->World->Prop} {E:Prop}
structure Ep where
  hb:Nat
  hs:Nat
  sb:Nat
  n:Nat
def fvC (C:Ep):Value:=.func (.func 108) #[.pointer (p_ C.hb)] #[]
open Classical in
noncomputable def Gr (ms:Mm) (mk:List By) (vs:By->Value) (x:By):Option Value:=
  match fd ms x with
  | some d=>some (Ey d (vs x))
  | none=>if Ec mk x then some He else none
theorem Ra {mk:List By} (h:fd ms x=some d):Gr ms mk vs x=some (Ey d (vs x)):=by unfold Gr;rw[h]
theorem Pk {mk:List By} (h:fd ms x=none) (k:Ec mk x):Gr ms mk vs x=some He:=by unfold Gr;rw[h];simp[k]
theorem Wy {mk:List By} (h:fd ms x=none) (k:¬ Ec mk x):Gr ms mk vs x=none:=by unfold Gr;rw[h];simp[k]
open Classical in
theorem markB_push {mk:List By} (h:fd ms nm=none) (x:By):Gr ms (mk++[nm]) vs x=if x=nm then some He else Gr ms mk vs x:=by
  by_cases hx:x=nm
  · subst hx;rw[if_pos rfl];exact Pk h (Dz.2 (Or.inr rfl))
  · rw[if_neg hx]
    (have:Ec (mk++[nm]) x↔Ec mk x:=by rw[Dz];simp[hx]);unfold Gr
    cases fd ms x with
    | some d=>rfl
    | none=>simp only[this]
open Classical in
theorem markB_end {mk:List By} (h:fd ms nm=none) (hm:∀ x,x≠nm->(Ec mk x↔Ec st x)) (x:By):Gr (ms++[(nm,d)]) st (fun y=>if y=nm then lv else vs y) x=if x=nm then some (Ey d lv) else Gr ms mk vs x:=by
  by_cases hx:x=nm
  · subst hx;rw[if_pos rfl,Ra (Hl h)];simp
  · rw[if_neg hx]
    unfold Gr;rw[Lh hx]
    cases fd ms x with
    | some d=>simp[hx]
    | none=>simp only[hm x hx]
structure Ly (B h mb k:Nat) (sv tv fv:Value) (w:World) (ms:Mm) (mk st:List By) (al:Nat) (av kv:Value) (vs:By->Value):Prop where
  hB:B<=h
  mB:B<=mb
  blk:w.heap[h]?=some (.cells #[sv,tv,.map (some mb),av,kv,fv] 185 (0,0))
  map:∃ n,n+st.length+k<=2*al/\Iq w mb n (Gr ms mk vs)
  ask:∃ xs:List By,xs.length=al/\w.ownsRow B 9 1 av al (Ax xs)
  stk:w.ownsRow B 9 1 kv st.length (Ax st)
  dis:∀ b,av.ownBlock=some b->kv.ownBlock≠some b
  vsl:∀ x,∃ a n c,vs x=.slice a n c
section
variable {B h mb k:Nat} {sv tv fv:Value} {w w':World} {ms:Mm} {mk st:List By} {al:Nat} {av kv:Value} {vs:By->Value}
theorem Ly.kept (s:Ly B h mb k sv tv fv w ms mk st al av kv vs) (hk:∀ b,(b=h\/b=mb\/av.ownBlock=some b\/kv.ownBlock=some b)->w'.heap[b]?=w.heap[b]?):Ly B h mb k sv tv fv w' ms mk st al av kv vs:=by
  obtain⟨n,hn,hm⟩:=s.map;obtain⟨xs,e,ha⟩:=s.ask;exact⟨s.hB,s.mB,by rw[hk h (Or.inl rfl)];exact s.blk,⟨n,hn,hm.same (hk mb (Or.inr (Or.inl rfl)))⟩,⟨xs,e,Aj ha (fun b q=>hk b (by simp[q]))⟩,Aj s.stk (fun b q=>hk b (by simp[q])),s.dis,s.vsl⟩
theorem Ly.lt (s:Ly B h mb k sv tv fv w ms mk st al av kv vs) {b:Nat} (q:b=h\/b=mb\/av.ownBlock=some b\/kv.ownBlock=some b):b<w.heap.size:=by
  obtain⟨n,hn,hm⟩:=s.map;obtain⟨xs,e,ha⟩:=s.ask
  rcases q with rfl|rfl|q|q
  · exact Af s.blk
  · exact hm.lt
  · exact(ha.lt b q).2
  · exact(s.stk.lt b q).2
theorem Ly.bl (s:Ly B h mb k sv tv fv w ms mk st al av kv vs) (hb:Bw w w'):Ly B h mb k sv tv fv w' ms mk st al av kv vs:=s.kept fun b q=>hb.block b (s.lt q)
theorem Ly.le {k':Nat} (s:Ly B h mb k sv tv fv w ms mk st al av kv vs) (hk:k'<=k):Ly B h mb k' sv tv fv w ms mk st al av kv vs:=by
  obtain⟨n,hn,hm⟩:=s.map;exact⟨s.hB,s.mB,s.blk,⟨n,qb,hm⟩,s.ask,s.stk,s.dis,s.vsl⟩
theorem Ly.cells (s:Ly B h mb k sv tv fv w ms mk st al av kv vs):w.cell? ⟨h,0,none⟩=some sv/\w.cell? ⟨h,1,none⟩=some tv/\w.cell? ⟨h,2,none⟩=some (.map (some mb))/\w.cell? ⟨h,3,none⟩=some av/\w.cell? ⟨h,4,none⟩=some kv/\w.cell? ⟨h,5,none⟩=some fv/\∀ j,w.frozen? ⟨h,j,none⟩=false:=by
  exact qlm
theorem Ly.hne (s:Ly B h mb k sv tv fv w ms mk st al av kv vs):h≠mb:=fun e=>by
  obtain⟨n,_,hm⟩:=s.map;subst e;exact hm.notCells s.blk
theorem Ly.far (s:Ly B h mb k sv tv fv w ms mk st al av kv vs) {b:Nat} {T:TypeId} {cs:Array Value} (hb:w.heap[b]?=some (.cells cs T (0,0))) (h1:T≠185) (h2:T≠9) {b':Nat} (q:b'=h\/b'=mb\/av.ownBlock=some b'\/kv.ownBlock=some b'):b'≠b:=by
  obtain⟨n,hn,hm⟩:=s.map;obtain⟨xs,e,ha⟩:=s.ask;rintro rfl
  rcases q with rfl|rfl|q|q
  · have q2:=s.blk;rw[hb] at q2;injection q2 with q2;injection q2 with _ q2;exact h1 q2
  · exact hm.notCells hb
  · exact Ad ha h2 hb q
  · exact Ad s.stk h2 hb q
theorem Ly.set (s:Ly B h mb k sv tv fv w ms mk st al av kv vs) {b:Nat} {T:TypeId} {cs:Array Value} (hb:w.heap[b]?=some (.cells cs T (0,0))) (h1:T≠185) (h2:T≠9) (j:Nat) (u:Value):Ly B h mb k sv tv fv (w.setCell ⟨b,j,none⟩ u) ms mk st al av kv vs:=s.kept fun b' q=>hC w ⟨b,j,none⟩ _ b' (s.far hb h1 h2 q)
theorem Ly.askd (s:Ly B h mb k sv tv fv w ms mk st al av kv vs) {w2:World} {o:Obj} {g cp:Nat} {nm:By} {xs:List By} (hx:xs.length=al) (hg:(w.alloc o).grownBy w2 av.ownBlock) (ho:w2.ownsRow B 9 1 (.slice (p_ g) (al+1) cp) (al+1) (Ax xs++[.string nm])) (hl:av.ownBlock=some g\/g=w.heap.size+1) (hB:B<=w.heap.size) :
    Ly B h mb (k+2) sv tv fv (w2.setCell ⟨h,3,none⟩ (.slice (p_ g) (al+1) cp)) ms mk st (al+1) (.slice (p_ g) (al+1) cp) kv vs/\KP B h mb av kv w (w2.setCell ⟨h,3,none⟩ (.slice (p_ g) (al+1) cp))/\Ak w av (.slice (p_ g) (al+1) cp):=by
  have s1:=s.bl (Ag w o);obtain⟨ys,ey,hask⟩:=s1.ask;obtain⟨ys0,ey0,um⟩:=s.ask;have hhA:=Af s1.blk;obtain⟨n,hn,hm⟩:=s1.map;have vt:∀ b,b<(w.alloc o).heap.size->av.ownBlock≠some b->w2.heap[b]?=(w.alloc o).heap[b]?:=fun b h1 h2=>hg.block b h1 (fun e=>h2 e.symm);have hh:w2.heap[h]?=some (.cells #[sv,tv,.map (some mb),av,kv,fv] 185 (0,0)):=by rw[vt h hhA (Ad hask qd s1.blk)];exact s1.blk
  have hgh:∀ b,(Value.slice (p_ g) (al+1) cp).ownBlock=some b->b≠h:=fun b q e=>by
    exact qdm
  have ru:∀ b,b≠h->(w2.setCell ⟨h,3,none⟩ (.slice (p_ g) (al+1) cp)).heap[b]?=w2.heap[b]?:=fun b hb=>hC w2 ⟨h,3,none⟩ _ b hb;have hkb:∀ b,kv.ownBlock=some b->b≠h/\w2.heap[b]?=(w.alloc o).heap[b]?:=fun b q=>⟨fun e=>by subst e;exact Ad s1.stk qd s1.blk q,vt b (Lb s1.stk b q).2 (fun e=>s.dis b e q)⟩;refine⟨⟨s.hB,s.mB,by rw[jB hh];rfl,⟨n,qb,hm.same ?_⟩,⟨xs++[nm],by simp[hx],?_⟩,Aj s1.stk (fun b q=>qea),?_,s.vsl⟩,⟨?_,fun b h1 h2 h3 h4 h5=>?_⟩,fun b q=>?_⟩
  · rw[ru mb s1.hne.symm,vt mb hm.lt (Jk hask hm)]
  · rw[show Ax (xs++[nm])=Ax xs++[.string nm] from qai]
    exact Aj ho (fun b q=>ru b (hgh b q))
  · intro b q e
    simp[Value.ownBlock] at q;subst q
    rcases hl with q|q
    · exact s.dis _ q e
    · have:=(Lb s.stk _ e).2;omega
  · refine Below.setCell (p:=⟨h,3,none⟩) (((Below.refl B w).alloc hB _).grown hg qh (fun b q=>?_)) s.hB _
    exact(Lb um b q).1
  · rw[ru b h2,vt b qh h4,Lib.alloc_old _ _ _ h1]
  · exact qme
theorem Ly.push (s:Ly B h mb (k+1) sv tv fv w ms mk st al av kv vs) {w2:World} {o:Obj} {g cp:Nat} {nm:By} (hg:(w.alloc o).grownBy w2 kv.ownBlock) (ho:w2.ownsRow B 9 1 (.slice (p_ g) (st.length+1) cp) (st.length+1) (Ax st++[.string nm])) (hl:kv.ownBlock=some g\/g=w.heap.size+1) (hB:B<=w.heap.size) :
    Ly B h mb k sv tv fv (w2.setCell ⟨h,4,none⟩ (.slice (p_ g) (st.length+1) cp)) ms mk (st++[nm]) al av (.slice (p_ g) (st.length+1) cp) vs/\KP B h mb av kv w (w2.setCell ⟨h,4,none⟩ (.slice (p_ g) (st.length+1) cp))/\Ak w kv (.slice (p_ g) (st.length+1) cp):=by
  have s1:=s.bl (Ag w o);obtain⟨ys,ey,hask⟩:=s1.ask;obtain⟨ys0,ey0,um⟩:=s.ask;have hhA:=Af s1.blk;obtain⟨n,hn,hm⟩:=s1.map;have vt:∀ b,b<(w.alloc o).heap.size->kv.ownBlock≠some b->w2.heap[b]?=(w.alloc o).heap[b]?:=fun b h1 h2=>hg.block b h1 (fun e=>h2 e.symm);have hh:w2.heap[h]?=some (.cells #[sv,tv,.map (some mb),av,kv,fv] 185 (0,0)):=by rw[vt h hhA (Ad s1.stk qd s1.blk)];exact s1.blk
  have hgh:∀ b,(Value.slice (p_ g) (st.length+1) cp).ownBlock=some b->b≠h:=fun b q e=>by
    exact qdm
  have ru:∀ b,b≠h->(w2.setCell ⟨h,4,none⟩ (.slice (p_ g) (st.length+1) cp)).heap[b]?=w2.heap[b]?:=fun b hb=>hC w2 ⟨h,4,none⟩ _ b hb;have hkb:∀ b,av.ownBlock=some b->b≠h/\w2.heap[b]?=(w.alloc o).heap[b]?:=fun b q=>⟨fun e=>by subst e;exact Ad hask qd s1.blk q,vt b (Lb hask b q).2 (fun e=>s.dis b q e)⟩;refine⟨⟨s.hB,s.mB,by rw[jB hh];rfl,⟨n,qaw,hm.same ?_⟩,⟨ys,ey,Aj hask (fun b q=>qea)⟩,?_,?_,s.vsl⟩,⟨?_,fun b h1 h2 h3 h4 h5=>?_⟩,fun b q=>?_⟩
  · rw[ru mb s1.hne.symm,vt mb hm.lt (Jk s1.stk hm)]
  · exact qju
  · intro b e q
    simp[Value.ownBlock] at q;subst q
    rcases hl with q|q
    · exact s.dis _ e q
    · have:=(Lb um _ e).2;omega
  · exact qkd
  · rw[ru b h2,vt b qh h5,Lib.alloc_old _ _ _ h1]
  · exact qme
theorem Ly.pop {g cp:Nat} {nm:By} (s:Ly B h mb k sv tv fv w ms mk (st++[nm]) al av (.slice (p_ g) (st.length+1) cp) vs) :
    Ly B h mb (k+1) sv tv fv (w.setCell ⟨h,4,none⟩ (.slice (p_ g) st.length cp)) ms mk st al av (.slice (p_ g) st.length cp) vs:=by
  obtain⟨n,hn,hm⟩:=s.map;obtain⟨ys,ey,hask⟩:=s.ask;rw[List.length_append,List.length_singleton] at hn;have ru:∀ b,b≠h->(w.setCell ⟨h,4,none⟩ (.slice (p_ g) st.length cp)).heap[b]?=w.heap[b]?:=fun b hb=>hC w ⟨h,4,none⟩ _ b hb
  have hstk:w.ownsRow B 9 1 (.slice (p_ g) st.length cp) st.length (Ax st):=by
    exact qnd
  refine⟨s.hB,s.mB,by rw[jB s.blk];rfl,⟨n,qb,hm.same (ru mb s.hne.symm)⟩,⟨ys,ey,Aj hask (fun b q=>ru b (fun e=>?_))⟩,Aj hstk (fun b q=>ru b (fun e=>?_)),fun b q e=>s.dis b q qby,s.vsl⟩
  · subst e;exact Ad hask qd s.blk q
  · subst e;exact Ad hstk qd s.blk q
open Classical in
theorem Ly.mark {w2:World} {n:Nat} {ms':Mm} {mk':List By} {vs':By->Value} {nm:By} {v:Value} (s:Ly B h mb k sv tv fv w ms mk st al av kv vs) (hn:n+st.length+k<=2*al) (hm:Iq w2 mb n (fun x=>if x=nm then some v else Gr ms mk vs x)) (hg:w.grownBy w2 (some mb)) (he:∀ x,Gr ms' mk' vs' x=if x=nm then some v else Gr ms mk vs x) (hv:∀ x,∃ a n c,vs' x=.slice a n c) :
    Ly B h mb k sv tv fv w2 ms' mk' st al av kv vs':=by
  obtain⟨n0,_,hm0⟩:=s.map;obtain⟨ys,ey,hask⟩:=s.ask;have vt:∀ b,b<w.heap.size->b≠mb->w2.heap[b]?=w.heap[b]?:=fun b h1 h2=>hg.block b h1 (fun e=>h2 qan);refine⟨s.hB,s.mB,by rw[vt h (Af s.blk) s.hne];exact s.blk,⟨n,hn,hm.congr fun x=>(he x).symm⟩,⟨ys,ey,Aj hask (fun b q=>vt b (Lb hask b q).2 (fun e=>?_))⟩,Aj s.stk (fun b q=>vt b (Lb s.stk b q).2 (fun e=>?_)),s.dis,hv⟩
  · subst e;exact Jk hask hm0 q
  · subst e;exact Jk s.stk hm0 q
end
def kL (x:By) (y:Bool):Value:=.agg #[.string x,.bool y]
theorem Qcf:prog.cellsOf 222=2:=qi
theorem cells9L:prog.cellsOf 9=1:=qi
theorem cells4L:prog.cellsOf 4=1:=qi
theorem keyL (hs:x.size<=maxLen):∃ l,keyOf prog 222 (kL x y)=some l:=by
  obtain⟨d,ed⟩:∃ d,prog.types.size+1=d+2:=⟨prog.types.size-1,by have:1<=prog.types.size:=qcg;omega⟩
  have e2:prog.keyLits (d+1+1) 222 [.string x,.bool y]=some [.string x.data.toList,.bool y]:=by
    (have q1:prog.keyLits (d+1) 9 [.string x]=some [.string x.data.toList]:=by unfold Program.keyLits;simp[underlying9,hs]);have q2:prog.keyLits (d+1) 4 [.bool y]=some [.bool y]:=by unfold Program.keyLits;simp[underlying4]
    conv=>lhs;unfold Program.keyLits
    simp only[underlying222,Qcf];simp[cells9L,cells4L,q1,q2]
  refine⟨.string (keyBytes [.string x.data.toList,.bool y]),?_⟩;have hkt:prog.keyType 222=true:=qcg;unfold keyOf kL;simp only[underlying222,hkt,Value.formed,Qcf,ed];simp[Value.cells,e2]
theorem laidZ:laidOutB prog=true:=qcg
theorem Yz:WideMaps.KeyLaw prog 222:=deep_law_gate laidZ qcg qcg qcg (by rw[underlying222])
def sgV (s:By):Value:=.agg #[.string s]
def Jw (w:World) (b n:Nat) (f:By->Bool->Option ByteArray):Prop:=
  ∃ D:DataW Value,w.ownsMap prog 222 (fun v=>some (.held v,[])) b n D/\∀ x y l,keyOf prog 222 (kL x y)=some l->Maps.has D l=(f x y).isSome/\∀ v,f x y=some v->∀ z,D.atKey l z=.held (sgV v)
theorem Jw.made (w:World):Jw (w.alloc (.map #[] 0)) w.heap.size 0 (fun _ _=>none):=⟨_,World.ownsMap_made w _ _ _,fun x y l _=>⟨rfl,fun v h=>by cases h⟩⟩
theorem Jw.same (h:Jw w b n f) (he:w'.heap[b]?=w.heap[b]?):Jw w' b n f:=by
  exact qmu
theorem Jw.lt (h:Jw w b n f):b<w.heap.size:=by obtain⟨D,h1,_⟩:=h;exact h1.lt
theorem Jw.notCells (h:Jw w b n f) {fr:Nat × Nat} (hc:w.heap[b]?=some (.cells cs T fr)):False:=by
  obtain⟨D,⟨es,cl,h1,_⟩,_⟩:=h;rw[hc] at h1;cases h1
theorem zero238 (w:World):(zeroValue 238).run prog w=.ok (sgV ⟨#[]⟩) w:=qi
theorem Jw.look (h:Jw w b n f) (hk:x.size<=maxLen):(Instr.lookup 144 (.map (some b)) (kL x y) true).run prog w=.ok (.tuple #[sgV ((f x y).getD ⟨#[]⟩),.bool (f x y).isSome]) w:=by
  obtain⟨D,h1,h2⟩:=h;obtain⟨l,hl⟩:=keyL (x:=x) (y:=y) hk;obtain⟨v,ps,h3,h4⟩:=h1.look_ok (Maps.Keyed.of_law Yz) underlying144 (zero238 w) (zd:=.held (sgV ⟨#[]⟩)) (zp:=[]) rfl hl
  have h5:(DataW.held v:DataW Value)=D.atKey l (.held (sgV ⟨#[]⟩)):=by
    simp only[Option.some.injEq,Prod.mk.injEq] at h4;exact h4.1
  have h6:v=sgV ((f x y).getD ⟨#[]⟩):=by
    cases hf:f x y with
    | none=>
      have h7:=(h2 x y l hl).1;rw[hf] at h7;rw[Maps.atKey_of_not_has h7] at h5;exact DataW.held.inj h5
    | some u=>
      rw[(h2 x y l hl).2 u hf] at h5;exact DataW.held.inj h5
  rw[h3,(h2 x y l hl).1,h6]
open Classical in
theorem Jw.store (h:Jw w b n f) (hk:x.size<=maxLen) (hn:n<maxLen) (v:By):∃ w',(Instr.mapUpdate 144 (.map (some b)) (kL x y) (sgV v)).run prog w=.ok () w'/\Jw w' b (n+1) (fun x' y'=>if x'=x/\y'=y then some v else f x' y')/\w.grownBy w' (some b):=by
  obtain⟨D,h1,h2⟩:=h;obtain⟨l,hl⟩:=keyL (x:=x) (y:=y) hk;obtain⟨w',h3,h4,h5⟩:=h1.update (Maps.Keyed.of_law Yz) underlying144 hn hl (val:=sgV v) (d:=.held (sgV v)) (ps:=[]) rfl
  have hkey:∀ {k:Value} {l:Lit},keyOf prog 222 k=some l->WideAt.IsKeyLit l:=fun h=>by
    obtain⟨s,rfl⟩:=Yz.str h;trivial
  refine⟨w',h3,⟨_,h4,fun x' y' m hx=>?_⟩,h5⟩
  by_cases Y1:x'=x/\y'=y
  · obtain⟨rfl,rfl⟩:=Y1
    (obtain rfl:m=l:=by rw[hx] at hl;exact Option.some.inj hl);simp only[and_self,if_true];exact⟨Maps.has_put_same h1.isMap (hkey hx) _,fun v' e z=>by cases e;exact Maps.atKey_put_same h1.isMap (hkey hx) _ _⟩
  · simp only[if_neg Y1]
    have hne:m≠l:=fun e=>Y1 (by
      have q:=Yz.inj (e▸hx) hl;unfold kL at q;injection q with q;have q2:=congrArg Array.toList q;simp only[List.cons.injEq,Value.string.injEq,Value.bool.injEq,and_true] at q2;exact q2)
    exact⟨by rw[Maps.has_put_other hne];exact(h2 x' y' m hx).1,fun v' e z=>by rw[Maps.atKey_put_other hne];exact(h2 x' y' m hx).2 v' e z⟩
noncomputable def Ji (ss:List S2) (ts:List T2) (ms:Mm) (x:By) (y:Bool):Option ByteArray:=if y then (fd ms x).map (fun d=>Bk d.c d.t) else some (Co (Cb ss ts x))
def Ext (ms ms':Mm):Prop:=∃ r,ms'=ms++r
theorem Ext.refl (ms:Mm):Ext ms ms:=⟨[],qg⟩
theorem Ext.fd (h:Ext ms ms') (k:fd ms nm=some d):Go.Proofs.YtfgoholldpeabaaGreatDoor.fd ms' nm=some d:=by
  obtain⟨r,rfl⟩:=h;exact qje
theorem Qf (h:Ext ms ms') {f:By} (k:Ji ss ts ms x y=some f):Ji ss ts ms' x y=some f:=by
  unfold Ji at *
  cases y with
  | false=>exact k
  | true=>
    simp only[if_true] at *
    cases hf:fd ms x with
    | none=>rw[hf] at k;cases k
    | some d=>rw[hf] at k;rw[h.fd hf];exact k
def Qt (ss:List S2) (ts:List T2) (n:Nat) (ms:Mm) (f:By->Bool->Option ByteArray):Prop:=∀ x y v,f x y=some v->∃ q,Ji ss ts ms x y=some q/\v=Ap n q
theorem Qt.ext (h:Qt ss ts n ms f) (k:Ext ms ms'):Qt ss ts n ms' f:=fun x y v e=>by
  obtain⟨q,h1,h2⟩:=h x y v e;exact⟨q,Qf k h1,h2⟩
def Eqs (ss:List S2) (ts:List T2) (n:Nat) (ms:Mm) (gs:List G3) (k:Nat):Prop:=∀ j,j<k->∃ f,Ji ss ts ms (gx gs j).name (gx gs j).ask=some f/\Ap n f=(gx gs j).sum
theorem Eqs.ext {gs:List G3} (h:Eqs ss ts n ms gs k) (e:Ext ms ms'):Eqs ss ts n ms' gs k:=fun j hj=>by
  obtain⟨f,h1,h2⟩:=h j hj;exact⟨f,Qf e h1,h2⟩
theorem Eqs.succ {gs:List G3} (h:Eqs ss ts n ms gs k) {f:By} (h1:Ji ss ts ms (gx gs k).name (gx gs k).ask=some f) (h2:Ap n f=(gx gs k).sum):Eqs ss ts n ms gs (k+1):=fun j hj=>by
  rcases Nat.lt_or_ge j k with q|q
  · exact h j q
  · obtain rfl:j=k:=qb
    exact⟨f,h1,h2⟩
def NoH (ss:List S2) (ts:List T2) (n:Nat) (ms:Mm) (gs:List G3):Prop:=∃ k,k<gs.length/\Eqs ss ts n ms gs k/\∃ f,Ji ss ts ms (gx gs k).name (gx gs k).ask=some f/\Ap n f≠(gx gs k).sum
theorem NoH.ext {gs:List G3} (h:NoH ss ts n ms gs) (e:Ext ms ms'):NoH ss ts n ms' gs:=by
  obtain⟨k,h1,h2,f,h3,h4⟩:=h;exact⟨k,h1,h2.ext e,f,Qf e h3,h4⟩
theorem NoH.bld {gs:List G3} (h:NoH ss ts n ms gs) (s:Sb) (st:List By):Bc ss ts n ms s st (.holds gs 0) ms s .no:=by
  obtain⟨k,h1,h2,f,h3,h4⟩:=h
  have aux:∀ m i,i+m=k->Bc ss ts n ms s st (.holds gs i) ms s .no:=by
    intro m
    induction m with
    | zero=>
      intro i hi;obtain rfl:i=k:=qb;unfold Ji at h3
      cases ha:(gx gs i).ask with
      | false=>
        rw[ha] at h3;simp only[Bool.false_eq_true,if_false,Option.some.injEq] at h3;exact .hhasno h1 ha (by rw[h3];exact h4)
      | true=>
        rw[ha] at h3;simp only[if_true] at h3
        cases hf:fd ms (gx gs i).name with
        | none=>rw[hf] at h3;cases h3
        | some d=>
          rw[hf] at h3;simp only[Option.map_some,Option.some.injEq] at h3;exact .haskno h1 ha (.known hf) (by rw[h3];exact h4)
    | succ m ih=>
      intro i hi;obtain⟨f',q1,q2⟩:=h2 i qb;unfold Ji at q1
      cases ha:(gx gs i).ask with
      | false=>
        rw[ha] at q1;simp only[Bool.false_eq_true,if_false,Option.some.injEq] at q1;exact .hhas qb ha (by rw[q1];exact q2) (ih (i+1) qb)
      | true=>
        rw[ha] at q1;simp only[if_true] at q1
        cases hf:fd ms (gx gs i).name with
        | none=>rw[hf] at q1;cases q1
        | some d=>
          rw[hf] at q1;simp only[Option.map_some,Option.some.injEq] at q1;exact .hask qb ha (.known hf) (by rw[q1];exact q2) (ih (i+1) qb)
  exact aux k 0 qb
def It (l:List Value):Prop:=l.Pairwise fun u v=>∀ b,u.ownBlock=some b->v.ownBlock≠some b
theorem It.set (h:It l) (i:Nat) (u:Value) {H:Nat} (hi:i<l.length) (hu:∀ b,u.ownBlock=some b->l[i].ownBlock=some b\/H<=b) (aj:∀ v∈l,∀ b,v.ownBlock=some b->b<H):It (l.set i u):=by
  unfold It at *;rw[List.pairwise_iff_getElem] at *;intro a c ha hc hac b e1 e2;rw[List.length_set] at ha hc;rw[List.getElem_set] at e1 e2
  split at e1
  · rename_i q
    subst q;rw[if_neg qb] at e2
    rcases hu b e1 with k|k
    · exact h i c hi hc hac b k e2
    · have:=aj _ (List.getElem_mem hc) b e2;omega
  · split at e2
    · rename_i q q2
      subst q2
      rcases hu b e2 with k|k
      · exact h a i ha hi hac b e1 k
      · have:=aj _ (List.getElem_mem ha) b e1;omega
    · exact h a c ha hc hac b e1 e2
theorem It.ne (h:It l) {i:Nat} (td:i≠j) (hi:i<l.length) (hj:j<l.length):∀ b,l[i].ownBlock=some b->l[j].ownBlock≠some b:=fun b e1 e2=>by
  unfold It at h;rw[List.pairwise_iff_getElem] at h
  rcases Nat.lt_or_ge i j with q|q
  · exact h i j hi hj q b e1 e2
  · exact h j i hj hi qb b e2 e1
structure Rv where
  tx:Value
  su:Value
  qv:Value
  nv:Value
  ev:Value
  uv:Value
  dv:Value
  sn:Nat
def Np (r:Rv):List Value:=[r.tx,r.su,r.qv,r.nv,r.ev,r.uv,r.dv]
def Kf (C:Ep) (r:Rv) (b:Nat):Prop:=b=C.hb\/b=C.hs\/b=C.sb\/∃ u∈Np r,u.ownBlock=some b
def Rm (C:Ep) (h:Nat) (r:Rv):Array Value:=#[.pointer (p_ C.hs),r.nv,r.ev,r.uv,I 0,I 0,nS,nS,ze,ze,.pointer (p_ h),.map (some C.sb),r.dv]
structure Nl (B h mb:Nat) (C:Ep) (ss:List S2) (ts:List T2) (w:World) (ms:Mm) (s:Sb) (av kv:Value) (r:Rv):Prop where
  lb:B<=C.hb/\B<=C.hs/\B<=C.sb/\mb≠C.sb
  wd:1<=C.n/\C.n<=8
  bd:w.heap[C.hb]?=some (.cells (Rm C h r) 146 (0,0))
  sh:w.heap[C.hs]?=some (.cells #[I C.n,r.tx,r.qv,r.su] 149 (0,0))
  sn:∃ f,Jw w C.sb r.sn f/\Qt ss ts C.n ms f
  tx:w.ownsRow B 9 1 r.tx s.T.length (Ax s.T)
  su:w.ownsRow B 9 1 r.su s.T.length (Ax (s.T.map (Ap C.n)))
  qs:Es w B r.qv s.R
  ran:w.ownsRow B 9 1 r.nv s.ran.length (Ax s.ran)
  held:w.ownsRow B 9 1 r.ev s.held.length (Ax s.held)
  us:∃ xs:List Bool,w.ownsRow B 4 1 r.uv s.R.length (xs.map .bool)
  df:∃ xs:List Bool,w.ownsRow B 4 1 r.dv s.R.length (xs.map .bool)/\∀ i:Nat,xs[i]?=some true->NoH ss ts C.n ms (qx s.R i).looks
  ud:∀ b,r.uv.ownBlock=some b->r.dv.ownBlock≠some b
  ap:It [av,kv,r.tx,r.su,r.nv,r.ev]
theorem Es.kept {R:List T3} (k:Es w B v R) (h1:∀ b,v.ownBlock=some b->w'.heap[b]?=w.heap[b]?) (h2:∀(b:Nat) (cs:Array Value) (T:TypeId),(T=128\/T=125)->w.heap[b]?=some (.cells cs T (0,0))->w'.heap[b]?=some (.cells cs T (0,0))):Es w' B v R:=by
  obtain⟨xs,cv,lv,r⟩:=k
  have kk:∀ {e sz n:Nat} {u:Value} {ys:List Value},w.ownsRow B e sz u n ys->(e=128\/e=125)->w'.ownsRow B e sz u n ys:=fun ho he=>Aj ho fun b q=>by
    obtain⟨cs,c1⟩:=Ba ho b q;rw[c1];exact h2 b cs _ he c1
  exact⟨xs,cv,lv,Aj r.row h1,r.fil,fun i hi=>by obtain⟨ys,a,b⟩:=r.code i hi;exact⟨ys,kk a (Or.inl rfl),b⟩,fun i hi=>by obtain⟨ys,a,b⟩:=r.look i hi;exact⟨ys,kk a (Or.inr rfl),b⟩,r.apc,r.apl⟩
section
variable {B h mb:Nat} {C:Ep} {ss:List S2} {ts:List T2} {w w':World} {ms:Mm} {s:Sb} {av kv:Value} {r:Rv}
theorem An (C:Ep) {r:Rv} {u:Value} {b:Nat} (hu:u∈Np r) (q:u.ownBlock=some b):Kf C r b:=Or.inr (Or.inr (Or.inr ⟨u,hu,q⟩))
theorem Nl.kept (k:Nl B h mb C ss ts w ms s av kv r) (h1:∀ b,Kf C r b->w'.heap[b]?=w.heap[b]?) (h2:∀(b:Nat) (cs:Array Value) (T:TypeId),(T=128\/T=125)->w.heap[b]?=some (.cells cs T (0,0))->w'.heap[b]?=some (.cells cs T (0,0))):Nl B h mb C ss ts w' ms s av kv r:=by
  obtain⟨f,f1,f2⟩:=k.sn;obtain⟨xs,u1⟩:=k.us;obtain⟨ys,d1,d2⟩:=k.df;have kk:∀ {e sz n:Nat} {u:Value} {ys:List Value},w.ownsRow B e sz u n ys->u∈Np r->w'.ownsRow B e sz u n ys:=fun ho hu=>Aj ho fun b q=>h1 b (An C hu q);exact⟨k.lb,k.wd,by rw[h1 _ (Or.inl rfl)];exact k.bd,by rw[h1 _ (Or.inr (Or.inl rfl))];exact k.sh,⟨f,f1.same (h1 _ (Or.inr (Or.inr (Or.inl rfl)))),f2⟩,kk k.tx qq,kk k.su qq,k.qs.kept (fun b q=>h1 b (An C (u:=r.qv) qq q)) h2,kk k.ran qq,kk k.held qq,⟨xs,kk u1 qq⟩,⟨ys,kk d1 qq,d2⟩,k.ud,k.ap⟩
theorem Nl.rowT (k:Nl B h mb C ss ts w ms s av kv r) {u:Value} (hu:u∈Np r) {b:Nat} (q:u.ownBlock=some b):B<=b/\∃ cs T,w.heap[b]?=some (.cells cs T (0,0))/\(T=9\/T=97\/T=4):=by
  exact qhh
theorem Nl.lt (k:Nl B h mb C ss ts w ms s av kv r) {b:Nat} (q:Kf C r b):B<=b/\b<w.heap.size:=by
  obtain⟨f,f1,f2⟩:=k.sn
  rcases q with rfl|rfl|rfl|⟨u,hu,q⟩
  · exact⟨k.lb.1,Af k.bd⟩
  · exact⟨k.lb.2.1,Af k.sh⟩
  · exact⟨k.lb.2.2.1,f1.lt⟩
  · obtain⟨hB,cs,T,c1,_⟩:=k.rowT hu q
    exact⟨hB,Af c1⟩
theorem Nl.bl (k:Nl B h mb C ss ts w ms s av kv r) (hb:Bw w w'):Nl B h mb C ss ts w' ms s av kv r:=k.kept (fun b q=>hb.block b (k.lt q).2) (fun b cs T _ q=>by rw[hb.block b (Af q)];exact q)
theorem Nl.far (k:Nl B h mb C ss ts w ms s av kv r) {b:Nat} {T:TypeId} {cs:Array Value} (hb:w.heap[b]?=some (.cells cs T (0,0))) (hT:T≠146/\T≠149/\T≠9/\T≠97/\T≠4):¬ Kf C r b:=by
  obtain⟨f,f1,f2⟩:=k.sn;rintro (rfl|rfl|rfl|⟨u,hu,q⟩)
  · have q:=k.bd;rw[hb] at q;injection q with q;injection q with _ q;exact hT.1 q
  · have q:=k.sh;rw[hb] at q;injection q with q;injection q with _ q;exact hT.2.1 q
  · exact f1.notCells hb
  · obtain⟨_,cs',T',c1,c2⟩:=k.rowT hu q
    rw[hb] at c1;injection c1 with c1;injection c1 with _ c1
    rcases c2 with e|e|e
    · exact hT.2.2.1 (c1.trans e)
    · exact hT.2.2.2.1 (c1.trans e)
    · exact hT.2.2.2.2 (c1.trans e)
theorem Nl.ne9 (k:Nl B h mb C ss ts w ms s av kv r) {b:Nat} (q:av.ownBlock=some b\/kv.ownBlock=some b) (hc:∃ cs,w.heap[b]?=some (.cells cs 9 (0,0))):¬ Kf C r b:=by
  obtain⟨f,f1,f2⟩:=k.sn;obtain⟨cs,hb⟩:=hc;obtain⟨xs,u1⟩:=k.us;obtain⟨ys,d1,d2⟩:=k.df;obtain⟨zs,cv,lv,qr⟩:=k.qs;rintro (rfl|rfl|rfl|⟨u,hu,q2⟩)
  · exact qml
  · exact qmk
  · exact f1.notCells hb
  · have ap:=k.ap
    have aux:∀(i j:Nat) (hi:i<6) (hj:j<6),i≠j->[av,kv,r.tx,r.su,r.nv,r.ev][i].ownBlock=some b->[av,kv,r.tx,r.su,r.nv,r.ev][j].ownBlock≠some b:=fun i j hi hj td=>ap.ne td hi hj b;simp only[Np,List.mem_cons,List.not_mem_nil,or_false] at hu
    rcases hu with rfl|rfl|rfl|rfl|rfl|rfl|rfl
    · exact q.elim (fun q=>aux 0 2 qd qd qd q q2) (fun q=>aux 1 2 qd qd qd q q2)
    · exact q.elim (fun q=>aux 0 3 qd qd qd q q2) (fun q=>aux 1 3 qd qd qd q q2)
    · exact Ad qr.row qd hb q2
    · exact q.elim (fun q=>aux 0 4 qd qd qd q q2) (fun q=>aux 1 4 qd qd qd q q2)
    · exact q.elim (fun q=>aux 0 5 qd qd qd q q2) (fun q=>aux 1 5 qd qd qd q q2)
    · exact Ad u1 qd hb q2
    · exact Ad d1 qd hb q2
theorem Nl.set (k:Nl B h mb C ss ts w ms s av kv r) {b:Nat} {T:TypeId} {cs:Array Value} (hb:w.heap[b]?=some (.cells cs T (0,0))) (hT:T≠146/\T≠149/\T≠9/\T≠97/\T≠4) (hT2:T≠128/\T≠125) (j:Nat) (u:Value):Nl B h mb C ss ts (w.setCell ⟨b,j,none⟩ u) ms s av kv r:=
  k.kept (fun b' q=>hC w ⟨b,j,none⟩ _ b' (fun e=>k.far hb hT (by have e:b'=b:=e;exact e▸q))) (fun b' cs' T' I7 q=>by
    rw[hC w ⟨b,j,none⟩ _ b' (fun e=>by
      have e:=e;subst e;rw[hb] at q;injection q with q;injection q with _ q
      rcases I7 with e|e
      · exact hT2.1 (q.trans e)
      · exact hT2.2 (q.trans e))]
    exact q)
theorem Nl.ext (k:Nl B h mb C ss ts w ms s av kv r) {ms':Mm} (e:Ext ms ms'):Nl B h mb C ss ts w ms' s av kv r:=by
  obtain⟨f,f1,f2⟩:=k.sn;obtain⟨ys,d1,d2⟩:=k.df;exact⟨k.lb,k.wd,k.bd,k.sh,⟨f,f1,f2.ext e⟩,k.tx,k.su,k.qs,k.ran,k.held,k.us,⟨ys,d1,fun i q=>(d2 i q).ext e⟩,k.ud,k.ap⟩
theorem Nl.kp {kk:Nat} {sv tv fv:Value} {mk st:List By} {al:Nat} {vs:By->Value} {ms0:Mm} (k:Nl B h mb C ss ts w ms s av kv r) (m:Ly B h mb kk sv tv fv w ms0 mk st al av kv vs) (hk:KP B h mb av kv w w'):Nl B h mb C ss ts w' ms s av kv r:=by
  obtain⟨n,hn,hm⟩:=m.map;obtain⟨xs,e,ha⟩:=m.ask;refine k.kept (fun b q=>hk.keep b (k.lt q).2 (fun e=>?_) (fun e=>?_) (fun e=>?_) (fun e=>?_)) (fun b cs T hT q=>?_)
  · subst e;exact k.far m.blk qd q
  · subst e
    rcases q with q|q|q|⟨u,hu,q⟩
    · subst q;exact hm.notCells k.bd
    · subst q;exact hm.notCells k.sh
    · exact k.lb.2.2.2 q
    · obtain⟨_,cs,T,c1,_⟩:=k.rowT hu q
      exact hm.notCells c1
  · exact k.ne9 (Or.inl e) (Ba ha b e) q
  · exact k.ne9 (Or.inr e) (Ba m.stk b e) q
  · rw[hk.keep b (Af q) (fun e=>?_) (fun e=>?_) (fun e=>?_) (fun e=>?_)]
    · exact q
    · subst e
      have q2:=m.blk;rw[q] at q2;injection q2 with q2;injection q2 with _ q2
      rcases hT with e|e<;>rw[e] at q2<;>exact absurd q2 qd
    · subst e;exact hm.notCells q
    · exact Ad ha (by rcases hT with e|e<;>rw[e]<;>decide) q e
    · exact Ad m.stk (by rcases hT with e|e<;>rw[e]<;>decide) q e
theorem Nl.l6 (k:Nl B h mb C ss ts w ms s av kv r) (ha:∀ b,av.ownBlock=some b->b<w.heap.size) (hk:∀ b,kv.ownBlock=some b->b<w.heap.size):∀ v∈[av,kv,r.tx,r.su,r.nv,r.ev],∀ b,v.ownBlock=some b->b<w.heap.size:=by
  intro v hv b q;simp only[List.mem_cons,List.not_mem_nil,or_false] at hv
  rcases hv with rfl|rfl|rfl|rfl|rfl|rfl
  · exact ha b q
  · exact hk b q
  · exact(k.tx.lt b q).2
  · exact(k.su.lt b q).2
  · exact(k.ran.lt b q).2
  · exact(k.held.lt b q).2
/-- Another row of names asked for, or being made. -/
theorem Nl.av' (k:Nl B h mb C ss ts w' ms s av kv r) (k0:Nl B h mb C ss ts w ms s av kv r) (ha:∀ b,av.ownBlock=some b->b<w.heap.size) (hk:∀ b,kv.ownBlock=some b->b<w.heap.size) {u:Value} (hu:Ak w av u):Nl B h mb C ss ts w' ms s u kv r:=
  ⟨k.lb,k.wd,k.bd,k.sh,k.sn,k.tx,k.su,k.qs,k.ran,k.held,k.us,k.df,k.ud,It.set k.ap 0 u (by simp) hu (k0.l6 ha hk)⟩
theorem Nl.kv' (k:Nl B h mb C ss ts w' ms s av kv r) (k0:Nl B h mb C ss ts w ms s av kv r) (ha:∀ b,av.ownBlock=some b->b<w.heap.size) (hk:∀ b,kv.ownBlock=some b->b<w.heap.size) {u:Value} (hu:Ak w kv u):Nl B h mb C ss ts w' ms s av u r:=
  ⟨k.lb,k.wd,k.bd,k.sh,k.sn,k.tx,k.su,k.qs,k.ran,k.held,k.us,k.df,k.ud,It.set k.ap 1 u (by simp) hu (k0.l6 ha hk)⟩
theorem Ly.kr {kk:Nat} {sv tv fv:Value} {mk st:List By} {al:Nat} {vs:By->Value} {ms0:Mm} (m:Ly B h mb kk sv tv fv w ms0 mk st al av kv vs) (k:Nl B h mb C ss ts w ms s av kv r) (hk:∀ b,b<w.heap.size->¬ Kf C r b->w'.heap[b]?=w.heap[b]?):Ly B h mb kk sv tv fv w' ms0 mk st al av kv vs:=by
  obtain⟨n,hn,hm⟩:=m.map;obtain⟨xs,e,ha⟩:=m.ask;refine m.kept fun b q=>hk b (m.lt q) ?_
  rcases q with rfl|rfl|q|q
  · exact k.far m.blk qd
  · rintro (q|q|q|⟨u,hu,q⟩)
    · subst q;exact hm.notCells k.bd
    · subst q;exact hm.notCells k.sh
    · exact k.lb.2.2.2 q
    · obtain⟨_,cs,T,c1,_⟩:=k.rowT hu q
      exact hm.notCells c1
  · exact k.ne9 (Or.inl q) (Ba ha b q)
  · exact k.ne9 (Or.inr q) (Ba m.stk b q)
end
def slen:Value->Nat
  | .slice _ n _=>n
  | _=>0
def Ky (v:Value) (w w':World):Prop:=∀ g l cp (cs:Array Value),v=.slice (p_ g) l cp->w.heap[g]?=some (.cells cs 97 (0,0))->∃ cs',w'.heap[g]?=some (.cells cs' 97 (0,0))/\∀ j,j<l*3->cs'[j]?=cs[j]?
structure KQ (B h mb:Nat) (C:Ep) (av kv:Value) (r r':Rv) (w w':World):Prop where
  bel:Below B w w'
  keep:∀ b,b<w.heap.size->b≠h->b≠mb->av.ownBlock≠some b->kv.ownBlock≠some b->¬ Kf C r b->w'.heap[b]?=w.heap[b]?
  new:∀ b,Kf C r' b->Kf C r b\/w.heap.size<=b
  old:Ky r.qv w w'
  len:slen r.qv<=slen r'.qv
structure BS (B h mb k:Nat) (C:Ep) (sv tv:Value) (ss:List S2) (ts:List T2) (w:World) (ms:Mm) (mk st:List By) (al:Nat) (av kv:Value) (vs:By->Value) (s:Sb) (r:Rv):Prop where
  mkr:Ly B h mb k sv tv (fvC C) w ms mk st al av kv vs
  rs:Nl B h mb C ss ts w ms s av kv r
abbrev Kz (B h mb:Nat) (C:Ep) (sv tv:Value) (ss:List S2) (ts:List T2) (w:World) (ms:Mm) (st:List By) (av kv:Value) (vs:By->Value) (s:Sb) (r:Rv):Prop:=BS B h mb 0 C sv tv ss ts w ms st st (ms.length+st.length) av kv vs s r
def TyO (T:TypeId):Prop:=T≠185/\T≠146/\T≠149/\T≠9/\T≠97/\T≠4/\T≠128/\T≠125
instance (T:TypeId):Decidable (TyO T):=by unfold TyO;infer_instance
section
variable {B h mb k:Nat} {C:Ep} {sv tv:Value} {ss:List S2} {ts:List T2} {w w':World} {ms:Mm} {mk st:List By} {al:Nat} {av kv:Value} {vs:By->Value} {s:Sb} {r r' r'':Rv}
theorem BS.bl (q:BS B h mb k C sv tv ss ts w ms mk st al av kv vs s r) (hb:Bw w w'):BS B h mb k C sv tv ss ts w' ms mk st al av kv vs s r:=⟨q.mkr.bl hb,q.rs.bl hb⟩
theorem BS.le {k':Nat} (q:BS B h mb k C sv tv ss ts w ms mk st al av kv vs s r) (hk:k'<=k):BS B h mb k' C sv tv ss ts w ms mk st al av kv vs s r:=⟨q.mkr.le hk,q.rs⟩
theorem BS.set (q:BS B h mb k C sv tv ss ts w ms mk st al av kv vs s r) {b:Nat} {T:TypeId} {cs:Array Value} (hb:w.heap[b]?=some (.cells cs T (0,0))) (hT:TyO T) (j:Nat) (u:Value):BS B h mb k C sv tv ss ts (w.setCell ⟨b,j,none⟩ u) ms mk st al av kv vs s r:=
  ⟨q.mkr.set hb hT.1 hT.2.2.2.1 j u,q.rs.set hb ⟨hT.2.1,hT.2.2.1,hT.2.2.2.1,hT.2.2.2.2.1,hT.2.2.2.2.2.1⟩ hT.2.2.2.2.2.2 j u⟩
theorem BS.ownA (q:BS B h mb k C sv tv ss ts w ms mk st al av kv vs s r):(∀ b,av.ownBlock=some b->b<w.heap.size)/\(∀ b,kv.ownBlock=some b->b<w.heap.size):=⟨fun b e=>q.mkr.lt (by simp[e]),fun b e=>q.mkr.lt (by simp[e])⟩
theorem BS.noneA (q:BS B h mb k C sv tv ss ts w ms mk st al av kv vs s r) {b:Nat} {T:TypeId} {cs:Array Value} (hb:w.heap[b]?=some (.cells cs T (0,0))) (hT:TyO T):b≠h/\b≠mb/\av.ownBlock≠some b/\kv.ownBlock≠some b/\¬ Kf C r b:=
  ⟨fun e=>q.mkr.far hb hT.1 hT.2.2.2.1 (Or.inl e) rfl,fun e=>q.mkr.far hb hT.1 hT.2.2.2.1 (Or.inr (Or.inl e)) rfl,fun e=>q.mkr.far hb hT.1 hT.2.2.2.1 (Or.inr (Or.inr (Or.inl e))) rfl,fun e=>q.mkr.far hb hT.1 hT.2.2.2.1 (Or.inr (Or.inr (Or.inr e))) rfl,q.rs.far hb ⟨hT.2.1,hT.2.2.1,hT.2.2.2.1,hT.2.2.2.2.1,hT.2.2.2.2.2.1⟩⟩
theorem KQ.blk (K:KQ B h mb C av kv r r' w w') (q:BS B h mb k C sv tv ss ts w ms mk st al av kv vs s r) {b:Nat} {T:TypeId} {cs:Array Value} (hb:w.heap[b]?=some (.cells cs T (0,0))) (hT:TyO T):w'.heap[b]?=some (.cells cs T (0,0)):=by
  obtain⟨n1,n2,n3,n4,n5⟩:=q.noneA hb hT;rw[K.keep b (Af hb) n1 n2 n3 n4 n5];exact hb
theorem Ky.same {v:Value} {w w':World} (h:∀ b,v.ownBlock=some b->w'.heap[b]?=w.heap[b]?):Ky v w w':=fun g l cp cs e hb=>⟨cs,by rw[h g (by rw[e];rfl)];exact hb,fun _ _=>rfl⟩
theorem KQ.of_below (q:BS B h mb k C sv tv ss ts w ms mk st al av kv vs s r) (hb:Bw w w') (hB:B<=w.heap.size):KQ B h mb C av kv r r w w':=⟨hb.mono hB,fun b hl _ _ _ _ _=>hb.block b hl,fun _ h=>Or.inl h,Ky.same fun b e=>hb.block b (q.rs.lt (An C (u:=r.qv) qq e)).2,Nat.le_refl _⟩
theorem KQ.of_kp (q:BS B h mb k C sv tv ss ts w ms mk st al av kv vs s r) (hk:KP B h mb av kv w w'):KQ B h mb C av kv r r w w':=by
  refine⟨hk.bl,fun b hl h1 h2 h3 h4 _=>hk.keep b hl h1 h2 h3 h4,fun _ h=>Or.inl h,Ky.same fun b e=>?_,Nat.le_refl _⟩;have ow:Kf C r b:=An C (u:=r.qv) qq e;have hl:=(q.rs.lt ow).2;obtain⟨xs,cv,lv,qr⟩:=q.rs.qs;obtain⟨cs,c1⟩:=Ba qr.row b e;exact hk.keep b hl (fun e'=>q.mkr.far c1 qd qd (Or.inl e') rfl) (fun e'=>q.mkr.far c1 qd qd (Or.inr (Or.inl e')) rfl) (fun e'=>q.mkr.far c1 qd qd (Or.inr (Or.inr (Or.inl e'))) rfl) (fun e'=>q.mkr.far c1 qd qd (Or.inr (Or.inr (Or.inr e'))) rfl)
theorem KQ.trans {w1 w2:World} {av1 kv1:Value} (K:KQ B h mb C av kv r r' w w1) (ha:Ak w av av1) (hk:Ak w kv kv1) (q:BS B h mb k C sv tv ss ts w1 ms mk st al av1 kv1 vs s r') (L:KQ B h mb C av1 kv1 r' r'' w1 w2):KQ B h mb C av kv r r'' w w2:=by
  have hs:=K.bel.size;refine⟨K.bel.trans L.bel,fun b hl h1 h2 h3 h4 h5=>?_,fun b e=>?_,fun g l cp cs e hb=>?_,Nat.le_trans K.len L.len⟩
  · rw[L.keep b qb h1 h2 (fun e=>by rcases ha b e with q|q;exact h3 q;omega) (fun e=>by rcases hk b e with q|q;exact h4 q;omega) (fun e=>by rcases K.new b e with q|q;exact h5 q;omega)]
    exact K.keep b hl h1 h2 h3 h4 h5
  · rcases L.new b e with q|q
    · exact K.new b q
    · exact Or.inr qb
  · obtain⟨I8,b1,c1⟩:=K.old g l cp cs e hb
    by_cases ow:r'.qv.ownBlock=some g
    · obtain⟨xs,cv,lv,qr⟩:=q.rs.qs
      have hr:=qr.row
      rcases hr.2 with ⟨e0,_⟩|⟨g1,cp1,cur,e1,_⟩
      · rw[e0] at ow;simp[Value.ownBlock] at ow
      · rw[e1] at ow
        simp[Value.ownBlock] at ow;subst ow;obtain⟨cs2,b2,c2⟩:=L.old g1 _ cp1 I8 e1 b1;have dh:=K.len;rw[e,e1] at dh;simp only[slen] at dh;exact⟨cs2,b2,fun j hj=>(c2 j qb).trans (c1 j hj)⟩
    · refine⟨I8,?_,c1⟩
      rw[L.keep g (Af b1) (fun e'=>q.mkr.far b1 qd qd (Or.inl e') rfl) (fun e'=>q.mkr.far b1 qd qd (Or.inr (Or.inl e')) rfl) (fun e'=>q.mkr.far b1 qd qd (Or.inr (Or.inr (Or.inl e'))) rfl) (fun e'=>q.mkr.far b1 qd qd (Or.inr (Or.inr (Or.inr e'))) rfl) ?_]
      · exact b1
      · rintro (q2|q2|q2|⟨u,hu,q2⟩)
        · subst q2;have q:=q.rs.bd;rw[b1] at q;injection q with q;injection q with _ q;exact absurd q qd
        · subst q2;have q:=q.rs.sh;rw[b1] at q;injection q with q;injection q with _ q;exact absurd q qd
        · subst q2;obtain⟨f,f1,_⟩:=q.rs.sn;exact f1.notCells b1
        · obtain⟨xs,u1⟩:=q.rs.us
          obtain⟨ys,d1,d2⟩:=q.rs.df;simp only[Np,List.mem_cons,List.not_mem_nil,or_false] at hu
          rcases hu with rfl|rfl|rfl|rfl|rfl|rfl|rfl
          · exact Ad q.rs.tx qd b1 q2
          · exact Ad q.rs.su qd b1 q2
          · exact ow q2
          · exact Ad q.rs.ran qd b1 q2
          · exact Ad q.rs.held qd b1 q2
          · exact Ad u1 qd b1 q2
          · exact Ad d1 qd b1 q2
theorem KQ.after {w1 w2:World} {av1 kv1:Value} (K:KQ B h mb C av kv r r' w w1) (ha:Ak w av av1) (hk:Ak w kv kv1) (q:BS B h mb k C sv tv ss ts w1 ms mk st al av1 kv1 vs s r') (hb:Bw w1 w2) (hB:B<=w1.heap.size):KQ B h mb C av kv r r' w w2:=K.trans ha hk q (KQ.of_below q hb hB)
end
def clA:Gd->ByteArray
  | .clash A _=>A
  | _=>⟨#[]⟩
def clB:Gd->ByteArray
  | .clash _ B=>B
  | _=>⟨#[]⟩
def Db (B:Nat) (C:Ep) (w:World) (b:Gd) (v:Value):Prop:=w.cell? ⟨C.hb,8,none⟩=some (.string (clA b))/\w.cell? ⟨C.hb,9,none⟩=some (.string (clB b))/\
  match b with
  | .circle ch=>∃ ca cn cc,v=.agg #[I 6,ze,.slice ca cn cc]/\w.ownsRow B 9 1 (.slice ca cn cc) ch.length (Ax ch)
  | .deep nm=>v=.agg #[I 7,.string nm,nS]
  | .clash _ _=>v=.agg #[I 10,ze,nS]
  | .full=>v=.agg #[I 11,ze,nS]
theorem Db.bl {C:Ep} {b:Gd} (h:Db B C w b v) (hb:Bw w w'):Db B C w' b v:=by
  obtain⟨h1,h2,h3⟩:=h;refine⟨Aa hb h1,Aa hb h2,?_⟩
  cases b with
  | circle ch=>obtain⟨ca,cn,cc,e,ho⟩:=h3;exact⟨ca,cn,cc,e,Ac ho hb⟩
  | deep nm=>exact h3
  | clash A B=>exact h3
  | full=>exact h3
structure Fd (ss:List S2) (ts:List T2) (n:Nat) (ms:Mm) (s:Sb) (st:List By) (sn c:Nat):Prop where
  inv:Fv ss ts ms st
  ok:Kl n s
  ml:ms.length+c<=400200*Dd ts ms st
  cn:Ki ts ms s st
  sl:sn+c<=400200*Dd ts ms st
theorem Fd.le {c c':Nat} (h:Fd ss ts n ms s st sn c) (hc:c'<=c):Fd ss ts n ms s st sn c':=⟨h.inv,h.ok,by have:=h.ml;omega,h.cn,by have:=h.sl;omega⟩
theorem Fd.step {c d:Nat} {j:BJ} {a:BA} (hv:SpV ss ts) (h:Fd ss ts n ms s st sn c) (hb:Bc ss ts n ms s st j ms' s' a) (hj:JobB s j) (ha:∀ b,a≠.bad b) (hz:Wq j=0) (hd:Ol j<=d) (hc:d<=c) (l8:sn'+400200*Dd ts ms st<=sn+d+400200*Dd ts ms' st):Fd ss ts n ms' s' st sn' (c-d):=by
  obtain⟨k1,k2,_,_⟩:=hb.inv hv h.inv h.ok hj ha;have k3:=hb.cost hv h.inv h.ok hj ha;have h1:=h.ml;have h2:=h.sl;exact⟨k1,k2,qb,hb.cntM hv h.inv h.ok hj ha hz h.cn,qb⟩
theorem Fd.small {c:Nat} (h:Fd ss ts n ms s st sn c) (hl:ts.length<=200):ms.length<=80040000/\sn<=80040000/\st.length<=200/\s.ran.length+s.held.length<=200:=by
  have h1:=h.ml;have h2:=h.sl;have h3:=h.cn;have h4:=Mf ts ms st;unfold Ki at h3;omega
def My (B h mb:Nat) (C:Ep) (sv tv:Value) (ss:List S2) (ts:List T2) (ms:Mm) (s:Sb) (st:List By) (av kv:Value) (vs:By->Value) (r:Rv) (nm:By) (rt:Md->(By->Value)->Value) (w:World) (e:Ending) (w':World):Prop:=
  ∃ ms' s' a,Bc ss ts C.n ms s st (.make nm) ms' s' a/\
    ((∃ d av' kv' vs' r',a=.ok d/\e=.returned (rt d vs')/\Kz B h mb C sv tv ss ts w' ms' st av' kv' vs' s' r'/\KQ B h mb C av kv r r' w w'/\Ak w av av'/\Ak w kv kv'/\r'.sn+400200*Dd ts ms st<=r.sn+400200*Dd ts ms' st)\/
     (∃ b v r',a=.bad b/\e=Kq v/\Db B C w' b v/\KQ B h mb C av kv r r' w w'))
def Gx (W0:World) (h mb:Nat) (C:Ep) (sv tv:Value) (ss:List S2) (ts:List T2) (st:List By):Prop:=
  ∀(w:World) (ms:Mm) (nm:By) (av kv:Value) (vs:By->Value) (s:Sb) (r:Rv),Kz W0.heap.size h mb C sv tv ss ts w ms st av kv vs s r->Fd ss ts C.n ms s st r.sn 0->Am nm->Bw W0 w->
    Calls prog 131 #[.pointer (p_ h),.string nm] w fun e w'=>My W0.heap.size h mb C sv tv ss ts ms s st av kv vs r nm (fun d vs'=>Ey d (vs' nm)) w e w'
noncomputable def lookV (ss:List S2) (ts:List T2) (nm:By) (d:Md):Value:=.tuple #[.agg #[.bool (Cb ss ts nm),I d.c,.string d.t],.string (Bk d.c d.t)]
theorem Xa (W0:World) (h mb k:Nat) (C:Ep) (sa ta:Option Addr) (c1 c2:Nat) (ss:List S2) (ts:List T2) (ms:Mm) (mk st:List By) (al:Nat) (av kv:Value) (vs:By->Value) (s:Sb) (r:Rv) (nm:By) (w:World) (hE:Ir W0 sa ta ss ts) (q:BS W0.heap.size h mb k C (.slice sa ss.length c1) (.slice ta ts.length c2) ss ts w ms mk st al av kv vs s r) (hW:Bw W0 w) :
    Calls prog 149 #[.pointer (p_ h),.string nm,.bool false] w fun e w'=>e=.returned (.tuple #[.agg #[.bool (Cb ss ts nm),I 0,ze],.string (Co (Cb ss ts nm))])/\Bw w w':=by
  obtain⟨W,eW⟩:=Ai (w.alloc (.cells #[.bool false,I 0,ze] 169));have bn:Bw w W:=qaz
  have HR:Hd (W.heap[w.heap.size]?=some (.cells #[.bool false,I 0,ze] 169 (0,0))):=by
    exact qbl
  obtain⟨x0,x1,_⟩:=(q.mkr.bl bn).cells;have D7:=Qag sa ta c1 c2 ss ts nm W0 W hE (hW.trans (bn.mono hW.size));have HB:=hid bn;generalize Cb ss ts nm=tb at D7 ⊢;have HT:=hid D7;obtain⟨f,ef⟩:=Ai (Co tb);have HF:Hd (∀ V:World,Calls prog 164 #[.bool tb] V fun e w'=>e=.returned (.string f)/\V=w'):=fun V=>by rw[<- ef];exact Qj tb V
  rw[ef];clear ef D7 q hW hE bn;go_enter func149,ntmps149;go_wp2_with fail;refine HT.o.mono ?_;rintro e w3 ⟨aw,rfl⟩;have ig:=hid (Ab aw HR.o);have fk:=hid (Ay HB.o aw);obtain⟨z0,z1,z2,zf⟩:=Ea ig.o;clear aw HR HT x0 x1
  go_wp2_with (first|(go_at_call 164;refine(HF.o _).mono ?_;rintro e w4 ⟨rfl,rfl⟩))
  obtain⟨y0,y1,y2,_⟩:=Ea (Bi ig.o (.bool tb) (I 0) ze);exact bR (v:=.tuple #[.agg #[.bool tb,I 0,ze],.string f]) (by simp[results,results149,go_sem,y0,y1,y2]) rfl ⟨rfl,Gc fk.o (Nat.le_refl _) _ _ _⟩
theorem BS.set3 {mb:Nat} {C:Ep} {mk:List By} {r:Rv} (q:BS B h mb k C sv tv ss ts w ms mk st al av kv vs s r) (hb:w.heap[b]?=some (.cells #[u0,u1,u2] T (0,0))) (hT:TyO T) (v0 v1 v2:Value):BS B h mb k C sv tv ss ts (((w.setCell ⟨b,0,none⟩ v0).setCell ⟨b,1,none⟩ v1).setCell ⟨b,2,none⟩ v2) ms mk st al av kv vs s r:=by
  have h1:=q.set hb hT 0 v0;have b1:(w.setCell ⟨b,0,none⟩ v0).heap[b]?=_:=jB hb v0;have h2:=h1.set b1 hT 1 v1;have b2:((w.setCell ⟨b,0,none⟩ v0).setCell ⟨b,1,none⟩ v1).heap[b]?=_:=jB b1 v1;exact h2.set b2 hT 2 v2
theorem BS.set6 {mb:Nat} {C:Ep} {mk:List By} {r:Rv} (q:BS B h mb k C sv tv ss ts w ms mk st al av kv vs s r) (hb:w.heap[b]?=some (.cells #[u0,u1,u2,u3,u4,u5] T (0,0))) (hT:TyO T) (v0 v1 v2 v3 v4 v5:Value):BS B h mb k C sv tv ss ts ((((((w.setCell ⟨b,0,none⟩ v0).setCell ⟨b,1,none⟩ v1).setCell ⟨b,2,none⟩ v2).setCell ⟨b,3,none⟩ v3).setCell ⟨b,4,none⟩ v4).setCell ⟨b,5,none⟩ v5) ms mk st al av kv vs s r:=by
  have h1:=q.set hb hT 0 v0;have b1:(w.setCell ⟨b,0,none⟩ v0).heap[b]?=_:=jB hb v0;have h2:=h1.set b1 hT 1 v1;have b2:((w.setCell ⟨b,0,none⟩ v0).setCell ⟨b,1,none⟩ v1).heap[b]?=_:=jB b1 v1;have h3:=h2.set b2 hT 2 v2;have b3:(((w.setCell ⟨b,0,none⟩ v0).setCell ⟨b,1,none⟩ v1).setCell ⟨b,2,none⟩ v2).heap[b]?=_:=jB b2 v2;have h4:=h3.set b3 hT 3 v3;have b4:((((w.setCell ⟨b,0,none⟩ v0).setCell ⟨b,1,none⟩ v1).setCell ⟨b,2,none⟩ v2).setCell ⟨b,3,none⟩ v3).heap[b]?=_:=jB b3 v3;have h5:=h4.set b4 hT 4 v4;have b5:(((((w.setCell ⟨b,0,none⟩ v0).setCell ⟨b,1,none⟩ v1).setCell ⟨b,2,none⟩ v2).setCell ⟨b,3,none⟩ v3).setCell ⟨b,4,none⟩ v4).heap[b]?=_:=jB b4 v4;exact h5.set b5 hT 5 v5
theorem KQ.setX {mb:Nat} {C:Ep} {r r':Rv} (K:KQ B h mb C av kv r r' w w1) {u:Value} (hB:B<=b) (hn:w.heap.size<=b):KQ B h mb C av kv r r' w (w1.setCell ⟨b,j,none⟩ u):=
  ⟨K.bel.setCell (p:=⟨b,j,none⟩) hB _,fun b' hl h1 h2 h3 h4 h5=>by rw[hC w1 ⟨b,j,none⟩ _ b' (show b'≠b from qb)];exact K.keep b' hl h1 h2 h3 h4 h5,K.new,fun g l cp cs e hb=>by
    obtain⟨I8,b1,c1⟩:=K.old g l cp cs e hb;exact⟨I8,by rw[hC w1 ⟨b,j,none⟩ _ g (show g≠b by have:=Af hb;omega)];exact b1,c1⟩,K.len⟩
theorem KQ.set3 {mb:Nat} {C:Ep} {r r':Rv} (K:KQ B h mb C av kv r r' w w1) (hB:B<=b) (hn:w.heap.size<=b) (v0 v1 v2:Value):KQ B h mb C av kv r r' w (((w1.setCell ⟨b,0,none⟩ v0).setCell ⟨b,1,none⟩ v1).setCell ⟨b,2,none⟩ v2):=((K.setX hB hn).setX hB hn).setX hB hn
theorem KQ.set6 {mb:Nat} {C:Ep} {r r':Rv} (K:KQ B h mb C av kv r r' w w1) (hB:B<=b) (hn:w.heap.size<=b) (v0 v1 v2 v3 v4 v5:Value):KQ B h mb C av kv r r' w ((((((w1.setCell ⟨b,0,none⟩ v0).setCell ⟨b,1,none⟩ v1).setCell ⟨b,2,none⟩ v2).setCell ⟨b,3,none⟩ v3).setCell ⟨b,4,none⟩ v4).setCell ⟨b,5,none⟩ v5):=(((((K.setX hB hn).setX hB hn).setX hB hn).setX hB hn).setX hB hn).setX hB hn
theorem Xb (W0:World) (h mb:Nat) (C:Ep) (sa ta:Option Addr) (c1 c2:Nat) (ss:List S2) (ts:List T2) (ms:Mm) (st:List By) (av kv:Value) (vs:By->Value) (s:Sb) (r:Rv) (nm:By) (w:World) (hE:Ir W0 sa ta ss ts) (q:Kz W0.heap.size h mb C (.slice sa ss.length c1) (.slice ta ts.length c2) ss ts w ms st av kv vs s r) (hW:Bw W0 w) (hU:Gx W0 h mb C (.slice sa ss.length c1) (.slice ta ts.length c2) ss ts st) (hP:Fd ss ts C.n ms s st r.sn 0) (cr:Am nm) :
    Calls prog 149 #[.pointer (p_ h),.string nm,.bool true] w fun e w'=>My W0.heap.size h mb C (.slice sa ss.length c1) (.slice ta ts.length c2) ss ts ms s st av kv vs r nm (fun d _=>lookV ss ts nm d) w e w':=by
  obtain⟨W,eW⟩:=Ai (w.alloc (.cells #[.bool false,I 0,ze] 169));have bn:Bw w W:=qaz;have hB:=hW.size
  have HR:Hd (W.heap[w.heap.size]?=some (.cells #[.bool false,I 0,ze] 169 (0,0))):=by
    exact qbl
  obtain⟨x0,x1,_⟩:=(q.mkr.bl bn).cells;have D7:=Qag sa ta c1 c2 ss ts nm W0 W hE (hW.trans (bn.mono hW.size));have HB:=hid bn;have HU:Hd (∀ V,Bw w V->Calls prog 131 #[.pointer (p_ h),.string nm] V fun e w'=>My W0.heap.size h mb C (.slice sa ss.length c1) (.slice ta ts.length c2) ss ts ms s st av kv vs r nm (fun d vs'=>Ey d (vs' nm)) V e w'):=fun V hV=>hU V ms nm av kv vs s r (q.bl hV) hP cr (hW.trans (hV.mono hB));have HS:=hid q;unfold My lookV;obtain⟨tb,etb⟩:=Ai (Cb ss ts nm);rw[etb] at D7 ⊢;have HT:=hid D7;clear etb D7 q hW hE bn hU hP cr;go_enter func149,ntmps149;go_wp2_with fail;refine HT.o.mono ?_;rintro e w3 ⟨aw,rfl⟩;have ig:=hid (Ab aw HR.o);have fk:=hid (Ay HB.o aw);have hlt3:=Af ig.o;clear aw HR HT x0 x1;go_wp2_with fail;refine(HU.o w3 fk.o).mono ?_;rintro e w4 ⟨ms',s',an,bi,⟨d,av',kv',vs',r',rfl,rfl,A3,oc,ha4,If,l8⟩|⟨b,v,r',rfl,rfl,hf,oc⟩⟩
  · have q3:=HS.o.bl fk.o
    have mi:w4.heap[w.heap.size]?=some (.cells #[.bool false,I 0,ze] 169 (0,0)):=oc.blk q3 ig.o qd;have Gt:Hd (KQ W0.heap.size h mb C av kv r r' w w4):=(KQ.of_below HS.o fk.o hB).trans (Ak.refl _ _) (Ak.refl _ _) q3 oc;have hws:=fk.o.size;have HRW:Hd (Ak w av av'/\Ak w kv kv'/\r'.sn+400200*Dd ts ms st<=r.sn+400200*Dd ts ms' st):=⟨fun b q=>(ha4 b q).imp id (fun q=>qb),fun b q=>(If b q).imp id (fun q=>qb),l8⟩;have zv:=hid bi;obtain⟨dc,dt,dls⟩:=d;obtain⟨fo,efo⟩:=Ai (Bk dc dt);have EF:=hid efo;unfold Ey;simp only[efo];obtain⟨la,ln,lc,hlv⟩:=A3.mkr.vsl nm;rw[hlv];obtain⟨V,eV⟩:=Ai (w4.alloc (.cells #[.bool true,I dc,.string dt,nS,.string fo,.slice la ln lc] 187));obtain⟨U,eU⟩:=Ai V.drew;(have bm:Bw w4 U:=by rw[<- eU,<- eV];exact(Ag _ _).drew);have dw:=hid (A3.bl bm);have jw:Hd (KQ W0.heap.size h mb C av kv r r' w U):=Gt.o.after HRW.o.1 HRW.o.2.1 A3 bm (zo Gt.o.bel.size)
    have HMU:Hd (U.heap[w4.heap.size]?=some (.cells #[.bool true,I dc,.string dt,nS,.string fo,.slice la ln lc] 187 (0,0))):=by
      show _=_;rw[<- eU,<- eV];exact Be _ _
    have ky:=hid (Ab bm mi);obtain⟨⟨m0,m1,m2,m3,m4,m5⟩,mf⟩:=Rl HMU.o;obtain⟨z0,z1,z2,zf⟩:=Ea ky.o;have hne4:¬ w4.heap.size=w.heap.size:=zo (Af mi);have hne5:¬ w.heap.size=w4.heap.size:=qb;clear bm A3 oc mi ha4 If bi efo hlv Gt l8 q3
    go_upto_region 5 with fail
    clear eV;go_region;clear eU;go_wp2_with fail;obtain⟨y0,y1,y2,_⟩:=Ea (Bi ky.o (.bool tb) (I dc) (.string dt));refine bR (v:=.tuple #[.agg #[.bool tb,I dc,.string dt],.string (Bk dc dt)]) (by simp[results,results149,go_sem,y0,y1,y2,EF.o]) rfl ⟨ms',s',_,zv.o,Or.inl ⟨_,av',kv',vs',r',rfl,rfl,dw.o.set3 ky.o qd _ _ _,jw.o.set3 qb (Nat.le_refl _) _ _ _,HRW.o.1,HRW.o.2.1,HRW.o.2.2⟩⟩
  · unfold Kq
    dsimp only;have q3:=HS.o.bl fk.o;have Gt:Hd (KQ W0.heap.size h mb C av kv r r' w w4):=(KQ.of_below HS.o fk.o hB).trans (Ak.refl _ _) (Ak.refl _ _) q3 oc;have vi:Hd (Bc ss ts C.n ms s st (.make nm) ms' s' (.bad b)/\Db W0.heap.size C w4 b v):=⟨bi,hf⟩;clear oc bi hf q3;go_wp2_with fail;exact⟨rfl,ms',s',_,vi.o.1,Or.inr ⟨b,v,r',rfl,rfl,vi.o.2,Gt.o⟩⟩
def TyB (T:TypeId):Prop:=T=185\/T=146\/T=149\/T=97\/T=4\/T=128\/T=125
section
variable {B h mb k:Nat} {C:Ep} {sv tv:Value} {ss:List S2} {ts:List T2} {w w':World} {ms:Mm} {mk st:List By} {al:Nat} {av kv:Value} {vs:By->Value} {s:Sb} {r:Rv}
theorem BS.kept (q:BS B h mb k C sv tv ss ts w ms mk st al av kv vs s r) (hc:∀(b:Nat) (cs:Array Value) (T:TypeId),TyB T->w.heap[b]?=some (.cells cs T (0,0))->w'.heap[b]?=some (.cells cs T (0,0))) (hm:w'.heap[mb]?=w.heap[mb]?) (hs:w'.heap[C.sb]?=w.heap[C.sb]?) (h9:∀(b:Nat) (cs:Array Value),(av.ownBlock=some b\/kv.ownBlock=some b\/Kf C r b)->w.heap[b]?=some (.cells cs 9 (0,0))->w'.heap[b]?=some (.cells cs 9 (0,0))):BS B h mb k C sv tv ss ts w' ms mk st al av kv vs s r:=by
  obtain⟨xs,e,ha⟩:=q.mkr.ask;refine⟨q.mkr.kept ?_,q.rs.kept ?_ (fun b cs T hT hb=>hc b cs T (by rcases hT with e|e<;>simp[TyB,e]) hb)⟩
  · rintro b (rfl|rfl|o|o)
    · rw[q.mkr.blk];exact hc _ _ 185 (by simp[TyB]) q.mkr.blk
    · exact hm
    · obtain⟨cs,c1⟩:=Ba ha b o;rw[c1];exact h9 b cs (Or.inl o) c1
    · obtain⟨cs,c1⟩:=Ba q.mkr.stk b o;rw[c1];exact h9 b cs (Or.inr (Or.inl o)) c1
  · intro b o
    have o0:=o
    rcases o with rfl|rfl|rfl|⟨u,hu,o⟩
    · rw[q.rs.bd];exact hc _ _ 146 (by simp[TyB]) q.rs.bd
    · rw[q.rs.sh];exact hc _ _ 149 (by simp[TyB]) q.rs.sh
    · exact hs
    · obtain⟨_,cs,T,c1,c2⟩:=q.rs.rowT hu o
      rw[c1]
      rcases c2 with rfl|rfl|rfl
      · exact h9 b cs (Or.inr (Or.inr o0)) c1
      · exact hc b cs 97 (by simp[TyB]) c1
      · exact hc b cs 4 (by simp[TyB]) c1
end
def Qax (r:Rv) (b:Nat):Prop:=∃ u∈Np r,u.ownBlock=some b
theorem Nl.row9 {mb:Nat} {C:Ep} {r:Rv} (k:Nl B h mb C ss ts w ms s av kv r) (hb:w.heap[b]?=some (.cells cs 9 (0,0))) (o:Kf C r b):Qax r b:=by
  obtain⟨f,f1,_⟩:=k.sn
  rcases o with rfl|rfl|rfl|o
  · exact qml
  · exact qmk
  · exact absurd hb (fun q=>f1.notCells q)
  · exact o
structure RB (W0:World) (h mb:Nat) (C:Ep) (sv tv cd:Value) (ss:List S2) (ts:List T2) (is:List I3) (w:World) (ms:Mm) (s:Sb) (st:List By) (av kv:Value) (r:Rv) (Bm m T X R:Nat)
    (ys:List R3) (ls:List G3) (m1:Mm) (s1:Sb) (av1 kv1:Value) (vs1:By->Value) (r1:Rv) (lv:Value) (ov:Bool) (c:Int) (t:By) (ask:Bool) (nm:By) (stp:Int) (wr:World):Prop where
  ma:Kz W0.heap.size h mb C sv tv ss ts wr m1 st av1 kv1 vs1 s1 r1
  pre:Fd ss ts C.n m1 s1 st r1.sn (200-ys.length)
  ln:ys.length<=200
  ro:Ft is ys ls
  lok:Lz ls
  dd:∀ ms' s' a,Bc ss ts C.n m1 s1 st (.run is ys ls) ms' s' a->Bc ss ts C.n ms s st (.run is [] []) ms' s' a
  sn:r1.sn+400200*Dd ts ms st<=r.sn+400200*Dd ts m1 st
  gn:Gn is ys Bm m T cd ov c t ask nm stp wr
  tb:wr.heap[X]?=some (.cells #[.bool ov,I c,.string t,.bool ask,.string nm,I stp] 165 (0,0))
  rb:wr.heap[R]?=some (.cells #[I 0,ze,nS] 105 (0,0))
  lo:wr.ownsRow w.heap.size 172 3 lv ls.length (Ou ls)
  kp:KQ W0.heap.size h mb C av kv r r1 w wr
  ra:Ak w av av1
  rk:Ak w kv kv1
  no:ov=false->∀ b,(av1.ownBlock=some b\/kv1.ownBlock=some b\/Qax r1 b)->Fg wr m b
structure RCB (W0:World) (h mb:Nat) (C:Ep) (w:World) (Bm m T X R:Nat):Prop where
  h1:W0.heap.size<=w.heap.size
  h2:h<w.heap.size
  h3:mb<w.heap.size
  h9:C.sb<w.heap.size
  h4:w.heap.size<=Bm
  h5:X≠T
  h6:w.heap.size<=X
  h7:w.heap.size<=R
  h8:X≠m
section
variable {W0:World} {h mb:Nat} {C:Ep} {sv tv cd:Value} {ss:List S2} {ts:List T2} {is:List I3} {w:World} {ms:Mm} {s:Sb} {st:List By} {av kv:Value} {r:Rv} {Bm m T X R:Nat}
  {ys:List R3} {ls:List G3} {m1:Mm} {s1:Sb} {av1 kv1:Value} {vs1:By->Value} {r1:Rv} {lv:Value} {ov:Bool} {c:Int} {t:By} {ask:Bool} {nm:By} {stp:Int} {wr:World}
theorem RB.bl {w':World} (q:RB W0 h mb C sv tv cd ss ts is w ms s st av kv r Bm m T X R ys ls m1 s1 av1 kv1 vs1 r1 lv ov c t ask nm stp wr) (hb:Bw wr w') (hB:W0.heap.size<=wr.heap.size):RB W0 h mb C sv tv cd ss ts is w ms s st av kv r Bm m T X R ys ls m1 s1 av1 kv1 vs1 r1 lv ov c t ask nm stp w':=
  ⟨q.ma.bl hb,q.pre,q.ln,q.ro,q.lok,q.dd,q.sn,q.gn.bl hb,Ab hb q.tb,Ab hb q.rb,Ac q.lo hb,q.kp.after q.ra q.rk q.ma hb hB,q.ra,q.rk,fun e b o=>(q.no e b o).congr (hb.block m q.gn.2.2.2.1)⟩
theorem RB.looked {w':World} {av2 kv2:Value} {r2:Rv} (q:RB W0 h mb C sv tv cd ss ts is w ms s st av kv r Bm m T X R ys ls m1 s1 av1 kv1 vs1 r1 lv false c t ask nm stp wr) (D:RCB W0 h mb C w Bm m T X R) (hk:KQ W0.heap.size h mb C av1 kv1 r1 r2 wr w') (ha:Ak wr av1 av2) (kj:Ak wr kv1 kv2) :
    Gn is ys Bm m T cd false c t ask nm stp w'/\w'.heap[X]?=some (.cells #[.bool false,I c,.string t,.bool ask,.string nm,I stp] 165 (0,0))/\w'.heap[R]?=some (.cells #[I 0,ze,nS] 105 (0,0))/\w'.ownsRow w.heap.size 172 3 lv ls.length (Ou ls)/\KQ W0.heap.size h mb C av kv r r2 w w'/\Ak w av av2/\Ak w kv kv2/\(∀ b,(av2.ownBlock=some b\/kv2.ownBlock=some b\/Qax r2 b)->Fg w' m b):=by
  have de:=hk.bel.size;have hsw:=q.kp.bel.size;obtain⟨n,_,hm⟩:=q.ma.mkr.map;obtain⟨jr,v,mcs,hmb,F0,ge⟩:=q.gn.mach;have keep:∀(b:Nat) (cs:Array Value) (T':TypeId),TyO T'->wr.heap[b]?=some (Obj.cells cs T' (0,0))->w'.heap[b]?=wr.heap[b]?:=fun b cs T' k1 hb=>by rw[hk.blk q.ma hb k1,hb]
  have hmk:w'.heap[m]?=wr.heap[m]?:=keep m _ 243 qd hmb;have gk:=q.no rfl
  have Q9:∀ b,v.ownBlock=some b->w'.heap[b]?=wr.heap[b]?:=fun b o=>by
    obtain⟨q1,q2,cur,q3⟩:=ge b o;have:=D.h2;have:=D.h4;exact hk.keep b q2 qb (fun e=>hm.notCells (e▸q3)) (fun e=>gk b (Or.inl e) v F0 o.symm) (fun e=>gk b (Or.inr (Or.inl e)) v F0 o.symm) (fun e=>gk b (Or.inr (Or.inr (q.ma.rs.row9 q3 e))) v F0 o.symm)
  have hc0':w'.cell? ⟨m,0,none⟩=some v:=by rw[De hmk];exact F0
  refine⟨q.gn.kept (keep T _ 165 qd q.gn.1) hmk de (fun v' b e o=>?_),by rw[keep X _ 165 qd q.tb];exact q.tb,by rw[keep R _ 105 qd q.rb];exact q.rb,Aj q.lo (fun b o=>?_),q.kp.trans q.ra q.rk q.ma hk,q.ra.trans hsw ha,q.rk.trans hsw kj,fun b o v' e e2=>?_⟩
  · rw[F0] at e;cases e;exact Q9 b o
  · obtain⟨_,cur,hh⟩:=Dr q.lo o
    exact keep b _ 172 qd hh
  · rw[hc0'] at e;cases e
    have q3:=ge b e2.symm
    rcases o with o|o|o
    · rcases ha b o with q1|q1
      · exact gk b (Or.inl q1) v F0 e2
      · omega
    · rcases kj b o with q1|q1
      · exact gk b (Or.inr (Or.inl q1)) v F0 e2
      · omega
    · obtain⟨_,_,cur,q4⟩:=q3
      rcases hk.new b (Or.inr (Or.inr (Or.inr o))) with q1|q1
      · exact gk b (Or.inr (Or.inr (q.ma.rs.row9 q4 q1))) v F0 e2
      · have:=Af q4;omega
theorem RB.appd {w2:World} {o:Obj} {g cp:Nat} (D:RCB W0 h mb C w Bm m T X R) (q:Kz W0.heap.size h mb C sv tv ss ts wr m1 st av1 kv1 vs1 s1 r1) (gn:Gn is ys Bm m T cd ov c t ask nm stp wr) (lo:wr.ownsRow w.heap.size 172 3 lv ls.length (Ou ls)) (kp:KQ W0.heap.size h mb C av kv r r1 w wr) (hg:(wr.alloc o).grownBy w2 lv.ownBlock) (hl:lv.ownBlock=some g\/g=wr.heap.size+1) :
    Kz W0.heap.size h mb C sv tv ss ts w2 m1 st av1 kv1 vs1 s1 r1/\Gn is ys Bm m T cd ov c t ask nm stp w2/\KQ W0.heap.size h mb C av kv r r1 w w2/\(∀(b:Nat) (cs:Array Value) (T':Nat),T'≠172->wr.heap[b]?=some (Obj.cells cs T' (0,0))->w2.heap[b]?=wr.heap[b]?):=by
  have vt:∀ b,b<wr.heap.size->lv.ownBlock≠some b->w2.heap[b]?=wr.heap[b]?:=fun b h1 h2=>by rw[hg.block b qh (fun e=>h2 e.symm),Lib.alloc_old _ _ _ h1]
  have hsw:=kp.bel.size;have de:wr.heap.size<=w2.heap.size:=by have:=hg.size;simp at this;omega
  have keep:∀(b:Nat) (cs:Array Value) (T':Nat),T'≠172->wr.heap[b]?=some (Obj.cells cs T' (0,0))->w2.heap[b]?=wr.heap[b]?:=fun b cs T' k1 hb=>vt b (Af hb) (Ad lo k1 hb);obtain⟨n,_,hm⟩:=q.mkr.map;obtain⟨f,f1,_⟩:=q.rs.sn;refine⟨q.kept (fun b cs T' hT hb=>?_) (vt _ hm.lt (Jk lo hm)) (vt _ f1.lt (fun e=>?_)) (fun b cs _ hb=>?_),?_,⟨?_,?_,kp.new,?_,kp.len⟩,keep⟩
  · rw[keep b cs T' (by rcases hT with e|e|e|e|e|e|e<;>rw[e]<;>decide) hb];exact hb
  · obtain⟨_,cur,hh⟩:=Dr lo e
    exact f1.notCells hh
  · rw[keep b cs 9 qd hb];exact hb
  · refine⟨by rw[keep T _ 165 qd gn.1];exact gn.1,gn.2.1,gn.2.2.1,Nat.lt_of_lt_of_le gn.2.2.2.1 de,gn.2.2.2.2.mono fun ss' pl' pj lk' hk=>hk.kept ?_ ?_⟩
    · obtain⟨_,v,k1,_⟩:=hk
      unfold Fj at k1;exact keep m _ 243 qd k1
    · exact qix
  · have h1:=D.h1
    refine kp.bel.trans (((Below.refl _ wr).alloc qb o).grown hg qh (fun b q=>?_));have:=(lo.lt b q).1;omega
  · intro b h1 h2 h3 h4 h5 h6
    rw[vt b qb (fun e=>by have:=(lo.lt b e).1;omega)];exact kp.keep b h1 h2 h3 h4 h5 h6
  · intro g l cp cs e hb
    obtain⟨I8,b1,c1⟩:=kp.old g l cp cs e hb;exact⟨I8,by rw[keep g I8 97 qd b1];exact b1,c1⟩
theorem RB.went {w6:World} {n:Nat} {xs:List Value} {v0 v1 v2 v3 v4 v5:Value} (D:RCB W0 h mb C w Bm m T X R) (q:Kz W0.heap.size h mb C sv tv ss ts wr m1 st av1 kv1 vs1 s1 r1) (jr:Bm<=m) (hBT:Bm<=T) (lo:wr.ownsRow w.heap.size 172 3 lv n xs) (tb:wr.heap[X]?=some (.cells #[v0,v1,v2,v3,v4,v5] 165 (0,0))) (rb:wr.heap[R]?=some (.cells #[I 0,ze,nS] 105 (0,0))) (kp:KQ W0.heap.size h mb C av kv r r1 w wr) (no:∀ b,(av1.ownBlock=some b\/kv1.ownBlock=some b\/Qax r1 b)->Fg wr m b)
    (hTt:∃ cs,wr.heap[T]?=some (.cells cs 165 (0,0))) (Z4:∃ cs,wr.heap[m]?=some (.cells cs 243 (0,0))) (hb:Below Bm wr w6) (hk:∀(b:Nat) (cs:Array Value) (X':Nat),X'≠9->b≠m->b≠T->wr.heap[b]?=some (Obj.cells cs X' (0,0))->w6.heap[b]?=some (.cells cs X' (0,0))) (ho:∀(b:Nat) (cs:Array Value) (X':Nat),b≠m->b≠T->Fg wr m b->wr.heap[b]?=some (Obj.cells cs X' (0,0))->w6.heap[b]?=some (.cells cs X' (0,0))/\Fg w6 m b) :
    Kz W0.heap.size h mb C sv tv ss ts w6 m1 st av1 kv1 vs1 s1 r1/\w6.ownsRow w.heap.size 172 3 lv n xs/\w6.heap[X]?=some (.cells #[v0,v1,v2,v3,v4,v5] 165 (0,0))/\w6.heap[R]?=some (.cells #[I 0,ze,nS] 105 (0,0))/\KQ W0.heap.size h mb C av kv r r1 w w6/\(∀ b,(av1.ownBlock=some b\/kv1.ownBlock=some b\/Qax r1 b)->Fg w6 m b):=by
  obtain⟨tcs,hTt⟩:=hTt;obtain⟨mcs,Z4⟩:=Z4;have c1:=D.h1;have c2:=D.h2;have c3:=D.h3;have c4:=D.h4;have c9:=D.h9
  have ty:∀(b:Nat) (cs cs':Array Value) (A A':Nat),A≠A'->wr.heap[b]?=some (Obj.cells cs A (0,0))->wr.heap[b]?≠some (Obj.cells cs' A' (0,0)):=fun b cs cs' A A' hne q1 q2=>by
    rw[q1] at q2;injection q2 with q2;injection q2 with _ q2;exact hne q2
  have kT:∀(b:Nat) (cur:Array Value) (A:TypeId),A≠9->A≠243->A≠165->wr.heap[b]?=some (Obj.cells cur A (0,0))->w6.heap[b]?=some (.cells cur A (0,0)):=fun b cur A n1 n2 n3 hh=>
    hk b cur A n1 (fun e=>ty b _ _ A 243 n2 hh (e▸Z4)) (fun e=>ty b _ _ A 165 n3 hh (e▸hTt)) hh
  have k9:∀(b:Nat) (cs:Array Value),(av1.ownBlock=some b\/kv1.ownBlock=some b\/Kf C r1 b)->wr.heap[b]?=some (.cells cs 9 (0,0))->w6.heap[b]?=some (.cells cs 9 (0,0)):=fun b cs o hh=>
    (ho b cs 9 (fun e=>ty b _ _ 9 243 qd hh (e▸Z4)) (fun e=>ty b _ _ 9 165 qd hh (e▸hTt)) (no b (o.imp id (fun o=>o.imp id (fun o=>q.rs.row9 hh o)))) hh).1
  refine⟨q.kept (fun b cs T' hT hh=>kT b cs T' (by rcases hT with e|e|e|e|e|e|e<;>rw[e]<;>decide) (by rcases hT with e|e|e|e|e|e|e<;>rw[e]<;>decide) (by rcases hT with e|e|e|e|e|e|e<;>rw[e]<;>decide) hh) (hb.block _ qb) (hb.block _ qb) k9,Aj lo (fun b o=>?_),hk X _ 165 qd D.h8 D.h5 tb,kT R _ 105 qd qd qd rb,⟨kp.bel.trans (hb.mono qb),fun b q1 q2 q3 q4 q5 q6=>?_,kp.new,fun g l cp cs e hg=>?_,kp.len⟩,fun b o=>?_⟩
  · obtain⟨_,cur,hh⟩:=Dr lo o
    rw[kT b cur 172 qd qd qd hh,hh]
  · rw[hb.block b qb]
    exact kp.keep b q1 q2 q3 q4 q5 q6
  · obtain⟨I8,b1,d1⟩:=kp.old g l cp cs e hg
    exact⟨I8,kT g I8 97 qd qd qd b1,d1⟩
  · have bi:∃ cs T',wr.heap[b]?=some (Obj.cells cs T' (0,0)):=by
      obtain⟨ys,ey,ha⟩:=q.mkr.ask
      rcases o with o|o|⟨u,hu,o⟩
      · obtain⟨cs,c1⟩:=Ba ha b o;exact⟨cs,_,c1⟩
      · obtain⟨cs,c1⟩:=Ba q.mkr.stk b o;exact⟨cs,_,c1⟩
      · obtain⟨_,cs,T',c1,_⟩:=q.rs.rowT hu o;exact⟨cs,T',c1⟩
    obtain⟨cs,T',bi⟩:=bi
    have hne:∀(A:TypeId) (cs':Array Value),TyO A->wr.heap[b]?≠some (Obj.cells cs' A (0,0)):=fun A cs' hA hh=>by
      have q9:=q.noneA hh hA
      rcases o with o|o|o
      · exact q9.2.2.1 o
      · exact q9.2.2.2.1 o
      · exact q9.2.2.2.2 (Or.inr (Or.inr (Or.inr o)))
    exact(ho b cs T' (fun e=>hne 243 _ qd (e▸Z4)) (fun e=>hne 165 _ qd (e▸hTt)) (no b o) bi).2
theorem RB.turned {u0 u1 u2 u3 u4 u5:Value} (D:RCB W0 h mb C w Bm m T X R) (q:Kz W0.heap.size h mb C sv tv ss ts wr m1 st av1 kv1 vs1 s1 r1) (hp:Fd ss ts C.n m1 s1 st r1.sn (200-ys.length)) (xz:ys.length<=200) (hr:Ft is ys ls) (uf:Lz ls) (hd:∀ ms' s' a,Bc ss ts C.n m1 s1 st (.run is ys ls) ms' s' a->Bc ss ts C.n ms s st (.run is [] []) ms' s' a) (l8:r1.sn+400200*Dd ts ms st<=r.sn+400200*Dd ts m1 st) (gn:Gn is ys Bm m T cd ov c t ask nm stp wr) (tb:wr.heap[X]?=some (.cells #[u0,u1,u2,u3,u4,u5] 165 (0,0))) (rb:wr.heap[R]?=some (.cells #[I 0,ze,nS] 105 (0,0)))
    (lo:wr.ownsRow w.heap.size 172 3 lv ls.length (Ou ls)) (kp:KQ W0.heap.size h mb C av kv r r1 w wr) (ra:Ak w av av1) (rk:Ak w kv kv1) (no:∀ b,(av1.ownBlock=some b\/kv1.ownBlock=some b\/Qax r1 b)->Fg wr m b) :
    RB W0 h mb C sv tv cd ss ts is w ms s st av kv r Bm m T X R ys ls m1 s1 av1 kv1 vs1 r1 lv ov c t ask nm stp ((((((wr.setCell ⟨X,0,none⟩ (.bool ov)).setCell ⟨X,1,none⟩ (I c)).setCell ⟨X,2,none⟩ (.string t)).setCell ⟨X,3,none⟩ (.bool ask)).setCell ⟨X,4,none⟩ (.string nm)).setCell ⟨X,5,none⟩ (I stp)):=by
  have c2:=D.h2;have c6:=D.h6;have c1:=D.h1;have ne:∀ b',b'≠X->((((((wr.setCell ⟨X,0,none⟩ (.bool ov)).setCell ⟨X,1,none⟩ (I c)).setCell ⟨X,2,none⟩ (.string t)).setCell ⟨X,3,none⟩ (.bool ask)).setCell ⟨X,4,none⟩ (.string nm)).setCell ⟨X,5,none⟩ (I stp)).heap[b']?=wr.heap[b']?:=fun b' q=>Ev q _ _ _ _ _ _;refine⟨q.set6 tb qd _ _ _ _ _ _,hp,xz,hr,uf,hd,l8,?_,Hu tb _ _ _ _ _ _,?_,Aj lo (fun b q=>ne b (fun e=>Ad lo qd tb (e▸q))),kp.set6 qb c6 _ _ _ _ _ _,ra,rk,fun _ b q=>(no b q).congr (ne m (fun e=>D.h8 e.symm))⟩
  · refine⟨by rw[ne T (fun e=>D.h5 e.symm)];exact gn.1,gn.2.1,gn.2.2.1,Nat.lt_of_lt_of_le gn.2.2.2.1 (Hq (Below.refl 0 wr) (Nat.zero_le _) _ _ _ _ _ _).size,gn.2.2.2.2.mono fun ss' pl' pj lk' hk=>hk.kept (ne m (fun e=>D.h8 e.symm)) ?_⟩
    exact qiz
  · exact qkt
end
structure NB (W0:World) (h mb:Nat) (C:Ep) (sv tv cd:Value) (ss:List S2) (ts:List T2) (is:List I3) (w:World) (ms:Mm) (s:Sb) (st:List By) (av kv:Value) (r:Rv) (Bm m T X R:Nat)
    (ys:List R3) (ls:List G3) (m1:Mm) (s1:Sb) (av1 kv1:Value) (vs1:By->Value) (r1:Rv) (lv:Value) (c:Int) (t:By) (ask:Bool) (nm:By) (stp:Int) (y y':R3) (f:By) (wr:World):Prop where
  ma:Kz W0.heap.size h mb C sv tv ss ts wr m1 st av1 kv1 vs1 s1 r1
  pre:Fd ss ts C.n m1 s1 st r1.sn (200-(ys++[y']).length)
  ln:(ys++[y']).length<=200
  ro:Ft is (ys++[y']) (ls++[⟨nm,ask,f⟩])
  lok:Lz (ls++[⟨nm,ask,f⟩])
  dd:∀ ms' s' a,Bc ss ts C.n m1 s1 st (.run is (ys++[y']) (ls++[⟨nm,ask,f⟩])) ms' s' a->Bc ss ts C.n ms s st (.run is [] []) ms' s' a
  sn:r1.sn+400200*Dd ts ms st<=r.sn+400200*Dd ts m1 st
  gn:Gn is ys Bm m T cd false c t ask nm stp wr
  tb:wr.heap[X]?=some (.cells #[.bool false,I c,.string t,.bool ask,.string nm,I stp] 165 (0,0))
  rb:wr.heap[R]?=some (.cells #[I 0,ze,nS] 105 (0,0))
  lo:wr.ownsRow w.heap.size 172 3 lv ls.length (Ou ls)
  kp:KQ W0.heap.size h mb C av kv r r1 w wr
  ra:Ak w av av1
  rk:Ak w kv kv1
  no:∀ b,(av1.ownBlock=some b\/kv1.ownBlock=some b\/Qax r1 b)->Fg wr m b
  yt:y.text.size<=2000
  yy:∀ nm s,Em ask nm y s=Em ask nm y' s
theorem NB.bl {W0:World} {mb:Nat} {C:Ep} {cd:Value} {r:Rv} {Bm m T X:Nat}
    {ys:List R3} {ls:List G3} {m1:Mm} {s1:Sb} {av1 kv1:Value} {vs1:By->Value} {r1:Rv} {c:Int} {ask:Bool} {stp:Int} {y y':R3} {f:By} {wr:World} (q:NB W0 h mb C sv tv cd ss ts is w ms s st av kv r Bm m T X R ys ls m1 s1 av1 kv1 vs1 r1 lv c t ask nm stp y y' f wr) (hb:Bw wr w') (hB:W0.heap.size<=wr.heap.size):NB W0 h mb C sv tv cd ss ts is w ms s st av kv r Bm m T X R ys ls m1 s1 av1 kv1 vs1 r1 lv c t ask nm stp y y' f w':=
  ⟨q.ma.bl hb,q.pre,q.ln,q.ro,q.lok,q.dd,q.sn,q.gn.bl hb,Ab hb q.tb,Ab hb q.rb,Ac q.lo hb,q.kp.after q.ra q.rk q.ma hb hB,q.ra,q.rk,fun b o=>(q.no b o).congr (hb.block m q.gn.2.2.2.1),q.yt,q.yy⟩
theorem lookB_any (W0:World) (h mb:Nat) (C:Ep) (sa ta:Option Addr) (c1 c2:Nat) (cd:Value) (ss:List S2) (ts:List T2) (is:List I3) (w:World) (ms:Mm) (s:Sb) (st:List By) (av kv:Value) (r:Rv) (Bm m T X R:Nat)
    (ys:List R3) (ls:List G3) (m1:Mm) (s1:Sb) (av1 kv1:Value) (vs1:By->Value) (r1:Rv) (lv:Value) (c:Int) (t:By) (ask:Bool) (nm:By) (stp:Int) (wr:World) (hE:Ir W0 sa ta ss ts) (hU:Gx W0 h mb C (.slice sa ss.length c1) (.slice ta ts.length c2) ss ts st) (hW:Bw W0 wr) (D:RCB W0 h mb C w Bm m T X R)
    (q:RB W0 h mb C (.slice sa ss.length c1) (.slice ta ts.length c2) cd ss ts is w ms s st av kv r Bm m T X R ys ls m1 s1 av1 kv1 vs1 r1 lv false c t ask nm stp wr) :
    Calls prog 149 #[.pointer (p_ h),.string nm,.bool ask] wr fun e w'=>(∃ m2 s2 av2 kv2 vs2 r2 y y' f,e=.returned (.tuple #[.agg #[.bool y.has,I y.code,.string y.text],.string f])/\NB W0 h mb C (.slice sa ss.length c1) (.slice ta ts.length c2) cd ss ts is w ms s st av kv r Bm m T X R ys ls m2 s2 av2 kv2 vs2 r2 lv c t ask nm stp y y' f w')\/(∃ b v r' ms' s',e=Kq v/\KQ W0.heap.size h mb C av kv r r' w w'/\Bc ss ts C.n ms s st (.run is [] []) ms' s' (.bad b)/\Db W0.heap.size C w' b v):=by
  obtain⟨n,it⟩:∃ n,Ce is ys Ma (.wait ask nm n):=by
    rcases q.gn.2.2.2.2.full with ⟨o,_⟩|⟨_,n,o⟩
    · cases o
    · exact⟨n,o⟩
  obtain⟨aj,cr⟩:=q.ro.wait it;have hB:=hW.size
  cases ask with
  | false=>
    refine(Xa W0 h mb 0 C sa ta c1 c2 ss ts m1 st st (m1.length+st.length) av1 kv1 vs1 s1 r1 nm wr hE q.ma hW).mono ?_;rintro e w' ⟨rfl,hb⟩;have q':=q.bl hb hB;exact Or.inl ⟨m1,s1,av1,kv1,vs1,r1,⟨Cb ss ts nm,0,⟨#[]⟩⟩,⟨Cb ss ts nm,0,⟨#[]⟩⟩,Co (Cb ss ts nm),rfl,q'.ma,q.pre.le qh,qh,q.ro.has _ _,q.lok.snoc cr (Hk _),fun ms' s' a k=>q.dd _ _ _ (.has it k),q.sn,q'.gn,q'.tb,q'.rb,q'.lo,q'.kp,q'.ra,q'.rk,q'.no rfl,(by decide:(⟨#[]⟩:By).size<=2000),fun _ _=>rfl⟩
  | true=>
    refine(Xb W0 h mb C sa ta c1 c2 ss ts m1 st av1 kv1 vs1 s1 r1 nm wr hE q.ma hW hU (q.pre.le qb) cr).mono ?_;rintro e w' ⟨ms',s',an,bi,⟨d,av',kv',vs',r',rfl,rfl,hs,hk,ha,kj,l8⟩|⟨b,v,r',rfl,rfl,hf,hk⟩⟩
    · obtain⟨g1,g2,g3,g4,g5,g6,g7,g8⟩:=q.looked D hk ha kj
      obtain⟨hi2,_,_,hfd⟩:=bi.inv hE.v q.pre.inv q.pre.ok cr (fun b e=>qu);have M7:=hi2.done nm d hfd;have hps:=q.pre.step hE.v bi cr (fun b e=>qu) rfl (d:=1) (by simp[Ol]) qb (by omega:r'.sn+400200*Dd ts m1 st<=r1.sn+1+400200*Dd ts ms' st);refine Or.inl ⟨ms',s',av',kv',vs',r',⟨Cb ss ts nm,d.c,d.t⟩,Vq ss ts nm d,Bk d.c d.t,rfl,hs,hps.le qh,qh,q.ro.asked M7 _,q.lok.snoc cr (Dn M7.t2),fun ms'' s'' a k=>q.dd _ _ _ (.asked it bi k),by have:=q.sn;omega,g1,g2,g3,g4,g5,g6,g7,g8,M7.t2,?_⟩;intro nm' s;unfold Vq Em
      cases Cb ss ts nm<;>simp
    · exact Or.inr ⟨b,v,r',ms',s',rfl,q.kp.trans q.ra q.rk q.ma hk,q.dd _ _ _ (.askbad it bi),hf⟩
def RunB (B h mb:Nat) (C:Ep) (sv tv:Value) (ss:List S2) (ts:List T2) (ms:Mm) (s:Sb) (st:List By) (av kv:Value) (r:Rv) (is:List I3) (w:World) (e:Ending) (w':World):Prop:=
  (∃ ms1 s1 ys ls c t N lv av' kv' vs' r',e=.returned (.tuple #[lv,.agg #[I c,.string t,nS]])/\(∃ a n cc,lv=.slice a n cc)/\Ce is ys Ma (.over c t N)/\Ft is ys ls/\ys.length<=200/\Lz ls/\(∀ br s2 a,Bc ss ts C.n ms1 s1 st (.run is ys ls) br s2 a->Bc ss ts C.n ms s st (.run is [] []) br s2 a)/\Fd ss ts C.n ms1 s1 st r'.sn 0/\r'.sn+400200*Dd ts ms st<=r.sn+400200*Dd ts ms1 st/\Kz B h mb C sv tv ss ts w' ms1 st av' kv' vs' s1 r'/\KQ B h mb C av kv r r' w w'/\Ak w av av'/\Ak w kv kv'/\Ln w' B lv ls/\∀ b,lv.ownBlock=some b->w.heap.size<=b)\/
  (∃ b v r' ms' s',e=Kq v/\KQ B h mb C av kv r r' w w'/\Bc ss ts C.n ms s st (.run is [] []) ms' s' (.bad b)/\Db B C w' b v)
theorem runB_any (W0:World) (h mb:Nat) (C:Ep) (sa ta a:Option Addr) (c1 c2 cap:Nat) (ss:List S2) (ts:List T2) (is:List I3) (tn:By) (ms:Mm) (s:Sb) (st:List By) (av kv:Value) (vs:By->Value) (r:Rv) (w:World) (hE:Ir W0 sa ta ss ts)
    (hU:Gx W0 h mb C (.slice sa ss.length c1) (.slice ta ts.length c2) ss ts st) (q:Kz W0.heap.size h mb C (.slice sa ss.length c1) (.slice ta ts.length c2) ss ts w ms st av kv vs s r) (hp:Fd ss ts C.n ms s st r.sn 200) (hW:Bw W0 w) (hr:Cj W0 a is) (hv:Au is=true) (hT:Lr W0) (hP:Mb W0) :
    Calls prog 128 #[.pointer (p_ h),.agg #[.string tn,.slice a is.length cap]] w fun e w'=>RunB W0.heap.size h mb C (.slice sa ss.length c1) (.slice ta ts.length c2) ss ts ms s st av kv r is w e w':=by
 have fy:=hW.size
 have R7:=Af q.mkr.blk
 obtain⟨n0,_,hmap0⟩:=q.mkr.map
 have ue:=hmap0.lt
 obtain⟨f0,f1,f2⟩:=q.rs.sn
 have hsw:=f1.lt
 obtain⟨W,eW⟩:=Ai (((w.alloc (.cells #[.string tn,.slice a is.length cap] 100)).alloc (.cells #[I 0,ze,nS] 105)))
 have ak:Bw w W:=qbq
 have kh:Hd (W.heap[w.heap.size+1]?=some (.cells #[I 0,ze,nS] 105 (0,0))):=by
  show _=_;rw[<- eW];have h:=Be (w.alloc (.cells #[.string tn,.slice a is.length cap] 100)) (.cells #[I 0,ze,nS] 105);rw[show (w.alloc (.cells #[.string tn,.slice a is.length cap] 100)).heap.size=w.heap.size+1 from qg] at h;exact h
 have k1:W.cell? ⟨w.heap.size,1,none⟩=some (.slice a is.length cap):=qal
 have G2:=hid ak
 have kw:=hW.trans (ak.mono fy)
 have HBG:=hid (begin_any a cap is W (hT.bl kw) (hP.bl kw) (hr.bl kw) hv)
 have HS:=hid q
 have HU:=hid hU
 have HE:=hid hE
 have HW:=hid hW
 have HRW:=hid hr
 have HV:=hid hv
 have HTP:Hd (Lr W0/\Mb W0):=⟨hT,hP⟩
 have HI:=hid hp
 clear hU q hp hW hr hv hT hP ak kw hmap0 hE f1 f2
 go_enter func128,ntmps128
 go_wp2_with fail
 refine HBG.o.mono ?_
 rintro e w2 ⟨ag,Bm,m,T,ov,c,t,ask,nm,stp,xd,hBw2,rfl,hgn⟩
 unfold Az
 dsimp only
 obtain⟨V,eV⟩:=Ai (w2.alloc (.cells #[.bool ov,I c,.string t,.bool ask,.string nm,I stp] 165))
 have o6:Bw w2 V:=by rw[<- eV];exact Ag _ _
 have hsW:=G2.o.size
 have HC:Hd (RCB W0 h mb C w Bm m T w2.heap.size (w.heap.size+1)):=⟨fy,R7,ue,hsw,qb,by have:=Af hgn.1;omega,by have:=ag.size;omega,qb,by have:=hgn.2.2.2.1;omega⟩
 have HRI:Hd (RB W0 h mb C (.slice sa ss.length c1) (.slice ta ts.length c2) (.slice a is.length cap) ss ts is w ms s st av kv r Bm m T w2.heap.size (w.heap.size+1) [] [] ms s av kv vs r nS ov c t ask nm stp V):=by
  have bu:=Ay (Ay G2.o ag) o6;have hg:=hgn.bl o6;refine⟨HS.o.bl bu,HI.o,qg,⟨HV.o,fun i hi=>qy,rfl⟩,fun g hg=>by simp at hg,fun _ _ _ k=>k,Nat.le_refl _,hg,?_,Ab o6 (Ab ag kh.o),⟨rfl,Or.inl ⟨rfl,rfl⟩⟩,KQ.of_below HS.o bu fy,Ak.refl _ _,Ak.refl _ _,?_⟩
  ·rw[<- eV];exact Be _ _
  ·rintro rfl b q v e q2;obtain⟨_,v',_,_,e',ge⟩:=hg.mach;rw[e] at e';cases e';have q3:=(ge b q2.symm).1
   have q4:b<w.heap.size:=by
    rcases q with q|q|q
    ·exact HS.o.ownA.1 b q
    ·exact HS.o.ownA.2 b q
    ·exact(HS.o.rs.lt (Or.inr (Or.inr (Or.inr q)))).2
   omega
 have O8:Hd (2<Bm):=by have:=HTP.o.2.two;have:=HC.o.h4;show _<_;omega
 clear ag hgn o6 HI HS kh k1 HBG
 go_wp2_with fail
 go_loopw [6] (fun v wr=>∃(ys:List R3) (ls:List G3) (m1:Mm) (s1:Sb) (av1 kv1:Value) (vs1:By->Value) (r1:Rv) (la:Option Addr) (lc:Nat) (ov:Bool) (c:Int) (t:By) (ask:Bool) (nm:By) (stp:Int),v=.slice la ls.length lc/\Hd (RB W0 h mb C (.slice sa ss.length c1) (.slice ta ts.length c2) (.slice a is.length cap) ss ts is w ms s st av kv r Bm m T w2.heap.size (w.heap.size+1) ys ls m1 s1 av1 kv1 vs1 r1 (.slice la ls.length lc) ov c t ask nm stp wr)) (fun v _=>201-lenV v)
 case atStart=>exact⟨[],[],ms,s,av,kv,vs,r,none,0,ov,c,t,ask,nm,stp,rfl,HRI.o⟩
 case round=>
  clear HRI;obtain⟨ys,ls,m1,s1,av1,kv1,vs1,r1,la,lc,ov,c,t,ask,nm,stp,rfl,HR⟩:=hrel;obtain⟨x0,x1,x2,x3,x4,x5,xf⟩:=Fh HR.o.tb
  cases ov with
  | true=>
   obtain⟨n,it⟩:∃ n,Ce is ys Ma (.over c t n):=by
    rcases HR.o.gn.2.2.2.2.full with ⟨_,n,q⟩|⟨q,_⟩
    ·exact⟨n,q⟩
    ·cases q
   have HDN:=hid it;clear it;obtain⟨U,eU⟩:=Ai wr.drew;have bm:Bw wr U:=qax;have ky:=HR.o.bl bm (zo HR.o.kp.bel.size);obtain⟨y0,y1,y2,y3,y4,y5,yf⟩:=Fh ky.tb;obtain⟨z0,z1,z2,zf⟩:=Ea ky.rb;have HU2:=hid ky
   have hXR:¬ w2.heap.size=w.heap.size+1:=fun e=>by
    have q:=ky.rb;rw[<- e,ky.tb] at q;injection q with q;injection q with _ q;exact absurd q qd
   clear bm ky
   go_upto_region 7 with fail
   go_region;clear eU;go_wp2_with fail;have hR:=HU2.o;obtain⟨v0,v1,v2,_⟩:=Ea (Bi hR.rb (I c) (.string t) nS);exact bR (v:=.tuple #[.slice la ls.length lc,.agg #[I c,.string t,nS]]) (by simp[results,results128,go_sem,v0,v1,v2]) rfl (Or.inl ⟨m1,s1,ys,ls,c,t,n,_,av1,kv1,vs1,r1,rfl,⟨la,ls.length,lc,rfl⟩,HDN.o,hR.ro,hR.ln,hR.lok,hR.dd,hR.pre.le (Nat.zero_le _),hR.sn,hR.ma.set3 hR.rb qd _ _ _,hR.kp.set3 qb qb _ _ _,hR.ra,hR.rk,(looks_of hR.lo fy).keptB (fun b q=>Ew (fun e=>by subst e;exact Ad hR.lo qd hR.rb q) _ _ _),fun b q=>(hR.lo.lt b q).1⟩)
  | false=>
   obtain⟨rfl,rfl⟩:c=0/\t=⟨#[]⟩:=by
    rcases HR.o.gn.2.2.2.2 with ⟨q,_⟩|⟨_,q1,q2,_⟩
    ·cases q
    ·exact⟨q1,q2⟩
   have HLE:Hd (ls.length<200):=by
    obtain⟨n,it⟩:∃ n,Ce is ys Ma (.wait ask nm n):=by
     rcases HR.o.gn.2.2.2.2.full with ⟨q,_⟩|⟨_,n,q⟩
     ·cases q
     ·exact⟨n,q⟩
    have h1:=(HR.o.ro.wait it).1;have h2:=HR.o.ro.eq;show _<_;omega
   have hl200:=HLE.o;have HL:=lookB_any W0 h mb C sa ta c1 c2 (.slice a is.length cap) ss ts is w ms s st av kv r Bm m T w2.heap.size (w.heap.size+1) ys ls m1 s1 av1 kv1 vs1 r1 (.slice la ls.length lc) 0 ⟨#[]⟩ ask nm stp wr HE.o HU.o (HW.o.trans (HR.o.kp.bel)) HC.o HR.o;clear HR;go_wp2_with fail;refine HL.mono ?_;clear x0 x1 x2 x3 x4 x5 xf HL;rintro e w3 (⟨m2,s2,av2,kv2,vs2,r2,⟨yh,yc,yt⟩,y',f,rfl,hN⟩|⟨b,v,r',ms',s',rfl,M9,od,hv⟩)
   ·dsimp only;obtain⟨V3,eV3⟩:=Ai (w3.alloc (.cells #[.bool yh,I yc,.string yt] 169));(have aw:Bw w3 V3:=by rw[<- eV3];exact Ag _ _);have hw3:=hN.kp.bel.size;have HN:Hd (NB W0 h mb C (.slice sa ss.length c1) (.slice ta ts.length c2) (.slice a is.length cap) ss ts is w ms s st av kv r Bm m T w2.heap.size (w.heap.size+1) ys ls m2 s2 av2 kv2 vs2 r2 (.slice la ls.length lc) 0 ⟨#[]⟩ ask nm stp ⟨yh,yc,yt⟩ y' f V3):=hN.bl aw qb
    have HY:Hd (V3.heap[w3.heap.size]?=some (.cells #[.bool yh,I yc,.string yt] 169 (0,0))):=by
     show _=_;rw[<- eV3];exact Be _ _
    have hV3:=aw.size;obtain⟨x0,x1,x2,x3,x4,x5,xf⟩:=Fh HN.o.tb;obtain⟨i0,B3,bp,bh,bv⟩:=info_parts Tryz.info172;have zt:Hd (∀ o:Obj,(V3.alloc o).ownsRow w.heap.size 172 3 (.slice la ls.length lc) ls.length (Ou ls)):=fun o=>HN.o.lo.alloc o;clear aw hN
    go_upto_region 6 with (at_builtin;refine wpList_append_lies _ rfl (.tmp 29) (.tmp 36) 163 rfl w.heap.size 172 i0 (.agg #[ze,.bool false,ze]) 3 40 underlying163 B3 bp bh bv rfl qd _ ls.length (Ou ls) rfl (zt.o _) ⟨V3.heap.size,0,none⟩ 1 1 [.string nm,.bool ask,.string f] rfl rfl (Om _ _ _ _ _) (by intro u hu;simp at hu;rcases hu with rfl|rfl|rfl<;>rfl) qb qm qb qh (V3.heap.size+1) qg ?_;intro g5 cp5 w5 ke hgrow5 hl5 hlt5)
    clear x0 x1 x2 x3 x4 x5 xf;obtain⟨s5,gn5,kp5,A0⟩:=RB.appd (cp:=cp5) HC.o HN.o.ma HN.o.gn HN.o.lo HN.o.kp hgrow5 hl5;(have tb5:w5.heap[w2.heap.size]?=some (.cells #[.bool false,I 0,ze,.bool ask,.string nm,I stp] 165 (0,0)):=by rw[A0 _ _ 165 qd HN.o.tb];exact HN.o.tb);(have rb5:w5.heap[w.heap.size+1]?=some (.cells #[I 0,ze,nS] 105 (0,0)):=by rw[A0 _ _ 105 qd HN.o.rb];exact HN.o.rb);(have yb5:w5.heap[w3.heap.size]?=some (.cells #[.bool yh,I yc,.string yt] 169 (0,0)):=by rw[A0 _ _ 169 qd HY.o];exact HY.o);obtain⟨hBm5,mv5,mcs5,hmb5,hmc5,hmr5⟩:=HN.o.gn.mach;have hm5:w5.heap[m]?=V3.heap[m]?:=A0 m _ 243 qd hmb5;have no5:∀ b,(av2.ownBlock=some b\/kv2.ownBlock=some b\/Qax r2 b)->Fg w5 m b:=fun b q=>(HN.o.no b q).congr hm5;have hbW5:=HW.o.trans kp5.bel
    have HGO:Hd (Calls prog 161 #[.agg #[.bool yh,I yc,.string yt],.pointer (p_ m),.pointer (p_ T)] w5 _):=goOn_any Bm m T is a cap ys ask nm stp ⟨yh,yc,yt⟩ y' w5 gn5 (by have:=Af gn5.1;have:=gn5.2.2.1;omega) O8.o ⟨HRW.o.bl hbW5,fun b off e=>by
     have h1:=(Dh HV.o).1;obtain⟨b',bq,e',q1,_,_⟩:=HRW.o 0 qb;rw[e] at e';cases e';have q2:b<W0.heap.size:=World.block_lt_of_cell? _ _ q1;have:=HC.o.h4;omega⟩ (HTP.o.1.bl hbW5) (HTP.o.2.bl hbW5) HV.o HN.o.yt HN.o.yy
    obtain⟨rr0,rr1,rr2,_⟩:=Ea yb5;have HG5:Hd (Bm<=m/\Bm<=T/\(∃ cs,w5.heap[T]?=some (.cells cs 165 (0,0)))/\∃ cs,w5.heap[m]?=some (.cells cs 243 (0,0))):=⟨hBm5,gn5.2.2.1,⟨_,gn5.1⟩,⟨mcs5,by rw[hm5];exact hmb5⟩⟩;have On:=hid ke;have io:=hid s5;have HT5:=hid tb5;have HR5:=hid rb5;have HK5:=hid kp5;have HNO5:=hid no5;clear s5 gn5 kp5 A0 tb5 rb5 yb5 hm5 no5 hbW5 ke hgrow5 hl5 hlt5 hmb5 hmc5 hmr5 hBm5 zt HY;go_wp2_with fail;refine HGO.o.mono ?_;rintro e w6 ⟨⟨ci,ir⟩,Y9,ov',c',t',jh,nm',pj,rfl,hg6⟩;obtain⟨s6,lo6,tb6,rb6,kp6,no6⟩:=RB.went (wr:=w5) HC.o io.o HG5.o.1 HG5.o.2.1 On.o HT5.o HR5.o HK5.o HNO5.o HG5.o.2.2.1 HG5.o.2.2.2 ci ir Y9;obtain⟨j0,j1,j2,j3,j4,j5,jf⟩:=Fh tb6;have HFIN:Hd (RB W0 h mb C (.slice sa ss.length c1) (.slice ta ts.length c2) (.slice a is.length cap) ss ts is w ms s st av kv r Bm m T w2.heap.size (w.heap.size+1) (ys++[y']) (ls++[⟨nm,ask,f⟩]) m2 s2 av2 kv2 vs2 r2 (.slice (p_ g5) (ls.length+1) cp5) ov' c' t' jh nm' pj _):=RB.turned HC.o s6 HN.o.pre HN.o.ln HN.o.ro HN.o.lok HN.o.dd HN.o.sn hg6 tb6 rb6 (by rw[List.length_append,List.length_singleton,gC_snoc];exact lo6) kp6 HN.o.ra HN.o.rk no6;unfold Az;dsimp only;clear ci ir Y9 hg6 s6 lo6 tb6 rb6 kp6 no6 HGO rr0 rr1 rr2;go_wp2_with fail;refine⟨⟨ys++[y'],ls++[⟨nm,ask,f⟩],m2,s2,av2,kv2,vs2,r2,p_ g5,cp5,ov',c',t',jh,nm',pj,qg,?_⟩,by simp[lenV];omega⟩;rw[List.length_append,List.length_singleton];exact HFIN.o
   ·unfold Kq;dsimp only;have vi:Hd (KQ W0.heap.size h mb C av kv r r' w w3/\Bc ss ts C.n ms s st (.run is [] []) ms' s' (.bad b)/\Db W0.heap.size C w3 b v):=⟨M9,od,hv⟩;clear M9 od hv;go_wp2_with fail;exact⟨rfl,Or.inr ⟨b,v,r',ms',s',rfl,vi.o.1,vi.o.2.1,vi.o.2.2⟩⟩
def Zp (B h mb:Nat) (C:Ep) (sv tv:Value) (ss:List S2) (ts:List T2) (ms:Mm) (s:Sb) (st:List By) (av kv:Value) (r:Rv) (nm:By) (w:World) (e:Ending) (w':World):Prop:=
  (∃ ms1 mk ms' s' d lv av' kv' vs' r',e=.returned (Nz d lv)/\(∃ a n c,lv=.slice a n c)/\BS B h mb 1 C sv tv ss ts w' ms1 mk st (ms'.length+st.length) av' kv' vs' s' r'/\(∀ x,x≠nm->(Ec mk x↔Ec st x))/\ms'=ms1++[(nm,d)]/\fd ms1 nm=none/\Bc ss ts C.n ms s st (.make nm) ms' s' (.ok d)/\KQ B h mb C av kv r r' w w'/\Ak w av av'/\Ak w kv kv'/\r'.sn+400200*Dd ts ms st<=r.sn+400200*Dd ts ms' st)\/
  (∃ b v r' ms' s',e=Kq v/\KQ B h mb C av kv r r' w w'/\Bc ss ts C.n ms s st (.make nm) ms' s' (.bad b)/\Db B C w' b v)
def WorkB (B h mb:Nat) (C:Ep) (sv tv:Value) (ss:List S2) (ts:List T2) (ms:Mm) (s:Sb) (st:List By) (av kv:Value) (r:Rv) (tn:By) (is:List I3) (w:World) (e:Ending) (w':World):Prop:=
  (∃ ms' s' d lv av' kv' vs' r',e=.returned (.tuple #[lv,.agg #[I d.c,.string d.t,nS]])/\(∃ a n c,lv=.slice a n c)/\Bc ss ts C.n ms s st (.work tn is) ms' s' (.ok d)/\Kz B h mb C sv tv ss ts w' ms' st av' kv' vs' s' r'/\KQ B h mb C av kv r r' w w'/\Ak w av av'/\Ak w kv kv'/\r'.sn+400200*Dd ts ms st<=r.sn+400200+400200*Dd ts ms' st)\/
  (∃ b v r' ms' s',e=Kq v/\KQ B h mb C av kv r r' w w'/\Bc ss ts C.n ms s st (.work tn is) ms' s' (.bad b)/\Db B C w' b v)
def Py (W0:World) (h mb:Nat) (C:Ep) (sv tv:Value) (ss:List S2) (ts:List T2) (st:List By) (tn:By) (a:Option Addr) (cap:Nat) (is:List I3):Prop:=
  ∀(w:World) (ms:Mm) (av kv:Value) (vs:By->Value) (s:Sb) (r:Rv),Kz W0.heap.size h mb C sv tv ss ts w ms st av kv vs s r->Fd ss ts C.n ms s st r.sn 400200->Bw W0 w->
    Calls prog 108 #[.pointer (p_ C.hb),.agg #[.string tn,.slice a is.length cap]] w fun e w'=>WorkB W0.heap.size h mb C sv tv ss ts ms s st av kv r tn is w e w'
theorem step_work {fi:Nat} {o:Oper} {K:Act->World->Prop} (se:o.guard=none)
    (ho:o.op=.call { callee:=.value (.tmp fi),args:=#[.tmp xi],argTypes:=#[100] }) {mb:Nat} {C:Ep} {r:Rv} {tn:By} {p:Option Addr} {cap:Nat}
    (hf:a.eval (.tmp fi)=fvC C) (hx:a.eval (.tmp xi)=.agg #[.string tn,.slice p is.length cap])
    (hc:Calls prog 108 #[.pointer (p_ C.hb),.agg #[.string tn,.slice p is.length cap]] W fun e w'=>WorkB B h mb C sv tv ss ts ms s st av kv r tn is W e w')
    (ft:∀ w' m8 s8 dc dt dls la ln lc av' kv' vs' r',Bc ss ts C.n ms s st (.work tn is) m8 s8 (.ok ⟨dc,dt,dls⟩)->Kz B h mb C sv tv ss ts w' m8 st av' kv' vs' s8 r'->KQ B h mb C av kv r r' W w'->Ak W av av'->Ak W kv kv'->r'.sn+400200*Dd ts ms st<=r.sn+400200+400200*Dd ts m8 st->K (a.put o.dst (.tuple #[.slice la ln lc,.agg #[I dc,.string dt,nS]])) w')
    (hpan:∀ w' b v r' m8 s8,KQ B h mb C av kv r r' W w'->Bc ss ts C.n ms s st (.work tn is) m8 s8 (.bad b)->Db B C w' b v->Q (.panic [{ v:=.iface 207 v,recovered:=false }]) a w') :
    if Region.wanted o (yielded ops a.tmps)=true then Oper.wp prog o a W K Q else E:=by
  have hw:Region.wanted o (yielded ops a.tmps)=true:=qbz
  have li:(execOp a.eval o).run prog W=.ok (.enter 108 #[.pointer (p_ C.hb),.agg #[.string tn,.slice p is.length cap]]) W:=by
    unfold execOp;rw[ho];unfold fvC at hf;simp[Act.eval] at hf hx;simp[go_sem,Act.eval,hf,hx]
  rw[if_pos hw];unfold Oper.wp;rw[li,Oper.upon_enter];refine hc.mono ?_;rintro e w8 (⟨m8,s8,⟨dc,dt,dls⟩,lv,pz,tw,vq,r8,rfl,⟨la,ln,lc,rfl⟩,od,Y3,lq,W4,ry,l8⟩|⟨b,v,r8,m8,s8,rfl,lq,od,hv⟩)
  · exact ft w8 m8 s8 dc dt dls la ln lc pz tw vq r8 od Y3 lq W4 ry l8
  · exact hpan w8 b v r8 m8 s8 lq od hv
theorem KQ.alloc1 {mb:Nat} {C:Ep} {w8:World} {mk:List By} {r r':Rv} {o:Obj} (q:BS B h mb k C sv tv ss ts w ms mk st al av kv vs s r) (hk:KQ B h mb C av kv r r' (w.alloc o) w8) (hB:B<=w.heap.size):KQ B h mb C av kv r r' w w8:=(KQ.of_below q (Ag _ _) hB).trans (Ak.refl _ _) (Ak.refl _ _) (q.bl (Ag _ _)) hk
structure RXB (B h mb P R:Nat) (C:Ep) (sv tv:Value) (ss:List S2) (ts:List T2) (w:World) (ms:Mm) (s:Sb) (st:List By) (av kv:Value) (r:Rv) (nm:By) (is:List I3) (m8:Mm) (s8:Sb) (dc:Int) (dt:By) (dls:List G3) (pz:Value) (g8 wi:Nat) (vq:By->Value) (r8:Rv) (wx:World):Prop where
  ma:Kz B h mb C sv tv ss ts wx m8 (st++[nm]) pz (.slice (p_ g8) (st.length+1) wi) vq s8 r8
  pb:wx.heap[P]?=some (.cells #[I dc,.string dt,nS] 105 (0,0))
  rb:wx.heap[R]?=some (.cells #[.bool false,I 0,ze,nS,ze,nS] 187 (0,0))
  kp:KQ B h mb C av kv r r8 w wx
  ra:Ak w av pz
  rk:Ak w kv (.slice (p_ g8) (st.length+1) wi)
  dd:Bc ss ts C.n ms s (st++[nm]) (.work nm is) m8 s8 (.ok ⟨dc,dt,dls⟩)
  sn:r8.sn+400200*Dd ts ms (st++[nm])<=r.sn+400200+400200*Dd ts m8 (st++[nm])
theorem RXB.bl {mb P:Nat} {C:Ep} {r:Rv} {m8:Mm} {s8:Sb} {dc:Int} {dt:By} {dls:List G3} {pz:Value} {g8 wi:Nat} {vq:By->Value} {r8:Rv} {wx:World} (q:RXB B h mb P R C sv tv ss ts w ms s st av kv r nm is m8 s8 dc dt dls pz g8 wi vq r8 wx) (hb:Bw wx w') (hB:B<=wx.heap.size):RXB B h mb P R C sv tv ss ts w ms s st av kv r nm is m8 s8 dc dt dls pz g8 wi vq r8 w':=
  ⟨q.ma.bl hb,Ab hb q.pb,Ab hb q.rb,q.kp.after q.ra q.rk q.ma hb hB,q.ra,q.rk,q.dd,q.sn⟩
theorem Sk (W0:World) (h mb:Nat) (C:Ep) (sa ta a:Option Addr) (c1 c2 cap i:Nat) (ss:List S2) (ts:List T2) (nm:By) (ms:Mm) (s:Sb) (st:List By) (av kv:Value) (vs:By->Value) (r:Rv) (w:World) (hE:Ir W0 sa ta ss ts)
    (q:BS W0.heap.size h mb 2 C (.slice sa ss.length c1) (.slice ta ts.length c2) ss ts w ms st st (ms.length+st.length+1) av kv vs s r) (hp:Fd ss ts C.n ms s st r.sn 0) (hW:Bw W0 w) (hk:fd ms nm=none) (cz:¬ Ec st nm) (jn:st.length<=60) (cr:Am nm) (hns:¬ Ec (Aq ss) nm) (hti:i<ts.length) (htn:(tx ts i).name=nm)
    (hR:st.length<60->Py W0 h mb C (.slice sa ss.length c1) (.slice ta ts.length c2) ss ts (st++[nm]) nm a cap (tx ts i).code) :
    Calls prog 169 #[.pointer (p_ h),.agg #[.string nm,.slice a (tx ts i).code.length cap]] w fun e w'=>Zp W0.heap.size h mb C (.slice sa ss.length c1) (.slice ta ts.length c2) ss ts ms s st av kv r nm w e w':=by
 have hB:=hW.size
 have R7:=Af q.mkr.blk
 have hth:Ec (Ao ts) nm:=htn▸Hz hti
 obtain⟨is,eis⟩:=Ai ((tx ts i).code)
 obtain⟨W,eW⟩:=Ai (((w.alloc (.cells #[.string nm,.slice a is.length cap] 100)).alloc (.cells #[.bool false,I 0,ze,nS,ze,nS] 187)))
 have bn:Bw w W:=qbq
 have xh:Hd (W.heap[w.heap.size]?=some (.cells #[.string nm,.slice a is.length cap] 100 (0,0))):=by
  show _=_;rw[<- eW,Lib.alloc_old _ _ _ qg];exact Be _ _
 have kh:Hd (W.heap[w.heap.size+1]?=some (.cells #[.bool false,I 0,ze,nS,ze,nS] 187 (0,0))):=by
  show _=_;rw[<- eW];have h:=Be (w.alloc (.cells #[.string nm,.slice a is.length cap] 100)) (.cells #[.bool false,I 0,ze,nS,ze,nS] 187);rw[show (w.alloc (.cells #[.string nm,.slice a is.length cap] 100)).heap.size=w.heap.size+1 from qg] at h;exact h
 have s1:=q.bl bn
 obtain⟨x0,x1,x2,x3,x4,x5,xf⟩:=s1.mkr.cells
 obtain⟨ka,kc,rfl⟩:∃ ka kc,kv=.slice ka st.length kc:=by
  rcases s1.mkr.stk.2 with ⟨e,h0⟩|⟨g,cap,cur,e,_⟩
  ·exact qdp
  ·exact⟨_,_,e⟩
 obtain⟨t0,t1⟩:=ck2 xh.o
 have HS:=hid s1
 have HK:=hid (KQ.of_below q bn hB)
 have HQ0:=hid q
 have HF:Hd (Fd ss ts C.n ms s st r.sn 0/\¬ Ec st nm/\Bw W0 w/\fd ms nm=none/\Am nm/\¬ Ec (Aq ss) nm/\Ec (Ao ts) nm):=⟨hp,cz,hW,hk,cr,hns,hth⟩
 have X0:Hd (i<ts.length/\(tx ts i).name=nm/\(tx ts i).code=is):=⟨hti,htn,eis⟩
 rw[eis] at hR ⊢
 have HR:=hR
 have HRA:=hid HR
 have mr:=hp.small hE.l2
 have tm:=hid mr
 have HE:=hid hE
 clear q s1 hp hW hk cz hns hti htn hR HR bn hE eis hth mr
 by_cases hd:st.length=60
 ·have hdI:((st.length:Int) == 60)=true:=qh;have zv:Hd (Bc ss ts C.n ms s st (.make nm) ms s (.bad (.deep nm))):=.deep HF.o.2.2.2.1 HF.o.2.1 HF.o.2.2.2.2.2.1 HF.o.2.2.2.2.2.2 qb;have X3:Hd (Db W0.heap.size C W (.deep nm) (.agg #[I 7,.string nm,nS])):=⟨by rw[cH HS.o.rs.bd];rfl,by rw[cH HS.o.rs.bd];rfl,rfl⟩;go_enter func169,ntmps169;go_wp2_with fail;exact⟨rfl,Or.inr ⟨_,_,r,_,_,rfl,HK.o,zv.o,X3.o⟩⟩
 ·have hdI:((st.length:Int) == 60)=false:=qh;go_enter func169,ntmps169
  go_upto_region 3 with fail
  obtain⟨U,eU⟩:=Ai W.drew;have bm:Bw W U:=qax;have sU:=HS.o.bl bm;clear x0 x1 x2 x3 x4 x5 xf;obtain⟨x0,x1,x2,x3,x4,x5,xf⟩:=sU.mkr.cells;have u0:U.cell? ⟨w.heap.size,0,none⟩=some (.string nm):=by rw[cH (Ab bm xh.o)];rfl
  obtain⟨n,hn,hm⟩:=sU.mkr.map;obtain⟨w2,li,sw,I1⟩:=hm.store (k:=nm) (by have:=cr.2.1;unfold maxLen;omega) (by have:=tm.o.1;have:=tm.o.2.2.1;unfold maxLen;omega) He;have m2:=(sU.mkr.le (k':=1) qb).mark (n:=n+1) qb sw I1 (fun x=>markB_push HF.o.2.2.2.1 x) sU.mkr.vsl;have kp2:KP W0.heap.size h mb av (.slice ka st.length kc) U w2:=KP.mapped (KP.old (Below.refl _ _) (by have:=HK.o.bel.size;have:=bm.size;omega)) HS.o.mkr.mB I1 (by have:=HK.o.bel.size;have:=bm.size;omega);have s2:BS W0.heap.size h mb 1 C (.slice sa ss.length c1) (.slice ta ts.length c2) ss ts w2 ms (st++[nm]) st (ms.length+st.length+1) av (.slice ka st.length kc) vs s r:=⟨m2,sU.rs.kp sU.mkr kp2⟩;unfold He at li;have fs:Hd (KQ W0.heap.size h mb C av (.slice ka st.length kc) r r w w2):=(HK.o.after (Ak.refl _ _) (Ak.refl _ _) HS.o bm (zo HK.o.bel.size)).trans (Ak.refl _ _) (Ak.refl _ _) sU (KQ.of_kp sU kp2);have cw:=hid s2;have hmlt:∀ b cs T,U.heap[b]?=some (Obj.cells cs T (0,0))->w2.heap[b]?=some (Obj.cells cs T (0,0)):=fun b cs T q=>by rw[I1.block b (Af q) (fun e=>hm.notCells (by injection e with e;exact e▸q))];exact q
  have HTB2:Hd (w2.heap[w.heap.size]?=some (.cells #[.string nm,.slice a is.length cap] 100 (0,0))):=hmlt _ _ _ (Ab bm xh.o);have HRB2:Hd (w2.heap[w.heap.size+1]?=some (.cells #[.bool false,I 0,ze,nS,ze,nS] 187 (0,0))):=hmlt _ _ _ (Ab bm kh.o);clear hmlt sw I1 s2 m2 kp2 sU bm hm hn t0 t1;go_region;clear eU li x0 x1 x2 x3 x4 x5 xf u0
  go_upto_region 4 with fail
  obtain⟨U,eU⟩:=Ai w2.drew;have bm:Bw w2 U:=qax;have dw:=hid (cw.o.bl bm);have hsz2:=fs.o.bel.size;have jw:Hd (KQ W0.heap.size h mb C av (.slice ka st.length kc) r r w U):=fs.o.after (Ak.refl _ _) (Ak.refl _ _) cw.o bm qb;have HTU:=hid (Ab bm HTB2.o);have ky:=hid (Ab bm HRB2.o);obtain⟨x0,x1,x2,x3,x4,x5,xf⟩:=dw.o.mkr.cells;have u0:=cK HTU.o 0;have hhu:=Af dw.o.mkr.blk;have hwu:=Af HTU.o;have zt:Hd (∀ o:Obj,(U.alloc o).ownsRow W0.heap.size 9 1 (.slice ka st.length kc) st.length (Ax st)):=fun o=>dw.o.mkr.stk.alloc o;clear bm
  go_cut [32] (fun p wx=>∃ g4 D2,p=.slice (p_ g4) (st.length+1) D2/\Hd (Kz W0.heap.size h mb C (.slice sa ss.length c1) (.slice ta ts.length c2) ss ts wx ms (st++[nm]) av (.slice (p_ g4) (st.length+1) D2) vs s r/\KQ W0.heap.size h mb C av (.slice ka st.length kc) r r w wx/\Ak w (.slice ka st.length kc) (.slice (p_ g4) (st.length+1) D2)/\wx.heap[w.heap.size]?=some (.cells #[.string nm,.slice a is.length cap] 100 (0,0))/\wx.heap[w.heap.size+1]?=some (.cells #[.bool false,I 0,ze,nS,ze,nS] 187 (0,0))))
  case first=>
   go_region_law (first|(refine Qc rfl rfl W0.heap.size ka st.length kc (Ax st) ?_ ?_ U.heap.size nm ?_ ?_ ?_ ?_ ?_;(focus (first|rfl|(simp[Act.eval];done)));(focus (exact zt.o _));(focus (first|rfl|(simp[Act.eval];done)));(focus (exact Be _ _));(focus (simp;omega));(focus omega);intro g4 D2 w4 ou fa In;have hh4:w4.heap[h]?=some (.cells #[.slice sa ss.length c1,.slice ta ts.length c2,.map (some mb),av,.slice ka st.length kc,fvC C] 185 (0,0)):=(by rw[fa.block h qh (fun e=>Ad dw.o.mkr.stk qd dw.o.mkr.blk e.symm),Lib.alloc_old _ _ _ hhu];exact dw.o.mkr.blk);obtain⟨⟨y0,y1,y2,y3,y4,y5⟩,yf⟩:=Rl hh4;have HG4:Hd (_/\_):=⟨ou,fa⟩;have ve:Hd (_\/_):=In;clear ou fa In hh4))
   all_goals
    go_wp2_with fail;go_meet;obtain⟨p1,p2,p3⟩:=dw.o.mkr.push (nm:=nm) HG4.o.2 HG4.o.1 (by rcases ve.o with q|q;exact Or.inl q;exact Or.inr (by simpa using q)) qb;have rs1:=(dw.o.rs.kp dw.o.mkr p2).kv' dw.o.rs dw.o.ownA.1 dw.o.ownA.2 p3;have kq:=KQ.of_kp dw.o p2;have me:ms.length+st.length+1=ms.length+(st++[nm]).length:=qh;rw[me] at p1;exact⟨g4,D2,rfl,⟨p1,rs1⟩,jw.o.trans (Ak.refl _ _) (Ak.refl _ _) dw.o kq,(Ak.refl _ _).trans qb p3,kq.blk dw.o HTU.o qd,kq.blk dw.o ky.o qd⟩
  case rest=>
   obtain⟨g4,D2,rfl,HX⟩:=hcut;obtain⟨wk,rfl⟩:∃ wk,wk=wc:=⟨_,rfl⟩;clear dw jw HTU ky x0 x1 x2 x3 x4 x5 xf u0 hhu hwu zt eU
   go_upto_region 5 with fail
   obtain⟨U,eU⟩:=Ai wk.drew;have bm:Bw wk U:=qax;have hwk:=HX.o.2.1.bel.size;have dw:=hid (HX.o.1.bl bm)
   have Y5:Fd ss ts C.n ms s (st++[nm]) r.sn 400200:=by
    have q2:Dd ts ms st+1<=Dd ts ms (st++[nm]):=by
     exact qjo
    have e1:=HF.o.1.ml;have e2:=HF.o.1.sl;have e3:=HF.o.1.cn;unfold Ki at e3;exact⟨HF.o.1.inv.push HF.o.2.2.2.1 HF.o.2.2.2.2.2.2,HF.o.1.ok,qb,by unfold Ki;simp only[List.length_append,List.length_singleton];omega,qb⟩
   have D9:Hd (∀ V,Bw U V->Calls prog 108 #[.pointer (p_ C.hb),.agg #[.string nm,.slice a is.length cap]] V fun e w'=>WorkB W0.heap.size h mb C (.slice sa ss.length c1) (.slice ta ts.length c2) ss ts ms s (st++[nm]) av (.slice (p_ g4) (st.length+1) D2) r nm is V e w'):=fun V hV=>HRA.o qb V _ _ _ _ _ _ (dw.o.bl hV) Y5 (HF.o.2.2.1.trans (HX.o.2.1.bel.trans ((bm.mono qb).trans (hV.mono (zo bm.size)))));have HTU:=hid (Ab bm HX.o.2.2.2.1);have ky:=hid (Ab bm HX.o.2.2.2.2);have jw:Hd (KQ W0.heap.size h mb C av (.slice ka st.length kc) r r w U/\Ak w (.slice ka st.length kc) (.slice (p_ g4) (st.length+1) D2)):=⟨HX.o.2.1.after (Ak.refl _ _) HX.o.2.2.1 HX.o.1 bm qb,HX.o.2.2.1⟩;obtain⟨x0,x1,x2,x3,x4,x5,xf⟩:=dw.o.mkr.cells;obtain⟨u0,u1⟩:=ck2 HTU.o;have hhu:=Af dw.o.mkr.blk;have hwu:=Af HTU.o;clear bm HX Y5
   go_cut [5,6] (fun p q wx=>∃(P:Nat) (la:Option Addr) (ln lc:Nat) (dc:Int) (dt:By) (dls:List G3) (m8:Mm) (s8:Sb) (pz:Value) (g8 wi:Nat) (vq:By->Value) (r8:Rv),p=.slice la ln lc/\q=.pointer (p_ P)/\Hd (RXB W0.heap.size h mb P (w.heap.size+1) C (.slice sa ss.length c1) (.slice ta ts.length c2) ss ts w ms s st av (.slice ka st.length kc) r nm is m8 s8 dc dt dls pz g8 wi vq r8 wx))
   case first=>
    go_region_law (first|(refine step_work rfl rfl ?_ ?_ (D9.o _ ?_) ?_ ?_;(focus (first|rfl|(simp[Act.eval];done)));(focus (first|rfl|(simp[Act.eval];done)));(focus (first|with_reducible exact Below.refl _ _|exact Ag _ _));rotate_left;(focus (intro w8 b v r8 m8 s8 lq od hv;have J2:Hd (KQ W0.heap.size h mb C av (.slice (p_ g4) (st.length+1) D2) r r8 U w8):=(by show KQ _ _ _ _ _ _ _ _ _ _;first|with_reducible exact lq|exact KQ.alloc1 dw.o lq qb);have vi:Hd (Bc ss ts C.n ms s (st++[nm]) (.work nm is) m8 s8 (.bad b)/\Db W0.heap.size C w8 b v):=⟨od,hv⟩;clear lq od hv;go_wp2_with fail;exact⟨rfl,Or.inr ⟨b,v,r8,m8,s8,rfl,jw.o.1.trans (Ak.refl _ _) jw.o.2 dw.o J2.o,.fell HF.o.2.2.2.1 HF.o.2.1 HF.o.2.2.2.2.2.1 X0.o.1 X0.o.2.1 qb (by rw[X0.o.2.2];exact vi.o.1),vi.o.2⟩⟩));intro w8 m8 s8 dc dt dls la ln lc pz tw vq r8 od Y3 lq W4 ry xx;have J2:Hd (KQ W0.heap.size h mb C av (.slice (p_ g4) (st.length+1) D2) r r8 U w8):=(by show KQ _ _ _ _ _ _ _ _ _ _;first|with_reducible exact lq|exact KQ.alloc1 dw.o lq qb);have HA8:Hd (Ak U av pz):=(by show Ak _ _ _;first|with_reducible exact W4|exact W4.less qg);have vg:Hd (Ak U (.slice (p_ g4) (st.length+1) D2) tw):=(by show Ak _ _ _;first|with_reducible exact ry|exact ry.less qg);have zv:Hd (Bc ss ts C.n ms s (st++[nm]) (.work nm is) m8 s8 (.ok ⟨dc,dt,dls⟩)/\r8.sn+400200*Dd ts ms (st++[nm])<=r.sn+400200+400200*Dd ts m8 (st++[nm])):=⟨od,xx⟩;have gq:Hd (Kz W0.heap.size h mb C (.slice sa ss.length c1) (.slice ta ts.length c2) ss ts w8 m8 (st++[nm]) pz tw vq s8 r8):=Y3;(first|(have z8:=KQ.blk lq (dw.o.bl (Ag _ _)) (Be _ _) qd;obtain⟨k0,k1,k2,kf⟩:=Ea z8;have I9:Hd (w8.heap[U.heap.size]?=some (.cells #[I 0,ze,nS] 105 (0,0))):=z8;clear z8)|skip);clear lq od Y3 W4 ry xx))
    all_goals
     go_wp2_with fail;go_meet
     obtain⟨g8,wi,rfl⟩:∃ g cp,tw=.slice (p_ g) (st.length+1) cp:=by
      have q:=gq.o.mkr.stk;rw[List.length_append,List.length_singleton] at q
      rcases q.2 with ⟨_,h0⟩|⟨g,cp,cur,e,_⟩
      ·omega
      ·exact⟨g,cp,e⟩
     have hsU:=J2.o.bel.size;have hR8:w8.heap[w.heap.size+1]?=some (.cells #[.bool false,I 0,ze,nS,ze,nS] 187 (0,0)):=J2.o.blk dw.o ky.o qd;have M9:=jw.o.1.trans (Ak.refl _ _) jw.o.2 dw.o J2.o;have Q9:=jw.o.2.trans qb vg.o;have rn:Hd (RXB W0.heap.size h mb w8.heap.size (w.heap.size+1) C (.slice sa ss.length c1) (.slice ta ts.length c2) ss ts w ms s st av (.slice ka st.length kc) r nm is m8 s8 dc dt dls pz g8 wi vq r8 (w8.alloc (.cells #[I dc,.string dt,nS] 105))):=⟨gq.o.bl (Ag _ _),Be _ _,Ab (Ag _ _) hR8,M9.after (HA8.o.less qb) Q9 gq.o (Ag _ _) qb,HA8.o.less qb,Q9,zv.o.1,zv.o.2⟩
     first
      | (with_reducible exact⟨w8.heap.size,la,ln,lc,dc,dt,dls,m8,s8,pz,g8,wi,vq,r8,rfl,rfl,rn⟩;done)
      | (have ro:Hd (RXB W0.heap.size h mb U.heap.size (w.heap.size+1) C (.slice sa ss.length c1) (.slice ta ts.length c2) ss ts w ms s st av (.slice ka st.length kc) r nm is m8 s8 dc dt dls pz g8 wi vq r8 (((w8.setCell ⟨U.heap.size,0,none⟩ (I dc)).setCell ⟨U.heap.size,1,none⟩ (.string dt)).setCell ⟨U.heap.size,2,none⟩ nS)):=⟨gq.o.set3 I9.o qd _ _ _,Bi I9.o _ _ _,(Ew (show w.heap.size+1≠U.heap.size by have:=Af ky.o;omega) _ _ _).trans hR8,M9.set3 qb qb _ _ _,HA8.o.less qb,Q9,zv.o.1,zv.o.2⟩;with_reducible exact⟨U.heap.size,la,ln,lc,dc,dt,dls,m8,s8,pz,g8,wi,vq,r8,rfl,rfl,ro⟩)
   case rest=>
    obtain⟨P,la,ln,lc,dc,dt,dls,m8,s8,pz,g8,wi,vq,r8,rfl,rfl,HX⟩:=hcut;obtain⟨wj,rfl⟩:∃ wj,wj=wc:=⟨_,rfl⟩;clear dw jw HTU ky x0 x1 x2 x3 x4 x5 xf u0 u1 hhu hwu D9 eU
    go_upto_region 6 with fail
    obtain⟨U,eU⟩:=Ai wj.drew;have bm:Bw wj U:=qax;have hwj:=HX.o.kp.bel.size;have HXU:Hd (RXB W0.heap.size h mb P (w.heap.size+1) C (.slice sa ss.length c1) (.slice ta ts.length c2) ss ts w ms s st av (.slice ka st.length kc) r nm is m8 s8 dc dt dls pz g8 wi vq r8 U):=HX.o.bl bm qb;obtain⟨x0,x1,x2,x3,x4,x5,xf⟩:=HXU.o.ma.mkr.cells
    have hcp:st.length<=wi:=by
     have q:=HXU.o.ma.mkr.stk;rw[List.length_append,List.length_singleton] at q
     rcases q.2 with ⟨e,_⟩|⟨g,cp,cur,e,_,_,r,_⟩
     ·simp at e
     ·simp only[Value.slice.injEq] at e;omega
    clear bm HX;go_region;clear eU x0 x1 x2 x3 x4 x5 xf;have hx:=HXU.o;have hs:=hx.ma.mkr.pop;have kp9:KP W0.heap.size h mb pz (.slice (p_ g8) (st.length+1) wi) U (U.setCell ⟨h,4,none⟩ (.slice (p_ g8) st.length wi)):=(KP.old (Below.refl _ _) (zo hx.kp.bel.size)).setH hx.ma.mkr.hB;have rk9:Ak U (.slice (p_ g8) (st.length+1) wi) (.slice (p_ g8) st.length wi):=fun b q=>Or.inl qaq;have rs9:=(hx.ma.rs.kp hx.ma.mkr kp9).kv' hx.ma.rs hx.ma.ownA.1 hx.ma.ownA.2 rk9;have P3:=KQ.of_kp hx.ma kp9;have hpb:=P3.blk hx.ma hx.pb qd;have E7:=P3.blk hx.ma hx.rb qd;have M9:=hx.kp.trans hx.ra hx.rk hx.ma P3;obtain⟨Y,eY⟩:=Ai (U.setCell ⟨h,4,none⟩ (.slice (p_ g8) st.length wi));rw[eY] at hs hpb E7 M9 rs9 ⊢;have HSY:Hd (BS W0.heap.size h mb 1 C (.slice sa ss.length c1) (.slice ta ts.length c2) ss ts Y m8 (st++[nm]) st (m8.length+(st++[nm]).length) pz (.slice (p_ g8) st.length wi) vq s8 r8):=⟨hs,rs9⟩;have HPY:=hid hpb;have HRY:=hid E7;have HLY:=hid M9;obtain⟨b0,b1,b2,bf⟩:=Ea hpb;obtain⟨⟨z0,z1,z2,z3,z4,z5⟩,zf⟩:=Rl E7;clear hx hs hpb E7 M9 eY rs9 kp9 P3 rk9;go_wp2_with fail;have hx:=HXU.o;obtain⟨⟨v0,v1,v2,v3,v4,v5⟩,_⟩:=Rl (Hu HRY.o (.bool false) (I dc) (.string dt) nS ze (.slice la ln lc));have hpu:=HF.o.1.inv.push HF.o.2.2.2.1 HF.o.2.2.2.2.2.2;(have hjp:Au is=true:=by rw[<- X0.o.2.2];exact HE.o.v.pr i X0.o.1);have mw:=(hx.dd.inv HE.o.v hpu HF.o.1.ok hjp (fun b e=>qu)).1;have hfd:fd m8 nm=none:=mw.nst nm (Dz.2 (Or.inr rfl));have zg:=HSY.o.set6 HRY.o qd (.bool false) (I dc) (.string dt) nS ze (.slice la ln lc);have me:m8.length+(st++[nm]).length=(m8++[(nm,(⟨dc,dt,dls⟩:Md))]).length+st.length:=qh;rw[me] at zg;have q1:=tc_pop ts m8 nm ⟨dc,dt,dls⟩ st hfd
    have q2:Dd ts ms st+1<=Dd ts ms (st++[nm]):=by
     exact qjo
    have q3:=hx.sn;exact bR (v:=Nz ⟨dc,dt,dls⟩ (.slice la ln lc)) (by simp[results,results169,go_sem,Nz,v0,v1,v2,v3,v4,v5]) rfl (Or.inl ⟨m8,st++[nm],m8++[(nm,⟨dc,dt,dls⟩)],s8,⟨dc,dt,dls⟩,.slice la ln lc,pz,_,vq,r8,rfl,⟨la,ln,lc,rfl⟩,zg,(fun x hxn=>by rw[Dz];simp[hxn]),rfl,hfd,.made HF.o.2.2.2.1 HF.o.2.1 HF.o.2.2.2.2.2.1 X0.o.1 X0.o.2.1 qb (by rw[X0.o.2.2];exact hx.dd),HLY.o.set6 qb qb _ _ _ _ _ _,hx.ra,(fun b q=>hx.rk b qaq),qb⟩)
theorem Xo (B h mb:Nat) (C:Ep) (sv tv:Value) (ss:List S2) (ts:List T2) (ms:Mm) (s:Sb) (st:List By) (av kv:Value) (vs:By->Value) (r:Rv) (nm:By) (d:Md) (w:World) (q:Kz B h mb C sv tv ss ts w ms st av kv vs s r) (hB:B<=w.heap.size) (hn:nm.size<=60) (hk:fd ms nm=some d) :
    Calls prog 131 #[.pointer (p_ h),.string nm] w fun e w'=>My B h mb C sv tv ss ts ms s st av kv vs r nm (fun d vs'=>Ey d (vs' nm)) w e w':=by
 obtain⟨W,eW⟩:=Ai (w.alloc (.cells #[.bool false,I 0,ze,nS,ze,nS] 187))
 have bn:Bw w W:=qaz
 have up:w.heap.size<W.heap.size:=qcx
 have R7:=Af q.mkr.blk
 have s1:=q.bl bn
 have HR:Hd (W.heap[w.heap.size]?=some (.cells #[.bool false,I 0,ze,nS,ze,nS] 187 (0,0))):=by
  exact qbl
 obtain⟨n,Id,mj⟩:=s1.mkr.map
 have d9:=mj.look (k:=nm) qm
 have hmo:Gr ms st vs nm=some (Ey d (vs nm)):=Ra hk
 rw[hmo] at d9
 obtain⟨la,ln,lc,hlv⟩:=q.mkr.vsl nm
 unfold Ey at d9
 rw[hlv] at d9
 simp only[Option.getD_some,Option.isSome_some] at d9
 obtain⟨_,_,c2,_⟩:=s1.mkr.cells
 have HD:Hd (Bc ss ts C.n ms s st (.make nm) ms s (.ok d)):=.known hk
 have HS:=hid s1
 have HLV:=hid hlv
 have HK:=hid (KQ.of_below q bn hB)
 obtain⟨⟨z0,z1,z2,z3,z4,z5⟩,zf⟩:=Rl HR.o
 obtain⟨dc,dt,dls⟩:=d
 obtain⟨fo,efo⟩:=Ai (Bk dc dt)
 simp only[efo] at d9
 have EF:=hid efo
 clear efo
 clear hk hmo mj s1 q bn
 go_enter func131,ntmps131
 go_wp2_with fail
 have hne:w.heap.size≠h:=qb
 have e6:=Hu HR.o (.bool true) (I dc) (.string dt) nS (.string fo) (.slice la ln lc)
 have ir:=HK.o.set6 hB (Nat.le_refl _) (.bool true) (I dc) (.string dt) nS (.string fo) (.slice la ln lc)
 have zg:=HS.o.set6 HR.o qd (.bool true) (I dc) (.string dt) nS (.string fo) (.slice la ln lc)
 have e7:=blk_keep' (Ag _ (.cells #[.bool true,I dc,.string dt,nS,.string fo,.slice la ln lc] 187)) e6
 obtain⟨⟨y0,y1,y2,y3,y4,y5⟩,_⟩:=Rl e7
 exact bR (v:=Ey ⟨dc,dt,dls⟩ (vs nm)) (by simp[results,results131,go_sem,Ey,HLV.o,EF.o,y0,y1,y2,y3,y4,y5]) rfl ⟨ms,s,_,HD.o,Or.inl ⟨_,av,kv,vs,r,rfl,rfl,zg.bl (Ag _ _),ir.after (Ak.refl _ _) (Ak.refl _ _) zg (Ag _ _) (Nat.le_trans hB ir.bel.size),Ak.refl _ _,Ak.refl _ _,Nat.le_refl _⟩⟩
theorem Vb (B h mb:Nat) (C:Ep) (sv tv:Value) (ss:List S2) (ts:List T2) (ms:Mm) (s:Sb) (st:List By) (av kv:Value) (vs:By->Value) (r:Rv) (nm:By) (i:Nat) (w:World) (q:Kz B h mb C sv tv ss ts w ms st av kv vs s r) (hB:B<=w.heap.size) (hn:nm.size<=60) (hl:st.length<=60) (hk:fd ms nm=none) (hi:i<st.length) (mw:nx st i=nm) (hif:∀ j,j<i->nx st j≠nm) :
    Calls prog 131 #[.pointer (p_ h),.string nm] w fun e w'=>My B h mb C sv tv ss ts ms s st av kv vs r nm (fun d vs'=>Ey d (vs' nm)) w e w':=by
 obtain⟨W,eW⟩:=Ai ((w.alloc (.cells #[.bool false,I 0,ze,nS,ze,nS] 187)))
 have bn:Bw w W:=qaz
 have s1:=q.bl bn
 obtain⟨n,Id,mj⟩:=s1.mkr.map
 have d9:=mj.look (k:=nm) qm
 have hmo:Gr ms st vs nm=some He:=Pk hk ⟨i,hi,mw⟩
 rw[hmo] at d9
 unfold He at d9
 simp only[Option.getD_some,Option.isSome_some] at d9
 obtain⟨V,eV⟩:=Ai (W.alloc (.cells #[.bool false,I 0,ze,nS,ze,nS] 187))
 have o6:Bw w V:=by rw[<- eV];exact Ay bn (Ag _ _)
 have s2:=q.bl o6
 obtain⟨a,cap,rfl⟩:∃ a cap,kv=.slice a st.length cap:=by
  rcases s2.mkr.stk.2 with ⟨e,h0⟩|⟨g,cap,cur,e,_⟩
  ·exact qdp
  ·exact⟨_,_,e⟩
 obtain⟨g,rfl⟩:∃ g,a=p_ g:=by
  rcases s2.mkr.stk.2 with ⟨e,h0⟩|⟨g,cap,cur,e,_⟩
  ·omega
  ·simp only[Value.slice.injEq] at e;exact⟨g,e.1⟩
 have iz:∀ j,j<st.length->V.cell? ⟨g,0+j,none⟩=some (.string (st.getD j ByteArray.empty)):=fun j hj=>by
  rw[Nat.zero_add,s2.mkr.stk.cellAt j qb,strV_get' st j hj]
 have HIX:Hd (Calls prog 154 #[.slice (p_ g) st.length cap,.string nm] V fun e w'=>e=.returned (I (i:Nat))/\w'=V):=by
  have q:=Tryz.slices_Index_string g 0 st.length cap st nm V (Nat.le_refl _) qb iz;rw[Lib.idxOfS_hit st st.length i nm hi (Nat.le_refl _) mw hif] at q;exact q
 have HCL:Hd (Calls prog 104 #[.slice (some ⟨g,i,none⟩) (st.length-i) (cap-i)] V fun e w'=>∃ v',e=.returned v'/\w'.ownsRow V.heap.size 9 1 v' (st.length-i) (((st.drop i).take (st.length-i)).map (Value.string))/\v'≠nS/\Bw V w'):=by
  refine Tryz.slices_Clone_string g i (st.length-i) (cap-i) (st.drop i) V (by rw[List.length_drop];exact Nat.le_refl _) qb (fun j hj=>?_);rw[List.length_drop] at hj;have:=iz (i+j) qb;rw[Nat.zero_add] at this;rw[this];congr 2;rw[gG,gG,List.getElem?_drop]
 obtain⟨_,_,c2,_,_,_,_⟩:=s1.mkr.cells
 obtain⟨_,_,_,_,d4,_,_⟩:=s2.mkr.cells
 have t0:V.cell? ⟨W.heap.size,0,none⟩=some (.bool false):=by rw[<- eV];simp[go_sem]
 have hcp:st.length<=cap:=by
  rcases s2.mkr.stk.2 with ⟨e,h0⟩|⟨g',ai,cur,e,r⟩
  ·simp at e
  ·simp only[Value.slice.injEq] at e;have:=r.2.2.1;omega
 have HD:Hd (Bc ss ts C.n ms s st (.make nm) ms s (.bad (.circle (st.drop i)))):=.circle hk hi mw hif
 have cq:=hid s2
 have HQ:=hid q
 have HB:=hid o6
 clear hk hmo mj s1 q s2 bn iz o6 mw hif
 have EV:=hid eV
 clear eV
 go_enter func131,ntmps131
 go_upto_region 2 with fail
 rw[EV.o]
 clear EV eW
 go_wp2_with (first|(go_at_call 154;refine HIX.o.mono ?_;rintro e w2 ⟨rfl,rfl⟩))
 refine HCL.o.mono ?_
 rintro e w3 ⟨v',rfl,ah,Z0,aw⟩
 obtain⟨g3,cp3,rfl⟩:∃ g cp,v'=.slice (p_ g) (st.length-i) cp:=by
  rcases ah.2 with ⟨e,_⟩|⟨g,cp,cur,e,_⟩
  ·exact absurd e Z0
  ·exact⟨g,cp,e⟩
 have HO:Hd (w3.ownsRow w2.heap.size 9 1 (.slice (p_ g3) (st.length-i) cp3) (st.length-i) (Ax (st.drop i))):=by
  rw[List.take_of_length_le (by rw[List.length_drop];exact Nat.le_refl _)] at ah;exact ah
 have fk:=hid aw
 clear ah aw Z0 HIX HCL
 go_wp2_with fail
 have gp:=HB.o.size
 have ii:=Ae cq.o.rs.bd fk.o
 refine⟨rfl,ms,s,_,HD.o,Or.inr ⟨_,_,r,rfl,rfl,⟨qee,qee,_,_,_,rfl,?_⟩,KQ.of_below HQ.o (Ay HB.o fk.o) hB⟩⟩
 have:=own_base' HO.o (B':=B) qb
 rw[List.length_drop]
 exact this
theorem Qw {mb:Nat} {C:Ep} {r:Rv} {U:World} {c:Int} (q:BS B h mb 2 C sv tv ss ts U ms st st (ms.length+st.length+1) av kv vs s r) (hk:KQ B h mb C av kv r r w U) (hR:U.heap[R]?=some (.cells #[u0,u1,u2,u3,u4,u5] 187 (0,0))) (hB:B<=R) (hw:w.heap.size<=R) (hl:fd ms nm=none) (hd:Bc ss ts C.n ms s st (.make nm) (ms++[(nm,⟨c,t,[]⟩)]) s (.ok ⟨c,t,[]⟩)) :
    Zp B h mb C sv tv ss ts ms s st av kv r nm w (.returned (Nz ⟨c,t,[]⟩ nS)) ((((((U.setCell ⟨R,0,none⟩ (.bool false)).setCell ⟨R,1,none⟩ (I c)).setCell ⟨R,2,none⟩ (.string t)).setCell ⟨R,3,none⟩ nS).setCell ⟨R,4,none⟩ ze).setCell ⟨R,5,none⟩ nS):=by
  refine Or.inl ⟨ms,st,ms++[(nm,⟨c,t,[]⟩)],s,⟨c,t,[]⟩,nS,av,kv,vs,r,rfl,⟨none,0,0,rfl⟩,?_,fun x _=>Iff.rfl,rfl,hl,hd,hk.set6 hB hw _ _ _ _ _ _,Ak.refl _ _,Ak.refl _ _,?_⟩
  · have me:(ms++[(nm,(⟨c,t,[]⟩:Md))]).length+st.length=ms.length+st.length+1:=qh
    rw[me];exact(q.le (k':=1) qb).set6 hR qd _ _ _ _ _ _
  · have:=Tk ts ms (nm,⟨c,t,[]⟩) st
    omega
theorem Tw (W0:World) (h mb:Nat) (C:Ep) (sa ta:Option Addr) (c1 c2:Nat) (ss:List S2) (ts:List T2) (nm:By) (ms:Mm) (s:Sb) (st:List By) (av kv:Value) (vs:By->Value) (r:Rv) (w:World) (hE:Ir W0 sa ta ss ts)
    (q:BS W0.heap.size h mb 2 C (.slice sa ss.length c1) (.slice ta ts.length c2) ss ts w ms st st (ms.length+st.length+1) av kv vs s r) (hp:Fd ss ts C.n ms s st r.sn 0) (hW:Bw W0 w) (hk:fd ms nm=none) (cz:¬ Ec st nm) (jn:st.length<=60) (cr:Am nm)
    (hR:∀ i a cap,i<ts.length->(tx ts i).name=nm->Cj W0 a (tx ts i).code->st.length<60->Py W0 h mb C (.slice sa ss.length c1) (.slice ta ts.length c2) ss ts (st++[nm]) nm a cap (tx ts i).code) :
    Calls prog 153 #[.pointer (p_ h),.string nm] w fun e w'=>Zp W0.heap.size h mb C (.slice sa ss.length c1) (.slice ta ts.length c2) ss ts ms s st av kv r nm w e w':=by
 have hB:=hW.size
 have R7:=Af q.mkr.blk
 obtain⟨W,eW⟩:=Ai (w.alloc (.cells #[.bool false,I 0,ze,nS,ze,nS] 187))
 have bn:Bw w W:=qaz
 have kh:Hd (W.heap[w.heap.size]?=some (.cells #[.bool false,I 0,ze,nS,ze,nS] 187 (0,0))):=by
  exact qbl
 obtain⟨x0,x1,_⟩:=(q.bl bn).mkr.cells
 have wg:=hE.l1
 have Io:=hE.l2
 have HFS:Hd (∀ V,Bw w V->Calls prog 167 #[.agg #[.slice sa ss.length c1,.slice ta ts.length c2],.string nm] V fun e w'=>Bw V w'/\∃(r:Nat) (b:Bool),e=.returned (.tuple #[I r,.bool b])/\At (Aq ss) nm r b):=fun V hV=>Mt sa ta ss.length ts.length c1 c2 ss nm V (hE.rs.bl (hW.trans (hV.mono hB))) qb hE.v.ascS rfl
 have jx:Hd (∀ V,Bw w V->Calls prog 168 #[.agg #[.slice sa ss.length c1,.slice ta ts.length c2],.string nm] V fun e w'=>Bw V w'/\∃(r:Nat) (b:Bool),e=.returned (.tuple #[I r,.bool b])/\At (Ao ts) nm r b):=fun V hV=>Mr sa ta ss.length ts.length c1 c2 ts nm V (hE.rt.bl (hW.trans (hV.mono hB))) qb hE.v.ascT rfl
 have HS:=hid q
 have HE:=hid hE
 have HF:Hd (Fd ss ts C.n ms s st r.sn 0/\¬ Ec st nm/\Bw W0 w/\fd ms nm=none/\Am nm):=⟨hp,cz,hW,hk,cr⟩
 have HR:=hid hR
 have HB:=hid bn
 clear q hp hW hk cz cr hR bn hE
 go_enter func153,ntmps153
 go_wp2_with fail
 refine(HFS.o W HB.o).mono ?_
 rintro e w3 ⟨aw,r0,b,rfl,si⟩
 have fk:=hid (Ay HB.o aw)
 have ig:=hid (Ab aw kh.o)
 have HAT:=hid si
 have mh:=hid (HS.o.bl fk.o)
 clear aw si x0 x1 kh eW
 obtain⟨x0,x1,_⟩:=mh.o.mkr.cells
 obtain⟨⟨z0,z1,z2,z3,z4,z5⟩,zf⟩:=Rl ig.o
 dsimp only
 cases b with
 | true=>
  obtain⟨hr,A5⟩:=at_true HE.o.v.ascS HAT.o;rw[Bs] at hr;rw[Du] at A5;have hrI:(r0:Int)<(ss.length:Int):=qb;have zv:Bc ss ts C.n ms s st (.make nm) (ms++[(nm,⟨0,(sx ss r0).text,[]⟩)]) s (.ok ⟨0,(sx ss r0).text,[]⟩):=.source HF.o.2.2.2.1 HF.o.2.1 hr A5;obtain⟨sb,so,rfl,_,e2⟩:=(HE.o.rs.bl (HF.o.2.2.1.trans (fk.o.mono hB))) r0 hr;generalize (sx ss r0).text=tx0 at zv e2;have HD:=hid zv;clear zv A5 HFS jx HR;go_wp2_with fail;obtain⟨⟨v0,v1,v2,v3,v4,v5⟩,_⟩:=Rl (Hu ig.o (.bool false) (I 0) (.string tx0) nS ze nS);exact bR (v:=Nz ⟨0,tx0,[]⟩ nS) qfy rfl (Qw mh.o (KQ.of_below HS.o fk.o hB) ig.o hB (Nat.le_refl _) HF.o.2.2.2.1 HD.o)
 | false=>
  have HNS:=hid (Qcj HAT.o);go_wp2_with fail;refine(jx.o w3 fk.o).mono ?_;rintro e w4 ⟨cj,r4,b4,rfl,hat4⟩;have xr:=hid (Ay fk.o cj);have mi:=hid (Ab cj ig.o);have HAT4:=hid hat4;have ib:=hid (HS.o.bl xr.o);clear cj hat4 x0 x1 z0 z1 z2 z3 z4 z5 zf ig mh HAT;obtain⟨x0,x1,_⟩:=ib.o.mkr.cells;obtain⟨⟨z0,z1,z2,z3,z4,z5⟩,zf⟩:=Rl mi.o;dsimp only
  cases b4 with
  | true=>
   obtain⟨hr,A5⟩:=at_true HE.o.v.ascT HAT4.o;rw[Bn] at hr;rw[Dl] at A5;have hrI:(r4:Int)<(ts.length:Int):=qb;have S1:=HF.o.2.2.1.trans (xr.o.mono hB);obtain⟨tb,tq,rfl,f1,a',ai,f2,ge⟩:=HE.o.rt r4 hr;have e1:w4.cell? ⟨tb,tq+r4*2,none⟩=some (.string nm):=by rw[S1.cell (p:=⟨tb,tq+r4*2,none⟩) (World.block_lt_of_cell? _ _ f1),f1,A5]
   have e2:w4.cell? ⟨tb,tq+r4*2+1,none⟩=some (.slice a' (tx ts r4).code.length ai):=by rw[S1.cell (p:=⟨tb,tq+r4*2+1,none⟩) (World.block_lt_of_cell? _ _ f2),f2]
   have hMT:=Sk W0 h mb C sa (some ⟨tb,tq,none⟩) a' c1 c2 ai r4 ss ts nm ms s st av kv vs r w4 HE.o ib.o HF.o.1 S1 HF.o.2.2.2.1 HF.o.2.1 jn HF.o.2.2.2.2 HNS.o hr A5 (HR.o r4 a' ai hr A5 ge);generalize (tx ts r4).code.length=cl at e2 hMT;have HMT:=hid hMT;have hwl4:=Af mi.o;clear hMT ge f1 f2 S1 HFS jx HR A5 z0 z1 z2 z3 z4 z5 zf;go_wp2_with fail;refine HMT.o.mono ?_;rintro e w5 (⟨ms1,mk,ms',s',⟨dc,dt,dls⟩,lv,av5,kv5,vs5,r5,rfl,⟨la,ln,lc,rfl⟩,wo,hmk,hms,hfd,od,jg,ha5,H0,l8⟩|⟨b,v,r5,ms',s',rfl,jg,od,hv⟩)
   ·have hsz5:=jg.bel.size;have hR5:w5.heap[w.heap.size]?=some (.cells #[.bool false,I 0,ze,nS,ze,nS] 187 (0,0)):=jg.blk ib.o mi.o qd;have HR5:=hid hR5;have HK5:Hd (KQ W0.heap.size h mb C av kv r r5 w w5):=(KQ.of_below HS.o xr.o hB).trans (Ak.refl _ _) (Ak.refl _ _) ib.o jg;have io:=hid wo;have ik:Hd ((∀ x,x≠nm->(Ec mk x↔Ec st x))/\ms'=ms1++[(nm,⟨dc,dt,dls⟩)]/\fd ms1 nm=none/\Bc ss ts C.n ms s st (.make nm) ms' s' (.ok ⟨dc,dt,dls⟩)/\Ak w av av5/\Ak w kv kv5/\r5.sn+400200*Dd ts ms st<=r.sn+400200*Dd ts ms' st):=⟨hmk,hms,hfd,od,ha5.less qb,H0.less qb,l8⟩;obtain⟨⟨z0,z1,z2,z3,z4,z5⟩,zf⟩:=Rl hR5;unfold Nz;dsimp only;clear wo hmk hms hfd od ha5 H0 l8 jg hR5 HMT;go_wp2_with fail;obtain⟨⟨v0,v1,v2,v3,v4,v5⟩,_⟩:=Rl (Hu HR5.o (.bool false) (I dc) (.string dt) nS ze (.slice la ln lc));obtain⟨y1,y2,y3,y4,y5,y6,y7⟩:=ik.o;exact bR (v:=Nz ⟨dc,dt,dls⟩ (.slice la ln lc)) qfy rfl (Or.inl ⟨ms1,mk,ms',s',⟨dc,dt,dls⟩,.slice la ln lc,av5,kv5,vs5,r5,rfl,⟨la,ln,lc,rfl⟩,io.o.set6 HR5.o qd _ _ _ _ _ _,y1,y2,y3,y4,HK5.o.set6 hB (Nat.le_refl _) _ _ _ _ _ _,y5,y6,y7⟩)
   ·unfold Kq;dsimp only;have HP5:Hd (KQ W0.heap.size h mb C av kv r r5 w w5/\Bc ss ts C.n ms s st (.make nm) ms' s' (.bad b)/\Db W0.heap.size C w5 b v):=⟨(KQ.of_below HS.o xr.o hB).trans (Ak.refl _ _) (Ak.refl _ _) ib.o jg,od,hv⟩;clear jg od hv HMT;go_wp2_with fail;exact⟨rfl,Or.inr ⟨b,v,r5,ms',s',rfl,HP5.o.1,HP5.o.2.1,HP5.o.2.2⟩⟩
  | false=>
   have HD:Hd (Bc ss ts C.n ms s st (.make nm) (ms++[(nm,⟨4,nm,[]⟩)]) s (.ok ⟨4,nm,[]⟩)):=.missing HF.o.2.2.2.1 HF.o.2.1 (fun q=>q.elim HNS.o (Qcj HAT4.o));clear HFS jx HR;go_wp2_with fail;obtain⟨⟨v0,v1,v2,v3,v4,v5⟩,_⟩:=Rl (Hu mi.o (.bool false) (I 4) (.string nm) nS ze nS);exact bR (v:=Nz ⟨4,nm,[]⟩ nS) qfy rfl (Qw ib.o (KQ.of_below HS.o xr.o hB) mi.o hB (Nat.le_refl _) HF.o.2.2.2.1 HD.o)
theorem underB_new (W0:World) (h mb:Nat) (C:Ep) (sa ta:Option Addr) (c1 c2:Nat) (ss:List S2) (ts:List T2) (nm:By) (ms:Mm) (s:Sb) (st:List By) (av kv:Value) (vs:By->Value) (r:Rv) (w:World) (hE:Ir W0 sa ta ss ts)
    (q:Kz W0.heap.size h mb C (.slice sa ss.length c1) (.slice ta ts.length c2) ss ts w ms st av kv vs s r) (hp:Fd ss ts C.n ms s st r.sn 0) (hW:Bw W0 w) (hk:fd ms nm=none) (cz:¬ Ec st nm) (jn:st.length<=60) (cr:Am nm)
    (hR:∀ i a cap,i<ts.length->(tx ts i).name=nm->Cj W0 a (tx ts i).code->st.length<60->Py W0 h mb C (.slice sa ss.length c1) (.slice ta ts.length c2) ss ts (st++[nm]) nm a cap (tx ts i).code) :
    Calls prog 131 #[.pointer (p_ h),.string nm] w fun e w'=>My W0.heap.size h mb C (.slice sa ss.length c1) (.slice ta ts.length c2) ss ts ms s st av kv vs r nm (fun d vs'=>Ey d (vs' nm)) w e w':=by
 have hB:=hW.size
 have R7:=Af q.mkr.blk
 have hms:=hp.small hE.l2
 have hn60:=cr.2.1
 obtain⟨W,eW⟩:=Ai (w.alloc (.cells #[.bool false,I 0,ze,nS,ze,nS] 187))
 have bn:Bw w W:=qaz
 have up:w.heap.size<W.heap.size:=qcx
 have s1:=q.bl bn
 obtain⟨n,Id,mj⟩:=s1.mkr.map
 have d9:=mj.look (k:=nm) qm
 have hmo:Gr ms st vs nm=none:=Wy hk cz
 rw[hmo] at d9
 unfold He at d9
 simp only[Option.getD_none,Option.isSome_none] at d9
 obtain⟨V,eV⟩:=Ai (W.alloc (.cells #[.bool false,I 0,ze,nS,ze,nS] 187))
 have o6:Bw w V:=by rw[<- eV];exact Ay bn (Ag _ _)
 have hVs:W.heap.size<V.heap.size:=by rw[<- eV];simp
 have HAB:Hd (V.heap[W.heap.size]?=some (.cells #[.bool false,I 0,ze,nS,ze,nS] 187 (0,0))):=by
  show _=_;rw[<- eV];exact Be _ _
 have HOB:Hd (V.heap[w.heap.size]?=some (.cells #[.bool false,I 0,ze,nS,ze,nS] 187 (0,0))):=by
  show _=_;rw[<- eV,Lib.alloc_old _ _ _ up,<- eW];exact Be _ _
 have cq:=hid (q.bl o6)
 obtain⟨xs,exs,um⟩:=q.mkr.ask
 obtain⟨aa,ac,rfl⟩:∃ aa ac,av=.slice aa (ms.length+st.length) ac:=by
  rcases um.2 with ⟨e,h0⟩|⟨g,cap,cur,e,_⟩
  ·exact qdp
  ·exact⟨_,_,e⟩
 have hnl:ms.length+st.length<=90000000:=qb
 have U7:=hid um
 have HXS:=hid exs
 obtain⟨_,_,zl,_⟩:=s1.mkr.cells
 have HE:=hid hE
 have HF:Hd (Fd ss ts C.n ms s st r.sn 0/\¬ Ec st nm/\Bw W0 w/\fd ms nm=none/\Am nm):=⟨hp,cz,hW,hk,cr⟩
 have HQ:=hid q
 have tm:=hid hms
 have HR:=hid hR
 have zw:=hid o6
 have EV:=hid eV
 have HNL:=hid hnl
 clear q s1 hp hW hk cz cr hR o6 bn hE eV mj hmo hnl Id hms um exs
 go_enter func131,ntmps131
 go_upto_region 3 with fail
 rw[EV.o]
 clear EV eW zl d9
 obtain⟨x0,x1,x2,x3,x4,x5,xf⟩:=cq.o.mkr.cells
 obtain⟨i0,B3,bp,bh,bv⟩:=info_parts Tryz.info9b
 have hhv:=Af cq.o.mkr.blk
 have HAV:=hid (Ac U7.o zw.o)
 have zt:Hd (∀ o:Obj,(V.alloc o).ownsRow W0.heap.size 9 1 (.slice aa (ms.length+st.length) ac) (ms.length+st.length) (Ax xs)):=fun o=>HAV.o.alloc o
 have fc:W0.heap.size<=V.heap.size:=qb
 have me:=HNL.o
 go_upto_region 4 with (at_builtin;refine wpList_append_lies _ rfl (.tmp 23) (.tmp 25) 22 rfl W0.heap.size 9 i0 ze 1 16 underlying22 B3 bp bh bv rfl qd _ (ms.length+st.length) (Ax xs) rfl (zt.o _) ⟨V.heap.size,0,none⟩ 1 1 [.string nm] rfl rfl (cell_one_new _ _ _) qaf qb qm qb qh (V.heap.size+1) qg ?_;intro g3 cp3 w3 fh pk V8 hlt3;have hh3:w3.heap[h]?=some (.cells #[.slice sa ss.length c1,.slice ta ts.length c2,.map (some mb),.slice aa (ms.length+st.length) ac,kv,fvC C] 185 (0,0)):=(by rw[pk.block h qh (fun e=>Ad HAV.o qd cq.o.mkr.blk e.symm),Lib.alloc_old _ _ _ hhv];exact cq.o.mkr.blk);obtain⟨⟨y0,y1,y2,y3,y4,y5⟩,yf⟩:=Rl hh3)
 obtain⟨q1,q2,q3⟩:=cq.o.mkr.askd (nm:=nm) HXS.o pk fh V8 fc
 have rs1:=(cq.o.rs.kp cq.o.mkr q2).av' cq.o.rs cq.o.ownA.1 cq.o.ownA.2 q3
 have kq3:=KQ.of_kp cq.o q2
 have a3:=kq3.blk cq.o HAB.o qd
 have o3:=kq3.blk cq.o HOB.o qd
 obtain⟨Y,eY⟩:=Ai (w3.setCell ⟨h,3,none⟩ (.slice (p_ g3) (ms.length+st.length+1) cp3))
 rw[eY] at q1 q2 a3 o3 rs1 kq3 ⊢
 have hsY:=q2.bl.size
 have hbWY:=HF.o.2.2.1.trans ((zw.o.mono hB).trans q2.bl)
 have HMT:Hd (Calls prog 153 #[.pointer (p_ h),.string nm] Y fun e w'=>Zp W0.heap.size h mb C (.slice sa ss.length c1) (.slice ta ts.length c2) ss ts ms s st (.slice (p_ g3) (ms.length+st.length+1) cp3) kv r nm Y e w'):=Tw W0 h mb C sa ta c1 c2 ss ts nm ms s st _ kv vs r Y HE.o ⟨q1.le qb,rs1⟩ HF.o.1 hbWY HF.o.2.2.2.1 HF.o.2.1 jn HF.o.2.2.2.2 HR.o
 have HY:Hd (BS W0.heap.size h mb 2 C (.slice sa ss.length c1) (.slice ta ts.length c2) ss ts Y ms st st (ms.length+st.length+1) (.slice (p_ g3) (ms.length+st.length+1) cp3) kv vs s r/\KQ W0.heap.size h mb C (.slice aa (ms.length+st.length) ac) kv r r w Y/\Ak w (.slice aa (ms.length+st.length) ac) (.slice (p_ g3) (ms.length+st.length+1) cp3)):=⟨⟨q1.le qb,rs1⟩,(KQ.of_below HQ.o zw.o hB).trans (Ak.refl _ _) (Ak.refl _ _) cq.o kq3,q3.less zw.o.size⟩
 have pu:=hid a3
 have J5:=hid o3
 have hWY:=Af a3
 clear q1 q2 q3 rs1 kq3 eY pk fh V8 hlt3 hh3 y0 y1 y2 y3 y4 y5 yf x0 x1 x2 x3 x4 x5 xf a3 o3 zt cq HAB HOB hbWY HR
 go_wp2_with fail
 refine HMT.o.mono ?_
 rintro e w5 (⟨ms1,mk,ms',s',⟨dc,dt,dls⟩,lv,av5,kv5,vs5,r5,rfl,⟨la,ln,lc,rfl⟩,wo,hmk,hms,hfd,od,jg,ha5,H0,l8⟩|⟨b,v,r5,ms',s',rfl,jg,od,hv⟩)
 ·have a5:=jg.blk HY.o.1 pu.o qd;have o5:=jg.blk HY.o.1 J5.o qd;have hs5':=jg.bel.size;have On:=hid o5;have HA5:=hid a5;have HK5:Hd (KQ W0.heap.size h mb C (.slice aa (ms.length+st.length) ac) kv r r5 w w5):=HY.o.2.1.trans HY.o.2.2 (Ak.refl _ _) HY.o.1 jg;have io:=hid wo;have hwY:w.heap.size<=Y.heap.size:=qb;have ik:Hd ((∀ x,x≠nm->(Ec mk x↔Ec st x))/\ms'=ms1++[(nm,⟨dc,dt,dls⟩)]/\fd ms1 nm=none/\Bc ss ts C.n ms s st (.make nm) ms' s' (.ok ⟨dc,dt,dls⟩)/\Ak w (.slice aa (ms.length+st.length) ac) av5/\Ak w kv kv5/\r5.sn+400200*Dd ts ms st<=r.sn+400200*Dd ts ms' st):=⟨hmk,hms,hfd,od,HY.o.2.2.trans hwY ha5,H0.less hwY,l8⟩;have mw:=od.inv HE.o.v HF.o.1.inv HF.o.1.ok HF.o.2.2.2.2 (fun b e=>qu);have M7:=mw.1.done nm _ mw.2.2.2;have HMD:Hd (0<=dc/\dc<=5/\dt.size<=2000):=⟨M7.c0,M7.c5,M7.t2⟩;have hwW5:W.heap.size<w5.heap.size:=qb;obtain⟨⟨z0,z1,z2,z3,z4,z5⟩,zf⟩:=Rl a5;unfold Nz;dsimp only;clear wo hmk hms hfd od ha5 H0 l8 jg a5 o5 M7 mw HMT
  go_upto_region 6 with fail
  obtain⟨Z,eZ⟩:=Ai ((((((((w5.setCell ⟨W.heap.size,0,none⟩ (.bool false)).setCell ⟨W.heap.size,1,none⟩ (I dc)).setCell ⟨W.heap.size,2,none⟩ (.string dt)).setCell ⟨W.heap.size,3,none⟩ nS).setCell ⟨W.heap.size,4,none⟩ ze).setCell ⟨W.heap.size,5,none⟩ (.slice la ln lc)).setCell ⟨W.heap.size,0,none⟩ (.bool true)));rw[eZ];have sz:=io.o.set6 HA5.o qd (.bool false) (I dc) (.string dt) nS ze (.slice la ln lc);have kz:=HK5.o.set6 (b:=W.heap.size) qb qb (.bool false) (I dc) (.string dt) nS ze (.slice la ln lc);have az:=Hu HA5.o (.bool false) (I dc) (.string dt) nS ze (.slice la ln lc);have oz:=(Ev (w:=w5) (b:=W.heap.size) (show w.heap.size≠W.heap.size from qb) (.bool false) (I dc) (.string dt) nS ze (.slice la ln lc)).trans On.o;replace oz:=(hC _ ⟨W.heap.size,0,none⟩ (.bool true) w.heap.size (show w.heap.size≠W.heap.size from qb)).trans oz;replace sz:=sz.set az qd 0 (.bool true);replace kz:=kz.setX (b:=W.heap.size) (j:=0) (u:=.bool true) qb qb;replace az:=Pd (j:=0) (u:=.bool true) (cs':=#[.bool true,I dc,.string dt,nS,ze,.slice la ln lc]) az rfl;rw[eZ] at sz kz az oz;have HZ:Hd (BS W0.heap.size h mb 1 C (.slice sa ss.length c1) (.slice ta ts.length c2) ss ts Z ms1 mk st (ms'.length+st.length) av5 kv5 vs5 s' r5/\KQ W0.heap.size h mb C (.slice aa (ms.length+st.length) ac) kv r r5 w Z/\Z.heap[w.heap.size]?=some (.cells #[.bool false,I 0,ze,nS,ze,nS] 187 (0,0))):=⟨sz,kz,oz⟩;have HAZ:=hid az;clear z0 z1 z2 z3 z4 z5 zf;obtain⟨⟨z0,z1,z2,z3,z4,z5⟩,zf⟩:=Rl az;obtain⟨fo,efo⟩:=Ai (Bk dc dt);have EF:=hid efo;have HFO:Hd (Calls prog 151 #[.agg #[I dc,.string dt,nS]] Z fun e w'=>e=.returned (.string fo)/\Bw Z w'):=by rw[<- efo];exact Rg dc dt Z HMD.o.1 HMD.o.2.1 HMD.o.2.2
  clear sz kz az oz efo eZ io HK5 HA5 On;go_wp2_with fail;refine HFO.o.mono ?_;rintro e w7 ⟨rfl,co⟩;have hzs:=HZ.o.2.1.bel.size;have s7:=(HZ.o.1.bl co).set (Ab co HAZ.o) qd 4 (.string fo);have k7:=(HZ.o.2.1.after ik.o.2.2.2.2.1 ik.o.2.2.2.2.2.1 HZ.o.1 co qb).setX (b:=W.heap.size) (j:=4) (u:=.string fo) qb qb;have a7:=Pd (j:=4) (u:=.string fo) (cs':=#[.bool true,I dc,.string dt,nS,.string fo,.slice la ln lc]) (Ab co HAZ.o) rfl;have o7:=(hC w7 ⟨W.heap.size,4,none⟩ (.string fo) w.heap.size (show w.heap.size≠W.heap.size from qb)).trans (Ab co HZ.o.2.2);clear z0 z1 z2 z3 z4 z5 zf HFO;obtain⟨⟨z0,z1,z2,z3,z4,z5⟩,zf⟩:=Rl (Ab co HAZ.o);obtain⟨Z7,eZ7⟩:=Ai (w7.setCell ⟨W.heap.size,4,none⟩ (.string fo));rw[eZ7] at s7 k7 a7 o7;obtain⟨U,eU⟩:=Ai Z7.drew;have bm:Bw Z7 U:=qax;have hz7:=k7.bel.size;have sU:=s7.bl bm;have kU:=k7.after ik.o.2.2.2.2.1 ik.o.2.2.2.2.2.1 s7 bm qb;have aU:=Ab bm a7;have oU:=Ab bm o7;dsimp only
  go_upto_region 7 with fail
  obtain⟨x0,x1,x2,x3,x4,x5,xf⟩:=sU.mkr.cells;obtain⟨⟨y0,y1,y2,y3,y4,y5⟩,yf⟩:=Rl aU;obtain⟨n,hn,hm⟩:=sU.mkr.map;obtain⟨p1,p2,p3,p4,p5,p6,p7⟩:=ik.o
  have hmf:ms'.length+st.length<=90000000:=by
   have hct:=p4.cost HE.o.v HF.o.1.inv HF.o.1.ok HF.o.2.2.2.2 (fun b e=>qu);have h1:=Mf ts ms' st;have h2:=HE.o.l2;have h3:=HF.o.1.ml;simp only[Ol] at hct;omega
  obtain⟨w9,li,hm9,hg9⟩:=hm.store (k:=nm) qm qm (Ey ⟨dc,dt,dls⟩ (.slice la ln lc))
  classical
  have m9:=(sU.mkr.le (k':=0) qb).mark (n:=n+1) (nm:=nm) (ms':=ms') (mk':=st) (vs':=fun x=>if x=nm then .slice la ln lc else vs5 x) (v:=Ey ⟨dc,dt,dls⟩ (.slice la ln lc)) qb hm9 hg9 (fun x=>by rw[p2];exact markB_end p3 p1 x) (fun x=>by
   by_cases hx:x=nm
   ·exact⟨la,ln,lc,by simp[hx]⟩
   ·obtain⟨a1,a2,a3,a4⟩:=sU.mkr.vsl x;exact⟨a1,a2,a3,by simp[hx,a4]⟩)
  have kp9:KP W0.heap.size h mb av5 kv5 U w9:=KP.mapped (KP.old (Below.refl _ _) (zo kU.bel.size)) sU.mkr.mB hg9 (zo kU.bel.size);have s9:Kz W0.heap.size h mb C (.slice sa ss.length c1) (.slice ta ts.length c2) ss ts w9 ms' st av5 kv5 (fun x=>if x=nm then .slice la ln lc else vs5 x) s' r5:=⟨m9,(sU.rs.kp sU.mkr kp9).ext ⟨[(nm,⟨dc,dt,dls⟩)],p2⟩⟩;have P3:=KQ.of_kp sU kp9;have k9:=kU.trans p5 p6 sU P3;have a9:=P3.blk sU aU qd;have o9:=P3.blk sU oU qd;unfold Ey at li;simp only[EF.o] at li;have D8:=hid s9;have HK9:=hid k9;have HO9:=hid o9;have HXX:Hd (Bc ss ts C.n ms s st (.make nm) ms' s' (.ok ⟨dc,dt,dls⟩)/\Ak w (.slice aa (ms.length+st.length) ac) av5/\Ak w kv kv5/\r5.sn+400200*Dd ts ms st<=r.sn+400200*Dd ts ms' st):=⟨p4,p5,p6,p7⟩;clear s9 m9 kp9 P3 k9 hm9 hg9 hm hn sU kU aU oU s7 k7 a7 o7 co bm p1 p2 p3 p4 p5 p6 p7 eZ7 hmf z0 z1 z2 z3 z4 z5 zf;go_region;clear eU x0 x1 x2 x3 x4 x5 xf y0 y1 y2 y3 y4 y5 yf li;obtain⟨⟨y0,y1,y2,y3,y4,y5⟩,yf⟩:=Rl a9;obtain⟨⟨z0,z1,z2,z3,z4,z5⟩,zf⟩:=Rl o9;clear a9 o9;have hOA:¬ w.heap.size=W.heap.size:=qb;go_wp2_with fail;obtain⟨⟨v0,v1,v2,v3,v4,v5⟩,_⟩:=Rl (Hu HO9.o (.bool true) (I dc) (.string dt) nS (.string fo) (.slice la ln lc));refine bR (v:=Ey ⟨dc,dt,dls⟩ ((fun x=>if x=nm then (.slice la ln lc:Value) else vs5 x) nm)) (by simp[results,results131,go_sem,Ey,EF.o,v0,v1,v2,v3,v4,v5]) rfl ⟨ms',s',_,HXX.o.1,Or.inl ⟨_,av5,kv5,_,r5,rfl,rfl,D8.o.set6 HO9.o qd _ _ _ _ _ _,HK9.o.set6 hB (Nat.le_refl _) _ _ _ _ _ _,HXX.o.2.1,HXX.o.2.2.1,HXX.o.2.2.2⟩⟩
 ·unfold Kq;dsimp only;have HP5:Hd (KQ W0.heap.size h mb C (.slice aa (ms.length+st.length) ac) kv r r5 w w5/\Bc ss ts C.n ms s st (.make nm) ms' s' (.bad b)/\Db W0.heap.size C w5 b v):=⟨HY.o.2.1.trans HY.o.2.2 (Ak.refl _ _) HY.o.1 jg,od,hv⟩;clear jg od hv HMT;go_wp2_with fail;exact⟨rfl,ms',s',_,HP5.o.2.1,Or.inr ⟨b,v,r5,rfl,rfl,HP5.o.2.2,HP5.o.1⟩⟩
theorem first_at (h:Ec st nm):∃ i,i<st.length/\nx st i=nm/\∀ j,j<i->nx st j≠nm:=by
  obtain⟨i,hi,e⟩:=h
  induction i using Nat.strongRecOn with
  | _ i ih=>
    by_cases q:∃ j,j<i/\nx st j=nm
    · obtain⟨j,hj,ej⟩:=q
      exact ih j hj qb ej
    · exact⟨i,hi,e,fun j hj ej=>q ⟨j,hj,ej⟩⟩
theorem Wj (W0:World) (h mb:Nat) (C:Ep) (sa ta:Option Addr) (c1 c2:Nat) (ss:List S2) (ts:List T2) (hE:Ir W0 sa ta ss ts) (st:List By) (jn:st.length<=60)
    (hR:∀ nm,Am nm->∀ i a cap,i<ts.length->(tx ts i).name=nm->Cj W0 a (tx ts i).code->st.length<60->Py W0 h mb C (.slice sa ss.length c1) (.slice ta ts.length c2) ss ts (st++[nm]) nm a cap (tx ts i).code):Gx W0 h mb C (.slice sa ss.length c1) (.slice ta ts.length c2) ss ts st:=by
  intro w ms nm av kv vs s r q hp cr hb;have hn60:=cr.2.1
  cases hk:fd ms nm with
  | some d=>exact Xo _ h mb C _ _ ss ts ms s st av kv vs r nm d w q hb.size hn60 hk
  | none=>
    by_cases hs:Ec st nm
    · obtain⟨i,q1,q2,q3⟩:=first_at hs
      exact Vb _ h mb C _ _ ss ts ms s st av kv vs r nm i w q hb.size hn60 jn hk q1 q2 q3
    · exact underB_new W0 h mb C sa ta c1 c2 ss ts nm ms s st av kv vs r w hE q hp hb hk hs jn cr (hR nm cr)
def Up (ss:List S2) (ts:List T2) (n:Nat) (st:List By) (ms:Mm) (s:Sb) (x:By) (y:Bool) (ms':Mm) (s':Sb) (f:By):Prop:=
  (y=false/\ms'=ms/\s'=s/\f=Co (Cb ss ts x))\/(y=true/\∃ d,Bc ss ts n ms s st (.make x) ms' s' (.ok d)/\f=Bk d.c d.t)
theorem Up.said {f:By} (hv:SpV ss ts) (h:Up ss ts n st ms s x y ms' s' f) (hi:Fv ss ts ms st) (hs:Kl n s) (hn:Am x):Ji ss ts ms' x y=some f/\Ext ms ms'/\f.size<=2002:=by
  rcases h with ⟨rfl,rfl,rfl,rfl⟩|⟨rfl,d,hb,rfl⟩
  · exact⟨rfl,Ext.refl _,Hk _⟩
  · obtain⟨k1,k2,k3,k4⟩:=hb.inv hv hi hs hn (fun b e=>qu)
    refine⟨?_,k3.ex,Dn (k1.done x d k4).t2⟩;unfold Ji;rw[if_pos rfl,show fd ms' x=some d from k4];rfl
theorem Up.of_said {f:By} (h:Ji ss ts ms x y=some f):Up ss ts n st ms s x y ms s f:=by
  unfold Ji at h
  cases y with
  | false=>simp only[Bool.false_eq_true,if_false,Option.some.injEq] at h;exact Or.inl ⟨rfl,rfl,rfl,h.symm⟩
  | true=>
    simp only[if_true] at h
    cases hf:fd ms x with
    | none=>rw[hf] at h;cases h
    | some d=>
      rw[hf] at h;simp only[Option.map_some,Option.some.injEq] at h;exact Or.inr ⟨rfl,d,.known hf,h.symm⟩
theorem Up.pre {f:By} {c:Nat} (hv:SpV ss ts) (h:Up ss ts n st ms s x y ms' s' f) (hp:Fd ss ts n ms s st sn c) (hn:Am x) (hc:1<=c) (l8:sn'+400200*Dd ts ms st<=sn+1+400200*Dd ts ms' st):Fd ss ts n ms' s' st sn' (c-1):=by
  rcases h with ⟨rfl,rfl,rfl,rfl⟩|⟨rfl,d,hb,rfl⟩
  · have h1:=hp.ml
    have h2:=hp.sl;exact⟨hp.inv,hp.ok,qb,hp.cn,qb⟩
  · exact hp.step hv hb hn (fun b e=>qu) rfl (by simp[Ol]) hc l8
def SeeB (B h mb:Nat) (C:Ep) (sv tv:Value) (ss:List S2) (ts:List T2) (ms:Mm) (s:Sb) (st:List By) (av kv:Value) (r:Rv) (x:By) (y:Bool) (dn:Nat) (rt:By->Value->Prop) (w:World) (e:Ending) (w':World):Prop:=
  (∃ v,e=.returned v/\∃ ms' s' f av' kv' vs' r',rt f v/\Up ss ts C.n st ms s x y ms' s' f/\Kz B h mb C sv tv ss ts w' ms' st av' kv' vs' s' r'/\KQ B h mb C av kv r r' w w'/\Ak w av av'/\Ak w kv kv'/\r'.sn+400200*Dd ts ms st<=r.sn+dn+400200*Dd ts ms' st)\/
  (∃ v,e=Kq v/\∃ b r' ms' s',KQ B h mb C av kv r r' w w'/\(y=true/\Bc ss ts C.n ms s st (.make x) ms' s' (.bad b))/\Db B C w' b v)
theorem lookB_see (W0:World) (h mb:Nat) (C:Ep) (sa ta:Option Addr) (c1 c2:Nat) (ss:List S2) (ts:List T2) (ms:Mm) (st:List By) (av kv:Value) (vs:By->Value) (s:Sb) (r:Rv) (x:By) (y:Bool) (w:World) (hE:Ir W0 sa ta ss ts) (q:Kz W0.heap.size h mb C (.slice sa ss.length c1) (.slice ta ts.length c2) ss ts w ms st av kv vs s r) (hW:Bw W0 w) (hU:Gx W0 h mb C (.slice sa ss.length c1) (.slice ta ts.length c2) ss ts st) (hP:Fd ss ts C.n ms s st r.sn 0) (cr:Am x) :
    Calls prog 149 #[.pointer (p_ h),.string x,.bool y] w fun e w'=>SeeB W0.heap.size h mb C (.slice sa ss.length c1) (.slice ta ts.length c2) ss ts ms s st av kv r x y 0 (fun f v=>∃ b c t,v=.tuple #[.agg #[.bool b,I c,.string t],.string f]) w e w':=by
  cases y with
  | false=>
    refine(Xa W0 h mb 0 C sa ta c1 c2 ss ts ms st st (ms.length+st.length) av kv vs s r x w hE q hW).mono ?_;rintro e w' ⟨rfl,hb⟩;exact Or.inl ⟨_,rfl,ms,s,_,av,kv,vs,r,⟨_,_,_,rfl⟩,Or.inl ⟨rfl,rfl,rfl,rfl⟩,q.bl hb,KQ.of_below q hb hW.size,Ak.refl _ _,Ak.refl _ _,Nat.le_refl _⟩
  | true=>
    refine(Xb W0 h mb C sa ta c1 c2 ss ts ms st av kv vs s r x w hE q hW hU hP cr).mono ?_;rintro e w' ⟨ms',s',an,bi,⟨d,av',kv',vs',r',rfl,rfl,hs,hk,ha,kj,l8⟩|⟨b,v,r',rfl,rfl,hf,hk⟩⟩
    · exact Or.inl ⟨_,rfl,ms',s',_,av',kv',vs',r',⟨_,_,_,rfl⟩,Or.inr ⟨rfl,d,bi,rfl⟩,hs,hk,ha,kj,l8⟩
    · exact Or.inr ⟨v,rfl,b,r',ms',s',hk,⟨rfl,bi⟩,hf⟩
theorem Qal {f:Nat} {yi zi:Nat} {t1 t2 t3:TypeId} {o:Oper} {K:Act->World->Prop} (se:o.guard=none)
    (ho:o.op=.call { callee:=.value (.func f),args:=#[.tmp xi,.tmp yi,.tmp zi],argTypes:=#[t1,t2,t3] }) (v1 v2 v3:Value) (hx:a.eval (.tmp xi)=v1) (hy:a.eval (.tmp yi)=v2) (hz:a.eval (.tmp zi)=v3) {P R:Value->World->Prop} (hc:Calls prog f #[v1,v2,v3] W fun e w'=>(∃ v,e=.returned v/\P v w')\/(∃ v,e=Kq v/\R v w')) (hfn:∀ W:World,(callFunc f #[v1,v2,v3]).run prog W=.ok (.enter f #[v1,v2,v3]) W) (h:∀ v w',P v w'->K (a.put o.dst v) w') (hp:∀ v w',R v w'->Q (.panic [{ v:=.iface 207 v,recovered:=false }]) a w') :
    if Region.wanted o (yielded ops a.tmps)=true then Oper.wp prog o a W K Q else E:=by
  have hw:Region.wanted o (yielded ops a.tmps)=true:=qbz
  have li:(execOp a.eval o).run prog W=.ok (.enter f #[v1,v2,v3]) W:=by
    unfold execOp;rw[ho];simp[Act.eval] at hx hy hz;simp[go_sem,Act.eval,hx,hy,hz];exact hfn W
  rw[if_pos hw];unfold Oper.wp;rw[li,Oper.upon_enter];refine hc.mono ?_;rintro e w' (⟨v,rfl,hq⟩|⟨v,rfl,hq⟩)
  · exact h v w' hq
  · exact hp v w' hq
section
variable {B h mb k:Nat} {C:Ep} {sv tv:Value} {ss:List S2} {ts:List T2} {w w':World} {ms:Mm} {mk st:List By} {al:Nat} {av kv:Value} {vs:By->Value} {s s':Sb} {r r':Rv}
theorem BS.upd (q:BS B h mb k C sv tv ss ts w ms mk st al av kv vs s r) (hb:Below B w w') (hk:∀ b,b<w.heap.size->¬ Kf C r b->w'.heap[b]?=w.heap[b]?) (rs:Nl B h mb C ss ts w' ms s' av kv r') (hn:∀ b,Kf C r' b->Kf C r b\/w.heap.size<=b) (ho:Ky r.qv w w') (hl:slen r.qv<=slen r'.qv):BS B h mb k C sv tv ss ts w' ms mk st al av kv vs s' r'/\KQ B h mb C av kv r r' w w':=
  ⟨⟨q.mkr.kr q.rs hk,rs⟩,⟨hb,fun b hl _ _ _ _ h5=>hk b hl h5,hn,ho,hl⟩⟩
open Classical in
theorem BS.seen (q:BS B h mb k C sv tv ss ts w ms mk st al av kv vs s r) (hB:B<=w.heap.size) {x f:By} {y:Bool} {g:By->Bool->Option ByteArray} (hg:Qt ss ts C.n ms g) (hs:Ji ss ts ms x y=some f) (hm:Jw w' C.sb (r.sn+1) (fun x' y'=>if x'=x/\y'=y then some (Ap C.n f) else g x' y')) (hw:w.grownBy w' (some C.sb)) :
    BS B h mb k C sv tv ss ts w' ms mk st al av kv vs s ⟨r.tx,r.su,r.qv,r.nv,r.ev,r.uv,r.dv,r.sn+1⟩/\KQ B h mb C av kv r ⟨r.tx,r.su,r.qv,r.nv,r.ev,r.uv,r.dv,r.sn+1⟩ w w':=by
  obtain⟨f0,m0,m1⟩:=q.rs.sn
  have hsb:∀ b cs T,w.heap[b]?=some (Obj.cells cs T (0,0))->w'.heap[b]?=some (Obj.cells cs T (0,0)):=fun b cs T hb=>by
    rw[hw.block b (Af hb) (fun e=>by injection e with e;subst e;exact m0.notCells hb)];exact hb
  have kk:∀ {e sz n:Nat} {u:Value} {ys:List Value},w.ownsRow B e sz u n ys->w'.ownsRow B e sz u n ys:=fun ho=>Aj ho fun b o=>by
    obtain⟨cs,c1⟩:=Ba ho b o;rw[c1];exact hsb b cs _ c1
  obtain⟨xs,u1⟩:=q.rs.us;obtain⟨ys,d1,d2⟩:=q.rs.df;refine q.upd ((Below.refl B w).grown hw hB (fun b e=>by injection e with e;subst e;exact q.rs.lb.2.2.1)) (fun b hb ho=>hw.block b hb (fun e=>ho (Or.inr (Or.inr (Or.inl qan))))) ?_ (fun b o=>Or.inl o) (Ky.same fun b o=>?_) (Nat.le_refl _)
  · refine⟨q.rs.lb,q.rs.wd,hsb _ _ _ q.rs.bd,hsb _ _ _ q.rs.sh,⟨_,hm,?_⟩,kk q.rs.tx,kk q.rs.su,q.rs.qs.kept (fun b o=>?_) (fun b cs T _ hb=>hsb b cs T hb),kk q.rs.ran,kk q.rs.held,⟨xs,kk u1⟩,⟨ys,kk d1,d2⟩,q.rs.ud,q.rs.ap⟩
    · intro x' y' v e
      dsimp only at e
      by_cases hxy:x'=x/\y'=y
      · rw[if_pos hxy] at e
        obtain⟨rfl,rfl⟩:=hxy;cases e;exact⟨f,hs,rfl⟩
      · rw[if_neg hxy] at e
        exact hg x' y' v e
    · exact qlo
  · exact qlo
end
theorem Kj {T:Nat} {v1 v2:Value} (h:w.heap[b]?=some (.cells #[v1,v2] T (0,0))):w.cell? ⟨b,0,none⟩=some v1/\w.cell? ⟨b,1,none⟩=some v2/\∀ j,w.frozen? ⟨b,j,none⟩=false:=by
  refine⟨?_,?_,fun j=>fH h j⟩<;>rw[cH h]<;>rfl
theorem Nl.cellsB {mb:Nat} {C:Ep} {r:Rv} (k:Nl B h mb C ss ts w ms s av kv r):w.cell? ⟨C.hb,0,none⟩=some (.pointer (p_ C.hs))/\w.cell? ⟨C.hb,1,none⟩=some r.nv/\w.cell? ⟨C.hb,2,none⟩=some r.ev/\w.cell? ⟨C.hb,3,none⟩=some r.uv/\w.cell? ⟨C.hb,10,none⟩=some (.pointer (p_ h))/\w.cell? ⟨C.hb,11,none⟩=some (.map (some C.sb))/\w.cell? ⟨C.hb,12,none⟩=some r.dv/\(∀ j,w.frozen? ⟨C.hb,j,none⟩=false)/\w.cell? ⟨C.hs,0,none⟩=some (I C.n)/\w.cell? ⟨C.hs,1,none⟩=some r.tx/\w.cell? ⟨C.hs,2,none⟩=some r.qv/\w.cell? ⟨C.hs,3,none⟩=some r.su/\∀ j,w.frozen? ⟨C.hs,j,none⟩=false:=by
  refine⟨?_,?_,?_,?_,?_,?_,?_,fun j=>fH k.bd j,?_,?_,?_,?_,fun j=>fH k.sh j⟩
  all_goals first|(rw[cH k.bd];rfl)|(rw[cH k.sh];rfl)
end Go.Proofs.YtfgoholldpeabaaGreatDoor
