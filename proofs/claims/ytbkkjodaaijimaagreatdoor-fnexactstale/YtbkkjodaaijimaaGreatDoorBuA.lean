import Derived.Test.YtbkkjodaaijimaaGreatDoorBdB
import Derived.Test.YtbkkjodaaijimaaGreatDoorTClK
import Derived.Test.YtbkkjodaaijimaaGreatDoorTImE
namespace Go.Proofs.YtbkkjodaaijimaaGreatDoor
open _root_.Go.Proofs.Tryz Go.RowKit Go.Deep
open Value renaming slice->J,string->S,bool->F
open Option renaming some->M,none->N
open Obj renaming cells->O
open Go renaming Value->Z,World->E
open _root_ renaming List->L,Nat->X
set_option linter.unusedVariables false
set_option linter.unusedSimpArgs false
variable {ms:Mm} {vs:By->Z} {x nm:By} {d:Md} {y:Bool} {w:E} {b n:X} {f:By->Bool->Option ByteArray}
structure Gg where
 hb:X
 hs:X
 sb:X
 n:X
def fvC(C:Gg):Z:=.func (.func 128) #[.pointer (p_ C.hb)] #[]
open Classical in
noncomputable def He (ms:Mm) (mk:L By) (vs:By->Z) (x:By):Option Z:=
 match fd ms x with
 | some d=>M (Fh d (vs x))
 | none=>if Ed mk x then M Hr else N
theorem Ra{mk:L By}(h:fd ms x=M d):He ms mk vs x=M (Fh d (vs x)):=by unfold He;rw[h]
theorem Pk{mk:L By}(h:fd ms x=N)(k:Ed mk x):He ms mk vs x=M Hr:=by unfold He;rw[h];simp[k]
theorem Wt{mk:L By}(h:fd ms x=N)(k:¬ Ed mk x):He ms mk vs x=N:=by unfold He;rw[h];simp[k]
open Classical in
theorem markB_push{mk:L By}(h:fd ms nm=N)(x:By):He ms (mk++[nm]) vs x=if x=nm then M Hr else He ms mk vs x:=by
 by_cases hx:x=nm
 ·subst hx;rw[if_pos rfl];exact Pk h (Eb.2 (Or.inr rfl))
 ·rw[if_neg hx]
  (have:Ed (mk++[nm]) x↔Ed mk x:=by rw[Eb];simp[hx]);unfold He
  cases fd ms x with
  | some d=>rfl
  | none=>simp only[this]
open Classical in
theorem markB_end{mk st:L By}{lv:Z}(h:fd ms nm=N)(hm:∀x,x≠nm->(Ed mk x↔Ed st x))(x:By):He (ms++[(nm,d)]) st (λy=>if y=nm then lv else vs y) x=if x=nm then M (Fh d lv) else He ms mk vs x:=by
 by_cases hx:x=nm
 ·subst hx;rw[if_pos rfl,Ra (Ia h)];simp
 ·rw[if_neg hx]
  unfold He;rw[Lr hx]
  cases fd ms x with
  | some d=>simp[hx]
  | none=>simp only[hm x hx]
structure Mj (B h mb k:X) (sv tv fv:Z) (w:E) (ms:Mm) (mk st:L By) (al:X) (av kv:Z) (vs:By->Z):Prop where
 hB:B<=h
 mB:B<=mb
 blk:w.heap[h]?=M (O #[sv,tv,.map (M mb),av,kv,fv] 211 (0,0))
 map:∃n,n+st.length+k<=2*al/\Jb w mb n (He ms mk vs)
 ask:∃xs:L By,xs.length=al/\w.ownsRow B 9 1 av al (Aq xs)
 stk:w.ownsRow B 9 1 kv st.length (Aq st)
 dis:∀b,av.ownBlock=M b->kv.ownBlock≠M b
 vsl:∀x,∃a n c,vs x=J a n c
section
variable {B h mb k:X} {sv tv fv:Z} {w w':E} {ms:Mm} {mk st:L By} {al:X} {av kv:Z} {vs:By->Z}
theorem Mj.kept(s:Mj B h mb k sv tv fv w ms mk st al av kv vs)(hk:∀b,(b=h\/b=mb\/av.ownBlock=M b\/kv.ownBlock=M b)->w'.heap[b]?=w.heap[b]?):Mj B h mb k sv tv fv w' ms mk st al av kv vs:=by
 obtain⟨n,hn,hm⟩:=s.map;obtain⟨xs,e,ha⟩:=s.ask;exact⟨s.hB,s.mB,by rw[hk h (Or.inl rfl)];exact s.blk,⟨n,hn,hm.same (hk mb (Or.inr (Or.inl rfl)))⟩,⟨xs,e,Al ha (λb q=>hk b (by simp[q]))⟩,Al s.stk (λb q=>hk b (by simp[q])),s.dis,s.vsl⟩
theorem Mj.lt(s:Mj B h mb k sv tv fv w ms mk st al av kv vs){b:X}(q:b=h\/b=mb\/av.ownBlock=M b\/kv.ownBlock=M b):b<w.heap.size:=by
 obtain⟨n,hn,hm⟩:=s.map;obtain⟨xs,e,ha⟩:=s.ask
 rcases q with rfl|rfl|q|q
 ·exact Ag s.blk
 ·exact hm.lt
 ·exact(ha.lt b q).2
 ·exact(s.stk.lt b q).2
theorem Mj.bl(s:Mj B h mb k sv tv fv w ms mk st al av kv vs)(hb:Bw w w'):Mj B h mb k sv tv fv w' ms mk st al av kv vs:=s.kept λb q=>hb.block b (s.lt q)
theorem Mj.le{k':X}(s:Mj B h mb k sv tv fv w ms mk st al av kv vs)(hk:k'<=k):Mj B h mb k' sv tv fv w ms mk st al av kv vs:=by
 obtain⟨n,hn,hm⟩:=s.map;exact⟨s.hB,s.mB,s.blk,⟨n,qb,hm⟩,s.ask,s.stk,s.dis,s.vsl⟩
theorem Mj.cells(s:Mj B h mb k sv tv fv w ms mk st al av kv vs):w.cell? ⟨h,0,N⟩=M sv/\w.cell? ⟨h,1,N⟩=M tv/\w.cell? ⟨h,2,N⟩=M (.map (M mb))/\w.cell? ⟨h,3,N⟩=M av/\w.cell? ⟨h,4,N⟩=M kv/\w.cell? ⟨h,5,N⟩=M fv/\∀j,w.frozen? ⟨h,j,N⟩=false:=by
 refine⟨?_,?_,?_,?_,?_,?_,λj=>fH s.blk j⟩<;>rw[cH s.blk]<;>rfl
theorem Mj.hne(s:Mj B h mb k sv tv fv w ms mk st al av kv vs):h≠mb:=λe=>by
 obtain⟨n,_,hm⟩:=s.map;subst e;exact hm.notCells s.blk
theorem Mj.far(s:Mj B h mb k sv tv fv w ms mk st al av kv vs){b:X}{T:TypeId}{cs:Array Z}(hb:w.heap[b]?=M (O cs T (0,0)))(h1:T≠211)(h2:T≠9){b':X}(q:b'=h\/b'=mb\/av.ownBlock=M b'\/kv.ownBlock=M b'):b'≠b:=by
 obtain⟨n,hn,hm⟩:=s.map;obtain⟨xs,e,ha⟩:=s.ask;rintro rfl
 rcases q with rfl|rfl|q|q
 ·have q2:=s.blk;rw[hb]at q2;injection q2 with q2;injection q2 with _ q2;exact h1 q2
 ·exact hm.notCells hb
 ·exact Ae ha h2 hb q
 ·exact Ae s.stk h2 hb q
theorem Mj.set(s:Mj B h mb k sv tv fv w ms mk st al av kv vs){b:X}{T:TypeId}{cs:Array Z}(hb:w.heap[b]?=M (O cs T (0,0)))(h1:T≠211)(h2:T≠9)(j:X)(u:Z):Mj B h mb k sv tv fv (w.setCell ⟨b,j,N⟩ u) ms mk st al av kv vs:=s.kept λb' q=>hC w ⟨b,j,N⟩ _ b' (s.far hb h1 h2 q)
theorem Mj.askd(s:Mj B h mb k sv tv fv w ms mk st al av kv vs){w2:E}{o:Obj}{g cp:X}{nm:By}{xs:L By}(hx:xs.length=al)(hg:(w.alloc o).grownBy w2 av.ownBlock)(ho:w2.ownsRow B 9 1 (J (p_ g) (al+1) cp) (al+1) (Aq xs++[S nm]))(hl:av.ownBlock=M g\/g=w.heap.size+1)(hB:B<=w.heap.size):Mj B h mb (k+2) sv tv fv (w2.setCell ⟨h,3,N⟩ (J (p_ g) (al+1) cp)) ms mk st (al+1) (J (p_ g) (al+1) cp) kv vs/\KP B h mb av kv w (w2.setCell ⟨h,3,N⟩ (J (p_ g) (al+1) cp))/\An w av (J (p_ g) (al+1) cp):=by
 have s1:=s.bl (Ai w o);obtain⟨ys,ey,hask⟩:=s1.ask;obtain⟨ys0,ey0,tg⟩:=s.ask;have hhA:h<(w.alloc o).heap.size:=Ag s1.blk;obtain⟨n,hn,hm⟩:=s1.map;have o8:∀b,b<(w.alloc o).heap.size->av.ownBlock≠M b->w2.heap[b]?=(w.alloc o).heap[b]?:=λb h1 h2=>hg.block b h1 (λe=>h2 e.symm);have hh:w2.heap[h]?=M (O #[sv,tv,.map (M mb),av,kv,fv] 211 (0,0)):=by rw[o8 h hhA (Ae hask qd s1.blk)];exact s1.blk
 have hgh:∀b,(Value.slice (p_ g) (al+1) cp).ownBlock=M b->b≠h:=λb q e=>by
  subst e;exact Ae ho qd hh q
 have oh:∀b,b≠h->(w2.setCell ⟨h,3,N⟩ (J (p_ g) (al+1) cp)).heap[b]?=w2.heap[b]?:=λb hb=>hC w2 ⟨h,3,N⟩ _ b hb;have hkb:∀b,kv.ownBlock=M b->b≠h/\w2.heap[b]?=(w.alloc o).heap[b]?:=λb q=>⟨λe=>by subst e;exact Ae s1.stk qd s1.blk q,o8 b (Ll s1.stk b q).2 (λe=>s.dis b e q)⟩;refine⟨⟨s.hB,s.mB,by rw[jB hh];rfl,⟨n,qb,hm.same ?_⟩,⟨xs++[nm],by simp[hx],?_⟩,Al s1.stk (λb q=>by rw[oh b (hkb b q).1];exact(hkb b q).2),?_,s.vsl⟩,⟨?_,λb h1 h2 h3 h4 h5=>?_⟩,λb q=>?_⟩
 ·rw[oh mb s1.hne.symm,o8 mb hm.lt (Jq hask hm)]
 ·rw[show Aq (xs++[nm])=Aq xs++[S nm] from qai]
  exact Al ho (λb q=>oh b (hgh b q))
 ·intro b q e
  simp[Value.ownBlock]at q;subst q
  rcases hl with q|q
  ·exact s.dis _ q e
  ·have:=(Ll s.stk _ e).2;omega
 ·refine Below.setCell (p:=⟨h,3,N⟩) (((Below.refl B w).alloc hB _).grown hg qh (λb q=>?_)) s.hB _
  exact(Ll tg b q).1
 ·rw[oh b h2,o8 b qh h4,Lib.alloc_old _ _ _ h1]
 ·exact qlq
theorem Mj.push(s:Mj B h mb (k+1) sv tv fv w ms mk st al av kv vs){w2:E}{o:Obj}{g cp:X}{nm:By}(hg:(w.alloc o).grownBy w2 kv.ownBlock)(ho:w2.ownsRow B 9 1 (J (p_ g) (st.length+1) cp) (st.length+1) (Aq st++[S nm]))(hl:kv.ownBlock=M g\/g=w.heap.size+1)(hB:B<=w.heap.size):Mj B h mb k sv tv fv (w2.setCell ⟨h,4,N⟩ (J (p_ g) (st.length+1) cp)) ms mk (st++[nm]) al av (J (p_ g) (st.length+1) cp) vs/\KP B h mb av kv w (w2.setCell ⟨h,4,N⟩ (J (p_ g) (st.length+1) cp))/\An w kv (J (p_ g) (st.length+1) cp):=by
 have s1:=s.bl (Ai w o);obtain⟨ys,ey,hask⟩:=s1.ask;obtain⟨ys0,ey0,tg⟩:=s.ask;have hhA:h<(w.alloc o).heap.size:=Ag s1.blk;obtain⟨n,hn,hm⟩:=s1.map;have o8:∀b,b<(w.alloc o).heap.size->kv.ownBlock≠M b->w2.heap[b]?=(w.alloc o).heap[b]?:=λb h1 h2=>hg.block b h1 (λe=>h2 e.symm);have hh:w2.heap[h]?=M (O #[sv,tv,.map (M mb),av,kv,fv] 211 (0,0)):=by rw[o8 h hhA (Ae s1.stk qd s1.blk)];exact s1.blk
 have hgh:∀b,(Value.slice (p_ g) (st.length+1) cp).ownBlock=M b->b≠h:=λb q e=>by
  subst e;exact Ae ho qd hh q
 have oh:∀b,b≠h->(w2.setCell ⟨h,4,N⟩ (J (p_ g) (st.length+1) cp)).heap[b]?=w2.heap[b]?:=λb hb=>hC w2 ⟨h,4,N⟩ _ b hb;have hkb:∀b,av.ownBlock=M b->b≠h/\w2.heap[b]?=(w.alloc o).heap[b]?:=λb q=>⟨λe=>by subst e;exact Ae hask qd s1.blk q,o8 b (Ll hask b q).2 (λe=>s.dis b q e)⟩;refine⟨⟨s.hB,s.mB,by rw[jB hh];rfl,⟨n,qbp,hm.same ?_⟩,⟨ys,ey,Al hask (λb q=>by rw[oh b (hkb b q).1];exact(hkb b q).2)⟩,?_,?_,s.vsl⟩,⟨?_,λb h1 h2 h3 h4 h5=>?_⟩,λb q=>?_⟩
 ·rw[oh mb s1.hne.symm,o8 mb hm.lt (Jq s1.stk hm)]
 ·rw[List.length_append,List.length_singleton,show Aq (st++[nm])=Aq st++[S nm] from qai]
  exact Al ho (λb q=>oh b (hgh b q))
 ·intro b e q
  simp[Value.ownBlock]at q;subst q
  rcases hl with q|q
  ·exact s.dis _ e q
  ·have:=(Ll tg _ e).2;omega
 ·refine Below.setCell (p:=⟨h,4,N⟩) (((Below.refl B w).alloc hB _).grown hg qh (λb q=>?_)) s.hB _
  exact(Ll s.stk b q).1
 ·rw[oh b h2,o8 b qh h5,Lib.alloc_old _ _ _ h1]
 ·exact qlq
theorem Mj.pop{g cp:X}{nm:By}(s:Mj B h mb k sv tv fv w ms mk (st++[nm]) al av (J (p_ g) (st.length+1) cp) vs):Mj B h mb (k+1) sv tv fv (w.setCell ⟨h,4,N⟩ (J (p_ g) st.length cp)) ms mk st al av (J (p_ g) st.length cp) vs:=by
 obtain⟨n,hn,hm⟩:=s.map;obtain⟨ys,ey,hask⟩:=s.ask;rw[List.length_append,List.length_singleton]at hn;have oh:∀b,b≠h->(w.setCell ⟨h,4,N⟩ (J (p_ g) st.length cp)).heap[b]?=w.heap[b]?:=λb hb=>hC w ⟨h,4,N⟩ _ b hb
 have hstk:w.ownsRow B 9 1 (J (p_ g) st.length cp) st.length (Aq st):=by
  have q:=s.stk;rw[List.length_append,List.length_singleton]at q;exact Tq q
 refine⟨s.hB,s.mB,by rw[jB s.blk];rfl,⟨n,qb,hm.same (oh mb s.hne.symm)⟩,⟨ys,ey,Al hask (λb q=>oh b (λe=>?_))⟩,Al hstk (λb q=>oh b (λe=>?_)),λb q e=>s.dis b q qcn,s.vsl⟩
 ·subst e;exact Ae hask qd s.blk q
 ·subst e;exact Ae hstk qd s.blk q
open Classical in
theorem Mj.mark{w2:E}{n:X}{ms':Mm}{mk':L By}{vs':By->Z}{nm:By}{v:Z}(s:Mj B h mb k sv tv fv w ms mk st al av kv vs)(hn:n+st.length+k<=2*al)(hm:Jb w2 mb n (λx=>if x=nm then M v else He ms mk vs x))(hg:w.grownBy w2 (M mb))(he:∀x,He ms' mk' vs' x=if x=nm then M v else He ms mk vs x)(hv:∀x,∃a n c,vs' x=J a n c):Mj B h mb k sv tv fv w2 ms' mk' st al av kv vs':=by
 obtain⟨n0,_,hm0⟩:=s.map;obtain⟨ys,ey,hask⟩:=s.ask;have o8:∀b,b<w.heap.size->b≠mb->w2.heap[b]?=w.heap[b]?:=λb h1 h2=>hg.block b h1 (λe=>h2 qas);refine⟨s.hB,s.mB,by rw[o8 h (Ag s.blk) s.hne];exact s.blk,⟨n,hn,hm.congr λx=>(he x).symm⟩,⟨ys,ey,Al hask (λb q=>o8 b (Ll hask b q).2 (λe=>?_))⟩,Al s.stk (λb q=>o8 b (Ll s.stk b q).2 (λe=>?_)),s.dis,hv⟩
 ·subst e;exact Jq hask hm0 q
 ·subst e;exact Jq s.stk hm0 q
end
def kL(x:By)(y:Bool):Z:=.agg #[S x,F y]
theorem cells222:prog.cellsOf 242=2:=qi
theorem cells9L:prog.cellsOf 9=1:=qi
theorem cells4L:prog.cellsOf 4=1:=qi
theorem keyL{x:By}{y:Bool}(hs:x.size<=maxLen):∃l,keyOf prog 242 (kL x y)=some l:=by
 obtain⟨d,ed⟩:∃d,prog.types.size+1=d+2:=⟨prog.types.size-1,by have:1<=prog.types.size:=qcf;omega⟩
 have e2:prog.keyLits (d+1+1) 242 [.string x,.bool y]=some [.string x.data.toList,.bool y]:=by
  (have q1:prog.keyLits (d+1) 9 [.string x]=some [.string x.data.toList]:=by unfold Program.keyLits;simp[underlying9,hs]);have q2:prog.keyLits (d+1) 4 [.bool y]=some [.bool y]:=by unfold Program.keyLits;simp[underlying4]
  conv=>lhs;unfold Program.keyLits
  simp only[underlying242,cells222];simp[cells9L,cells4L,q1,q2]
 refine⟨.string (keyBytes [.string x.data.toList,.bool y]),?_⟩;have hkt:prog.keyType 242=true:=qcf;unfold keyOf kL;simp only[underlying242,hkt,Value.formed,cells222,ed];simp[Value.cells,e2]
theorem laidZ:laidOutB prog=true:=qcf
theorem Yw:WideMaps.KeyLaw prog 242:=deep_law_gate laidZ qcf qcf qcf (by rw[underlying242])
def sgV(s:By):Z:=.agg #[S s]
def Kb(w:E)(b n:X)(f:By->Bool->Option ByteArray):Prop:=
 ∃AJ:DataW Z,w.ownsMap prog 242 (λv=>M (.held v,[])) b n AJ/\∀x y l,keyOf prog 242 (kL x y)=M l->Maps.has AJ l=(f x y).isSome/\∀v,f x y=M v->∀z,AJ.atKey l z=.held (sgV v)
theorem Kb.made(w:E):Kb (w.alloc (.map #[] 0)) w.heap.size 0 (λ_ _=>N):=⟨_,World.ownsMap_made w _ _ _,λx y l _=>⟨rfl,λv h=>by cases h⟩⟩
theorem Kb.same{w':E}(h:Kb w b n f)(he:w'.heap[b]?=w.heap[b]?):Kb w' b n f:=by
 exact qmg
theorem Kb.lt(h:Kb w b n f):b<w.heap.size:=by obtain⟨AJ,h1,_⟩:=h;exact h1.lt
theorem Kb.notCells(h:Kb w b n f){cs:Array Z}{T:TypeId}{fr:X×X}(hc:w.heap[b]?=M (O cs T fr)):False:=by
 obtain⟨AJ,⟨es,cl,h1,_⟩,_⟩:=h;rw[hc]at h1;cases h1
theorem zero238(w:E):(zeroValue 258).run prog w=.ok (sgV ⟨#[]⟩) w:=qi
theorem Kb.look(h:Kb w b n f)(hk:x.size<=maxLen):(Instr.lookup 166 (.map (M b)) (kL x y) true).run prog w=.ok (.tuple #[sgV ((f x y).getD ⟨#[]⟩),.bool (f x y).isSome]) w:=by
 obtain⟨AJ,h1,h2⟩:=h;obtain⟨l,hl⟩:=keyL (x:=x) (y:=y) hk;obtain⟨v,ps,h3,h4⟩:=h1.look_ok (Maps.Keyed.of_law Yw) underlying166 (zero238 w) (zd:=.held (sgV ⟨#[]⟩)) (zp:=[]) rfl hl
 have h5:(DataW.held v:DataW Z)=AJ.atKey l (.held (sgV ⟨#[]⟩)):=by
  simp only[Option.some.injEq,Prod.mk.injEq]at h4;exact h4.1
 have h6:v=sgV ((f x y).getD ⟨#[]⟩):=by
  cases hf:f x y with
  | none=>
    have h7:=(h2 x y l hl).1;rw[hf]at h7;rw[Maps.atKey_of_not_has h7]at h5;exact DataW.held.inj h5
  | some u=>
    rw[(h2 x y l hl).2 u hf]at h5;exact DataW.held.inj h5
 rw[h3,(h2 x y l hl).1,h6]
open Classical in
theorem Kb.store{f:ByteArray->Bool->Option ByteArray}(h:Kb w b n f){x:ByteArray}(hk:x.size<=maxLen)(hn:n<maxLen)(v:ByteArray):∃w',(Instr.mapUpdate 166 (.map (M b)) (kL x y) (sgV v)).run Tryz.prog w=.ok () w'/\Kb w' b (n+1) (λx' y'=>if x'=x/\y'=y then M v else f x' y')/\w.grownBy w' (M b):=by
 obtain⟨AJ,h1,h2⟩:=h;obtain⟨l,hl⟩:=keyL (x:=x) (y:=y) hk;obtain⟨w',h3,h4,h5⟩:=h1.update (Maps.Keyed.of_law Yw) Tryz.underlying166 hn hl (val:=sgV v) (d:=.held (sgV v)) (ps:=[]) rfl
 have hkey:∀ {k:Z} {l:Lit},keyOf Tryz.prog 242 k=M l->WideAt.IsKeyLit l:=λh=>by
  obtain⟨s,rfl⟩:=Yw.str h;trivial
 refine⟨w',h3,⟨_,h4,λx' y' m hx=>?_⟩,h5⟩
 by_cases T4:x'=x/\y'=y
 ·obtain⟨rfl,rfl⟩:=T4
  (obtain rfl:m=l:=by rw[hx]at hl;exact Option.some.inj hl);simp only[and_self,if_true];exact⟨Maps.has_put_same h1.isMap (hkey hx) _,λv' e z=>by cases e;exact Maps.atKey_put_same h1.isMap (hkey hx) _ _⟩
 ·simp only[if_neg T4]
  have hne:m≠l:=λe=>T4 (by
   have q:=Yw.inj (e▸hx) hl;unfold kL at q;injection q with q;have q2:=congrArg Array.toList q;simp only[List.cons.injEq,Value.string.injEq,Value.bool.injEq,and_true]at q2;exact q2)
  exact⟨by rw[Maps.has_put_other hne];exact(h2 x' y' m hx).1,λv' e z=>by rw[Maps.atKey_put_other hne];exact(h2 x' y' m hx).2 v' e z⟩
end Go.Proofs.YtbkkjodaaijimaaGreatDoor
