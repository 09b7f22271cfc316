import Derived.Test.YtoakjccojifagaaGreatDoorBdB
namespace Go.Proofs.YtoakjccojifagaaGreatDoor
open _root_.Go.Proofs.Tryz Go.RowKit Go.Deep
open Value renaming slice->J,string->S,bool->F
open Option renaming some->M,none->N
open Obj renaming cells->O
open Go renaming Value->Z,World->E
open _root_ renaming List->L,Nat->X
set_option linter.unusedVariables false
set_option maxHeartbeats 8000000
set_option maxRecDepth 100000
set_option linter.unusedSimpArgs false
section
open Go.Deep
theorem Di{w w':E}{m j:X}(h:w'.heap[m]?=w.heap[m]?):w'.cell? ⟨m,j,N⟩=w.cell? ⟨m,j,N⟩:=by simp only[World.cell?,h]
theorem Cc.kept{B:X}{w w':E}{m:X}{ss:L By}{cd:Z}{pl st lk:Int}(hM:Cc B w m ss cd pl st lk)(hm:w'.heap[m]?=w.heap[m]?)(hk:∀v b,w.cell? ⟨m,0,N⟩=M v->v.ownBlock=M b->w'.heap[b]?=w.heap[b]?):Cc B w' m ss cd pl st lk:=by
 obtain⟨hB,v,h1,h2⟩:=hM
 have c0:w.cell? ⟨m,0,N⟩=M v:=by
  unfold Fo at h1;rw[cH h1];rfl
 exact⟨hB,v,by unfold Fo at *;rw[hm];exact h1,Al h2 (λb q=>hk v b c0 q)⟩
theorem Gn.kept{is:L I3}{ys:L R3}{B m T:X}{cd:Z}{ov:Bool}{c:Int}{t:By}{ask:Bool}{nm:By}{st:Int}{w w':E}(h:Gn is ys B m T cd ov c t ask nm st w)(hT:w'.heap[T]?=w.heap[T]?)(hm:w'.heap[m]?=w.heap[m]?)(hs:w.heap.size<=w'.heap.size)(hk:∀v b,w.cell? ⟨m,0,N⟩=M v->v.ownBlock=M b->w'.heap[b]?=w.heap[b]?):Gn is ys B m T cd ov c t ask nm st w':=
 ⟨by rw[hT];exact h.1,h.2.1,h.2.2.1,Nat.lt_of_lt_of_le h.2.2.2.1 hs,h.2.2.2.2.mono (λ_ _ _ _ k=>k.kept hm hk)⟩
theorem Gn.mach{is:L I3}{ys:L R3}{B m T:X}{cd:Z}{c:Int}{t:By}{ask:Bool}{nm:By}{st:Int}{w:E}(h:Gn is ys B m T cd false c t ask nm st w):B<=m/\∃v cs,w.heap[m]?=M (O cs 237 (0,0))/\w.cell? ⟨m,0,N⟩=M v/\∀b,v.ownBlock=M b->B<=b/\b<w.heap.size/\∃cur,w.heap[b]?=M (O cur 9 (0,0)):=by
 rcases h.2.2.2.2 with⟨q,_⟩|⟨_,_,_,s1,s',_,_,_,_,_,hB,v,h1,h2⟩
 ·cases q
 ·unfold Fo at h1;refine⟨hB,v,_,h1,by rw[cH h1];rfl,λb hb=>?_⟩;obtain⟨k1,cur,k2⟩:=Dv h2 hb;exact⟨k1,(h2.lt b hb).2,cur,k2⟩
section
variable {W0:E} {h mb:X} {sv tv fv cd:Z} {ss:L S2} {ts:L T2} {is:L I3} {w:E} {ms:Ms} {st:L By} {av kv:Z} {vs:By->Z} {Bm m T AM R:X}
 {ys:L R3} {ls:L G3} {m1:Ms} {av1 kv1:Z} {vs1:By->Z} {lv:Z} {ov:Bool} {c:Int} {t:By} {ask:Bool} {nm:By} {stp:Int} {wr:E}
end
end
structure Ga where
 hb:X
 hs:X
 sb:X
 n:X
def fvC(C:Ga):Z:=.func (.func 85) #[.pointer (p_ C.hb)] #[]
open Classical in
noncomputable def Hk (ms:Mm) (mk:L By) (vs:By->Z) (x:By):Option Z:=
 match fd ms x with
 | some d=>M (Fj d (vs x))
 | none=>if Eg mk x then M Hy else N
theorem Rr{ms:Mm}{mk:L By}{vs:By->Z}{x:By}{d:Md}(h:fd ms x=M d):Hk ms mk vs x=M (Fj d (vs x)):=by unfold Hk;rw[h]
theorem Qb{ms:Mm}{mk:L By}{vs:By->Z}{x:By}(h:fd ms x=N)(k:Eg mk x):Hk ms mk vs x=M Hy:=by unfold Hk;rw[h];simp[k]
theorem Xm{ms:Mm}{mk:L By}{vs:By->Z}{x:By}(h:fd ms x=N)(k:¬ Eg mk x):Hk ms mk vs x=N:=by unfold Hk;rw[h];simp[k]
open Classical in
theorem markB_push{ms:Mm}{mk:L By}{vs:By->Z}{nm:By}(h:fd ms nm=N)(x:By):Hk ms (mk++[nm]) vs x=if x=nm then M Hy else Hk ms mk vs x:=by
 by_cases hx:x=nm
 ·subst hx;rw[if_pos rfl];exact Qb h (Ee.2 (Or.inr rfl))
 ·rw[if_neg hx]
  (have:Eg (mk++[nm]) x↔Eg mk x:=by rw[Ee];simp[hx]);unfold Hk
  cases fd ms x with
  | some d=>rfl
  | none=>simp only[this]
open Classical in
theorem markB_end{ms:Mm}{mk st:L By}{vs:By->Z}{nm:By}{d:Md}{lv:Z}(h:fd ms nm=N)(hm:∀x,x≠nm->(Eg mk x↔Eg st x))(x:By):Hk (ms++[(nm,d)]) st (λy=>if y=nm then lv else vs y) x=if x=nm then M (Fj d lv) else Hk ms mk vs x:=by
 by_cases hx:x=nm
 ·subst hx;rw[if_pos rfl,Rr (Ii h)];simp
 ·rw[if_neg hx]
  unfold Hk;rw[Lz hx]
  cases fd ms x with
  | some d=>simp[hx]
  | none=>simp only[hm x hx]
structure Mo (B h mb k:X) (sv tv fv:Z) (w:E) (ms:Mm) (mk st:L By) (al:X) (av kv:Z) (vs:By->Z):Prop where
 hB:B<=h
 mB:B<=mb
 blk:w.heap[h]?=M (O #[sv,tv,.map (M mb),av,kv,fv] 153 (0,0))
 map:∃n,n+st.length+k<=2*al/\Jl w mb n (Hk ms mk vs)
 ask:∃xs:L By,xs.length=al/\w.ownsRow B 9 1 av al (Av xs)
 stk:w.ownsRow B 9 1 kv st.length (Av st)
 dis:∀b,av.ownBlock=M b->kv.ownBlock≠M b
 vsl:∀x,∃a n c,vs x=J a n c
section
variable {B h mb k:X} {sv tv fv:Z} {w w':E} {ms:Mm} {mk st:L By} {al:X} {av kv:Z} {vs:By->Z}
theorem Mo.kept(s:Mo B h mb k sv tv fv w ms mk st al av kv vs)(hk:∀b,(b=h\/b=mb\/av.ownBlock=M b\/kv.ownBlock=M b)->w'.heap[b]?=w.heap[b]?):Mo B h mb k sv tv fv w' ms mk st al av kv vs:=by
 obtain⟨n,hn,hm⟩:=s.map;obtain⟨xs,e,ha⟩:=s.ask;exact⟨s.hB,s.mB,by rw[hk h (Or.inl rfl)];exact s.blk,⟨n,hn,hm.same (hk mb (Or.inr (Or.inl rfl)))⟩,⟨xs,e,Al ha (λb q=>hk b (by simp[q]))⟩,Al s.stk (λb q=>hk b (by simp[q])),s.dis,s.vsl⟩
theorem Mo.lt(s:Mo B h mb k sv tv fv w ms mk st al av kv vs){b:X}(q:b=h\/b=mb\/av.ownBlock=M b\/kv.ownBlock=M b):b<w.heap.size:=by
 obtain⟨n,hn,hm⟩:=s.map;obtain⟨xs,e,ha⟩:=s.ask
 rcases q with rfl|rfl|q|q
 ·exact Ag s.blk
 ·exact hm.lt
 ·exact(ha.lt b q).2
 ·exact(s.stk.lt b q).2
theorem Mo.bl(s:Mo B h mb k sv tv fv w ms mk st al av kv vs)(hb:Bw w w'):Mo B h mb k sv tv fv w' ms mk st al av kv vs:=s.kept λb q=>hb.block b (s.lt q)
theorem Mo.le{k':X}(s:Mo B h mb k sv tv fv w ms mk st al av kv vs)(hk:k'<=k):Mo B h mb k' sv tv fv w ms mk st al av kv vs:=by
 obtain⟨n,hn,hm⟩:=s.map;exact⟨s.hB,s.mB,s.blk,⟨n,qb,hm⟩,s.ask,s.stk,s.dis,s.vsl⟩
theorem Mo.cells(s:Mo B h mb k sv tv fv w ms mk st al av kv vs):w.cell? ⟨h,0,N⟩=M sv/\w.cell? ⟨h,1,N⟩=M tv/\w.cell? ⟨h,2,N⟩=M (.map (M mb))/\w.cell? ⟨h,3,N⟩=M av/\w.cell? ⟨h,4,N⟩=M kv/\w.cell? ⟨h,5,N⟩=M fv/\∀j,w.frozen? ⟨h,j,N⟩=false:=by
 refine⟨?_,?_,?_,?_,?_,?_,λj=>fH s.blk j⟩<;>rw[cH s.blk]<;>rfl
theorem Mo.hne(s:Mo B h mb k sv tv fv w ms mk st al av kv vs):h≠mb:=λe=>by
 obtain⟨n,_,hm⟩:=s.map;subst e;exact hm.notCells s.blk
theorem Mo.far(s:Mo B h mb k sv tv fv w ms mk st al av kv vs){b:X}{T:TypeId}{cs:Array Z}(hb:w.heap[b]?=M (O cs T (0,0)))(h1:T≠153)(h2:T≠9){b':X}(q:b'=h\/b'=mb\/av.ownBlock=M b'\/kv.ownBlock=M b'):b'≠b:=by
 obtain⟨n,hn,hm⟩:=s.map;obtain⟨xs,e,ha⟩:=s.ask;rintro rfl
 rcases q with rfl|rfl|q|q
 ·have q2:=s.blk;rw[hb]at q2;injection q2 with q2;injection q2 with _ q2;exact h1 q2
 ·exact hm.notCells hb
 ·exact Ae ha h2 hb q
 ·exact Ae s.stk h2 hb q
theorem Mo.set(s:Mo B h mb k sv tv fv w ms mk st al av kv vs){b:X}{T:TypeId}{cs:Array Z}(hb:w.heap[b]?=M (O cs T (0,0)))(h1:T≠153)(h2:T≠9)(j:X)(u:Z):Mo B h mb k sv tv fv (w.setCell ⟨b,j,N⟩ u) ms mk st al av kv vs:=s.kept λb' q=>Dj w ⟨b,j,N⟩ _ b' (s.far hb h1 h2 q)
theorem Mo.askd(s:Mo B h mb k sv tv fv w ms mk st al av kv vs){w2:E}{o:Obj}{g cp:X}{nm:By}{xs:L By}(hx:xs.length=al)(hg:(w.alloc o).grownBy w2 av.ownBlock)(ho:w2.ownsRow B 9 1 (J (p_ g) (al+1) cp) (al+1) (Av xs++[S nm]))(hl:av.ownBlock=M g\/g=w.heap.size+1)(hB:B<=w.heap.size):Mo B h mb (k+2) sv tv fv (w2.setCell ⟨h,3,N⟩ (J (p_ g) (al+1) cp)) ms mk st (al+1) (J (p_ g) (al+1) cp) kv vs/\KP B h mb av kv w (w2.setCell ⟨h,3,N⟩ (J (p_ g) (al+1) cp))/\An w av (J (p_ g) (al+1) cp):=by
 have s1:=s.bl (Ai w o);obtain⟨ys,ey,hask⟩:=s1.ask;obtain⟨ys0,ey0,ve⟩:=s.ask;have hhA:h<(w.alloc o).heap.size:=Ag s1.blk;obtain⟨n,hn,hm⟩:=s1.map;have wf:∀b,b<(w.alloc o).heap.size->av.ownBlock≠M b->w2.heap[b]?=(w.alloc o).heap[b]?:=λb h1 h2=>hg.block b h1 (λe=>h2 e.symm);have hh:w2.heap[h]?=M (O #[sv,tv,.map (M mb),av,kv,fv] 153 (0,0)):=by rw[wf h hhA (Ae hask qd s1.blk)];exact s1.blk
 have hgh:∀b,(Value.slice (p_ g) (al+1) cp).ownBlock=M b->b≠h:=λb q e=>by
  subst e;exact Ae ho qd hh q
 have pz:∀b,b≠h->(w2.setCell ⟨h,3,N⟩ (J (p_ g) (al+1) cp)).heap[b]?=w2.heap[b]?:=λb hb=>Dj w2 ⟨h,3,N⟩ _ b hb;have hkb:∀b,kv.ownBlock=M b->b≠h/\w2.heap[b]?=(w.alloc o).heap[b]?:=λb q=>⟨λe=>by subst e;exact Ae s1.stk qd s1.blk q,wf b (Ls s1.stk b q).2 (λe=>s.dis b e q)⟩;refine⟨⟨s.hB,s.mB,by rw[jB hh];rfl,⟨n,qb,hm.same ?_⟩,⟨xs++[nm],by simp[hx],?_⟩,Al s1.stk (λb q=>by rw[pz b (hkb b q).1];exact(hkb b q).2),?_,s.vsl⟩,⟨?_,λb h1 h2 h3 h4 h5=>?_⟩,λb q=>?_⟩
 ·rw[pz mb s1.hne.symm,wf mb hm.lt (Ka hask hm)]
 ·rw[show Av (xs++[nm])=Av xs++[S nm] from qah]
  exact Al ho (λb q=>pz b (hgh b q))
 ·intro b q e
  simp[Value.ownBlock]at q;subst q
  rcases hl with q|q
  ·exact s.dis _ q e
  ·have:=(Ls s.stk _ e).2;omega
 ·refine Below.setCell (p:=⟨h,3,N⟩) (((Below.refl B w).alloc hB _).grown hg qh (λb q=>?_)) s.hB _
  exact(Ls ve b q).1
 ·rw[pz b h2,wf b qh h4,Lib.alloc_old _ _ _ h1]
 ·exact qma
theorem Mo.push(s:Mo B h mb (k+1) sv tv fv w ms mk st al av kv vs){w2:E}{o:Obj}{g cp:X}{nm:By}(hg:(w.alloc o).grownBy w2 kv.ownBlock)(ho:w2.ownsRow B 9 1 (J (p_ g) (st.length+1) cp) (st.length+1) (Av st++[S nm]))(hl:kv.ownBlock=M g\/g=w.heap.size+1)(hB:B<=w.heap.size):Mo B h mb k sv tv fv (w2.setCell ⟨h,4,N⟩ (J (p_ g) (st.length+1) cp)) ms mk (st++[nm]) al av (J (p_ g) (st.length+1) cp) vs/\KP B h mb av kv w (w2.setCell ⟨h,4,N⟩ (J (p_ g) (st.length+1) cp))/\An w kv (J (p_ g) (st.length+1) cp):=by
 have s1:=s.bl (Ai w o);obtain⟨ys,ey,hask⟩:=s1.ask;obtain⟨ys0,ey0,ve⟩:=s.ask;have hhA:h<(w.alloc o).heap.size:=Ag s1.blk;obtain⟨n,hn,hm⟩:=s1.map;have wf:∀b,b<(w.alloc o).heap.size->kv.ownBlock≠M b->w2.heap[b]?=(w.alloc o).heap[b]?:=λb h1 h2=>hg.block b h1 (λe=>h2 e.symm);have hh:w2.heap[h]?=M (O #[sv,tv,.map (M mb),av,kv,fv] 153 (0,0)):=by rw[wf h hhA (Ae s1.stk qd s1.blk)];exact s1.blk
 have hgh:∀b,(Value.slice (p_ g) (st.length+1) cp).ownBlock=M b->b≠h:=λb q e=>by
  subst e;exact Ae ho qd hh q
 have pz:∀b,b≠h->(w2.setCell ⟨h,4,N⟩ (J (p_ g) (st.length+1) cp)).heap[b]?=w2.heap[b]?:=λb hb=>Dj w2 ⟨h,4,N⟩ _ b hb;have hkb:∀b,av.ownBlock=M b->b≠h/\w2.heap[b]?=(w.alloc o).heap[b]?:=λb q=>⟨λe=>by subst e;exact Ae hask qd s1.blk q,wf b (Ls hask b q).2 (λe=>s.dis b q e)⟩;refine⟨⟨s.hB,s.mB,by rw[jB hh];rfl,⟨n,qbt,hm.same ?_⟩,⟨ys,ey,Al hask (λb q=>by rw[pz b (hkb b q).1];exact(hkb b q).2)⟩,?_,?_,s.vsl⟩,⟨?_,λb h1 h2 h3 h4 h5=>?_⟩,λb q=>?_⟩
 ·rw[pz mb s1.hne.symm,wf mb hm.lt (Ka s1.stk hm)]
 ·rw[List.length_append,List.length_singleton,show Av (st++[nm])=Av st++[S nm] from qah]
  exact Al ho (λb q=>pz b (hgh b q))
 ·intro b e q
  simp[Value.ownBlock]at q;subst q
  rcases hl with q|q
  ·exact s.dis _ e q
  ·have:=(Ls ve _ e).2;omega
 ·refine Below.setCell (p:=⟨h,4,N⟩) (((Below.refl B w).alloc hB _).grown hg qh (λb q=>?_)) s.hB _
  exact(Ls s.stk b q).1
 ·rw[pz b h2,wf b qh h5,Lib.alloc_old _ _ _ h1]
 ·exact qma
theorem Mo.pop{g cp:X}{nm:By}(s:Mo B h mb k sv tv fv w ms mk (st++[nm]) al av (J (p_ g) (st.length+1) cp) vs):Mo B h mb (k+1) sv tv fv (w.setCell ⟨h,4,N⟩ (J (p_ g) st.length cp)) ms mk st al av (J (p_ g) st.length cp) vs:=by
 obtain⟨n,hn,hm⟩:=s.map;obtain⟨ys,ey,hask⟩:=s.ask;rw[List.length_append,List.length_singleton]at hn;have pz:∀b,b≠h->(w.setCell ⟨h,4,N⟩ (J (p_ g) st.length cp)).heap[b]?=w.heap[b]?:=λb hb=>Dj w ⟨h,4,N⟩ _ b hb
 have hstk:w.ownsRow B 9 1 (J (p_ g) st.length cp) st.length (Av st):=by
  have q:=s.stk;rw[List.length_append,List.length_singleton]at q;exact Um q
 refine⟨s.hB,s.mB,by rw[jB s.blk];rfl,⟨n,qb,hm.same (pz mb s.hne.symm)⟩,⟨ys,ey,Al hask (λb q=>pz b (λe=>?_))⟩,Al hstk (λb q=>pz b (λe=>?_)),λb q e=>s.dis b q qct,s.vsl⟩
 ·subst e;exact Ae hask qd s.blk q
 ·subst e;exact Ae hstk qd s.blk q
open Classical in
theorem Mo.mark{w2:E}{n:X}{ms':Mm}{mk':L By}{vs':By->Z}{nm:By}{v:Z}(s:Mo B h mb k sv tv fv w ms mk st al av kv vs)(hn:n+st.length+k<=2*al)(hm:Jl w2 mb n (λx=>if x=nm then M v else Hk ms mk vs x))(hg:w.grownBy w2 (M mb))(he:∀x,Hk ms' mk' vs' x=if x=nm then M v else Hk ms mk vs x)(hv:∀x,∃a n c,vs' x=J a n c):Mo B h mb k sv tv fv w2 ms' mk' st al av kv vs':=by
 obtain⟨n0,_,hm0⟩:=s.map;obtain⟨ys,ey,hask⟩:=s.ask;have wf:∀b,b<w.heap.size->b≠mb->w2.heap[b]?=w.heap[b]?:=λb h1 h2=>hg.block b h1 (λe=>h2 qat);refine⟨s.hB,s.mB,by rw[wf h (Ag s.blk) s.hne];exact s.blk,⟨n,hn,hm.congr λx=>(he x).symm⟩,⟨ys,ey,Al hask (λb q=>wf b (Ls hask b q).2 (λe=>?_))⟩,Al s.stk (λb q=>wf b (Ls s.stk b q).2 (λe=>?_)),s.dis,hv⟩
 ·subst e;exact Ka hask hm0 q
 ·subst e;exact Ka s.stk hm0 q
end
def kL(x:By)(y:Bool):Z:=.agg #[S x,F y]
theorem cells222:prog.cellsOf 210=2:=qi
theorem cells9L:prog.cellsOf 9=1:=qi
theorem cells4L:prog.cellsOf 4=1:=qi
theorem keyL{x:By}{y:Bool}(hs:x.size<=maxLen):∃l,keyOf prog 210 (kL x y)=some l:=by
 obtain⟨d,ed⟩:∃d,prog.types.size+1=d+2:=⟨prog.types.size-1,by have:1<=prog.types.size:=qcf;omega⟩
 have e2:prog.keyLits (d+1+1) 210 [.string x,.bool y]=some [.string x.data.toList,.bool y]:=by
  (have q1:prog.keyLits (d+1) 9 [.string x]=some [.string x.data.toList]:=by unfold Program.keyLits;simp[underlying9,hs]);have q2:prog.keyLits (d+1) 4 [.bool y]=some [.bool y]:=by unfold Program.keyLits;simp[underlying4]
  conv=>lhs;unfold Program.keyLits
  simp only[underlying210,cells222];simp[cells9L,cells4L,q1,q2]
 refine⟨.string (keyBytes [.string x.data.toList,.bool y]),?_⟩;have hkt:prog.keyType 210=true:=qcf;unfold keyOf kL;simp only[underlying210,hkt,Value.formed,cells222,ed];simp[Value.cells,e2]
theorem laidZ:laidOutB prog=true:=qcf
theorem Zq:WideMaps.KeyLaw prog 210:=deep_law_gate laidZ qcf qcf qcf (by rw[underlying210])
def sgV(s:By):Z:=.agg #[S s]
def Kj(w:E)(b n:X)(f:By->Bool->Option ByteArray):Prop:=
 ∃AJ:DataW Z,w.ownsMap prog 210 (λv=>M (.held v,[])) b n AJ/\∀x y l,keyOf prog 210 (kL x y)=M l->Maps.has AJ l=(f x y).isSome/\∀v,f x y=M v->∀z,AJ.atKey l z=.held (sgV v)
theorem Kj.made(w:E):Kj (w.alloc (.map #[] 0)) w.heap.size 0 (λ_ _=>N):=⟨_,World.ownsMap_made w _ _ _,λx y l _=>⟨rfl,λv h=>by cases h⟩⟩
theorem Kj.same{w w':E}{b n:X}{f:By->Bool->Option ByteArray}(h:Kj w b n f)(he:w'.heap[b]?=w.heap[b]?):Kj w' b n f:=by
 exact qmn
theorem Kj.lt{w:E}{b n:X}{f:By->Bool->Option ByteArray}(h:Kj w b n f):b<w.heap.size:=by obtain⟨AJ,h1,_⟩:=h;exact h1.lt
theorem Kj.notCells{w:E}{b n:X}{f:By->Bool->Option ByteArray}(h:Kj w b n f){cs:Array Z}{T:TypeId}{fr:X×X}(hc:w.heap[b]?=M (O cs T fr)):False:=by
 obtain⟨AJ,⟨es,cl,h1,_⟩,_⟩:=h;rw[hc]at h1;cases h1
theorem zero238(w:E):(zeroValue 232).run prog w=.ok (sgV ⟨#[]⟩) w:=qi
theorem Kj.look{w:E}{b n:X}{f:By->Bool->Option ByteArray}(h:Kj w b n f){x:By}{y:Bool}(hk:x.size<=maxLen):(Instr.lookup 117 (.map (M b)) (kL x y) true).run prog w=.ok (.tuple #[sgV ((f x y).getD ⟨#[]⟩),.bool (f x y).isSome]) w:=by
 obtain⟨AJ,h1,h2⟩:=h;obtain⟨l,hl⟩:=keyL (x:=x) (y:=y) hk;obtain⟨v,ps,h3,h4⟩:=h1.look_ok (Maps.Keyed.of_law Zq) underlying117 (zero238 w) (zd:=.held (sgV ⟨#[]⟩)) (zp:=[]) rfl hl
 have h5:(DataW.held v:DataW Z)=AJ.atKey l (.held (sgV ⟨#[]⟩)):=by
  simp only[Option.some.injEq,Prod.mk.injEq]at h4;exact h4.1
 have h6:v=sgV ((f x y).getD ⟨#[]⟩):=by
  cases hf:f x y with
  | none=>
    have h7:=(h2 x y l hl).1;rw[hf]at h7;rw[Maps.atKey_of_not_has h7]at h5;exact DataW.held.inj h5
  | some u=>
    rw[(h2 x y l hl).2 u hf]at h5;exact DataW.held.inj h5
 rw[h3,(h2 x y l hl).1,h6]
open Classical in
theorem Kj.store{w:E}{b n:X}{f:ByteArray->Bool->Option ByteArray}(h:Kj w b n f){x:ByteArray}{y:Bool}(hk:x.size<=maxLen)(hn:n<maxLen)(v:ByteArray):∃w',(Instr.mapUpdate 117 (.map (M b)) (kL x y) (sgV v)).run Tryz.prog w=.ok () w'/\Kj w' b (n+1) (λx' y'=>if x'=x/\y'=y then M v else f x' y')/\w.grownBy w' (M b):=by
 obtain⟨AJ,h1,h2⟩:=h;obtain⟨l,hl⟩:=keyL (x:=x) (y:=y) hk;obtain⟨w',h3,h4,h5⟩:=h1.update (Maps.Keyed.of_law Zq) Tryz.underlying117 hn hl (val:=sgV v) (d:=.held (sgV v)) (ps:=[]) rfl
 have hkey:∀ {k:Z} {l:Lit},keyOf Tryz.prog 210 k=M l->WideAt.IsKeyLit l:=λh=>by
  obtain⟨s,rfl⟩:=Zq.str h;trivial
 refine⟨w',h3,⟨_,h4,λx' y' m hx=>?_⟩,h5⟩
 by_cases hxk:x'=x/\y'=y
 ·obtain⟨rfl,rfl⟩:=hxk
  (obtain rfl:m=l:=by rw[hx]at hl;exact Option.some.inj hl);simp only[and_self,if_true];exact⟨Maps.has_put_same h1.isMap (hkey hx) _,λv' e z=>by cases e;exact Maps.atKey_put_same h1.isMap (hkey hx) _ _⟩
 ·simp only[if_neg hxk]
  have hne:m≠l:=λe=>hxk (by
   have q:=Zq.inj (e▸hx) hl;unfold kL at q;injection q with q;have q2:=congrArg Array.toList q;simp only[List.cons.injEq,Value.string.injEq,Value.bool.injEq,and_true]at q2;exact q2)
  exact⟨by rw[Maps.has_put_other hne];exact(h2 x' y' m hx).1,λv' e z=>by rw[Maps.atKey_put_other hne];exact(h2 x' y' m hx).2 v' e z⟩
end Go.Proofs.YtoakjccojifagaaGreatDoor
