import Derived.Test.YtoakjccojifagaaGreatDoorTClB
namespace Go.Proofs.YtoakjccojifagaaGreatDoor
open _root_.Go.Proofs.Tryz Go.RowKit
open Value renaming slice->J,string->S,bool->F,agg->G,pointer->D
open Option renaming some->M,none->N
open Obj renaming cells->O
open Go renaming Value->Z,World->E
open Ending renaming returned->H
open _root_ renaming List->L,Nat->X
set_option linter.unusedVariables false
set_option maxHeartbeats 8000000
set_option maxRecDepth 100000
set_option linter.unusedSimpArgs false
variable {w w' w1:E} {B b m n h e sz:X} {v v1 v2 av kv:Z} {ls:L G3} {T:TypeId} {f:By->Option Z} {cs:Array Z} {k:By} {xs:L Z}
def Me(w:E)(B:X)(v:Z)(ls:L G3):Prop:=∃xs,w.ownsRow B 201 3 v ls.length xs/\Bn ls ls.length xs
theorem Me.same(h:Me w B v ls)(hk:∀(b:X)(cs:Array Z),w.heap[b]?=M (Obj.cells cs 201 (0,0))->w'.heap[b]?=M (Obj.cells cs 201 (0,0))):Me w' B v ls:=by
 obtain⟨xs,h1,h2⟩:=h
 refine⟨xs,⟨h1.1,?_⟩,h2⟩
 rcases h1.2 with k|⟨g,cap,cur,e,hg,hh,r⟩
 ·exact Or.inl k
 ·exact Or.inr ⟨g,cap,cur,e,hg,hk _ _ hh,r⟩
theorem Fi{b':X}(h:b'≠b)(v0 v1 v2 v3 v4 v5:Z):((((((w.setCell ⟨b,0,N⟩ v0).setCell ⟨b,1,N⟩ v1).setCell ⟨b,2,N⟩ v2).setCell ⟨b,3,N⟩ v3).setCell ⟨b,4,N⟩ v4).setCell ⟨b,5,N⟩ v5).heap[b']?=w.heap[b']?:=by
 rw[Dj _ ⟨b,5,N⟩ _ b' h,Dj _ ⟨b,4,N⟩ _ b' h,Dj _ ⟨b,3,N⟩ _ b' h,Dj _ ⟨b,2,N⟩ _ b' h,Dj _ ⟨b,1,N⟩ _ b' h,Dj _ ⟨b,0,N⟩ _ b' h]
theorem Ik(hb:Below B w w')(h:B<=b)(v0 v1 v2 v3 v4 v5:Z):Below B w ((((((w'.setCell ⟨b,0,N⟩ v0).setCell ⟨b,1,N⟩ v1).setCell ⟨b,2,N⟩ v2).setCell ⟨b,3,N⟩ v3).setCell ⟨b,4,N⟩ v4).setCell ⟨b,5,N⟩ v5):=
 (((((hb.setCell (p:=⟨b,0,N⟩) h _).setCell (p:=⟨b,1,N⟩) h _).setCell (p:=⟨b,2,N⟩) h _).setCell (p:=⟨b,3,N⟩) h _).setCell (p:=⟨b,4,N⟩) h _).setCell (p:=⟨b,5,N⟩) h _
theorem Fv{v0 v3 v4 v5:Z}(h:w.heap[b]?=M (O #[v0,v1,v2,v3,v4,v5] 194 (0,0))):w.cell? ⟨b,0,N⟩=M v0/\w.cell? ⟨b,1,N⟩=M v1/\w.cell? ⟨b,2,N⟩=M v2/\w.cell? ⟨b,3,N⟩=M v3/\w.cell? ⟨b,4,N⟩=M v4/\w.cell? ⟨b,5,N⟩=M v5/\∀j,w.frozen? ⟨b,j,N⟩=false:=by
 refine⟨?_,?_,?_,?_,?_,?_,λj=>fH h j⟩<;>rw[cH h]<;>rfl
theorem Lq.two(h:Lq w):2<w.heap.size:=by
 unfold Lq Lib.TabIs World.var? at h
 rw[show prog.globalNamed "internal/strconv.uint64pow10"=M 2 from qi]at h
 simp only[Option.bind_some]at h
 rcases Nat.lt_or_ge 2 w.heap.size with h'|h'
 ·exact h'
 ·rw[Array.getElem?_eq_none h']at h;cases h
def Gn(is:L I3)(ys:L R3)(B m T:X)(cd:Z)(ov:Bool)(c:Int)(t:By)(ask:Bool)(nm:By)(st:Int)(w:E):Prop:=
 w.heap[T]?=M (O #[F ov,I c,S t,F ask,S nm,I st] 194 (0,0))/\T≠m/\B<=T/\m<w.heap.size/\VAt is ys B m cd ov c t ask nm st w
theorem Gn.bl{is:L I3}{ys:L R3}{T:X}{cd:Z}{ov:Bool}{c:Int}{t:By}{ask:Bool}{nm:By}{st:Int}(h:Gn is ys B m T cd ov c t ask nm st w)(hb:Bw w w'):Gn is ys B m T cd ov c t ask nm st w':=
 ⟨by rw[hb.block _ (Ag h.1)];exact h.1,h.2.1,h.2.2.1,Nat.lt_of_lt_of_le h.2.2.2.1 hb.size,h.2.2.2.2.mono (λ_ _ _ _ k=>k.bl hb)⟩
theorem begin_any(a:Option Addr)(cap:X)(is:L I3)(w:E)(hT:Kk w)(hP:Lq w)(hc:Ch w a is)(hv:Ao is=true):Calls prog 137 #[G #[J a is.length cap]] w λe w'=>Bw w w'/\∃B m T ov c t ask nm st,w.heap.size<=B/\B<=w'.heap.size/\e=H (.tuple #[Bc ov c t ask nm st,.func (.func 155) #[] #[D (p_ m),D (p_ T)]])/\Gn is [] B m T (J a is.length cap) ov c t ask nm st w':=by
 have hP2:=hP.two
 obtain⟨W,eW⟩:=Aj (((w.alloc (O #[J a is.length cap] 92)).alloc (O #[F false,I 0,ze,F false,ze,I 0] 194)))
 have ak:Bw w W:=by rw[<- eW];exact(aN _ _).alloc qg _
 have B6:W.heap.size=w.heap.size+1+1:=qdb
 have x0:W.cell? ⟨w.heap.size,0,N⟩=M (J a is.length cap):=qan
 have HR:Hd (W.heap[w.heap.size+1]?=M (O #[F false,I 0,ze,F false,ze,I 0] 194 (0,0))):=by
  show W.heap[w.heap.size+1]?=_;rw[<- eW];exact qix
 have F0:Bw W (W.alloc (O #[nS,J a is.length cap,I 0,I 0,I 0] 237)):=aN _ _
 have HMK:Hd (Cc W.heap.size (W.alloc (O #[nS,J a is.length cap,I 0,I 0,I 0] 237)) W.heap.size Mh.stack (J a is.length cap) Mh.pl Mh.steps Mh.looks):=⟨Nat.le_refl _,nS,Bg _ _,⟨by simp[Mh,Av],Or.inl ⟨rfl,rfl⟩⟩⟩
 have HCB:Hd (Lp W.heap.size W a is):=⟨hc.bl ak,λb off e=>by
  have:=(Eb hv).1;obtain⟨b',br,e',c1,_,_⟩:=hc.bl ak 0 qb;rw[e]at e';cases e';exact World.block_lt_of_cell? _ _ c1⟩
 have HT2:Hd (Kk W):=hT.bl ak
 have tr:Hd (Lq W):=hP.bl ak
 have HBM:Hd (Bw W (W.alloc (O #[nS,J a is.length cap,I 0,I 0,I 0] 237))):=F0
 have HV:Hd (Ao is=true):=hv
 have I7:Hd (Bw w W):=ak
 have HWS:Hd (W.heap.size=w.heap.size+1+1):=B6
 clear hT hP hc hv F0 ak B6
 go_enter func137,ntmps137
 go_wp2_with fail
 clear eW
 refine(Yz W.heap.size W.heap.size is a cap Mh _ HMK.o qg (zo HWS.o) (HCB.o.belowB HBM.o) (HT2.o.bl HBM.o) (tr.o.bl HBM.o) HV.o (Uh is)).mono ?_
 rintro e w3 ⟨gv,gy⟩
 obtain⟨ov,c,t,ask,nm,st,rfl,th⟩:=run_vat HV.o gy
 have hz3:W.heap.size+1<=w3.heap.size:=by have:=gv.size;simpa using this
 have d6:Hd (Bw W w3):=HBM.o.trans gv.bl
 have HAT:Hd (VAt is [] W.heap.size W.heap.size (J a is.length cap) ov c t ask nm st (w3.alloc (O #[F ov,I c,S t,F ask,S nm,I st] 194))):=th.mono (λ_ _ _ _ k=>k.alloc _)
 have mx:Hd ((w3.alloc (O #[F ov,I c,S t,F ask,S nm,I st] 194)).heap[w.heap.size+1]?=M (O #[F false,I 0,ze,F false,ze,I 0] 194 (0,0))):=by
  show(w3.alloc (O #[F ov,I c,S t,F ask,S nm,I st] 194)).heap[w.heap.size+1]?=_;have:=HWS.o;rw[Lib.alloc_old w3 _ _ qb,d6.o.block _ qb];exact HR.o
 have HTN:Hd ((w3.alloc (O #[F ov,I c,S t,F ask,S nm,I st] 194)).heap[w3.heap.size]?=M (O #[F ov,I c,S t,F ask,S nm,I st] 194 (0,0))):=Bg _ _
 have vx:Hd (Bw W (w3.alloc (O #[F ov,I c,S t,F ask,S nm,I st] 194))):=d6.o.alloc qb _
 obtain⟨z0,z1,z2,z3,z4,z5,zf⟩:=Fv mx.o
 clear th gy gv x0 HR
 unfold Bc
 go_wp2_with fail
 obtain⟨n1,n2⟩:=storeT rfl mx.o (F ov) (I c) (S t) (F ask) (S nm) (I st)
 obtain⟨y0,y1,y2,y3,y4,y5,yf⟩:=Fv n1
 refine bR (v:=.tuple #[Bc ov c t ask nm st,.func (.func 155) #[] #[D (p_ W.heap.size),D (p_ w3.heap.size)]]) (by simp[results,results137,go_sem,Bc,z0,z1,z2,z3,z4,z5]) rfl ⟨Ik (I7.o.trans (vx.o.mono (zo HWS.o))) qb _ _ _ _ _ _,W.heap.size,W.heap.size,w3.heap.size,ov,c,t,ask,nm,st,by have:=HWS.o;omega,qh,rfl,?_,qb,qb,qh,?_⟩
 ·rw[Fi (zo HWS.o)];exact HTN.o
 ·exact HAT.o.mono (λss pl pu lk k=>n2 _ _ _ _ _ _ _ k)
theorem Fg.congr(h:w'.heap[m]?=w.heap[m]?)(k:Fg w m b):Fg w' m b:=λv hv=>k v (by
 have e:w'.cell? ⟨m,0,N⟩=w.cell? ⟨m,0,N⟩:=by simp only[World.cell?,h]
 rw[<- e];exact hv)
theorem goOn_any(B m T:X)(is:L I3)(a:Option Addr)(cap:X)(ys:L R3)(ask:Bool)(nm:By)(st:Int)(y y':R3)(w:E)(hG:Gn is ys B m T (J a is.length cap) false 0 ⟨#[]⟩ ask nm st w)(hB:B<=w.heap.size)(bj:2<B)(du:Lp B w a is)(hT:Kk w)(hP:Lq w)(hv:Ao is=true)(hy:y.text.size<=2000)(hyy:∀nm s,Eu ask nm y s=Eu ask nm y' s):Calls prog 155 #[G #[F y.has,I y.code,S y.text],D (p_ m),D (p_ T)] w λe w'=>(Below B w w'/\∀b cs AM,AM≠9->b≠m->b≠T->w.heap[b]?=M (O cs AM (0,0))->w'.heap[b]?=M (O cs AM (0,0)))/\(∀b cs AM,b≠m->b≠T->Fg w m b->w.heap[b]?=M (O cs AM (0,0))->w'.heap[b]?=M (O cs AM (0,0))/\Fg w' m b)/\∃ov c t ji nm' pu,e=H (Bc ov c t ji nm' pu)/\Gn is (ys++[y']) B m T (J a is.length cap) ov c t ji nm' pu w':=by
 obtain⟨hTb,hTm,hBT,zm,hV⟩:=hG
 rcases hV with⟨h0,_⟩|⟨_,_,_,s1,s',rfl,g1,g2,g3,g4,g5⟩
 ·cases h0
 obtain⟨q1,q2,q3,q4,q5,q6,q7,q8⟩:=Hz g1
 have wi:s'.stack.length<50:=by rw[q7,Bk];have:=g3.len;omega
 have hTl:=Ag hTb
 obtain⟨W,eW⟩:=Aj (((w.alloc (O #[F y.has,I y.code,S y.text] 198)).alloc (O #[F false,I 0,ze,F false,ze,I 0] 194)))
 have ak:Bw w W:=by rw[<- eW];exact(aN _ _).alloc qg _
 have B6:W.heap.size=w.heap.size+1+1:=qdb
 have x0:W.cell? ⟨w.heap.size,0,N⟩=M (F y.has):=qan
 have x1:W.cell? ⟨w.heap.size,1,N⟩=M (I y.code):=qan
 have x2:W.cell? ⟨w.heap.size,2,N⟩=M (S y.text):=qan
 have HR:Hd (W.heap[w.heap.size+1]?=M (O #[F false,I 0,ze,F false,ze,I 0] 194 (0,0))):=by
  show W.heap[w.heap.size+1]?=_;rw[<- eW];have h:=Bg (w.alloc (O #[F y.has,I y.code,S y.text] 198)) (O #[F false,I 0,ze,F false,ze,I 0] 194);rw[show(w.alloc (O #[F y.has,I y.code,S y.text] 198)).heap.size=w.heap.size+1 from qg]at h;exact h
 have HTW:Hd (W.heap[T]?=M (O #[F false,I 0,ze,F ask,S nm,I s'.steps] 194 (0,0))):=by
  show W.heap[T]?=_;rw[ak.block _ hTl];exact hTb
 have yx:Hd (KB B m w W):=KB.old ak hB
 have HAn:Hd (∀_:Unit,Calls prog 156 #[D (p_ m),Bc false 0 ⟨#[]⟩ ask nm s'.steps,G #[F y.has,I y.code,S y.text]] W λe w'=>AnsPost is ask nm y s' B m (J a is.length cap) W e w'):=λ_=>
  answer_any B m is a cap ask nm y s' W (g5.bl ak) qb bj (du.belowB (ak.mono hB)) (hT.bl ak) (hP.bl ak) hv g4 qb wi hy
 have HG:Hd (Ce is s1=.look ask nm s'/\RQ is ys s1/\Ef is s1/\Ef is s'/\Eu ask nm y s'=Eu ask nm y' s'):=⟨g1,g2,g3,g4,hyy nm s'⟩
 have HV:Hd (Ao is=true):=hv
 have HML0:Hd (m<w.heap.size):=zm
 have sq:Hd (B<=T/\T≠m/\T<w.heap.size/\B<=w.heap.size):=⟨hBT,hTm,hTl,hB⟩
 obtain⟨k0,k1,k2,k3,k4,k5,kf⟩:=Fv HTW.o
 obtain⟨_,_,_,_,_,_,_,_,G8,_,_⟩:=g5.all
 clear g1 g2 g3 g4 g5 du hT hP hv ak hTb q1 q2 q3 q4 q5 q6 q7 q8 wi B6
 unfold Bc at HAn
 go_enter func155,ntmps155
 go_wp2_with fail
 clear eW
 refine(HAn.o ()).mono ?_
 rintro e w4 ⟨ox,gy⟩
 obtain⟨ov',c',t',ji,nm',pu,rfl,hnext⟩:=ans_vat HV.o HG.o.1 HG.o.2.1 hy HG.o.2.2.2.2 HG.o.2.2.1 HG.o.2.2.2.1 gy
 have hT4:w4.heap[T]?=M (O #[F false,I 0,ze,F ask,S nm,I s'.steps] 194 (0,0)):=ox.keep _ _ 194 qd sq.o.2.1 HTW.o
 have hR4:w4.heap[w.heap.size+1]?=M (O #[F false,I 0,ze,F false,ze,I 0] 194 (0,0)):=ox.keep _ _ 194 qd qb HR.o
 obtain⟨n1,n2⟩:=storeT rfl hT4 (F ov') (I c') (S t') (F ji) (S nm') (I pu)
 have hTR:T≠w.heap.size+1:=zo sq.o.2.2.1
 have hR5:=(Fi (w:=w4) (b:=T) (b':=w.heap.size+1) (λe=>hTR e.symm) (F ov') (I c') (S t') (F ji) (S nm') (I pu)).trans hR4
 obtain⟨r1,r2⟩:=storeT rfl hR5 (F ov') (I c') (S t') (F ji) (S nm') (I pu)
 have HKB2:Hd (KB B m w w4):=yx.o.trans ox
 have HML:Hd (m<((((((((((((w4.setCell ⟨T,0,N⟩ (F ov')).setCell ⟨T,1,N⟩ (I c')).setCell ⟨T,2,N⟩ (S t')).setCell ⟨T,3,N⟩ (F ji)).setCell ⟨T,4,N⟩ (S nm')).setCell ⟨T,5,N⟩ (I pu)).setCell ⟨w.heap.size+1,0,N⟩ (F ov')).setCell ⟨w.heap.size+1,1,N⟩ (I c')).setCell ⟨w.heap.size+1,2,N⟩ (S t')).setCell ⟨w.heap.size+1,3,N⟩ (F ji)).setCell ⟨w.heap.size+1,4,N⟩ (S nm')).setCell ⟨w.heap.size+1,5,N⟩ (I pu)).heap.size):=Nat.lt_of_lt_of_le G8 (Ik (Ik HKB2.o.bl sq.o.1 _ _ _ _ _ _) (b:=w.heap.size+1) (zo sq.o.2.2.2) _ _ _ _ _ _).size
 have px:Hd (VAt is (ys++[y']) B m (J a is.length cap) ov' c' t' ji nm' pu w4):=hnext
 obtain⟨j0,j1,j2,j3,j4,j5,jf⟩:=Fv hT4
 obtain⟨z0,z1,z2,z3,z4,z5,zf⟩:=Fv hR4
 have HN1:Hd _:=n1
 have HN2:Hd _:=n2
 have pd:Hd _:=r2
 clear k0 k1 k2 k3 k4 k5 kf ox gy hnext HAn n1 n2 r1 r2 hR5 x0 x1 x2
 unfold Bc
 go_wp2_with fail
 refine bR (v:=Bc ov' c' t' ji nm' pu) (by simp[results,results155,go_sem,Bc,z0,z1,z2,z3,z4,z5]) rfl ⟨⟨Ik (Ik HKB2.o.bl sq.o.1 _ _ _ _ _ _) (zo sq.o.2.2.2) _ _ _ _ _ _,?_⟩,?_,ov',c',t',ji,nm',pu,rfl,?_,sq.o.2.1,sq.o.1,HML.o,?_⟩
 ·intro b cs AM hX F0 hbT hb;have bu:=Ag hb;rw[Fi qb,Fi hbT];exact HKB2.o.keep b cs AM hX F0 hb
 ·intro b cs AM F0 hbT im hb;have bu:=Ag hb;have hml':=HML0.o;obtain⟨q1,q2⟩:=HKB2.o.own hml' b cs AM F0 im hb;refine⟨?_,Fg.congr ?_ q2⟩
  ·rw[Fi qb,Fi hbT];exact q1
  ·rw[Fi qb,Fi (λe=>sq.o.2.1 e.symm)]
 ·rw[Fi hTR];exact HN1.o
 ·exact px.o.mono (λss pl pu lk k=>pd.o _ _ _ _ _ _ _ (HN2.o _ _ _ _ _ _ _ k))
def kS(k:ByteArray):Lit:=.string k.data.toList
theorem kS_inj{a b:By}(h:kS a=kS b):a=b:=by
 unfold kS at h
 injection h with h
 apply ByteArray.ext
 exact Array.ext' h
theorem kS_key(k:By):WideAt.IsKeyLit (kS k):=by unfold kS;trivial
def Jl(w:E)(b n:X)(f:By->Option Z):Prop:=
 ∃AJ:DataW Z,w.ownsMap prog 9 (λv=>M (.held v,[])) b n AJ/\∀k:By,Maps.has AJ (kS k)=(f k).isSome/\∀v,f k=M v->∀z,AJ.atKey (kS k) z=.held v
theorem Jl.made(w:E):Jl (w.alloc (.map #[] 0)) w.heap.size 0 (λ_=>N):=⟨_,World.ownsMap_made w _ _ _,λk=>⟨rfl,λv h=>by cases h⟩⟩
theorem Jl.same(h:Jl w b n f)(he:w'.heap[b]?=w.heap[b]?):Jl w' b n f:=by
 exact qmn
theorem Jl.lt(h:Jl w b n f):b<w.heap.size:=by obtain⟨AJ,h1,_⟩:=h;exact h1.lt
theorem Jl.notCells(h:Jl w b n f){fr:X×X}(hc:w.heap[b]?=M (O cs T fr)):False:=by
 obtain⟨AJ,⟨es,cl,h1,_⟩,_⟩:=h
 rw[hc]at h1;cases h1
def Hy:Z:=G #[F false,I 0,ze,nS,ze,nS]
theorem zero59(w:E):(zeroValue 156).run prog w=.ok Hy w:=qi
theorem key_of(k:By)(h:k.size<=maxLen):keyOf prog 9 (S k)=M (kS k):=Go.WideMaps.keyOf_string_mk underlying9 h
theorem Jl.look(h:Jl w b n f)(hk:k.size<=maxLen):(Instr.lookup 151 (.map (M b)) (.string k) true).run prog w=.ok (.tuple #[(f k).getD Hy,.bool (f k).isSome]) w:=by
 obtain⟨AJ,h1,h2⟩:=h
 obtain⟨v,ps,h3,h4⟩:=h1.look_ok (Maps.string_keyed underlying9) underlying151 (zero59 w) (zd:=.held Hy) (zp:=[]) rfl (key_of k hk)
 have h5:(DataW.held v:DataW Z)=AJ.atKey (kS k) (.held Hy):=by
  simp only[Option.some.injEq,Prod.mk.injEq]at h4;exact h4.1
 have h6:v=(f k).getD Hy:=by
  cases hf:f k with
  | none=>
   have h7:=(h2 k).1;rw[hf]at h7;rw[Maps.atKey_of_not_has h7]at h5;exact DataW.held.inj h5
  | some u=>
   rw[(h2 k).2 u hf]at h5;exact DataW.held.inj h5
 rw[h3,(h2 k).1,h6]
open Classical in
theorem Jl.store(h:Jl w b n f)(hk:k.size<=maxLen)(hn:n<maxLen)(v:Z):∃w',(Instr.mapUpdate 151 (.map (M b)) (S k) v).run prog w=.ok () w'/\Jl w' b (n+1) (λx=>if x=k then M v else f x)/\w.grownBy w' (M b):=by
 obtain⟨AJ,h1,h2⟩:=h
 obtain⟨w',h3,h4,h5⟩:=h1.update (Maps.string_keyed underlying9) underlying151 hn (key_of k hk) (val:=v) (d:=.held v) (ps:=[]) rfl
 refine⟨w',h3,⟨_,h4,λx=>?_⟩,h5⟩
 by_cases hx:x=k
 ·subst hx;simp only[if_true];exact⟨Maps.has_put_same h1.isMap (kS_key _) _,λv' e z=>by cases e;exact Maps.atKey_put_same h1.isMap (kS_key _) _ _⟩
 ·simp only[if_neg hx];have hne:kS x≠kS k:=λe=>hx (kS_inj e);exact⟨by rw[Maps.has_put_other hne];exact(h2 x).1,λv' e z=>by rw[Maps.atKey_put_other hne];exact(h2 x).2 v' e z⟩
theorem Jl.congr{g:By->Option Z}(h:Jl w b n f)(e:∀k,f k=g k):Jl w b n g:=by
 obtain rfl:f=g:=funext e
 exact h
def Fj(d:Md)(v:Z):Z:=G #[F true,I d.c,S d.t,nS,S (Bj d.c d.t),v]
structure KP (B h mb:X) (av kv:Z) (w w':E):Prop where
 bl:Below B w w'
 keep:∀b,b<w.heap.size->b≠h->b≠mb->av.ownBlock≠M b->kv.ownBlock≠M b->w'.heap[b]?=w.heap[b]?
def An(w:E)(v v':Z):Prop:=∀b,v'.ownBlock=M b->v.ownBlock=M b\/w.heap.size<=b
theorem An.refl(w:E)(v:Z):An w v v:=λb h=>Or.inl h
theorem An.trans(h:An w v v1)(hs:w.heap.size<=w1.heap.size)(k:An w1 v1 v2):An w v v2:=λb hb=>by
 rcases k b hb with q|q
 ·exact h b q
 ·exact Or.inr qb
theorem KP.old{mb:X}(hb:Bw w w')(hB:B<=w.heap.size):KP B h mb av kv w w':=⟨hb.mono hB,λb h1 _ _ _ _=>hb.block b h1⟩
theorem KP.setH{mb j:X}(k:KP B h mb av kv w w')(hB:B<=h):KP B h mb av kv w (w'.setCell ⟨h,j,N⟩ v):=⟨k.bl.setCell (p:=⟨h,j,N⟩) hB _,λb h1 h2 h3 h4 h5=>by rw[Dj w' ⟨h,j,N⟩ _ b (by simpa using h2)];exact k.keep b h1 h2 h3 h4 h5⟩
theorem KP.mapped{mb:X}{w2:E}(k:KP B h mb av kv w w1)(hB:B<=mb)(hg:w1.grownBy w2 (M mb))(gi:B<=w1.heap.size):KP B h mb av kv w w2:=⟨k.bl.grown hg gi (λb e=>by injection e with e;omega),λb h1 h2 h3 h4 h5=>by
 have hs:=k.bl.size
 rw[hg.block b qb (λe=>h3 qat)]
 exact k.keep b h1 h2 h3 h4 h5⟩
theorem Dv(ho:w.ownsRow B e sz v n xs)(hb:v.ownBlock=M b):B<=b/\∃cur,w.heap[b]?=M (O cur e (0,0)):=by
 rcases ho.2 with⟨rfl,_⟩|⟨g,cap,cur,rfl,hg,hh,_⟩
 ·simp[Value.ownBlock]at hb
 ·simp[Value.ownBlock]at hb;subst hb;exact⟨hg,cur,hh⟩
theorem Ae(ho:w.ownsRow B e sz v n xs)(hT:T≠e)(hb:w.heap[b]?=M (O cs T (0,0))):v.ownBlock≠M b:=λq=>by
 obtain⟨_,cur,hh⟩:=Dv ho q
 rw[hb]at hh
 injection hh with hh
 injection hh with _ h5
 exact hT h5
theorem Ka(ho:w.ownsRow B e sz v n xs)(hm:Jl w b m f):v.ownBlock≠M b:=λq=>by
 obtain⟨_,cur,hh⟩:=Dv ho q
 exact hm.notCells hh
theorem Al(ho:w.ownsRow B e sz v n xs)(hk:∀b,v.ownBlock=M b->w'.heap[b]?=w.heap[b]?):w'.ownsRow B e sz v n xs:=by
 refine⟨ho.1,?_⟩
 rcases ho.2 with k|⟨g,cap,cur,rfl,hg,hh,r⟩
 ·exact Or.inl k
 ·exact Or.inr ⟨g,cap,cur,rfl,hg,by rw[hk g (by simp[Value.ownBlock])];exact hh,r⟩
theorem Me.keptB(h:Me w B v ls)(hk:∀b,v.ownBlock=M b->w'.heap[b]?=w.heap[b]?):Me w' B v ls:=by
 obtain⟨xs,h1,h2⟩:=h
 exact⟨xs,Al h1 hk,h2⟩
def Lh(v:Z):Ending:=.panicked [{ v:=.iface 182 v,recovered:=false }]
def Tl(n:X):By:=⟨#[UInt8.ofNat (48+n)]⟩
theorem Xv(n:X):(Tl n).size=1:=rfl
theorem itoa_in(n:X)(hn:n<=5)(w:E):Calls prog 160 #[I n] w λe w'=>e=H (S (Tl n))/\w=w':=by
 rcases(show n=0\/n=1\/n=2\/n=3\/n=4\/n=5 from qb)with rfl|rfl|rfl|rfl|rfl|rfl
 all_goals
  go_enter func160,ntmps160;exact qag
theorem l2Dec_in(n:X)(hn:n<=5)(w:E):Calls prog 149 #[I n] w λe w'=>e=H (S (Tl n))/\Bw w w':=by
 have hu:=Vd n qb
 unfold Tl
 generalize UInt8.ofNat (48+n)=u at *
 have hcv:=Ve (w.alloc (O #[.int .u8 (48+n)] 5)) w.heap.size (48+n) u hu qk
 clear hu
 exact qlr
theorem Ay{a b:E}(h:Bw w a)(k:Bw a b):Bw w b:=h.trans (k.mono h.size)
theorem Ps(m:X)(t:By)(a:Option Addr)(cap:X)(w:E)(hm:m<=5)(ht:t.size<=2000):Calls prog 125 #[G #[I m,S t,J a 0 cap]] w λe w'=>e=H (S (Tl m++(⟨#[58]⟩:By)++t))/\Bw w w':=by
 have hd:(Tl m).size<=1:=Nat.le_of_eq (Xv m)
 have HC:Hd (∀W:E,Calls prog 149 #[I m] W λe w'=>e=H (S (Tl m))/\Bw W w'):=λW=>l2Dec_in m hm W
 generalize Tl m=d at *
 have HD:Hd (∀W:E,W.cell? ⟨w.heap.size,1,N⟩=M (S t)->Calls prog 149 #[I m] W λe w'=>e=H (S d)/\Bw W w'/\w'.cell? ⟨w.heap.size,1,N⟩=M (S t)):=λW hW=>(HC.o W).mono λe w' ⟨he,hb⟩=>⟨he,hb,Aa hb hW⟩
 have hx0:(w.alloc (O #[I m,S t,J a 0 cap] 121)).cell? ⟨w.heap.size,0,N⟩=M (I m):=qk
 have hx1:(w.alloc (O #[I m,S t,J a 0 cap] 121)).cell? ⟨w.heap.size,1,N⟩=M (S t):=qk
 go_enter func125,ntmps125
 go_wp2
 go_region_with (first|(go_at_call 149;refine(HD.o _ ?_).mono ?_;(focus(simp[go_sem];done));rintro e w1 ⟨rfl,af,hcc⟩))
 all_goals
  go_wp2;go_ret;exact⟨rfl,((aN _ _).drew.trans (af.mono qg))⟩
theorem Qi(m:X)(t:By)(a:Option Addr)(cap:X)(w:E)(hm:m<=5)(ht:t.size<=2000):Calls prog 140 #[G #[I m,S t,J a 0 cap]] w λe w'=>e=H (S (Tl m++(⟨#[58]⟩:By)++t))/\Bw w w':=by
 have hd:(Tl m).size<=1:=Nat.le_of_eq (Xv m)
 have HC:Hd (∀W:E,Calls prog 160 #[I m] W λe w'=>e=H (S (Tl m))/\W=w'):=λW=>itoa_in m hm W
 generalize Tl m=d at *
 have hx0:(w.alloc (O #[I m,S t,J a 0 cap] 121)).cell? ⟨w.heap.size,0,N⟩=M (I m):=qk
 have hx1:(w.alloc (O #[I m,S t,J a 0 cap] 121)).cell? ⟨w.heap.size,1,N⟩=M (S t):=qk
 go_enter func140,ntmps140
 go_wp2
 go_region_with (first|(go_at_call 160;refine(HC.o _).mono ?_;rintro e w1 ⟨rfl,rfl⟩))
 all_goals
  go_wp2;go_ret;exact⟨rfl,(aN _ _).drew⟩
section
open Go.Deep
theorem Ry(c:Int)(t:By)(w:E)(h0:0<=c)(h5:c<=5)(ht:t.size<=2000):Calls prog 140 #[G #[I c,S t,nS]] w λe w'=>e=H (S (Bj c t))/\Bw w w':=by
 obtain⟨m,rfl⟩:=Int.eq_ofNat_of_zero_le h0
 exact Qi m t N 0 w qb ht
theorem Pv{w:E}{b j:X}{cs cs':Array Z}{T:TypeId}{u:Z}(h:w.heap[b]?=M (O cs T (0,0)))(hc:cs.setIfInBounds j u=cs'):(w.setCell ⟨b,j,N⟩ u).heap[b]?=M (O cs' T (0,0)):=by
 rw[jB h,hc]
end
end Go.Proofs.YtoakjccojifagaaGreatDoor
