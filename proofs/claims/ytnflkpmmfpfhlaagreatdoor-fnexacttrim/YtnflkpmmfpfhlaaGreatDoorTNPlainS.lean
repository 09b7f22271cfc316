import Derived.Test.YtnflkpmmfpfhlaaGreatDoorTClB
namespace Go.Proofs.YtnflkpmmfpfhlaaGreatDoor
open _root_.Go.Proofs.Tryz Go.RowKit
open Value renaming slice->J,string->S,bool->F,agg->G,pointer->D
open Option renaming some->M,none->N
open Obj renaming cells->O
open Go renaming Value->Z,World->E
open Ending renaming returned->H
open _root_ renaming List->L,Nat->X
set_option linter.unusedVariables false
set_option maxHeartbeats 8000000
set_option maxRecDepth 100000
set_option linter.unusedSimpArgs false
variable {w w' w1 w2:E} {B b m n h e sz:X} {v v1 v2 av kv:Z} {ls:L G3} {T:TypeId} {nm k:By} {f:By->Option Z} {cs:Array Z} {xs:L Z} {ss:L S2} {ts:L T2}
def mx(ms:Ms)(i:X):By×Option Md:=ms.getD i (ByteArray.empty,N)
def Ml(w:E)(B:X)(v:Z)(ls:L G3):Prop:=∃xs,w.ownsRow B 194 3 v ls.length xs/\Bx ls ls.length xs
theorem Ml.same(h:Ml w B v ls)(hk:∀(b:X)(cs:Array Z),w.heap[b]?=M (Obj.cells cs 194 (0,0))->w'.heap[b]?=M (Obj.cells cs 194 (0,0))):Ml w' B v ls:=by
 obtain⟨xs,h1,h2⟩:=h
 refine⟨xs,⟨h1.1,?_⟩,h2⟩
 rcases h1.2 with k|⟨g,cap,cur,e,hg,hh,r⟩
 ·exact Or.inl k
 ·exact Or.inr ⟨g,cap,cur,e,hg,hk _ _ hh,r⟩
theorem Fm{b':X}(h:b'≠b)(v0 v1 v2 v3 v4 v5:Z):((((((w.setCell ⟨b,0,N⟩ v0).setCell ⟨b,1,N⟩ v1).setCell ⟨b,2,N⟩ v2).setCell ⟨b,3,N⟩ v3).setCell ⟨b,4,N⟩ v4).setCell ⟨b,5,N⟩ v5).heap[b']?=w.heap[b']?:=by
 rw[Dm _ ⟨b,5,N⟩ _ b' h,Dm _ ⟨b,4,N⟩ _ b' h,Dm _ ⟨b,3,N⟩ _ b' h,Dm _ ⟨b,2,N⟩ _ b' h,Dm _ ⟨b,1,N⟩ _ b' h,Dm _ ⟨b,0,N⟩ _ b' h]
theorem Ij(hb:Below B w w')(h:B<=b)(v0 v1 v2 v3 v4 v5:Z):Below B w ((((((w'.setCell ⟨b,0,N⟩ v0).setCell ⟨b,1,N⟩ v1).setCell ⟨b,2,N⟩ v2).setCell ⟨b,3,N⟩ v3).setCell ⟨b,4,N⟩ v4).setCell ⟨b,5,N⟩ v5):=
 (((((hb.setCell (p:=⟨b,0,N⟩) h _).setCell (p:=⟨b,1,N⟩) h _).setCell (p:=⟨b,2,N⟩) h _).setCell (p:=⟨b,3,N⟩) h _).setCell (p:=⟨b,4,N⟩) h _).setCell (p:=⟨b,5,N⟩) h _
theorem Gb{v0 v3 v4 v5:Z}(h:w.heap[b]?=M (O #[v0,v1,v2,v3,v4,v5] 187 (0,0))):w.cell? ⟨b,0,N⟩=M v0/\w.cell? ⟨b,1,N⟩=M v1/\w.cell? ⟨b,2,N⟩=M v2/\w.cell? ⟨b,3,N⟩=M v3/\w.cell? ⟨b,4,N⟩=M v4/\w.cell? ⟨b,5,N⟩=M v5/\∀j,w.frozen? ⟨b,j,N⟩=false:=by
 refine⟨?_,?_,?_,?_,?_,?_,λj=>fH h j⟩<;>rw[cH h]<;>rfl
theorem Pg.two(h:Pg w):2<w.heap.size:=by
 unfold Pg Lib.TabIs World.var? at h
 rw[show prog.globalNamed "internal/strconv.uint64pow10"=M 2 from qk]at h
 simp only[Option.bind_some]at h
 rcases Nat.lt_or_ge 2 w.heap.size with h'|h'
 ·exact h'
 ·rw[Array.getElem?_eq_none h']at h;cases h
def Gn(is:L I3)(ys:L R3)(B m T:X)(cd:Z)(ov:Bool)(c:Int)(t:By)(ask:Bool)(nm:By)(st:Int)(w:E):Prop:=
 w.heap[T]?=M (O #[F ov,I c,S t,F ask,S nm,I st] 187 (0,0))/\T≠m/\B<=T/\m<w.heap.size/\VAt is ys B m cd ov c t ask nm st w
theorem Gn.bl{is:L I3}{ys:L R3}{T:X}{cd:Z}{ov:Bool}{c:Int}{t:By}{ask:Bool}{st:Int}(h:Gn is ys B m T cd ov c t ask nm st w)(hb:Bw w w'):Gn is ys B m T cd ov c t ask nm st w':=
 ⟨by rw[hb.block _ (Ag h.1)];exact h.1,h.2.1,h.2.2.1,Nat.lt_of_lt_of_le h.2.2.2.1 hb.size,h.2.2.2.2.mono (λ_ _ _ _ k=>k.bl hb)⟩
theorem begin_any(a:Option Addr)(cap:X)(is:L I3)(w:E)(hT:Mv w)(hP:Pg w)(hc:Cn w a is)(hv:Av is=true):Calls prog 148 #[G #[J a is.length cap]] w λe w'=>Bw w w'/\∃B m T ov c t ask nm st,w.heap.size<=B/\B<=w'.heap.size/\e=H (.tuple #[Bc ov c t ask nm st,.func (.func 165) #[] #[D (p_ m),D (p_ T)]])/\Gn is [] B m T (J a is.length cap) ov c t ask nm st w':=by
 have hP2:=hP.two
 obtain⟨W,eW⟩:=Aj (((w.alloc (O #[J a is.length cap] 70)).alloc (O #[F false,I 0,ze,F false,ze,I 0] 187)))
 have ak:Bw w W:=by rw[<- eW];exact(aN _ _).alloc qi _
 have I0:W.heap.size=w.heap.size+1+1:=by rw[<- eW];simp
 have x0:W.cell? ⟨w.heap.size,0,N⟩=M (J a is.length cap):=qas
 have HR:Hd (W.heap[w.heap.size+1]?=M (O #[F false,I 0,ze,F false,ze,I 0] 187 (0,0))):=by
  show W.heap[w.heap.size+1]?=_;rw[<- eW];exact qjk
 have F2:Bw W (W.alloc (O #[nS,J a is.length cap,I 0,I 0,I 0] 251)):=aN _ _
 have HMK:Hd (Cl W.heap.size (W.alloc (O #[nS,J a is.length cap,I 0,I 0,I 0] 251)) W.heap.size Mx.stack (J a is.length cap) Mx.pl Mx.steps Mx.looks):=⟨Nat.le_refl _,nS,Bf _ _,⟨by simp[Mx,Ar],Or.inl ⟨rfl,rfl⟩⟩⟩
 have HCB:Hd (Ls W.heap.size W a is):=⟨hc.bl ak,λb off e=>by
  have:=(Ef hv).1;obtain⟨b',bz,e',c1,_,_⟩:=hc.bl ak 0 qg;rw[e]at e';cases e';exact World.block_lt_of_cell? _ _ c1⟩
 have HT2:=Ab (hT.bl ak)
 have uq:=Ab (hP.bl ak)
 have HBM:=Ab F2
 have HV:=Ab hv
 have py:=Ab ak
 have HWS:=Ab I0
 clear hT hP hc hv F2 ak I0
 go_enter func148,ntmps148
 go_wp2_with fail
 clear eW
 refine(Qai W.heap.size W.heap.size is a cap Mx _ HMK.o qi (zo HWS.o) (HCB.o.belowB HBM.o) (HT2.o.bl HBM.o) (uq.o.bl HBM.o) HV.o (Uz is)).mono ?_
 rintro e w3 ⟨gu,gv⟩
 obtain⟨ov,c,t,ask,nm,st,rfl,ul⟩:=run_vat HV.o gv
 have hz3:W.heap.size+1<=w3.heap.size:=by have:=gu.size;simpa using this
 have ia:=Ab (HBM.o.trans gu.bl)
 have HAT:Hd (VAt is [] W.heap.size W.heap.size (J a is.length cap) ov c t ask nm st (w3.alloc (O #[F ov,I c,S t,F ask,S nm,I st] 187))):=ul.mono (λ_ _ _ _ k=>k.alloc _)
 have lp:Hd ((w3.alloc (O #[F ov,I c,S t,F ask,S nm,I st] 187)).heap[w.heap.size+1]?=M (O #[F false,I 0,ze,F false,ze,I 0] 187 (0,0))):=by
  show(w3.alloc (O #[F ov,I c,S t,F ask,S nm,I st] 187)).heap[w.heap.size+1]?=_;have:=HWS.o;rw[Lib.alloc_old w3 _ _ qg,ia.o.block _ qg];exact HR.o
 have HTN:Hd ((w3.alloc (O #[F ov,I c,S t,F ask,S nm,I st] 187)).heap[w3.heap.size]?=M (O #[F ov,I c,S t,F ask,S nm,I st] 187 (0,0))):=Bf _ _
 have ox:Hd (Bw W (w3.alloc (O #[F ov,I c,S t,F ask,S nm,I st] 187))):=ia.o.alloc qg _
 obtain⟨z0,z1,z2,z3,z4,z5,zf⟩:=Gb lp.o
 clear ul gv gu x0 HR
 unfold Bc
 go_wp2_with fail
 obtain⟨n1,n2⟩:=storeT rfl lp.o (F ov) (I c) (S t) (F ask) (S nm) (I st)
 obtain⟨y0,y1,y2,y3,y4,y5,yf⟩:=Gb n1
 refine bR (v:=.tuple #[Bc ov c t ask nm st,.func (.func 165) #[] #[D (p_ W.heap.size),D (p_ w3.heap.size)]]) (by simp[results,results148,go_sem,Bc,z0,z1,z2,z3,z4,z5]) rfl ⟨Ij (py.o.trans (ox.o.mono (zo HWS.o))) qg _ _ _ _ _ _,W.heap.size,W.heap.size,w3.heap.size,ov,c,t,ask,nm,st,by have:=HWS.o;omega,qj,rfl,?_,qg,qg,qj,?_⟩
 ·rw[Fm (zo HWS.o)];exact HTN.o
 ·exact HAT.o.mono (λss pl ri lk k=>n2 _ _ _ _ _ _ _ k)
theorem Fz.congr(h:w'.heap[m]?=w.heap[m]?)(k:Fz w m b):Fz w' m b:=λv hv=>k v (by
 have e:w'.cell? ⟨m,0,N⟩=w.cell? ⟨m,0,N⟩:=by simp only[World.cell?,h]
 rw[<- e];exact hv)
theorem goOn_any(B m T:X)(is:L I3)(a:Option Addr)(cap:X)(ys:L R3)(ask:Bool)(nm:By)(st:Int)(y y':R3)(w:E)(hG:Gn is ys B m T (J a is.length cap) false 0 ⟨#[]⟩ ask nm st w)(hB:B<=w.heap.size)(bm:2<B)(d8:Ls B w a is)(hT:Mv w)(hP:Pg w)(hv:Av is=true)(hy:y.text.size<=2000)(hyy:∀nm s,Fe ask nm y s=Fe ask nm y' s):Calls prog 165 #[G #[F y.has,I y.code,S y.text],D (p_ m),D (p_ T)] w λe w'=>(Below B w w'/\∀b cs AM,AM≠9->b≠m->b≠T->w.heap[b]?=M (O cs AM (0,0))->w'.heap[b]?=M (O cs AM (0,0)))/\(∀b cs AM,b≠m->b≠T->Fz w m b->w.heap[b]?=M (O cs AM (0,0))->w'.heap[b]?=M (O cs AM (0,0))/\Fz w' m b)/\∃ov c t jp nm' ri,e=H (Bc ov c t jp nm' ri)/\Gn is (ys++[y']) B m T (J a is.length cap) ov c t jp nm' ri w':=by
 obtain⟨hTb,hTm,hBT,zq,hV⟩:=hG
 rcases hV with⟨h0,_⟩|⟨_,_,_,s1,s',rfl,g1,g2,g3,g4,g5⟩
 ·cases h0
 obtain⟨q1,q2,q3,q4,q5,q6,q7,q8⟩:=Hz g1
 have xk:s'.stack.length<50:=by rw[q7,Bi];have:=g3.len;omega
 have hTl:=Ag hTb
 obtain⟨W,eW⟩:=Aj (((w.alloc (O #[F y.has,I y.code,S y.text] 191)).alloc (O #[F false,I 0,ze,F false,ze,I 0] 187)))
 have ak:Bw w W:=by rw[<- eW];exact(aN _ _).alloc qi _
 have I0:W.heap.size=w.heap.size+1+1:=by rw[<- eW];simp
 have x0:W.cell? ⟨w.heap.size,0,N⟩=M (F y.has):=qas
 have x1:W.cell? ⟨w.heap.size,1,N⟩=M (I y.code):=qas
 have x2:W.cell? ⟨w.heap.size,2,N⟩=M (S y.text):=qas
 have HR:Hd (W.heap[w.heap.size+1]?=M (O #[F false,I 0,ze,F false,ze,I 0] 187 (0,0))):=by
  show W.heap[w.heap.size+1]?=_;rw[<- eW];have h:=Bf (w.alloc (O #[F y.has,I y.code,S y.text] 191)) (O #[F false,I 0,ze,F false,ze,I 0] 187);rw[show(w.alloc (O #[F y.has,I y.code,S y.text] 191)).heap.size=w.heap.size+1 from qi]at h;exact h
 have HTW:Hd (W.heap[T]?=M (O #[F false,I 0,ze,F ask,S nm,I s'.steps] 187 (0,0))):=by
  show W.heap[T]?=_;rw[ak.block _ hTl];exact hTb
 have zc:Hd (KB B m w W):=KB.old ak hB
 have HAn:Hd (∀_:Unit,Calls prog 166 #[D (p_ m),Bc false 0 ⟨#[]⟩ ask nm s'.steps,G #[F y.has,I y.code,S y.text]] W λe w'=>AnsPost is ask nm y s' B m (J a is.length cap) W e w'):=λ_=>
  answer_any B m is a cap ask nm y s' W (g5.bl ak) qg bm (d8.belowB (ak.mono hB)) (hT.bl ak) (hP.bl ak) hv g4 qg xk hy
 have HG:Hd (Cq is s1=.look ask nm s'/\RQ is ys s1/\Ek is s1/\Ek is s'/\Fe ask nm y s'=Fe ask nm y' s'):=⟨g1,g2,g3,g4,hyy nm s'⟩
 have HV:=Ab hv
 have HML0:=Ab zq
 have t6:Hd (B<=T/\T≠m/\T<w.heap.size/\B<=w.heap.size):=⟨hBT,hTm,hTl,hB⟩
 obtain⟨k0,k1,k2,k3,k4,k5,kf⟩:=Gb HTW.o
 obtain⟨_,_,_,_,_,_,_,_,Id,_,_⟩:=g5.all
 clear g1 g2 g3 g4 g5 d8 hT hP hv ak hTb q1 q2 q3 q4 q5 q6 q7 q8 xk I0
 unfold Bc at HAn
 go_enter func165,ntmps165
 go_wp2_with fail
 clear eW
 refine(HAn.o ()).mono ?_
 rintro e w4 ⟨uw,gv⟩
 obtain⟨ov',c',t',jp,nm',ri,rfl,hnext⟩:=ans_vat HV.o HG.o.1 HG.o.2.1 hy HG.o.2.2.2.2 HG.o.2.2.1 HG.o.2.2.2.1 gv
 have hT4:w4.heap[T]?=M (O #[F false,I 0,ze,F ask,S nm,I s'.steps] 187 (0,0)):=uw.keep _ _ 187 qh t6.o.2.1 HTW.o
 have hR4:w4.heap[w.heap.size+1]?=M (O #[F false,I 0,ze,F false,ze,I 0] 187 (0,0)):=uw.keep _ _ 187 qh qg HR.o
 obtain⟨n1,n2⟩:=storeT rfl hT4 (F ov') (I c') (S t') (F jp) (S nm') (I ri)
 have hTR:T≠w.heap.size+1:=zo t6.o.2.2.1
 have hR5:=(Fm (w:=w4) (b:=T) (b':=w.heap.size+1) (λe=>hTR e.symm) (F ov') (I c') (S t') (F jp) (S nm') (I ri)).trans hR4
 obtain⟨r1,r2⟩:=storeT rfl hR5 (F ov') (I c') (S t') (F jp) (S nm') (I ri)
 have HKB2:=Ab (zc.o.trans uw)
 have HML:Hd (m<((((((((((((w4.setCell ⟨T,0,N⟩ (F ov')).setCell ⟨T,1,N⟩ (I c')).setCell ⟨T,2,N⟩ (S t')).setCell ⟨T,3,N⟩ (F jp)).setCell ⟨T,4,N⟩ (S nm')).setCell ⟨T,5,N⟩ (I ri)).setCell ⟨w.heap.size+1,0,N⟩ (F ov')).setCell ⟨w.heap.size+1,1,N⟩ (I c')).setCell ⟨w.heap.size+1,2,N⟩ (S t')).setCell ⟨w.heap.size+1,3,N⟩ (F jp)).setCell ⟨w.heap.size+1,4,N⟩ (S nm')).setCell ⟨w.heap.size+1,5,N⟩ (I ri)).heap.size):=Nat.lt_of_lt_of_le Id (Ij (Ij HKB2.o.bl t6.o.1 _ _ _ _ _ _) (b:=w.heap.size+1) (zo t6.o.2.2.2) _ _ _ _ _ _).size
 have re:=Ab hnext
 obtain⟨j0,j1,j2,j3,j4,j5,jf⟩:=Gb hT4
 obtain⟨z0,z1,z2,z3,z4,z5,zf⟩:=Gb hR4
 have HN1:=Ab n1
 have S4:=Ab n2
 have pj:=Ab r2
 clear k0 k1 k2 k3 k4 k5 kf uw gv hnext HAn n1 n2 r1 r2 hR5 x0 x1 x2
 unfold Bc
 go_wp2_with fail
 refine bR (v:=Bc ov' c' t' jp nm' ri) (by simp[results,results165,go_sem,Bc,z0,z1,z2,z3,z4,z5]) rfl ⟨⟨Ij (Ij HKB2.o.bl t6.o.1 _ _ _ _ _ _) (zo t6.o.2.2.2) _ _ _ _ _ _,?_⟩,?_,ov',c',t',jp,nm',ri,rfl,?_,t6.o.2.1,t6.o.1,HML.o,?_⟩
 ·intro b cs AM hX F2 hbT hb;have bv:=Ag hb;rw[Fm qg,Fm hbT];exact HKB2.o.keep b cs AM hX F2 hb
 ·intro b cs AM F2 hbT ip hb;have bv:=Ag hb;have hml':=HML0.o;obtain⟨q1,q2⟩:=HKB2.o.own hml' b cs AM F2 ip hb;refine⟨?_,Fz.congr ?_ q2⟩
  ·rw[Fm qg,Fm hbT];exact q1
  ·rw[Fm qg,Fm (λe=>t6.o.2.1 e.symm)]
 ·rw[Fm hTR];exact HN1.o
 ·exact re.o.mono (λss pl ri lk k=>pj.o _ _ _ _ _ _ _ (S4.o _ _ _ _ _ _ _ k))
def kS(k:ByteArray):Lit:=.string k.data.toList
theorem kS_inj{a b:By}(h:kS a=kS b):a=b:=by
 unfold kS at h
 injection h with h
 apply ByteArray.ext
 exact Array.ext' h
theorem kS_key(k:By):WideAt.IsKeyLit (kS k):=by unfold kS;trivial
def Jk(w:E)(b n:X)(f:By->Option Z):Prop:=
 ∃AJ:DataW Z,w.ownsMap prog 9 (λv=>M (.held v,[])) b n AJ/\∀k:By,Maps.has AJ (kS k)=(f k).isSome/\∀v,f k=M v->∀z,AJ.atKey (kS k) z=.held v
theorem Jk.made(w:E):Jk (w.alloc (.map #[] 0)) w.heap.size 0 (λ_=>N):=⟨_,World.ownsMap_made w _ _ _,λk=>⟨rfl,λv h=>by cases h⟩⟩
theorem Jk.same(h:Jk w b n f)(he:w'.heap[b]?=w.heap[b]?):Jk w' b n f:=by
 exact qfx
theorem Jk.lt(h:Jk w b n f):b<w.heap.size:=by obtain⟨AJ,h1,_⟩:=h;exact h1.lt
theorem Jk.notCells(h:Jk w b n f){fr:X×X}(hc:w.heap[b]?=M (O cs T fr)):False:=by
 obtain⟨AJ,⟨es,cl,h1,_⟩,_⟩:=h
 rw[hc]at h1;cases h1
def Hy:Z:=G #[F false,I 0,ze,nS,ze,nS]
theorem zero59(w:E):(zeroValue 168).run prog w=.ok Hy w:=qk
theorem key_of(k:By)(h:k.size<=maxLen):keyOf prog 9 (S k)=M (kS k):=Go.WideMaps.keyOf_string_mk underlying9 h
theorem Jk.look(h:Jk w b n f)(hk:k.size<=maxLen):(Instr.lookup 163 (.map (M b)) (.string k) true).run prog w=.ok (.tuple #[(f k).getD Hy,.bool (f k).isSome]) w:=by
 obtain⟨AJ,h1,h2⟩:=h
 obtain⟨v,ps,h3,h4⟩:=h1.look_ok (Maps.string_keyed underlying9) underlying163 (zero59 w) (zd:=.held Hy) (zp:=[]) rfl (key_of k hk)
 have h5:(DataW.held v:DataW Z)=AJ.atKey (kS k) (.held Hy):=by
  simp only[Option.some.injEq,Prod.mk.injEq]at h4;exact h4.1
 have h6:v=(f k).getD Hy:=by
  cases hf:f k with
  | none=>
   have h7:=(h2 k).1;rw[hf]at h7;rw[Maps.atKey_of_not_has h7]at h5;exact DataW.held.inj h5
  | some u=>
   rw[(h2 k).2 u hf]at h5;exact DataW.held.inj h5
 rw[h3,(h2 k).1,h6]
open Classical in
theorem Jk.store(h:Jk w b n f)(hk:k.size<=maxLen)(hn:n<maxLen)(v:Z):∃w',(Instr.mapUpdate 163 (.map (M b)) (S k) v).run prog w=.ok () w'/\Jk w' b (n+1) (λx=>if x=k then M v else f x)/\w.grownBy w' (M b):=by
 obtain⟨AJ,h1,h2⟩:=h
 obtain⟨w',h3,h4,h5⟩:=h1.update (Maps.string_keyed underlying9) underlying163 hn (key_of k hk) (val:=v) (d:=.held v) (ps:=[]) rfl
 refine⟨w',h3,⟨_,h4,λx=>?_⟩,h5⟩
 by_cases hx:x=k
 ·subst hx;simp only[if_true];exact⟨Maps.has_put_same h1.isMap (kS_key _) _,λv' e z=>by cases e;exact Maps.atKey_put_same h1.isMap (kS_key _) _ _⟩
 ·simp only[if_neg hx];have hne:kS x≠kS k:=λe=>hx (kS_inj e);exact⟨by rw[Maps.has_put_other hne];exact(h2 x).1,λv' e z=>by rw[Maps.atKey_put_other hne];exact(h2 x).2 v' e z⟩
theorem Jk.congr{g:By->Option Z}(h:Jk w b n f)(e:∀k,f k=g k):Jk w b n g:=by
 obtain rfl:f=g:=funext e
 exact h
def Ft(d:Md)(v:Z):Z:=G #[F true,I d.c,S d.t,nS,S (Bp d.c d.t),v]
structure KP (B h mb:X) (av kv:Z) (w w':E):Prop where
 bl:Below B w w'
 keep:∀b,b<w.heap.size->b≠h->b≠mb->av.ownBlock≠M b->kv.ownBlock≠M b->w'.heap[b]?=w.heap[b]?
def Am(w:E)(v v':Z):Prop:=∀b,v'.ownBlock=M b->v.ownBlock=M b\/w.heap.size<=b
theorem Am.refl(w:E)(v:Z):Am w v v:=λb h=>Or.inl h
theorem Am.trans(h:Am w v v1)(hs:w.heap.size<=w1.heap.size)(k:Am w1 v1 v2):Am w v v2:=λb hb=>by
 rcases k b hb with q|q
 ·exact h b q
 ·exact Or.inr qg
theorem KP.old{mb:X}(hb:Bw w w')(hB:B<=w.heap.size):KP B h mb av kv w w':=⟨hb.mono hB,λb h1 _ _ _ _=>hb.block b h1⟩
theorem KP.trans{mb:X}{av1 kv1:Z}(k:KP B h mb av kv w w1)(ha:Am w av av1)(hk:Am w kv kv1)(l:KP B h mb av1 kv1 w1 w2):KP B h mb av kv w w2:=⟨k.bl.trans l.bl,λb h1 h2 h3 h4 h5=>by
 have hs:=k.bl.size
 rw[l.keep b qg h2 h3 (λe=>by rcases ha b e with q|q;exact h4 q;omega) (λe=>by rcases hk b e with q|q;exact h5 q;omega)]
 exact k.keep b h1 h2 h3 h4 h5⟩
theorem KP.after{mb:X}(k:KP B h mb av kv w w1)(hb:Bw w1 w2)(hB:B<=w1.heap.size):KP B h mb av kv w w2:=k.trans (Am.refl _ _) (Am.refl _ _) (KP.old hb hB)
theorem KP.setH{mb j:X}(k:KP B h mb av kv w w')(hB:B<=h):KP B h mb av kv w (w'.setCell ⟨h,j,N⟩ v):=⟨k.bl.setCell (p:=⟨h,j,N⟩) hB _,λb h1 h2 h3 h4 h5=>by rw[Dm w' ⟨h,j,N⟩ _ b (by simpa using h2)];exact k.keep b h1 h2 h3 h4 h5⟩
theorem KP.mapped{mb:X}(k:KP B h mb av kv w w1)(hB:B<=mb)(hg:w1.grownBy w2 (M mb))(gh:B<=w1.heap.size):KP B h mb av kv w w2:=⟨k.bl.grown hg gh (λb e=>by injection e with e;omega),λb h1 h2 h3 h4 h5=>by
 have hs:=k.bl.size
 rw[hg.block b qg (λe=>h3 qax)]
 exact k.keep b h1 h2 h3 h4 h5⟩
theorem Dh(ho:w.ownsRow B e sz v n xs)(hb:v.ownBlock=M b):B<=b/\∃cur,w.heap[b]?=M (O cur e (0,0)):=by
 rcases ho.2 with⟨rfl,_⟩|⟨g,cap,cur,rfl,hg,hh,_⟩
 ·simp[Value.ownBlock]at hb
 ·simp[Value.ownBlock]at hb;subst hb;exact⟨hg,cur,hh⟩
theorem Ae(ho:w.ownsRow B e sz v n xs)(hT:T≠e)(hb:w.heap[b]?=M (O cs T (0,0))):v.ownBlock≠M b:=λq=>by
 obtain⟨_,cur,hh⟩:=Dh ho q
 rw[hb]at hh
 injection hh with hh
 injection hh with _ h5
 exact hT h5
theorem Kc(ho:w.ownsRow B e sz v n xs)(hm:Jk w b m f):v.ownBlock≠M b:=λq=>by
 obtain⟨_,cur,hh⟩:=Dh ho q
 exact hm.notCells hh
theorem An(ho:w.ownsRow B e sz v n xs)(hk:∀b,v.ownBlock=M b->w'.heap[b]?=w.heap[b]?):w'.ownsRow B e sz v n xs:=by
 refine⟨ho.1,?_⟩
 rcases ho.2 with k|⟨g,cap,cur,rfl,hg,hh,r⟩
 ·exact Or.inl k
 ·exact Or.inr ⟨g,cap,cur,rfl,hg,by rw[hk g (by simp[Value.ownBlock])];exact hh,r⟩
theorem Ml.keptB(h:Ml w B v ls)(hk:∀b,v.ownBlock=M b->w'.heap[b]?=w.heap[b]?):Ml w' B v ls:=by
 obtain⟨xs,h1,h2⟩:=h
 exact⟨xs,An h1 hk,h2⟩
def Lm(v:Z):Ending:=.panicked [{ v:=.iface 206 v,recovered:=false }]
def Xq(n:X):By:=⟨#[UInt8.ofNat (48+n)]⟩
theorem Zb(n:X):(Xq n).size=1:=rfl
theorem itoa_in(n:X)(hn:n<=5)(w:E):Calls prog 170 #[I n] w λe w'=>e=H (S (Xq n))/\w=w':=by
 rcases(show n=0\/n=1\/n=2\/n=3\/n=4\/n=5 from qg)with rfl|rfl|rfl|rfl|rfl|rfl
 all_goals
  go_enter func170,ntmps170;exact qam
theorem l2Dec_in(n:X)(hn:n<=5)(w:E):Calls prog 137 #[I n] w λe w'=>e=H (S (Xq n))/\Bw w w':=by
 have hu:=Wc n qg
 unfold Xq
 generalize UInt8.ofNat (48+n)=u at *
 have hcv:=Wd (w.alloc (O #[.int .u8 (48+n)] 5)) w.heap.size (48+n) u hu qo
 clear hu
 exact qmi
theorem Ay{a b:E}(h:Bw w a)(k:Bw a b):Bw w b:=h.trans (k.mono h.size)
theorem Qe(m:X)(t:By)(a:Option Addr)(cap:X)(w:E)(hm:m<=5)(ht:t.size<=2000):Calls prog 114 #[G #[I m,S t,J a 0 cap]] w λe w'=>e=H (S (Xq m++(⟨#[58]⟩:By)++t))/\Bw w w':=by
 have hd:=Nat.le_of_eq (Zb m)
 have HC:Hd (∀W:E,Calls prog 137 #[I m] W λe w'=>e=H (S (Xq m))/\Bw W w'):=λW=>l2Dec_in m hm W
 generalize Xq m=d at *
 have HD:Hd (∀W:E,W.cell? ⟨w.heap.size,1,N⟩=M (S t)->Calls prog 137 #[I m] W λe w'=>e=H (S d)/\Bw W w'/\w'.cell? ⟨w.heap.size,1,N⟩=M (S t)):=λW hW=>(HC.o W).mono λe w' ⟨he,hb⟩=>⟨he,hb,Aa hb hW⟩
 have hx0:(w.alloc (O #[I m,S t,J a 0 cap] 65)).cell? ⟨w.heap.size,0,N⟩=M (I m):=qo
 have hx1:(w.alloc (O #[I m,S t,J a 0 cap] 65)).cell? ⟨w.heap.size,1,N⟩=M (S t):=qo
 go_enter func114,ntmps114
 go_wp2
 go_region_with (first|(go_at_call 137;refine(HD.o _ ?_).mono ?_;(focus(simp[go_sem];done));rintro e w1 ⟨rfl,ag,hcc⟩))
 all_goals
  go_wp2;go_ret;exact⟨rfl,((aN _ _).drew.trans (ag.mono qi))⟩
theorem Qu(m:X)(t:By)(a:Option Addr)(cap:X)(w:E)(hm:m<=5)(ht:t.size<=2000):Calls prog 151 #[G #[I m,S t,J a 0 cap]] w λe w'=>e=H (S (Xq m++(⟨#[58]⟩:By)++t))/\Bw w w':=by
 have hd:=Nat.le_of_eq (Zb m)
 have HC:Hd (∀W:E,Calls prog 170 #[I m] W λe w'=>e=H (S (Xq m))/\W=w'):=λW=>itoa_in m hm W
 generalize Xq m=d at *
 have hx0:(w.alloc (O #[I m,S t,J a 0 cap] 65)).cell? ⟨w.heap.size,0,N⟩=M (I m):=qo
 have hx1:(w.alloc (O #[I m,S t,J a 0 cap] 65)).cell? ⟨w.heap.size,1,N⟩=M (S t):=qo
 go_enter func151,ntmps151
 go_wp2
 go_region_with (first|(go_at_call 170;refine(HC.o _).mono ?_;rintro e w1 ⟨rfl,rfl⟩))
 all_goals
  go_wp2;go_ret;exact⟨rfl,(aN _ _).drew⟩
section
open Go.Deep
theorem Il{w:E}{b:X}{u0 u1 u2 u3 u4 u5:Z}{T:TypeId}(h:w.heap[b]?=M (O #[u0,u1,u2,u3,u4,u5] T (0,0)))(v0 v1 v2 v3 v4 v5:Z):((((((w.setCell ⟨b,0,N⟩ v0).setCell ⟨b,1,N⟩ v1).setCell ⟨b,2,N⟩ v2).setCell ⟨b,3,N⟩ v3).setCell ⟨b,4,N⟩ v4).setCell ⟨b,5,N⟩ v5).heap[b]?=M (O #[v0,v1,v2,v3,v4,v5] T (0,0)):=by
 rw[jB (jB (jB (jB (jB (jB h v0) v1) v2) v3) v4) v5]
 rfl
theorem Sv{w:E}{b:X}{v0 v1 v2 v3 v4 v5:Z}{T:TypeId}(h:w.heap[b]?=M (O #[v0,v1,v2,v3,v4,v5] T (0,0))):(w.cell? ⟨b,0,N⟩=M v0/\w.cell? ⟨b,1,N⟩=M v1/\w.cell? ⟨b,2,N⟩=M v2/\w.cell? ⟨b,3,N⟩=M v3/\w.cell? ⟨b,4,N⟩=M v4/\w.cell? ⟨b,5,N⟩=M v5)/\∀j,w.frozen? ⟨b,j,N⟩=false:=by
 refine⟨⟨?_,?_,?_,?_,?_,?_⟩,λj=>fH h j⟩<;>rw[cH h]<;>rfl
def mkW(sv tv:Z)(w:E):E:=((w.alloc (O #[sv,tv] 42)).alloc (.map #[] 0)).alloc (O #[sv,tv,.map (M (w.heap.size+1)),nS,nS,.nilFunc] 165)
theorem newMaker_any(sa ta:Option Addr)(n1 n2 c1 c2:X)(w:E):Calls prog 97 #[G #[J sa n1 c1,J ta n2 c2]] w λe w'=>e=H (D (p_ (w.heap.size+1+1)))/\w'=mkW (J sa n1 c1) (J ta n2 c2) w:=by
 have hmm:∀w:E,(Instr.makeMap 163 N).run prog w=.ok (.map (M w.heap.size)) (w.alloc (.map #[] 0)):=λw=>qk
 go_enter func97,ntmps97
 exact qam
theorem mkW_blk(sv tv:Z)(w:E):(mkW sv tv w).heap[w.heap.size+1+1]?=M (O #[sv,tv,.map (M (w.heap.size+1)),nS,nS,.nilFunc] 165 (0,0)):=by
 unfold mkW
 have h:=Bf ((w.alloc (O #[sv,tv] 42)).alloc (.map #[] 0)) (O #[sv,tv,.map (M (w.heap.size+1)),nS,nS,.nilFunc] 165)
 rw[show((w.alloc (O #[sv,tv] 42)).alloc (.map #[] 0)).heap.size=w.heap.size+1+1 from qi]at h
 exact h
theorem mkW_map(sv tv:Z)(w:E):Jk (mkW sv tv w) (w.heap.size+1) 0 (λ_=>N):=by
 have h:=Jk.made (w.alloc (O #[sv,tv] 42))
 rw[show(w.alloc (O #[sv,tv] 42)).heap.size=w.heap.size+1 from qi]at h
 unfold mkW
 exact h.same (Lib.alloc_old _ _ _ qi)
theorem mkW_below(sv tv:Z)(w:E):Bw w (mkW sv tv w):=by
 unfold mkW
 exact((aN _ _).alloc qi _).alloc qj _
theorem blk_keep'{w w':E}{b:X}{cs:Array Z}{T:TypeId}(hb:Bw w w')(h:w.heap[b]?=M (O cs T (0,0))):w'.heap[b]?=M (O cs T (0,0)):=by
 rw[hb.block _ (Ag h)];exact h
theorem strV_get'(l:L By)(i:X)(h:i<l.length):(Ar l)[i]?=M (S (l.getD i ByteArray.empty)):=by
 unfold Ar
 rw[List.getElem?_map,Hq h,gG,Hq h]
 rfl
theorem own_base'{w:E}{B B' e sz n:X}{v:Z}{xs:L Z}(h:w.ownsRow B e sz v n xs)(hB:B'<=B):w.ownsRow B' e sz v n xs:=by
 exact qlh
theorem Ai(V:E)(o:Obj):Bw V (V.alloc o):=aN _ _
end
theorem Sl(sa ta:Option Addr)(n2 c1 c2:X)(ts:L S2)(s:By)(w:E)(hc:Kn w sa ts)(hl:ts.length<=1048576):Calls prog 79 #[G #[J sa ts.length c1,J ta n2 c2],S s] w λe w'=>Bw w w'/\((∃i:X,e=H (I i)/\i<ts.length/\(sx ts i).name=s)\/(e=H (I (-1))/\¬ El (Au ts) s)):=by
 have ak:Bw w (w.alloc (O #[J sa ts.length c1,J ta n2 c2] 42)):=aN _ _
 have k1:(w.alloc (O #[J sa ts.length c1,J ta n2 c2] 42)).cell? ⟨w.heap.size,0,N⟩=M (J sa ts.length c1):=qo
 have HC:=Ab (hc.bl ak)
 clear hc
 go_enter func79,ntmps79
 go_wp2
 go_loopw [5] (λi wr=>∃k:X,k<=ts.length/\i=I k/\Hd (∀j,j<k->(sx ts j).name≠s)/\(w.alloc (O #[J sa ts.length c1,J ta n2 c2] 42))=wr) (λi _=>ts.length-(intOf i).toNat)
 case atStart=>exact⟨0,Nat.zero_le _,rfl,(λj hj=>by omega:∀j,j<0->(sx ts j).name≠s),rfl⟩
 case round=>
  obtain⟨k,hk,rfl,HA,rfl⟩:=hrel
  by_cases ai:k<ts.length
  ·obtain⟨b,off,rfl,I4,A2⟩:=HC.o k ai;have fs:(k:Int)<(ts.length:Int):=qg;obtain⟨nm,en⟩:=Aj ((sx ts k).name);have EN:=Ab en;rw[en]at I4;clear en A2;exact qiv
  ·go_wp2;go_ret;exact⟨ak,Or.inr ⟨rfl,λ⟨j,hj,e⟩=>by rw[Cd]at hj;rw[Ed]at e;exact HA.o j qg e⟩⟩
theorem Sk(sa ta:Option Addr)(n1 c1 c2:X)(ts:L T2)(s:By)(w:E)(hc:Km w ta ts)(hl:ts.length<=1048576):Calls prog 77 #[G #[J sa n1 c1,J ta ts.length c2],S s] w λe w'=>Bw w w'/\((∃i:X,e=H (I i)/\i<ts.length/\(tx ts i).name=s)\/(e=H (I (-1))/\¬ El (Aq ts) s)):=by
 have ak:Bw w (w.alloc (O #[J sa n1 c1,J ta ts.length c2] 42)):=aN _ _
 have k1:(w.alloc (O #[J sa n1 c1,J ta ts.length c2] 42)).cell? ⟨w.heap.size,1,N⟩=M (J ta ts.length c2):=qo
 have HC:=Ab (hc.bl ak)
 clear hc
 go_enter func77,ntmps77
 go_wp2
 go_loopw [5] (λi wr=>∃k:X,k<=ts.length/\i=I k/\Hd (∀j,j<k->(tx ts j).name≠s)/\(w.alloc (O #[J sa n1 c1,J ta ts.length c2] 42))=wr) (λi _=>ts.length-(intOf i).toNat)
 case atStart=>exact⟨0,Nat.zero_le _,rfl,(λj hj=>by omega:∀j,j<0->(tx ts j).name≠s),rfl⟩
 case round=>
  obtain⟨k,hk,rfl,HA,rfl⟩:=hrel
  by_cases ai:k<ts.length
  ·obtain⟨b,off,rfl,I4,x,p,A2,c3'⟩:=HC.o k ai;have fs:(k:Int)<(ts.length:Int):=qg;obtain⟨nm,en⟩:=Aj ((tx ts k).name);have EN:=Ab en;rw[en]at I4;clear en A2 c3';exact qiv
  ·go_wp2;go_ret;exact⟨ak,Or.inr ⟨rfl,λ⟨j,hj,e⟩=>by rw[Ca]at hj;rw[Dt]at e;exact HA.o j qg e⟩⟩
theorem Se(h:Ze ss ts nm):Cj ss ts nm=true:=by simp[Cj,h]
theorem Zp(h:¬ Ze ss ts nm):Cj ss ts nm=false:=by simp[Cj,h]
section
theorem extract_all(x:By):x.extract 0 x.size=x:=by
 apply WideShapes.bytes_inj
 simp
theorem extract_none(x:By):x.extract x.size x.size=⟨#[]⟩:=by
 apply WideShapes.bytes_inj
 simp
def Mt(w:E)(e:Ending)(outs:L By):Prop:=∃g cap:X,e=H (J (p_ g) outs.length cap)/\∀j,j<outs.length->w.cell? ⟨g,j,N⟩=M (S (outs.getD j ByteArray.empty))
theorem out1(w:E)(x:By)(ty:TypeId):Mt (w.alloc (O #[S x] ty)) (H (J (p_ w.heap.size) 1 1)) [x]:=
 ⟨_,_,rfl,λj hj=>by obtain rfl:j=0:=(by simp at hj;omega);simp[go_sem]⟩
theorem out2(w:E)(x y:By)(ty:TypeId):Mt (w.alloc (O #[S x,S y] ty)) (H (J (p_ w.heap.size) 2 2)) [x,y]:=
 ⟨_,_,rfl,λj hj=>by
  rcases(show j=0\/j=1 by simp at hj;omega)with rfl|rfl
  ·simp[go_sem]
  ·simp[go_sem]⟩
variable (t:By) (n:X) (a b:By) (w:E)
theorem plain_1(ha:a.size<=2000)(hb:b.size<=2000)(hn:n<=2000):Calls prog 159 #[G #[I 1,S t,I n],S a,S b] w λe w'=>Bw w w'/\Mt w' e (Dd 1 t n a b):=by
 go_enter func159,ntmps159
 go_wp2
 go_ret
 exact⟨(aN _ _).alloc qi _,by have h:=out1 (w.alloc (O #[I 1,S t,I n] 174)) (t) 9;simpa [Dd] using h⟩
theorem plain_2(ha:a.size<=2000)(hb:b.size<=2000)(hn:n<=2000):Calls prog 159 #[G #[I 2,S t,I n],S a,S b] w λe w'=>Bw w w'/\Mt w' e (Dd 2 t n a b):=by
 have hc:(b++a).size=b.size+a.size:=ByteArray.size_append
 go_enter func159,ntmps159
 go_wp2
 go_ret
 exact⟨(aN _ _).alloc qi _,by have h:=out1 (w.alloc (O #[I 2,S t,I n] 174)) (b++a) 9;simpa [Dd] using h⟩
theorem plain_3(ha:a.size<=2000)(hb:b.size<=2000)(hn:n<=2000):Calls prog 159 #[G #[I 3,S t,I n],S a,S b] w λe w'=>Bw w w'/\Mt w' e (Dd 3 t n a b):=by
 by_cases h:n<a.size
 ·have hI:(n:Int)<(a.size:Int):=qg;have e:min n a.size=n:=qg;have pu:Dd 3 t n a b=[a.extract 0 n]:=by simp only[Dd,e]
  rw[pu];clear e pu;go_enter func159,ntmps159;go_wp2;go_ret;exact⟨(aN _ _).alloc qi _,by have h:=out1 (w.alloc (O #[I 3,S t,I n] 174)) (a.extract 0 n) 9;simpa using h⟩
 ·have hI:¬ (n:Int)<(a.size:Int):=qg;have e:min n a.size=a.size:=qg;have pu:Dd 3 t n a b=[a]:=by simp only[Dd,e,extract_all]
  rw[pu];clear e pu;go_enter func159,ntmps159;go_wp2;go_ret;exact⟨(aN _ _).alloc qi _,by have h:=out1 (w.alloc (O #[I 3,S t,I n] 174)) (a) 9;simpa using h⟩
theorem plain_4(ha:a.size<=2000)(hb:b.size<=2000)(hn:n<=2000):Calls prog 159 #[G #[I 4,S t,I n],S a,S b] w λe w'=>Bw w w'/\Mt w' e (Dd 4 t n a b):=by
 by_cases h:n<a.size
 ·have hI:(n:Int)<(a.size:Int):=qg;have e:min n a.size=n:=qg;have pu:Dd 4 t n a b=[a.extract n a.size]:=by simp only[Dd,e]
  rw[pu];clear e pu;go_enter func159,ntmps159;go_wp2;go_ret;exact⟨(aN _ _).alloc qi _,by have h:=out1 (w.alloc (O #[I 4,S t,I n] 174)) (a.extract n a.size) 9;simpa using h⟩
 ·have hI:¬ (n:Int)<(a.size:Int):=qg;have e:min n a.size=a.size:=qg;have pu:Dd 4 t n a b=[⟨#[]⟩]:=by simp only[Dd,e,extract_none]
  rw[pu];clear e pu;go_enter func159,ntmps159;go_wp2;go_ret;exact⟨(aN _ _).alloc qi _,by have h:=out1 (w.alloc (O #[I 4,S t,I n] 174)) (⟨#[]⟩) 9;simpa using h⟩
theorem plain_5(ha:a.size<=2000)(hb:b.size<=2000)(hn:n<=2000):Calls prog 159 #[G #[I 5,S t,I n],S a,S b] w λe w'=>Bw w w'/\Mt w' e (Dd 5 t n a b):=by
 go_enter func159,ntmps159
 go_wp2_with (go_at_call 174;refine(l2Piece_any a n _ ha hn).mono ?_;rintro e w9 ⟨rfl,rfl⟩)
 go_ret
 exact⟨(aN _ _).alloc qi _,by have h:=out1 (w.alloc (O #[I 5,S t,I n] 174)) (Lb a n) 9;simpa [Dd] using h⟩
theorem plain_6(ha:a.size<=2000)(hb:b.size<=2000)(hn:n<=2000):Calls prog 159 #[G #[I 6,S t,I n],S a,S b] w λe w'=>Bw w w'/\Mt w' e (Dd 6 t n a b):=by
 have hsym:(a.toList == b.toList)=(b.toList == a.toList):=BEq.comm
 obtain⟨f,ef⟩:=Aj (Cz (a.toList == b.toList))
 have EF:=Ab ef
 have pu:Dd 6 t n a b=[f]:=by simp only[Dd,<- hsym,ef]
 rw[pu]
 clear hsym pu ef
 go_enter func159,ntmps159
 go_wp2_with (go_at_call 113;refine(Lx _ _).mono ?_;rintro e w9 ⟨rfl,rfl⟩;rw[EF.o])
 go_ret
 exact⟨(aN _ _).alloc qi _,by have h:=out1 (w.alloc (O #[I 6,S t,I n] 174)) f 9;simpa using h⟩
theorem plain_7(ha:a.size<=2000)(hb:b.size<=2000)(hn:n<=2000):Calls prog 159 #[G #[I 7,S t,I n],S a,S b] w λe w'=>Bw w w'/\Mt w' e (Dd 7 t n a b):=by
 go_enter func159,ntmps159
 go_wp2
 go_ret
 exact⟨(aN _ _).alloc qi _,by have h:=out2 (w.alloc (O #[I 7,S t,I n] 174)) a a 9;simpa [Dd] using h⟩
theorem plain_8(ha:a.size<=2000)(hb:b.size<=2000)(hn:n<=2000):Calls prog 159 #[G #[I 8,S t,I n],S a,S b] w λe w'=>Bw w w'/\Mt w' e (Dd 8 t n a b):=by
 go_enter func159,ntmps159
 go_wp2
 go_ret
 exact⟨(aN _ _).alloc qi _,by have h:=out2 (w.alloc (O #[I 8,S t,I n] 174)) a b 9;simpa [Dd] using h⟩
theorem plain_any(o:X)(ha:a.size<=2000)(hb:b.size<=2000)(hn:n<=2000)(h1:1<=o)(h2:o<=8):Calls prog 159 #[G #[I (o:Int),S t,I n],S a,S b] w λe w'=>Bw w w'/\Mt w' e (Dd o t n a b):=by
 rcases(show o=1\/o=2\/o=3\/o=4\/o=5\/o=6\/o=7\/o=8 from qg)with rfl|rfl|rfl|rfl|rfl|rfl|rfl|rfl
 ·exact plain_1 t n a b w ha hb hn
 ·exact plain_2 t n a b w ha hb hn
 ·exact plain_3 t n a b w ha hb hn
 ·exact plain_4 t n a b w ha hb hn
 ·exact plain_5 t n a b w ha hb hn
 ·exact plain_6 t n a b w ha hb hn
 ·exact plain_7 t n a b w ha hb hn
 ·exact plain_8 t n a b w ha hb hn
end
section
open Go.Deep
theorem Ce{w w':E}{m j:X}(h:w'.heap[m]?=w.heap[m]?):w'.cell? ⟨m,j,N⟩=w.cell? ⟨m,j,N⟩:=by simp only[World.cell?,h]
theorem Cl.kept{B:X}{w w':E}{m:X}{ss:L By}{cd:Z}{pl st lk:Int}(hM:Cl B w m ss cd pl st lk)(hm:w'.heap[m]?=w.heap[m]?)(hk:∀v b,w.cell? ⟨m,0,N⟩=M v->v.ownBlock=M b->w'.heap[b]?=w.heap[b]?):Cl B w' m ss cd pl st lk:=by
 obtain⟨hB,v,h1,h2⟩:=hM
 have c0:w.cell? ⟨m,0,N⟩=M v:=by
  unfold Hp at h1;rw[cH h1];rfl
 exact⟨hB,v,by unfold Hp at *;rw[hm];exact h1,An h2 (λb q=>hk v b c0 q)⟩
theorem Gn.kept{is:L I3}{ys:L R3}{B m T:X}{cd:Z}{ov:Bool}{c:Int}{t:By}{ask:Bool}{nm:By}{st:Int}{w w':E}(h:Gn is ys B m T cd ov c t ask nm st w)(hT:w'.heap[T]?=w.heap[T]?)(hm:w'.heap[m]?=w.heap[m]?)(hs:w.heap.size<=w'.heap.size)(hk:∀v b,w.cell? ⟨m,0,N⟩=M v->v.ownBlock=M b->w'.heap[b]?=w.heap[b]?):Gn is ys B m T cd ov c t ask nm st w':=
 ⟨by rw[hT];exact h.1,h.2.1,h.2.2.1,Nat.lt_of_lt_of_le h.2.2.2.1 hs,h.2.2.2.2.mono (λ_ _ _ _ k=>k.kept hm hk)⟩
theorem Gn.mach{is:L I3}{ys:L R3}{B m T:X}{cd:Z}{c:Int}{t:By}{ask:Bool}{nm:By}{st:Int}{w:E}(h:Gn is ys B m T cd false c t ask nm st w):B<=m/\∃v cs,w.heap[m]?=M (O cs 251 (0,0))/\w.cell? ⟨m,0,N⟩=M v/\∀b,v.ownBlock=M b->B<=b/\b<w.heap.size/\∃cur,w.heap[b]?=M (O cur 9 (0,0)):=by
 rcases h.2.2.2.2 with⟨q,_⟩|⟨_,_,_,s1,s',_,_,_,_,_,hB,v,h1,h2⟩
 ·cases q
 ·unfold Hp at h1;refine⟨hB,v,_,h1,by rw[cH h1];rfl,λb hb=>?_⟩;obtain⟨k1,cur,k2⟩:=Dh h2 hb;exact⟨k1,(h2.lt b hb).2,cur,k2⟩
section
variable {W0:E} {h mb:X} {sv tv fv cd:Z} {ss:L S2} {ts:L T2} {is:L I3} {w:E} {ms:Ms} {st:L By} {av kv:Z} {vs:By->Z} {Bm m T AM R:X}
 {ys:L R3} {ls:L G3} {m1:Ms} {av1 kv1:Z} {vs1:By->Z} {lv:Z} {ov:Bool} {c:Int} {t:By} {ask:Bool} {nm:By} {stp:Int} {wr:E}
end
end
section
open Go.Deep
theorem Sq(c:Int)(t:By)(w:E)(h0:0<=c)(h5:c<=5)(ht:t.size<=2000):Calls prog 151 #[G #[I c,S t,nS]] w λe w'=>e=H (S (Bp c t))/\Bw w w':=by
 obtain⟨m,rfl⟩:=Int.eq_ofNat_of_zero_le h0
 exact Qu m t N 0 w qg ht
theorem Qg{w:E}{b j:X}{cs cs':Array Z}{T:TypeId}{u:Z}(h:w.heap[b]?=M (O cs T (0,0)))(hc:cs.setIfInBounds j u=cs'):(w.setCell ⟨b,j,N⟩ u).heap[b]?=M (O cs' T (0,0)):=by
 rw[jB h,hc]
end
end Go.Proofs.YtnflkpmmfpfhlaaGreatDoor
