import Derived.Test.YtbkkjodaaijimaaGreatDoorTClB
namespace Go.Proofs.YtbkkjodaaijimaaGreatDoor
open _root_.Go.Proofs.Tryz Go.RowKit
open Value renaming slice->J,string->S,bool->F,agg->G,pointer->D
open Option renaming some->M,none->N
open Obj renaming cells->O
open Go renaming Value->Z,World->E
open Ending renaming returned->H
open _root_ renaming List->L,Nat->X
set_option linter.unusedVariables false
set_option maxHeartbeats 8000000
set_option maxRecDepth 100000
set_option linter.unusedSimpArgs false
variable {w w' w1 w2:E} {B b b' m n h j e sz:X} {ls:L G3} {v1 v2 av kv:Z} {T:TypeId} {f:By->Option Z} {cs:Array Z} {k:By} {xs:L Z}
def Ek(w:E)(B:X)(v:Z)(ls:L G3):Prop:=∃xs,w.ownsRow B 199 3 v ls.length xs/\Bk ls ls.length xs
theorem Ek.same{v:Z}(h:Ek w B v ls)(hk:∀(b:X)(cs:Array Z),w.heap[b]?=M (Obj.cells cs 199 (0,0))->w'.heap[b]?=M (Obj.cells cs 199 (0,0))):Ek w' B v ls:=by
 obtain⟨xs,h1,h2⟩:=h
 refine⟨xs,⟨h1.1,?_⟩,h2⟩
 rcases h1.2 with k|⟨g,cap,cur,e,hg,hh,r⟩
 ·exact Or.inl k
 ·exact Or.inr ⟨g,cap,cur,e,hg,hk _ _ hh,r⟩
theorem Ek.bl{v:Z}(h:Ek w B v ls)(hb:Bw w w'):Ek w' B v ls:=h.same λb cs k=>by rw[hb.block b (Ag k)];exact k
theorem Er(h:b'≠b)(v0 v1 v2 v3 v4 v5:Z):((((((w.setCell ⟨b,0,N⟩ v0).setCell ⟨b,1,N⟩ v1).setCell ⟨b,2,N⟩ v2).setCell ⟨b,3,N⟩ v3).setCell ⟨b,4,N⟩ v4).setCell ⟨b,5,N⟩ v5).heap[b']?=w.heap[b']?:=by
 rw[hC _ ⟨b,5,N⟩ _ b' h,hC _ ⟨b,4,N⟩ _ b' h,hC _ ⟨b,3,N⟩ _ b' h,hC _ ⟨b,2,N⟩ _ b' h,hC _ ⟨b,1,N⟩ _ b' h,hC _ ⟨b,0,N⟩ _ b' h]
theorem Gk(hb:Below B w w')(h:B<=b)(v0 v1 v2 v3 v4 v5:Z):Below B w ((((((w'.setCell ⟨b,0,N⟩ v0).setCell ⟨b,1,N⟩ v1).setCell ⟨b,2,N⟩ v2).setCell ⟨b,3,N⟩ v3).setCell ⟨b,4,N⟩ v4).setCell ⟨b,5,N⟩ v5):=
 (((((hb.setCell (p:=⟨b,0,N⟩) h _).setCell (p:=⟨b,1,N⟩) h _).setCell (p:=⟨b,2,N⟩) h _).setCell (p:=⟨b,3,N⟩) h _).setCell (p:=⟨b,4,N⟩) h _).setCell (p:=⟨b,5,N⟩) h _
theorem Ft{v0 v3 v4 v5:Z}(h:w.heap[b]?=M (O #[v0,v1,v2,v3,v4,v5] 192 (0,0))):w.cell? ⟨b,0,N⟩=M v0/\w.cell? ⟨b,1,N⟩=M v1/\w.cell? ⟨b,2,N⟩=M v2/\w.cell? ⟨b,3,N⟩=M v3/\w.cell? ⟨b,4,N⟩=M v4/\w.cell? ⟨b,5,N⟩=M v5/\∀j,w.frozen? ⟨b,j,N⟩=false:=by
 refine⟨?_,?_,?_,?_,?_,?_,λj=>fH h j⟩<;>rw[cH h]<;>rfl
theorem Lj.two(h:Lj w):2<w.heap.size:=by
 unfold Lj Lib.TabIs World.var? at h
 rw[show prog.globalNamed "internal/strconv.uint64pow10"=M 2 from qi]at h
 simp only[Option.bind_some]at h
 rcases Nat.lt_or_ge 2 w.heap.size with h'|h'
 ·exact h'
 ·rw[Array.getElem?_eq_none h']at h;cases h
def Gn(is:L I3)(ys:L R3)(B m T:X)(cd:Z)(ov:Bool)(c:Int)(t:By)(ask:Bool)(nm:By)(st:Int)(w:E):Prop:=
 w.heap[T]?=M (O #[F ov,I c,S t,F ask,S nm,I st] 192 (0,0))/\T≠m/\B<=T/\m<w.heap.size/\VAt is ys B m cd ov c t ask nm st w
theorem Gn.bl{is:L I3}{ys:L R3}{T:X}{cd:Z}{ov:Bool}{c:Int}{t:By}{ask:Bool}{nm:By}{st:Int}(h:Gn is ys B m T cd ov c t ask nm st w)(hb:Bw w w'):Gn is ys B m T cd ov c t ask nm st w':=
 ⟨by rw[hb.block _ (Ag h.1)];exact h.1,h.2.1,h.2.2.1,Nat.lt_of_lt_of_le h.2.2.2.1 hb.size,h.2.2.2.2.mono (λ_ _ _ _ k=>k.bl hb)⟩
theorem begin_any(a:Option Addr)(cap:X)(is:L I3)(w:E)(hT:Kd w)(hP:Lj w)(hc:Bu w a is)(hv:Au is=true):Calls prog 164 #[G #[J a is.length cap]] w λe w'=>Bw w w'/\∃B m T ov c t ask nm st,w.heap.size<=B/\B<=w'.heap.size/\e=H (.tuple #[Bb ov c t ask nm st,.func (.func 176) #[] #[D (p_ m),D (p_ T)]])/\Gn is [] B m T (J a is.length cap) ov c t ask nm st w':=by
 have hP2:=hP.two
 obtain⟨W,eW⟩:=Aj (((w.alloc (O #[J a is.length cap] 91)).alloc (O #[F false,I 0,ze,F false,ze,I 0] 192)))
 have ak:Bw w W:=by rw[<- eW];exact(aN _ _).alloc qg _
 have vg:W.heap.size=w.heap.size+1+1:=qcw
 have x0:W.cell? ⟨w.heap.size,0,N⟩=M (J a is.length cap):=qal
 have HR:Hd (W.heap[w.heap.size+1]?=M (O #[F false,I 0,ze,F false,ze,I 0] 192 (0,0))):=by
  show W.heap[w.heap.size+1]?=_;rw[<- eW];exact qih
 have zx:Bw W (W.alloc (O #[nS,J a is.length cap,I 0,I 0,I 0] 263)):=aN _ _
 have HMK:Hd (Bx W.heap.size (W.alloc (O #[nS,J a is.length cap,I 0,I 0,I 0] 263)) W.heap.size Lz.stack (J a is.length cap) Lz.pl Lz.steps Lz.looks):=⟨Nat.le_refl _,nS,Bf _ _,⟨by simp[Lz,Aq],Or.inl ⟨rfl,rfl⟩⟩⟩
 have HCB:Hd (Kc W.heap.size W a is):=⟨hc.bl ak,λb off e=>by
  have:=(Dh hv).1;obtain⟨b',bp,e',c1,_,_⟩:=hc.bl ak 0 qb;rw[e]at e';cases e';exact World.block_lt_of_cell? _ _ c1⟩
 have HT2:Hd (Kd W):=hT.bl ak
 have pg:Hd (Lj W):=hP.bl ak
 have HBM:Hd (Bw W (W.alloc (O #[nS,J a is.length cap,I 0,I 0,I 0] 263))):=zx
 have HV:Hd (Au is=true):=hv
 have E4:Hd (Bw w W):=ak
 have HWS:Hd (W.heap.size=w.heap.size+1+1):=vg
 clear hT hP hc hv zx ak vg
 go_enter func164,ntmps164
 go_wp2_with fail
 clear eW
 refine(Yg W.heap.size W.heap.size is a cap Lz _ HMK.o qg (zo HWS.o) (HCB.o.belowB HBM.o) (HT2.o.bl HBM.o) (pg.o.bl HBM.o) HV.o (Tj is)).mono ?_
 rintro e w3 ⟨ia,ge⟩
 obtain⟨ov,c,t,ask,nm,st,rfl,pw⟩:=run_vat HV.o ge
 have hz3:W.heap.size+1<=w3.heap.size:=by have:=ia.size;simpa using this
 have d7:Hd (Bw W w3):=HBM.o.trans ia.bl
 have HAT:Hd (VAt is [] W.heap.size W.heap.size (J a is.length cap) ov c t ask nm st (w3.alloc (O #[F ov,I c,S t,F ask,S nm,I st] 192))):=pw.mono (λ_ _ _ _ k=>k.alloc _)
 have li:Hd ((w3.alloc (O #[F ov,I c,S t,F ask,S nm,I st] 192)).heap[w.heap.size+1]?=M (O #[F false,I 0,ze,F false,ze,I 0] 192 (0,0))):=by
  show(w3.alloc (O #[F ov,I c,S t,F ask,S nm,I st] 192)).heap[w.heap.size+1]?=_;have:=HWS.o;rw[Lib.alloc_old w3 _ _ qb,d7.o.block _ qb];exact HR.o
 have HTN:Hd ((w3.alloc (O #[F ov,I c,S t,F ask,S nm,I st] 192)).heap[w3.heap.size]?=M (O #[F ov,I c,S t,F ask,S nm,I st] 192 (0,0))):=Bf _ _
 have wh:Hd (Bw W (w3.alloc (O #[F ov,I c,S t,F ask,S nm,I st] 192))):=d7.o.alloc qb _
 obtain⟨z0,z1,z2,z3,z4,z5,zf⟩:=Ft li.o
 clear pw ge ia x0 HR
 unfold Bb
 go_wp2_with fail
 obtain⟨n1,n2⟩:=Xz rfl li.o (F ov) (I c) (S t) (F ask) (S nm) (I st)
 obtain⟨y0,y1,y2,y3,y4,y5,yf⟩:=Ft n1
 refine bR (v:=.tuple #[Bb ov c t ask nm st,.func (.func 176) #[] #[D (p_ W.heap.size),D (p_ w3.heap.size)]]) (by simp[results,results164,go_sem,Bb,z0,z1,z2,z3,z4,z5]) rfl ⟨Gk (E4.o.trans (wh.o.mono (zo HWS.o))) qb _ _ _ _ _ _,W.heap.size,W.heap.size,w3.heap.size,ov,c,t,ask,nm,st,by have:=HWS.o;omega,qh,rfl,?_,qb,qb,qh,?_⟩
 ·rw[Er (zo HWS.o)];exact HTN.o
 ·exact HAT.o.mono (λss pl nh lk k=>n2 _ _ _ _ _ _ _ k)
theorem Fe.congr(h:w'.heap[m]?=w.heap[m]?)(k:Fe w m b):Fe w' m b:=λv hv=>k v (by
 have e:w'.cell? ⟨m,0,N⟩=w.cell? ⟨m,0,N⟩:=by simp only[World.cell?,h]
 rw[<- e];exact hv)
theorem goOn_any(B m T:X)(is:L I3)(a:Option Addr)(cap:X)(ys:L R3)(ask:Bool)(nm:By)(st:Int)(y y':R3)(w:E)(hG:Gn is ys B m T (J a is.length cap) false 0 ⟨#[]⟩ ask nm st w)(hB:B<=w.heap.size)(bh:2<B)(dj:Kc B w a is)(hT:Kd w)(hP:Lj w)(hv:Au is=true)(hy:y.text.size<=2000)(hyy:∀nm s,Et ask nm y s=Et ask nm y' s):Calls prog 176 #[G #[F y.has,I y.code,S y.text],D (p_ m),D (p_ T)] w λe w'=>(Below B w w'/\∀b cs AM,AM≠9->b≠m->b≠T->w.heap[b]?=M (O cs AM (0,0))->w'.heap[b]?=M (O cs AM (0,0)))/\(∀b cs AM,b≠m->b≠T->Fe w m b->w.heap[b]?=M (O cs AM (0,0))->w'.heap[b]?=M (O cs AM (0,0))/\Fe w' m b)/\∃ov c t it nm' nh,e=H (Bb ov c t it nm' nh)/\Gn is (ys++[y']) B m T (J a is.length cap) ov c t it nm' nh w':=by
 obtain⟨hTb,hTm,hBT,pn,hV⟩:=hG
 rcases hV with⟨h0,_⟩|⟨_,_,_,s1,s',rfl,g1,g2,g3,g4,g5⟩
 ·cases h0
 obtain⟨q1,q2,q3,q4,q5,q6,q7,q8⟩:=Hs g1
 have ur:s'.stack.length<50:=by rw[q7,Bj];have:=g3.len;omega
 have hTl:=Ag hTb
 obtain⟨W,eW⟩:=Aj (((w.alloc (O #[F y.has,I y.code,S y.text] 196)).alloc (O #[F false,I 0,ze,F false,ze,I 0] 192)))
 have ak:Bw w W:=by rw[<- eW];exact(aN _ _).alloc qg _
 have vg:W.heap.size=w.heap.size+1+1:=qcw
 have x0:W.cell? ⟨w.heap.size,0,N⟩=M (F y.has):=qal
 have x1:W.cell? ⟨w.heap.size,1,N⟩=M (I y.code):=qal
 have x2:W.cell? ⟨w.heap.size,2,N⟩=M (S y.text):=qal
 have HR:Hd (W.heap[w.heap.size+1]?=M (O #[F false,I 0,ze,F false,ze,I 0] 192 (0,0))):=by
  show W.heap[w.heap.size+1]?=_;rw[<- eW];have h:=Bf (w.alloc (O #[F y.has,I y.code,S y.text] 196)) (O #[F false,I 0,ze,F false,ze,I 0] 192);rw[show(w.alloc (O #[F y.has,I y.code,S y.text] 196)).heap.size=w.heap.size+1 from qg]at h;exact h
 have HTW:Hd (W.heap[T]?=M (O #[F false,I 0,ze,F ask,S nm,I s'.steps] 192 (0,0))):=by
  show W.heap[T]?=_;rw[ak.block _ hTl];exact hTb
 have wg:Hd (KB B m w W):=KB.old ak hB
 have HAn:Hd (∀_:Unit,Calls prog 177 #[D (p_ m),Bb false 0 ⟨#[]⟩ ask nm s'.steps,G #[F y.has,I y.code,S y.text]] W λe w'=>AnsPost is ask nm y s' B m (J a is.length cap) W e w'):=λ_=>
  answer_any B m is a cap ask nm y s' W (g5.bl ak) qb bh (dj.belowB (ak.mono hB)) (hT.bl ak) (hP.bl ak) hv g4 qb ur hy
 have HG:Hd (Cb is s1=.look ask nm s'/\RQ is ys s1/\Ec is s1/\Ec is s'/\Et ask nm y s'=Et ask nm y' s'):=⟨g1,g2,g3,g4,hyy nm s'⟩
 have HV:Hd (Au is=true):=hv
 have HWS:Hd (W.heap.size=w.heap.size+1+1):=vg
 have HML0:Hd (m<w.heap.size):=pn
 have pj:Hd (B<=T/\T≠m/\T<w.heap.size/\B<=w.heap.size):=⟨hBT,hTm,hTl,hB⟩
 obtain⟨k0,k1,k2,k3,k4,k5,kf⟩:=Ft HTW.o
 obtain⟨_,_,_,_,_,_,_,_,sj,_,_⟩:=g5.all
 clear g1 g2 g3 g4 g5 dj hT hP hv ak hTb q1 q2 q3 q4 q5 q6 q7 q8 ur vg
 unfold Bb at HAn
 go_enter func176,ntmps176
 go_wp2_with fail
 clear eW
 refine(HAn.o ()).mono ?_
 rintro e w4 ⟨re,ge⟩
 obtain⟨S6,c',t',it,nm',nh,rfl,hnext⟩:=ans_vat HV.o HG.o.1 HG.o.2.1 hy HG.o.2.2.2.2 HG.o.2.2.1 HG.o.2.2.2.1 ge
 have hT4:w4.heap[T]?=M (O #[F false,I 0,ze,F ask,S nm,I s'.steps] 192 (0,0)):=re.keep _ _ 192 qd pj.o.2.1 HTW.o
 have hR4:w4.heap[w.heap.size+1]?=M (O #[F false,I 0,ze,F false,ze,I 0] 192 (0,0)):=re.keep _ _ 192 qd qb HR.o
 obtain⟨n1,n2⟩:=Xz rfl hT4 (F S6) (I c') (S t') (F it) (S nm') (I nh)
 have hTR:T≠w.heap.size+1:=zo pj.o.2.2.1
 have hTR':w.heap.size+1≠T:=λe=>hTR e.symm
 have hR5:=(Er (w:=w4) (b:=T) (b':=w.heap.size+1) (λe=>hTR e.symm) (F S6) (I c') (S t') (F it) (S nm') (I nh)).trans hR4
 obtain⟨r1,r2⟩:=Xz rfl hR5 (F S6) (I c') (S t') (F it) (S nm') (I nh)
 have HKB2:Hd (KB B m w w4):=wg.o.trans re
 have HML:Hd (m<((((((((((((w4.setCell ⟨T,0,N⟩ (F S6)).setCell ⟨T,1,N⟩ (I c')).setCell ⟨T,2,N⟩ (S t')).setCell ⟨T,3,N⟩ (F it)).setCell ⟨T,4,N⟩ (S nm')).setCell ⟨T,5,N⟩ (I nh)).setCell ⟨w.heap.size+1,0,N⟩ (F S6)).setCell ⟨w.heap.size+1,1,N⟩ (I c')).setCell ⟨w.heap.size+1,2,N⟩ (S t')).setCell ⟨w.heap.size+1,3,N⟩ (F it)).setCell ⟨w.heap.size+1,4,N⟩ (S nm')).setCell ⟨w.heap.size+1,5,N⟩ (I nh)).heap.size):=Nat.lt_of_lt_of_le sj (Gk (Gk HKB2.o.bl pj.o.1 _ _ _ _ _ _) (b:=w.heap.size+1) (zo pj.o.2.2.2) _ _ _ _ _ _).size
 have od:Hd (VAt is (ys++[y']) B m (J a is.length cap) S6 c' t' it nm' nh w4):=hnext
 obtain⟨j0,j1,j2,j3,j4,j5,jf⟩:=Ft hT4
 obtain⟨z0,z1,z2,z3,z4,z5,zf⟩:=Ft hR4
 have B3:Hd _:=n1
 have R4:Hd _:=n2
 have mx:Hd _:=r2
 clear k0 k1 k2 k3 k4 k5 kf re ge hnext HAn n1 n2 r1 r2 hR5 x0 x1 x2
 unfold Bb
 go_wp2_with fail
 refine bR (v:=Bb S6 c' t' it nm' nh) (by simp[results,results176,go_sem,Bb,z0,z1,z2,z3,z4,z5]) rfl ⟨⟨Gk (Gk HKB2.o.bl pj.o.1 _ _ _ _ _ _) (zo pj.o.2.2.2) _ _ _ _ _ _,?_⟩,?_,S6,c',t',it,nm',nh,rfl,?_,pj.o.2.1,pj.o.1,HML.o,?_⟩
 ·intro b cs AM hX zx hbT hb;have bi:=Ag hb;rw[Er qb,Er hbT];exact HKB2.o.keep b cs AM hX zx hb
 ·intro b cs AM zx hbT gg hb;have bi:=Ag hb;have hml':=HML0.o;obtain⟨q1,q2⟩:=HKB2.o.own hml' b cs AM zx gg hb;refine⟨?_,Fe.congr ?_ q2⟩
  ·rw[Er qb,Er hbT];exact q1
  ·rw[Er qb,Er (λe=>pj.o.2.1 e.symm)]
 ·rw[Er hTR];exact B3.o
 ·exact od.o.mono (λss pl nh lk k=>mx.o _ _ _ _ _ _ _ (R4.o _ _ _ _ _ _ _ k))
def kS(k:ByteArray):Lit:=.string k.data.toList
theorem kS_inj{a b:By}(h:kS a=kS b):a=b:=by
 unfold kS at h
 injection h with h
 apply ByteArray.ext
 exact Array.ext' h
theorem kS_key(k:By):WideAt.IsKeyLit (kS k):=by unfold kS;trivial
def Jb(w:E)(b n:X)(f:By->Option Z):Prop:=
 ∃AJ:DataW Z,w.ownsMap prog 9 (λv=>M (.held v,[])) b n AJ/\∀k:By,Maps.has AJ (kS k)=(f k).isSome/\∀v,f k=M v->∀z,AJ.atKey (kS k) z=.held v
theorem Jb.made(w:E):Jb (w.alloc (.map #[] 0)) w.heap.size 0 (λ_=>N):=⟨_,World.ownsMap_made w _ _ _,λk=>⟨rfl,λv h=>by cases h⟩⟩
theorem Jb.same(h:Jb w b n f)(he:w'.heap[b]?=w.heap[b]?):Jb w' b n f:=by
 exact qmg
theorem Jb.lt(h:Jb w b n f):b<w.heap.size:=by obtain⟨AJ,h1,_⟩:=h;exact h1.lt
theorem Jb.notCells(h:Jb w b n f){fr:X×X}(hc:w.heap[b]?=M (O cs T fr)):False:=by
 obtain⟨AJ,⟨es,cl,h1,_⟩,_⟩:=h
 rw[hc]at h1;cases h1
def Hr:Z:=G #[F false,I 0,ze,nS,ze,nS]
theorem zero59(w:E):(zeroValue 213).run prog w=.ok Hr w:=qi
theorem key_of(k:By)(h:k.size<=maxLen):keyOf prog 9 (S k)=M (kS k):=Go.WideMaps.keyOf_string_mk underlying9 h
theorem Jb.look(h:Jb w b n f)(hk:k.size<=maxLen):(Instr.lookup 209 (.map (M b)) (.string k) true).run prog w=.ok (.tuple #[(f k).getD Hr,.bool (f k).isSome]) w:=by
 obtain⟨AJ,h1,h2⟩:=h
 obtain⟨v,ps,h3,h4⟩:=h1.look_ok (Maps.string_keyed underlying9) underlying209 (zero59 w) (zd:=.held Hr) (zp:=[]) rfl (key_of k hk)
 have h5:(DataW.held v:DataW Z)=AJ.atKey (kS k) (.held Hr):=by
  simp only[Option.some.injEq,Prod.mk.injEq]at h4;exact h4.1
 have h6:v=(f k).getD Hr:=by
  cases hf:f k with
  | none=>
   have h7:=(h2 k).1;rw[hf]at h7;rw[Maps.atKey_of_not_has h7]at h5;exact DataW.held.inj h5
  | some u=>
   rw[(h2 k).2 u hf]at h5;exact DataW.held.inj h5
 rw[h3,(h2 k).1,h6]
open Classical in
theorem Jb.store(h:Jb w b n f)(hk:k.size<=maxLen)(hn:n<maxLen)(v:Z):∃w',(Instr.mapUpdate 209 (.map (M b)) (S k) v).run prog w=.ok () w'/\Jb w' b (n+1) (λx=>if x=k then M v else f x)/\w.grownBy w' (M b):=by
 obtain⟨AJ,h1,h2⟩:=h
 obtain⟨w',h3,h4,h5⟩:=h1.update (Maps.string_keyed underlying9) underlying209 hn (key_of k hk) (val:=v) (d:=.held v) (ps:=[]) rfl
 refine⟨w',h3,⟨_,h4,λx=>?_⟩,h5⟩
 by_cases hx:x=k
 ·subst hx;simp only[if_true];exact⟨Maps.has_put_same h1.isMap (kS_key _) _,λv' e z=>by cases e;exact Maps.atKey_put_same h1.isMap (kS_key _) _ _⟩
 ·simp only[if_neg hx];have hne:kS x≠kS k:=λe=>hx (kS_inj e);exact⟨by rw[Maps.has_put_other hne];exact(h2 x).1,λv' e z=>by rw[Maps.atKey_put_other hne];exact(h2 x).2 v' e z⟩
theorem Jb.congr{g:By->Option Z}(h:Jb w b n f)(e:∀k,f k=g k):Jb w b n g:=by
 obtain rfl:f=g:=funext e
 exact h
def Fh(d:Md)(v:Z):Z:=G #[F true,I d.c,S d.t,nS,S (Bi d.c d.t),v]
structure KP (B h mb:X) (av kv:Z) (w w':E):Prop where
 bl:Below B w w'
 keep:∀b,b<w.heap.size->b≠h->b≠mb->av.ownBlock≠M b->kv.ownBlock≠M b->w'.heap[b]?=w.heap[b]?
def An(w:E)(v v':Z):Prop:=∀b,v'.ownBlock=M b->v.ownBlock=M b\/w.heap.size<=b
theorem An.refl(w:E)(v:Z):An w v v:=λb h=>Or.inl h
theorem An.trans{v:Z}(h:An w v v1)(hs:w.heap.size<=w1.heap.size)(k:An w1 v1 v2):An w v v2:=λb hb=>by
 rcases k b hb with q|q
 ·exact h b q
 ·exact Or.inr qb
theorem KP.old{mb:X}(hb:Bw w w')(hB:B<=w.heap.size):KP B h mb av kv w w':=⟨hb.mono hB,λb h1 _ _ _ _=>hb.block b h1⟩
theorem KP.trans{mb:X}{av1 kv1:Z}(k:KP B h mb av kv w w1)(ha:An w av av1)(hk:An w kv kv1)(l:KP B h mb av1 kv1 w1 w2):KP B h mb av kv w w2:=⟨k.bl.trans l.bl,λb h1 h2 h3 h4 h5=>by
 have hs:=k.bl.size
 rw[l.keep b qb h2 h3 (λe=>by rcases ha b e with q|q;exact h4 q;omega) (λe=>by rcases hk b e with q|q;exact h5 q;omega)]
 exact k.keep b h1 h2 h3 h4 h5⟩
theorem KP.after{mb:X}(k:KP B h mb av kv w w1)(hb:Bw w1 w2)(hB:B<=w1.heap.size):KP B h mb av kv w w2:=k.trans (An.refl _ _) (An.refl _ _) (KP.old hb hB)
theorem KP.setN{mb:X}{v:Z}(k:KP B h mb av kv w w')(hB:B<=b')(hn:w.heap.size<=b'):KP B h mb av kv w (w'.setCell ⟨b',j,N⟩ v):=⟨k.bl.setCell (p:=⟨b',j,N⟩) hB _,λb h1 h2 h3 h4 h5=>by rw[hC w' ⟨b',j,N⟩ _ b qh];exact k.keep b h1 h2 h3 h4 h5⟩
theorem KP.setH{mb:X}{v:Z}(k:KP B h mb av kv w w')(hB:B<=h):KP B h mb av kv w (w'.setCell ⟨h,j,N⟩ v):=⟨k.bl.setCell (p:=⟨h,j,N⟩) hB _,λb h1 h2 h3 h4 h5=>by rw[hC w' ⟨h,j,N⟩ _ b (by simpa using h2)];exact k.keep b h1 h2 h3 h4 h5⟩
theorem KP.mapped{mb:X}(k:KP B h mb av kv w w1)(hB:B<=mb)(hg:w1.grownBy w2 (M mb))(fy:B<=w1.heap.size):KP B h mb av kv w w2:=⟨k.bl.grown hg fy (λb e=>by injection e with e;omega),λb h1 h2 h3 h4 h5=>by
 have hs:=k.bl.size
 rw[hg.block b qb (λe=>h3 qas)]
 exact k.keep b h1 h2 h3 h4 h5⟩
theorem Dr{v:Z}(ho:w.ownsRow B e sz v n xs)(hb:v.ownBlock=M b):B<=b/\∃cur,w.heap[b]?=M (O cur e (0,0)):=by
 rcases ho.2 with⟨rfl,_⟩|⟨g,cap,cur,rfl,hg,hh,_⟩
 ·simp[Value.ownBlock]at hb
 ·simp[Value.ownBlock]at hb;subst hb;exact⟨hg,cur,hh⟩
theorem Ae{v:Z}(ho:w.ownsRow B e sz v n xs)(hT:T≠e)(hb:w.heap[b]?=M (O cs T (0,0))):v.ownBlock≠M b:=λq=>by
 obtain⟨_,cur,hh⟩:=Dr ho q
 rw[hb]at hh
 injection hh with hh
 injection hh with _ h5
 exact hT h5
theorem Jq{v:Z}(ho:w.ownsRow B e sz v n xs)(hm:Jb w b m f):v.ownBlock≠M b:=λq=>by
 obtain⟨_,cur,hh⟩:=Dr ho q
 exact hm.notCells hh
theorem Al{v:Z}(ho:w.ownsRow B e sz v n xs)(hk:∀b,v.ownBlock=M b->w'.heap[b]?=w.heap[b]?):w'.ownsRow B e sz v n xs:=by
 refine⟨ho.1,?_⟩
 rcases ho.2 with k|⟨g,cap,cur,rfl,hg,hh,r⟩
 ·exact Or.inl k
 ·exact Or.inr ⟨g,cap,cur,rfl,hg,by rw[hk g (by simp[Value.ownBlock])];exact hh,r⟩
theorem Ek.keptB{v:Z}(h:Ek w B v ls)(hk:∀b,v.ownBlock=M b->w'.heap[b]?=w.heap[b]?):Ek w' B v ls:=by
 obtain⟨xs,h1,h2⟩:=h
 exact⟨xs,Al h1 hk,h2⟩
def Lb(v:Z):Ending:=.panicked [{ v:=.iface 231 v,recovered:=false }]
def Sn(n:X):By:=⟨#[UInt8.ofNat (48+n)]⟩
theorem Xc(n:X):(Sn n).size=1:=rfl
theorem itoa_in(n:X)(hn:n<=5)(w:E):Calls prog 181 #[I n] w λe w'=>e=H (S (Sn n))/\w=w':=by
 rcases(show n=0\/n=1\/n=2\/n=3\/n=4\/n=5 from qb)with rfl|rfl|rfl|rfl|rfl|rfl
 all_goals
  go_enter func181,ntmps181;exact qaf
theorem l2Dec_in(n:X)(hn:n<=5)(w:E):Calls prog 136 #[I n] w λe w'=>e=H (S (Sn n))/\Bw w w':=by
 have hu:=Uh n qb
 unfold Sn
 generalize UInt8.ofNat (48+n)=u at *
 have hcv:=Ui (w.alloc (O #[.int .u8 (48+n)] 5)) w.heap.size (48+n) u hu qk
 clear hu
 exact qlg
theorem Ba{a b:E}(h:Bw w a)(k:Bw a b):Bw w b:=h.trans (k.mono h.size)
theorem Pc(m:X)(t:By)(a:Option Addr)(cap:X)(w:E)(hm:m<=5)(ht:t.size<=2000):Calls prog 114 #[G #[I m,S t,J a 0 cap]] w λe w'=>e=H (S (Sn m++(⟨#[58]⟩:By)++t))/\Bw w w':=by
 have hd:(Sn m).size<=1:=Nat.le_of_eq (Xc m)
 have HC:Hd (∀W:E,Calls prog 136 #[I m] W λe w'=>e=H (S (Sn m))/\Bw W w'):=λW=>l2Dec_in m hm W
 generalize Sn m=d at *
 have HD:Hd (∀W:E,W.cell? ⟨w.heap.size,1,N⟩=M (S t)->Calls prog 136 #[I m] W λe w'=>e=H (S d)/\Bw W w'/\w'.cell? ⟨w.heap.size,1,N⟩=M (S t)):=λW hW=>(HC.o W).mono λe w' ⟨he,hb⟩=>⟨he,hb,Aa hb hW⟩
 have hx0:(w.alloc (O #[I m,S t,J a 0 cap] 120)).cell? ⟨w.heap.size,0,N⟩=M (I m):=qk
 have hx1:(w.alloc (O #[I m,S t,J a 0 cap] 120)).cell? ⟨w.heap.size,1,N⟩=M (S t):=qk
 go_enter func114,ntmps114
 go_wp2
 go_region_with (first|(go_at_call 136;refine(HD.o _ ?_).mono ?_;(focus(simp[go_sem];done));rintro e w1 ⟨rfl,af,hcc⟩))
 all_goals
  go_wp2;go_ret;exact⟨rfl,((aN _ _).drew.trans (af.mono qg))⟩
theorem Pr(m:X)(t:By)(a:Option Addr)(cap:X)(w:E)(hm:m<=5)(ht:t.size<=2000):Calls prog 167 #[G #[I m,S t,J a 0 cap]] w λe w'=>e=H (S (Sn m++(⟨#[58]⟩:By)++t))/\Bw w w':=by
 have hd:(Sn m).size<=1:=Nat.le_of_eq (Xc m)
 have HC:Hd (∀W:E,Calls prog 181 #[I m] W λe w'=>e=H (S (Sn m))/\W=w'):=λW=>itoa_in m hm W
 generalize Sn m=d at *
 have hx0:(w.alloc (O #[I m,S t,J a 0 cap] 120)).cell? ⟨w.heap.size,0,N⟩=M (I m):=qk
 have hx1:(w.alloc (O #[I m,S t,J a 0 cap] 120)).cell? ⟨w.heap.size,1,N⟩=M (S t):=qk
 go_enter func167,ntmps167
 go_wp2
 go_region_with (first|(go_at_call 181;refine(HC.o _).mono ?_;rintro e w1 ⟨rfl,rfl⟩))
 all_goals
  go_wp2;go_ret;exact⟨rfl,(aN _ _).drew⟩
section
open Go.Deep
theorem Rh(c:Int)(t:By)(w:E)(h0:0<=c)(h5:c<=5)(ht:t.size<=2000):Calls prog 167 #[G #[I c,S t,nS]] w λe w'=>e=H (S (Bi c t))/\Bw w w':=by
 obtain⟨m,rfl⟩:=Int.eq_ofNat_of_zero_le h0
 exact Pr m t N 0 w qb ht
theorem Pe{w:E}{b j:X}{cs cs':Array Z}{T:TypeId}{u:Z}(h:w.heap[b]?=M (O cs T (0,0)))(hc:cs.setIfInBounds j u=cs'):(w.setCell ⟨b,j,N⟩ u).heap[b]?=M (O cs' T (0,0)):=by
 rw[jB h,hc]
end
end Go.Proofs.YtbkkjodaaijimaaGreatDoor
