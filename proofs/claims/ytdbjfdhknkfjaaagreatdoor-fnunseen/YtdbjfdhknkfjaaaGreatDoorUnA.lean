import Derived.Test.YtdbjfdhknkfjaaaGreatDoorTNPiece
import Derived.Test.YtdbjfdhknkfjaaaGreatDoorTChkA
import Derived.Test.YtdbjfdhknkfjaaaGreatDoorFtF
import Derived.Test.YtdbjfdhknkfjaaaGreatDoorTClR
namespace Go.Proofs.YtdbjfdhknkfjaaaGreatDoor
set_option maxHeartbeats 8000000
set_option maxRecDepth 100000
open Go.RowKit Go.Deep
set_option linter.unusedVariables false
set_option linter.unusedSimpArgs false
def ActP (ts:List T2) (nm:ByteArray) (w:World) (e:Ending):Prop:=
 (∃ q a cap,q<ts.length/\(tx ts q).name=nm/\Fc w a (tx ts q).code/\e=.returned (.tuple #[.agg #[.slice a (tx ts q).code.length cap],.bool true]))\/((∀ q,q<ts.length->(tx ts q).name≠nm)/\e=.returned (.tuple #[.agg #[.slice none 0 0],.bool false]))
theorem La (sv:Value) (ta:Option Addr) (c2:Nat) (ts:List T2) (nm:ByteArray) (w:World) (h:Gv w ta ts) (hl:ts.length<=1048576) (hc:∀ i,i<ts.length->(tx ts i).code.length<=1048576) :
  Calls Tryz.prog 51 #[.agg #[sv,.slice ta ts.length c2],.string nm] w fun e w'=>Below w.heap.size w w'/\ActP ts nm w' e:=by
 obtain⟨W,eW⟩:∃ W,(w.alloc (.cells #[sv,.slice ta ts.length c2] 26)).alloc (.cells #[.slice none 0 0] 31)=W:=⟨_,rfl⟩
 have hb:Below w.heap.size w W:=by rw[<- eW];exact(aN _ _).alloc (by simp) _
 have x1:W.cell? ⟨w.heap.size,1,none⟩=some (.slice ta ts.length c2):=by rw[<- eW];simp[go_sem]
 have y0:W.cell? ⟨w.heap.size+1,0,none⟩=some (.slice none 0 0):=by rw[<- eW];simp[go_sem]
 have yf:W.frozen? ⟨w.heap.size+1,0,none⟩=false:=by rw[<- eW];simp[go_sem]
 have HR:=hid h
 have HB:=hid hb
 clear h hb
 go_enter Tryz.func51,Tryz.ntmps51
 go_wp2
 clear eW
 go_loopw [6] (fun i wr=>∃ k:Nat,k<=ts.length/\i=.int .i64 k/\W=wr/\Hd (∀ q,q<k->(tx ts q).name≠nm)) (fun i _=>ts.length-(intOf i).toNat)
 case atStart=>exact⟨0,Nat.zero_le _,rfl,rfl,fun q hq=>by omega⟩
 case round=>
  obtain⟨k,hk,rfl,rfl,HN⟩:=hrel
  by_cases hlt:k<ts.length
  ·have hkI:(k:Int)<(ts.length:Int):=by omega
   obtain⟨b,off,rfl,c1,a',cap',c3,c4⟩:=HR.o k hlt;replace c1:=Ab HB.o c1;replace c3:=Ab HB.o c3;have HC:=hid c4;have hcl:=hc k hlt;clear c4
   by_cases he:(tx ts k).name=nm
   ·have hq:=Ga he;have HE:=hid he;clear he;go_wp2;exact bR (v:=.tuple #[.agg #[.slice a' (tx ts k).code.length cap'],.bool true]) (by simp[results,Tryz.results51,go_sem,y0,yf]) rfl ⟨HB.o.setCell (p:=⟨w.heap.size+1,0,none⟩) (by simp) _,Or.inl ⟨k,a',cap',hlt,HE.o,HC.o.bl (HB.o.setCell (p:=⟨w.heap.size+1,0,none⟩) (by simp) _),rfl⟩⟩
   ·have hq:=Gq he
    have HN2:Hd (∀ q,q<k+1->(tx ts q).name≠nm):=fun q hq=>by
     rcases Nat.lt_or_ge q k with h'|h'
     ·exact HN.o q h'
     ·(obtain rfl:q=k:=by omega);exact he
    clear he;go_wp2;go_roundw
    case rel=>exact⟨k+1,by omega,by go_num,trivial,HN2⟩
    case measure=>simp[intOf];omega
  ·have hkI:¬ (k:Int)<(ts.length:Int):=by omega
   have HN2:Hd (∀ q,q<ts.length->(tx ts q).name≠nm):=fun q hq=>HN.o q (by omega);go_wp2;exact bR (v:=.tuple #[.agg #[.slice none 0 0],.bool false]) (by simp[results,Tryz.results51,go_sem,y0,yf]) rfl ⟨HB.o.setCell (p:=⟨w.heap.size+1,0,none⟩) (by simp) _,Or.inr ⟨HN2.o,rfl⟩⟩
theorem mem_sx {ss:List S2} {s:S2} (h:s∈ss):∃ i,i<ss.length/\sx ss i=s:=by
 obtain⟨i,hi,e⟩:=List.getElem_of_mem h
 exact⟨i,hi,by unfold sx;rw[gG,gQ hi];exact e⟩
theorem mem_tx {ss:List T2} {s:T2} (h:s∈ss):∃ i,i<ss.length/\tx ss i=s:=by
 obtain⟨i,hi,e⟩:=List.getElem_of_mem h
 exact⟨i,hi,by unfold tx;rw[gG,gQ hi];exact e⟩
structure Vj (key:ByteArray) (ss:List S2) (ts:List T2) (ss':List S2) (ts':List T2):Prop where
 s1:∀ s∈ss,s.name≠key->s∈ss'
 t1:∀ s∈ts,s.name≠key->s∈ts'
 s2:∀ s∈ss',s.name≠key->s∈ss
 t2:∀ s∈ts',s.name≠key->s∈ts
theorem has_ex {ss:List S2} {nm:ByteArray} (h:Ds (Ag ss) nm):∃ i,i<ss.length/\(sx ss i).name=nm:=by
 obtain⟨j,hj,e⟩:=h
 rw[Bc] at hj
 rw[Cy] at e
 exact⟨j,hj,e⟩
theorem Me {ts:List T2} {nm:ByteArray} (h:Ds (Ae ts) nm):∃ i,i<ts.length/\(tx ts i).name=nm:=by
 obtain⟨j,hj,e⟩:=h
 rw[Ax] at hj
 rw[Cu] at e
 exact⟨j,hj,e⟩
theorem Vj.src {key:ByteArray} {ss:List S2} {ts:List T2} {ss':List S2} {ts':List T2} (h:Vj key ss ts ss' ts') (i:Nat) (hi:i<ss.length) (hn:(sx ss i).name≠key):∃ j,j<ss'.length/\sx ss' j=sx ss i:=mem_sx (h.s1 _ (Mt hi) hn)
theorem Vj.tgt {key:ByteArray} {ss:List S2} {ts:List T2} {ss':List S2} {ts':List T2} (h:Vj key ss ts ss' ts') (i:Nat) (hi:i<ts.length) (hn:(tx ts i).name≠key):∃ j,j<ts'.length/\tx ts' j=tx ts i:=mem_tx (h.t1 _ (Ui hi) hn)
theorem Vj.noS {key:ByteArray} {ss:List S2} {ts:List T2} {ss':List S2} {ts':List T2} (h:Vj key ss ts ss' ts') (nm:ByteArray) (hn:nm≠key) (k:Ds (Ag ss') nm):Ds (Ag ss) nm:=by
 obtain⟨i,hi,rfl⟩:=has_ex k
 obtain⟨j,hj,e⟩:=mem_sx (h.s2 _ (Mt hi) hn)
 exact e▸Dh hj
theorem Vj.noT {key:ByteArray} {ss:List S2} {ts:List T2} {ss':List S2} {ts':List T2} (h:Vj key ss ts ss' ts') (nm:ByteArray) (hn:nm≠key) (k:Ds (Ae ts') nm):Ds (Ae ts) nm:=by
 obtain⟨i,hi,rfl⟩:=Me k
 obtain⟨j,hj,e⟩:=mem_tx (h.t2 _ (Ui hi) hn)
 exact e▸Dq hj
theorem Vj.thing {key:ByteArray} {ss:List S2} {ts:List T2} {ss':List S2} {ts':List T2} (h:Vj key ss ts ss' ts') {nm:ByteArray} (hn:nm≠key):Kw ss' ts' nm <-> Kw ss ts nm:=by
 constructor
 ·rintro (k|k)
  ·exact Or.inl (h.noS nm hn k)
  ·exact Or.inr (h.noT nm hn k)
 ·rintro (k|k)
  ·obtain⟨i,hi,rfl⟩:=has_ex k;obtain⟨j,hj,e⟩:=h.src i hi hn;exact Or.inl (e▸Dh hj)
  ·obtain⟨i,hi,rfl⟩:=Me k;obtain⟨j,hj,e⟩:=h.tgt i hi hn;exact Or.inr (e▸Dq hj)
open Classical in
theorem Vj.thingB {key:ByteArray} {ss:List S2} {ts:List T2} {ss':List S2} {ts':List T2} (h:Vj key ss ts ss' ts') {nm:ByteArray} (hn:nm≠key):Cg ss' ts' nm=Cg ss ts nm:=by
 unfold Go.Proofs.YtdbjfdhknkfjaaaGreatDoor.Cg
 exact decide_eq_decide.mpr (h.thing hn)
theorem Au.pre {ss:List S2} {ts:List T2} {ms:Ms} {st:List ByteArray} {j:Job} {ms':Ms} {a:Yc} (h:Au ss ts ms st j ms' a):∀ {is ys ls d},j=.run is ys ls->a=.ok d->∀ g∈ls,g∈d.ls:=by
 induction h with
 | known|circle|source|missing|deep|made|fell=>intro is ys ls d e;cases e
 | over h1=>intro is ys ls d e e';cases e;cases e';exact fun g hg=>hg
 | has h1 h2 ih=>intro is ys ls d e e';cases e;exact fun g hg=>ih rfl e' g (List.mem_append_left _ hg)
 | asked h1 h2 h3 ih1 ih2=>intro is ys ls d e e';cases e;exact fun g hg=>ih2 rfl e' g (List.mem_append_left _ hg)
 | askfell h1 h2 h3=>intro is ys ls d e e';cases e';exact absurd h3 id
def OkG (ts:List T2) (key:ByteArray) (O:ByteArray->Prop) (ls:List G3):Prop:=∀ g∈ls,g.name≠key/\(g.ask=true->Ds (Ae ts) g.name->O g.name)
def Good1 (ts:List T2) (key:ByteArray) (O:ByteArray->Prop):Job->Md->Prop
 | .make x,_=>x≠key/\(Ds (Ae ts) x->O x)
 | .run _ _ _,d=>OkG ts key O d.ls
theorem Au.move {key:ByteArray} {ss:List S2} {ts:List T2} {ss':List S2} {ts':List T2} (hO:Vj key ss ts ss' ts') {O:ByteArray->Prop} (hc:∀ x,O x->∀ k d,Ev ss ts k (.make x) d->OkG ts key O d.ls)
  {ms:Ms} {st:List ByteArray} {j:Job} {ms':Ms} {a:Yc} (h:Au ss ts ms st j ms' a):Snd ss ts ms->∀ d,a=.ok d->Good1 ts key O j d->Au ss' ts' ms st j ms' a:=by
 induction h with
 | known h1=>intro _ d _ _;exact .known h1
 | circle=>intro _ d e;cases e
 | source h1 h2 h3=>
  intro _ d e hg;obtain⟨j,hj,ej⟩:=hO.src _ h2 (h3▸hg.1);rw[<- ej];exact .source h1 hj (by rw[ej];exact h3)
 | missing h1 h2=>intro _ d e hg;exact .missing h1 (fun k=>h2 ((hO.thing hg.1).mp k))
 | deep=>intro _ d e;cases e
 | made h1 h2 h3 h4 h5 h6 ih=>
  intro hs d e hg;cases e;have hm:Au _ _ _ _ _ _ _:=.made h1 h2 h3 h4 h5 h6;obtain⟨⟨k,hk⟩,_⟩:=hm.ev hs _ rfl;obtain⟨j,hj,ej⟩:=hO.tgt _ h3 (h4▸hg.1);have hr:=ih (hs.app h1 fun d e=>by cases e) _ rfl (hc _ (hg.2 (h4▸Dq h3)) k _ hk);rw[<- ej] at hr;exact .made h1 (fun q=>h2 (hO.noS _ hg.1 q)) hj (by rw[ej];exact h4) h5 hr
 | fell h1 h2 h3 h4 h5 h6 h7=>intro _ d e;subst e;exact absurd h7 id
 | over h1=>intro _ d _ _;exact .over h1
 | @has ms st is ys ls nm n ms2 a h1 h2 ih=>
  intro hs d e hg;have hn:nm≠key:=(hg _ (h2.pre rfl e _ (List.mem_append_right _ (List.mem_singleton.mpr rfl)))).1;have hr:=ih hs d e hg;rw[<- hO.thingB hn] at hr;exact .has h1 hr
 | @asked ms st is ys ls nm n ms1 d1 ms2 a h1 h2 h3 ih1 ih2=>
  intro hs d e hg;have hn:=hg _ (h3.pre rfl e _ (List.mem_append_right _ (List.mem_singleton.mpr rfl)));obtain⟨_,hs1⟩:=h2.ev hs _ rfl;have hr:=ih2 hs1 d e hg;have er:Ki ss' ts' nm d1=Ki ss ts nm d1:=by unfold Ki;rw[hO.thingB hn.1]
  rw[<- er] at hr;exact .asked h1 (ih1 hs _ rfl ⟨hn.1,fun h=>hn.2 rfl h⟩) hr
 | askfell h1 h2 h3=>intro _ d e;subst e;exact absurd h3 id
structure Rch (ss:List S2) (ts:List T2) (L:List ByteArray) (x:ByteArray) (P:ByteArray->Prop):Prop where
 made:∃ ms d,Au ss ts [] [] (.make x) ms (.ok d)/\∀ g∈d.ls,P g.name/\(g.ask=true->Ds (Ae ts) g.name->g.name∈L)
theorem Rch.ok {ss:List S2} {ts:List T2} (hv:SpV ss ts) {L:List ByteArray} {x key:ByteArray} (h:Rch ss ts L x (·≠key)) {k:Nat} {d:Md} (he:Ev ss ts k (.make x) d):OkG ts key (·∈L) d.ls:=by
 obtain⟨ms,d',h1,h2⟩:=h.made
 obtain⟨⟨k',h3⟩,_⟩:=h1.ev (fun nm d h=>by simp[lk] at h) _ rfl
 obtain⟨_,e⟩:=he.unique hv.ascS hv.ascT h3
 subst e
 exact h2
theorem does_move {ss:List S2} {ts:List T2} {ss':List S2} {ts':List T2} {key:ByteArray} (hv:SpV ss ts) (hO:Vj key ss ts ss' ts') {L:List ByteArray} (hL:∀ x∈L,Rch ss ts L x (·≠key)) {nm:ByteArray} {ms:Ms} {d:Md} (hd:Au ss ts [] [] (.make nm) ms (.ok d)) (hn:nm≠key) (hm:Ds (Ae ts) nm->nm∈L):Au ss' ts' [] [] (.make nm) ms (.ok d):=
 hd.move hO (O:=(·∈L)) (fun x hx k d he=>(hL x hx).ok hv he) (fun nm d h=>by simp[lk] at h) d rfl ⟨hn,hm⟩
theorem Ta (sa ta:Option Addr) (c1 c2:Nat) (ss:List S2) (ts:List T2) (nm:ByteArray) (w:World) (h:Hp w sa ss ta ts) (hsm:Eg ss ts) (hn:nm.size<=9223372036854775807) :
  Calls Tryz.prog 9 #[.agg #[.slice sa ss.length c1,.slice ta ts.length c2],.string nm] w fun e w'=>Below w.heap.size w w'/\∃ c t ch ca cc,e=.returned (.agg #[.int .i64 c,.string t,.slice ca ch.length cc])/\Hi ss ts nm c t ch/\Fd w' ca ch:=by
 obtain⟨W,eW⟩:∃ W,(w.alloc (.cells #[.slice sa ss.length c1,.slice ta ts.length c2] 26)).alloc (.cells #[.int .i64 0,.string ⟨#[]⟩,.slice none 0 0] 38)=W:=⟨_,rfl⟩
 have hb0:Below w.heap.size w W:=by rw[<- eW];exact(aN _ _).alloc (by simp) _
 have HRB:Hd (W.heap[w.heap.size+1]?=some (.cells #[.int .i64 0,.string ⟨#[]⟩,.slice none 0 0] 38 (0,0))):=by
  show _=_;rw[<- eW];have h:=An (w.alloc (.cells #[.slice sa ss.length c1,.slice ta ts.length c2] 26)) (.cells #[.int .i64 0,.string ⟨#[]⟩,.slice none 0 0] 38);rw[show (w.alloc (.cells #[.slice sa ss.length c1,.slice ta ts.length c2] 26)).heap.size=w.heap.size+1 from by simp] at h;exact h
 have HPB:Hd (W.heap[w.heap.size]?=some (.cells #[.slice sa ss.length c1,.slice ta ts.length c2] 26 (0,0))):=by
  show _=_;rw[<- eW,Lib.alloc_old _ _ _ (by simp)];exact An _ _
 have hW9:w.heap.size+1<W.heap.size:=Aj HRB.o
 have p0:W.cell? ⟨w.heap.size,0,none⟩=some (.slice sa ss.length c1):=by rw[cH HPB.o];rfl
 have p1:W.cell? ⟨w.heap.size,1,none⟩=some (.slice ta ts.length c2):=by rw[cH HPB.o];rfl
 have HCK:Hd (Calls Tryz.prog 27 #[.agg #[.slice sa ss.length c1,.slice ta ts.length c2]] W _):=Hj sa ta c1 c2 ss ts W (h.bl hb0) hsm
 have HB0:Hd (Below w.heap.size w W):=hb0
 have HOK:Hd (Hp w sa ss ta ts):=h
 clear h hb0 hsm
 go_enter Tryz.func9,Tryz.ntmps9
 go_wp2_with fail
 refine HCK.o.mono ?_
 rintro e w1 ⟨hb1,rfl⟩
 have HB1:Hd (Below w.heap.size w w1):=HB0.o.trans (hb1.mono (by omega))
 have HR1:Hd (w1.heap[w.heap.size+1]?=some (.cells #[.int .i64 0,.string ⟨#[]⟩,.slice none 0 0] 38 (0,0))):=Ak hb1 HRB.o
 have HP1:Hd (w1.heap[w.heap.size]?=some (.cells #[.slice sa ss.length c1,.slice ta ts.length c2] 26 (0,0))):=Ak hb1 HPB.o
 obtain⟨z0,z1,z2,zf⟩:=Et HR1.o
 have q0:w1.cell? ⟨w.heap.size,0,none⟩=some (.slice sa ss.length c1):=by rw[cH HP1.o];rfl
 have q1:w1.cell? ⟨w.heap.size,1,none⟩=some (.slice ta ts.length c2):=by rw[cH HP1.o];rfl
 clear hb1 p0 p1 eW HCK
 dsimp only
 by_cases hc:Fb ss ts=0
 ·by_cases hnb:Cn nm=true
  ·have hE:=Ls (HOK.o.bl HB1.o) hc;have hnk:Ar nm:=by unfold Cn at hnb;simpa using hnb
   have HLC:Hd (Calls Tryz.prog 30 #[.agg #[.slice sa ss.length c1,.slice ta ts.length c2],.string nm] w1 _):=Qb sa ta c1 c2 ss ts nm w1 hE hnk;have HCC:Hd (Fb ss ts=0/\Cn nm=true):=⟨hc,hnb⟩;rw[hc];clear hE hnk hc
   go_wp2_with (first|(go_at_call 28;refine(Bn nm _ hn).mono ?_;rintro e w9 ⟨rfl,rfl⟩;rw[hnb]))
   refine HLC.o.mono ?_;rintro e w2 ⟨hb2,h,ms',a,rfl,hh,hdo,ho⟩;have HR2:Hd (w2.heap[w.heap.size+1]?=some (.cells #[.int .i64 0,.string ⟨#[]⟩,.slice none 0 0] 38 (0,0))):=Ak hb2 HR1.o;have HB2:Hd (Below w.heap.size w w2):=HB1.o.trans (hb2.mono (by have:=HB1.o.size;omega));have hs2:w.heap.size<=w2.heap.size:=HB2.o.size
   obtain⟨c,t,ch,cv,hcell,HCP,HCV⟩:∃ c t ch cv,(w2.cell? ⟨h,4,none⟩=some (.int .i64 c)/\w2.cell? ⟨h,5,none⟩=some (.string t)/\w2.cell? ⟨h,6,none⟩=some cv)/\Hd (Hi ss ts nm c t ch)/\((ch=[]/\cv=.slice none 0 0)\/(0<ch.length/\ch.length<=60/\∃ base g cp,cv=.slice (some ⟨g,0,none⟩) ch.length cp/\w2.ownsRow base 9 1 cv ch.length (Ba ch))):=by
    rcases ho with ⟨d,mv,kv,vs,rfl,hdn⟩|⟨v,mv,kv,c,t,chv,hblk,rfl,k⟩
    ·obtain⟨_,⟨x4,x5,x6,_⟩,_⟩:=Vf hdn.blk;exact⟨d.c,d.t,[],_,⟨x4,x5,x6⟩,Or.inr ⟨HCC.o.1,HCC.o.2,_,_,hdo,rfl,rfl,rfl⟩,Or.inl ⟨rfl,rfl⟩⟩
    ·obtain⟨_,⟨x4,x5,x6,_⟩,_⟩:=Vf hblk
     cases a with
     | ok d=>exact absurd k id
     | circle l=>
      obtain⟨rfl,rfl,base,hown⟩:=k;obtain⟨l0,l6⟩:=hdo.circle_len (by simp) l rfl;refine⟨6,⟨#[]⟩,l,chv,⟨x4,x5,x6⟩,Or.inr ⟨HCC.o.1,HCC.o.2,_,_,hdo,rfl,rfl,rfl⟩,Or.inr ⟨l0,l6,base,?_⟩⟩
      rcases hown.2 with ⟨_,h0⟩|⟨g,cap,cur,e,_⟩
      ·omega
      ·exact⟨g,cap,e,hown⟩
     | deep x=>
      obtain⟨rfl,rfl,rfl⟩:=k;exact⟨7,t,[],_,⟨x4,x5,x6⟩,Or.inr ⟨HCC.o.1,HCC.o.2,_,_,hdo,rfl,rfl,rfl⟩,Or.inl ⟨rfl,rfl⟩⟩
   obtain⟨x4,x5,x6⟩:=hcell;clear ho hdo hb2 z0 z1 z2 zf q0 q1
   rcases HCV with ⟨rfl,rfl⟩|⟨l0,l6,base,g,cp,rfl,hown⟩
   ·go_wp2_with fail;refine(Nd c t w2).mono ?_;rintro e w3 ⟨hb3,g',rfl⟩;have HR3:Hd (w3.heap[w.heap.size+1]?=some (.cells #[.int .i64 0,.string ⟨#[]⟩,.slice none 0 0] 38 (0,0))):=Ak hb3 HR2.o;have HB3:Hd (Below w.heap.size w w3):=HB2.o.trans (hb3.mono hs2);obtain⟨z0,z1,z2,zf⟩:=Et HR3.o;clear hb3 x4 x5 x6;go_wp2_with fail;have hb:=Cf HB3.o (b:=w.heap.size+1) (by omega) (.int .i64 c) (.string t) (.slice (some ⟨g',0,none⟩) 0 0);obtain⟨v0,v1,v2,_⟩:=Et (Cv HR3.o (.int .i64 c) (.string t) (.slice (some ⟨g',0,none⟩) 0 0));exact bR (v:=.agg #[.int .i64 c,.string t,.slice (some ⟨g',0,none⟩) 0 0]) (by simp[results,Tryz.results9,go_sem,v0,v1,v2]) rfl ⟨hb,c,t,[],some ⟨g',0,none⟩,0,rfl,HCP.o,Fs _ _⟩
   ·have HOW:Hd _:=hown;clear hown;go_wp2_with fail;refine(Rv c t ch base g cp w2 l0 l6 HOW.o).mono ?_;rintro e w3 ⟨hb3,g',cp',rfl,hown3⟩;have HR3:Hd (w3.heap[w.heap.size+1]?=some (.cells #[.int .i64 0,.string ⟨#[]⟩,.slice none 0 0] 38 (0,0))):=Ak hb3 HR2.o;have HB3:Hd (Below w.heap.size w w3):=HB2.o.trans (hb3.mono hs2);have HO3:Hd (w3.ownsRow w2.heap.size 9 1 (.slice (some ⟨g',0,none⟩) ch.length cp') ch.length (Ba ch)):=hown3;obtain⟨z0,z1,z2,zf⟩:=Et HR3.o;clear hb3 x4 x5 x6 hown3;go_wp2_with fail;have hb:=Cf HB3.o (b:=w.heap.size+1) (by omega) (.int .i64 c) (.string t) (.slice (some ⟨g',0,none⟩) ch.length cp');have e1:=jB HR3.o (.int .i64 c) (i:=0);have e2:=jB e1 (.string t) (i:=1);have ho:=Ct (Ct (Ct HO3.o HR3.o (by decide) 0 (.int .i64 c)) e1 (by decide) 1 (.string t)) e2 (by decide) 2 (.slice (some ⟨g',0,none⟩) ch.length cp');obtain⟨v0,v1,v2,_⟩:=Et (Cv HR3.o (.int .i64 c) (.string t) (.slice (some ⟨g',0,none⟩) ch.length cp'));exact bR (v:=.agg #[.int .i64 c,.string t,.slice (some ⟨g',0,none⟩) ch.length cp']) (by simp[results,Tryz.results9,go_sem,v0,v1,v2]) rfl ⟨hb,c,t,ch,some ⟨g',0,none⟩,cp',rfl,HCP.o,Rb ho⟩
  ·have hnf:Cn nm=false:=by simpa using hnb
   have HCP:Hd (Hi ss ts nm 9 ⟨#[]⟩ []):=Or.inl ⟨fun q=>hnb q.2,rfl,rfl,rfl⟩;rw[hc];clear hnb hc
   go_wp2_with (first|(go_at_call 28;refine(Bn nm _ hn).mono ?_;rintro e w9 ⟨rfl,rfl⟩;rw[hnf]))
   have hb:=Cf HB1.o (b:=w.heap.size+1) (by omega) (.int .i64 9) (.string ⟨#[]⟩) (.slice none 0 0);obtain⟨v0,v1,v2,_⟩:=Et (Cv HR1.o (.int .i64 9) (.string ⟨#[]⟩) (.slice none 0 0));exact bR (v:=.agg #[.int .i64 9,.string ⟨#[]⟩,.slice none 0 0]) (by simp[results,Tryz.results9,go_sem,v0,v1,v2]) rfl ⟨hb,9,⟨#[]⟩,[],none,0,rfl,HCP.o,Fs _ _⟩
 ·have HCP:Hd (Hi ss ts nm 9 ⟨#[]⟩ []):=Or.inl ⟨fun q=>hc q.1,rfl,rfl,rfl⟩;generalize Fb ss ts=z at hc;go_wp2_with fail;have hb:=Cf HB1.o (b:=w.heap.size+1) (by omega) (.int .i64 9) (.string ⟨#[]⟩) (.slice none 0 0);obtain⟨v0,v1,v2,_⟩:=Et (Cv HR1.o (.int .i64 9) (.string ⟨#[]⟩) (.slice none 0 0));exact bR (v:=.agg #[.int .i64 9,.string ⟨#[]⟩,.slice none 0 0]) (by simp[results,Tryz.results9,go_sem,v0,v1,v2]) rfl ⟨hb,9,⟨#[]⟩,[],none,0,rfl,HCP.o,Fs _ _⟩
end Go.Proofs.YtdbjfdhknkfjaaaGreatDoor
