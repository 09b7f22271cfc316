import Derived.Test.YtnflkpmmfpfhlaaGreatDoorBaC
namespace Go.Proofs.YtnflkpmmfpfhlaaGreatDoor
open Value renaming slice->J,string->S,bool->F,agg->G,pointer->D,tuple->Y
open Option renaming some->M,none->N
open Obj renaming cells->O
open Go renaming Value->Z,World->E
open Ending renaming returned->H
open _root_ renaming List->L,Nat->X
set_option maxHeartbeats 8000000
set_option maxRecDepth 100000
open _root_.Go.Proofs.Tryz Go.RowKit Go.Deep Go.Shelf
set_option linter.unusedVariables false
set_option linter.unusedSimpArgs false
variable {w w' AM AK:E} {n j k i b v B lo cap:X} {T xs T':L By} {R Q R':L T3} {ss:L S2} {ts:L T2} {s:Sb} {a:Option Addr} {f:By→X} {wd:Int} {x:By} {lv kv:X→Z} {qv u0 u1 u2:Z} {zs:L Z}
theorem allA_no(n:Int)(tb tf tc m nc:X)(na:Option Addr)(hm9:m≤9223372036854775807)(qa sa ta:Option Addr)(qc c1 c2:X)(T:L By)(R:L T3)(ss:L S2)(ts:L T2)(w:E)(hT:Mv w)(cr:Nv w (M ⟨tb,tf,N⟩) T qa R)(hrz:Wi w qa R)(hr:R.length≤1048576)(jg:∀i,i<R.length→(qx R i).code.length≤1048576∧(qx R i).looks.length≤1048576)(sw:Li w sa ss ta ts)(ku:Ep ss ts)(ip:¬ (Jc n T R/\Fx ss ts=0/\m≤200)):Calls prog 31 #[G #[I n,J (M ⟨tb,tf,N⟩) T.length tc,J qa R.length qc],G #[J sa ss.length c1,J ta ts.length c2],J na m nc] w λe w'=>Bw w w'/\∃v u,e=H (Y #[v,u])/\BuildN w.heap.size n T R v w':=by
 obtain⟨W,eW⟩:=Aj (((w.alloc (O #[I n,J (M ⟨tb,tf,N⟩) T.length tc,J qa R.length qc] 35)).alloc (O #[J sa ss.length c1,J ta ts.length c2] 42)).alloc (O z10 55));have cj:Bw w W:=qbv;have HQ:Hd (W.heap[w.heap.size]?=M (O #[I n,J (M ⟨tb,tf,N⟩) T.length tc,J qa R.length qc] 35 (0,0))):=qca
 have HP:Hd (W.heap[w.heap.size+1]?=M (O #[J sa ss.length c1,J ta ts.length c2] 42 (0,0))):=by
  exact qdg
 have HZ:Hd (W.heap[w.heap.size+1+1]?=M (O z10 55 (0,0))):=by
  exact qfc
 have rh:=Ab cj;have N5:=Ab (Qf n tb tf tc qa qc T R W (hT.bl cj) (cr.bl cj) (hrz.bl cj) hr jg);have vh:=Ab (λ(V:E) (hV:Bw w V)=>Ki n tb tf tc qa qc T R V (cr.st.bl hV) (hrz.bl hV) cr.lt hr jg);have J2:=Ab (λ(V:E) (hV:Bw w V)=>Pd sa ta c1 c2 ss ts V (hT.bl hV) (sw.bl hV) ku);obtain⟨q0,q1,q2,qf⟩:=Ci HQ.o;clear hT cr hrz hr jg sw ku cj;go_enter func31,ntmps31;go_wp2_with fail;clear eW;refine N5.o.mono ?_;rintro e w1 ⟨ag,⟨hw,rfl⟩|⟨hw,g,g1,p1,sv,qv,rfl,hg,dp⟩⟩
 ·have j9:=Ab (Ac ag HQ.o)
  have sq:=Ab (Ac ag HZ.o);have d6:=Ab (bt rh.o ag);obtain⟨x0,x1,x2,xf⟩:=Ci j9.o;clear ag hw q0 q1 q2 qf HQ HP HZ N5 J2 ip;go_wp2_with fail;clear x0 x1 x2 xf;refine(vh.o w1 d6.o).mono ?_;rintro e w2 ⟨af,g1,p1,v2,rfl,o1,o2⟩;obtain⟨a2,p2,rfl,_⟩:=o2.sl;have pg:=Ab (Ac af sq.o);have dy:=Ab (bt d6.o af);have ct:=Ab (show Dz w2 w.heap.size (J (p_ g1) T.length p1) (J a2 R.length p2) T R from ⟨Ah o1.own (zo d6.o.size),⟨g1,p1,rfl⟩,o2.recO.base (zo d6.o.size)⟩);clear af o1 o2 d6 sq j9;obtain⟨K7,K6,K5,K4,J9,J8,J7,J6,J5,J4⟩:=Et pg.o;have zcf:=fZ pg.o;obtain⟨l,el⟩:∃l:L (X×X×Z),l=[((w.heap.size+1+1),0,I 9),((w.heap.size+1+1),1,ze),((w.heap.size+1+1),2,nS),((w.heap.size+1+1),3,I n),((w.heap.size+1+1),4,J (p_ g1) T.length p1),((w.heap.size+1+1),5,J a2 R.length p2),((w.heap.size+1+1),6,nS),((w.heap.size+1+1),7,nS),((w.heap.size+1+1),8,ze),((w.heap.size+1+1),9,ze)]:=⟨_,rfl⟩;have bu:∀x∈l,x.1=(w.heap.size+1+1):=Xg;have bn:=De l w2 _ bu pg.o;have hS:=ct.o.setU bu pg.o;have fa:Bw w (Bo w2 l):=Bg l w2 dy.o (λx hx=>qac);obtain⟨V,eV⟩:=Aj (Bo w2 l);rw[eV]at bn fa hS;rw[el]at bn eV;simp only[Bo,List.foldl]at eV;simp only[List.foldl,List.setIfInBounds_toArray,List.set_cons_zero,List.set_cons_succ]at bn;have HV:=Ab bn;have gj:=Ab fa;have im:=Ab hS;clear bn fa el bu hS;go_wp2_with fail
  try rw[eV]
  obtain⟨y0,y1,y2,y3,y4,y5,y6,y7,y8,y9⟩:=Et HV.o;exact bR (v:=Y #[G #[I 9,ze,nS,I n,J (p_ g1) T.length p1,J a2 R.length p2,nS,nS,ze,ze],nS]) qcr rfl (⟨gj.o,_,_,rfl,_,_,rfl,im.o⟩)
 ·have j9:=Ab (Ac ag HQ.o)
  have jk:=Ab (Ac ag HP.o);have sq:=Ab (Ac ag HZ.o);have d6:=Ab (bt rh.o ag);obtain⟨x0,x1⟩:=En jk.o
  by_cases hc:Fx ss ts=0
  ·skip
   have HC:=Ab (J2.o w1 d6.o);rw[hc]at HC;(have td:200<m:=by apply Classical.byContradiction;intro q;exact ip ⟨hw,hc,qg⟩);have E4:((m:Int) > 200)=True:=qj;clear hc;clear ag hw q0 q1 q2 qf HQ HP HZ N5 J2 ip dp hg;go_wp2_with fail;clear x0 x1;refine HC.o.mono ?_;rintro e w1b ⟨As,rfl⟩;replace j9:=Ab (Ac As j9.o);replace sq:=Ab (Ac As sq.o);replace d6:=Ab (bt d6.o As);clear As jk HC;obtain⟨x0,x1,x2,xf⟩:=Ci j9.o;exact qhy
  ·skip
   have HC:=Ab (J2.o w1 d6.o);generalize Fx ss ts=ck at *;clear ag hw q0 q1 q2 qf HQ HP HZ N5 J2 ip dp hg;go_wp2_with fail;clear x0 x1;refine HC.o.mono ?_;rintro e w1b ⟨As,rfl⟩;replace j9:=Ab (Ac As j9.o);replace sq:=Ab (Ac As sq.o);replace d6:=Ab (bt d6.o As);clear As jk HC;obtain⟨x0,x1,x2,xf⟩:=Ci j9.o;have hcN:(ck != 0)=true:=qch;exact qhy
def PostM(B:X)(n:Int)(ss:L S2)(ts:L T2)(T:L By)(R:L T3)(xs:L By)(v u:Z)(w':E):Prop:=
 ∃d cv tx qv nv ev zs kv lv,Jn n ss ts T R xs d∧BO w' B d v cv tx qv nv ev zs kv lv∧(d.c≤5→UsR B n.toNat ss ts T R xs d u w')
section
variable {B B0:X} {n:Int} {ss:L S2} {ts:L T2} {T:L By} {R:L T3} {xs:L By} {v u:Z} {w w':E}
theorem PostM.form(h:PostM B n ss ts T R xs v u w):∃(xc:Int)(yt:By)(ca:Option Addr)(cn cc:X)(m:Int)(ta:Option Addr)(tn tc:X)(qa:Option Addr)(qn qc:X)(na:Option Addr)(nn nc:X)(ea:Option Addr)(en ec:X)(At Bt:By),v=G #[I xc,S yt,J ca cn cc,I m,J ta tn tc,J qa qn qc,J na nn nc,J ea en ec,S At,S Bt]:=by
 obtain⟨d,cv,tx,qv,nv,ev,zs,kv,lv,hd,h,hu⟩:=h;obtain⟨⟨a1,b1,e1⟩,⟨a2,b2,e2⟩,⟨a3,b3,e3⟩,⟨a4,b4,e4⟩,⟨a5,b5,e5⟩⟩:=h.bw.slices;have h0:=h.eq;rw[e1,e2,e3,e4,e5]at h0;exact⟨_,_,_,_,_,_,_,_,_,_,_,_,_,_,_,_,_,_,_,_,h0⟩
end
structure ArgL (w:E) (n:Int) (tb tf:X) (qa sa ta:Option Addr) (T:L By) (R:L T3) (ss:L S2) (ts:L T2) (na:Option Addr) (xs:L By):Prop where
 tab:Mv w
 pow:Pg w
 st:Nv w (M ⟨tb,tf,N⟩) T qa R
 rz:Wi w qa R
 lr:R.length≤1048576
 lk:∀i,i<R.length→(qx R i).code.length≤1048576∧(qx R i).looks.length≤1048576
 sp:Li w sa ss ta ts
 sm:Ep ss ts
 nl:xs.length≤1048576
 ns:Cu w na xs
 nn:∀i,(nx xs i).size≤9223372036854775807
theorem ArgL.bl{n:Int}{tb tf:X}{qa sa ta na:Option Addr}(h:ArgL w n tb tf qa sa ta T R ss ts na xs)(hb:Bw w w'):ArgL w' n tb tf qa sa ta T R ss ts na xs:=⟨h.tab.bl hb,h.pow.bl hb,h.st.bl hb,h.rz.bl hb,h.lr,h.lk,h.sp.bl hb,h.sm,h.nl,h.ns.bl hb,h.nn⟩
theorem all_any(n:Int)(tb tf tc nc:X)(na qa sa ta:Option Addr)(qc c1 c2:X)(T:L By)(R:L T3)(ss:L S2)(ts:L T2)(xs:L By)(w:E)(h:ArgL w n tb tf qa sa ta T R ss ts na xs):Calls prog 31 #[G #[I n,J (M ⟨tb,tf,N⟩) T.length tc,J qa R.length qc],G #[J sa ss.length c1,J ta ts.length c2],J na xs.length nc] w λe w'=>Bw w w'/\∃v u,e=H (Y #[v,u])/\PostM w.heap.size n ss ts T R xs v u w':=by
 by_cases hv:Jc n T R/\Fx ss ts=0/\xs.length≤200
 ·obtain⟨m,rfl⟩:=Int.eq_ofNat_of_zero_le (show 0<=n by have:=hv.1.1;omega)
  exact allA_yes m tb tf tc nc na xs qa sa ta qc c1 c2 T R ss ts w h.tab h.pow h.st h.rz h.lr h.lk h.sp h.sm hv.1 hv.2.1 hv.2.2 h.ns h.nn
 ·refine(allA_no n tb tf tc xs.length nc na (zo h.nl) qa sa ta qc c1 c2 T R ss ts w h.tab h.st h.rz h.lr h.lk h.sp h.sm hv).mono ?_
  rintro e w' ⟨hb,v,u,he,tx,qv,rfl,hs⟩;obtain⟨zs,kv,lv,r⟩:=hs.rcs;exact⟨hb,_,u,he,⟨9,⟨#[]⟩,[],n,T,R,[],[],⟨#[]⟩,⟨#[]⟩⟩,nS,tx,qv,nS,nS,zs,kv,lv,Or.inl ⟨hv,rfl⟩,⟨rfl,Ff _ _,hs.txt,r,Ff _ _,Ff _ _,apt4 noB noB noB noC noC noC⟩,λh=>absurd h (show ¬ (9:Int)≤5 from qh)⟩
theorem Az.usl{ms:Mm}{st:L By}{j:BJ}{ms':Mm}{s':Sb}{a:BA}(h:Az ss ts n ms s st j ms' s' a):(∀is i m,j=.tri is i m→m≤s.R.length)→(∀x∈s.us,x<s.R.length)→(∀x∈s'.us,x<s'.R.length)∧s.R.length≤s'.R.length:=by
 induction h with
 | known h1=>exact λ_ hu=>⟨hu,Nat.le_refl _⟩
 | circle h1 h2 h3 h4=>exact λ_ hu=>⟨hu,Nat.le_refl _⟩
 | source h1 h0 h2 h3=>exact λ_ hu=>⟨hu,Nat.le_refl _⟩
 | missing h1 h0 h2=>exact λ_ hu=>⟨hu,Nat.le_refl _⟩
 | deep h1 h0 h2 h3 h4=>exact λ_ hu=>⟨hu,Nat.le_refl _⟩
 | made h1 h0 h2 h3 h4 h5 _ ih=>exact λ_ hu=>ih (λ_ _ _ e=>qw) hu
 | fell h1 h0 h2 h3 h4 h5 _ ih=>exact λ_ hu=>ih (λ_ _ _ e=>qw) hu
 | held _ ih=>exact λ_ hu=>ih (λ_ _ _ e=>by cases e;exact Nat.le_refl _) hu
 | tfell _ ih=>exact λ_ hu=>ih (λ_ _ _ e=>by cases e;exact Nat.le_refl _) hu
 | ran _ _ ih ih2=>
   exact qkh
 | rfell _ _ ih ih2=>
   exact qkh
 | tend h1=>exact λ_ hu=>⟨hu,Nat.le_refl _⟩
 | tother h1 h2 _ ih=>exact λhj hu=>ih (λ_ _ _ e=>by cases e;exact hj _ _ _ rfl) hu
 | thit h1 h2 _ ih=>
   intro hj hu;obtain⟨k1,k2⟩:=ih (λ_ _ _ e=>qw) hu;refine⟨λx hx=>?_,k2⟩
   rcases List.mem_append.1 hx with q|q
   ·exact k1 x q
   ·have:=hj _ _ _ rfl
    have:=List.mem_singleton.1 q;dsimp only;omega
 | tno h1 h2 _ _ ih ih2=>
   intro hj hu;obtain⟨k1,k2⟩:=ih (λ_ _ _ e=>qw) hu;obtain⟨l1,l2⟩:=ih2 (λ_ _ _ e=>by cases e;exact Nat.le_trans (hj _ _ _ rfl) k2) k1;exact⟨l1,Nat.le_trans k2 l2⟩
 | tbad h1 h2 _ ih=>exact λ_ hu=>ih (λ_ _ _ e=>qw) hu
 | hend h1=>exact λ_ hu=>⟨hu,Nat.le_refl _⟩
 | hhas h1 h2 h3 _ ih=>exact λ_ hu=>ih (λ_ _ _ e=>qw) hu
 | hhasno h1 h2 h3=>exact λ_ hu=>⟨hu,Nat.le_refl _⟩
 | hask h1 h2 _ h4 _ ih ih2=>
   exact qkt
 | haskno h1 h2 _ h4 ih=>exact λ_ hu=>ih (λ_ _ _ e=>qw) hu
 | haskbad h1 h2 _ ih=>exact λ_ hu=>ih (λ_ _ _ e=>qw) hu
 | over h1 h2=>
   intro _ hu
   cases h2 with
   | ok a b=>
     refine⟨λx hx=>?_,qi⟩
     rcases List.mem_append.1 hx with q|q
     ·have:=hu x q
      simp only[List.length_append,List.length_singleton];omega
     ·have:=List.mem_singleton.1 q
      simp only[List.length_append,List.length_singleton];omega
 | overbad h1 h2=>
   intro _ hu
   cases h2 with
   | recs=>exact⟨hu,Nat.le_refl _⟩
   | bad=>exact⟨hu,Nat.le_refl _⟩
 | has h1 _ ih=>exact λ_ hu=>ih (λ_ _ _ e=>qw) hu
 | asked h1 _ _ ih ih2=>
   exact qkt
 | askbad h1 _ ih=>exact λ_ hu=>ih (λ_ _ _ e=>qw) hu
theorem Ew.grow{c:Int}{t:By}{r:AR}(h:Ew ss ts n s c t xs r):(∀x∈s.us,x<s.R.length)→∀s' c' t',r=.ok s' c' t'→(∀x∈s'.us,x<s'.R.length)∧s.R.length≤s'.R.length:=by
 induction h with
 | nil=>intro hu s' c' t' e;cases e;exact⟨hu,Nat.le_refl _⟩
 | go h1 h2 _ ih=>
   intro hu s' c' t' e;obtain⟨k1,k2⟩:=h2.usl (λ_ _ _ e=>qw) hu;obtain⟨l1,l2⟩:=ih k1 s' c' t' e;exact⟨l1,Nat.le_trans k2 l2⟩
 | bad=>intro _ _ _ _ e;cases e
 | no=>intro _ _ _ _ e;cases e
def Gk{α:Type}(f:X→Bool)(g:X→α)(k:X):L α:=((List.range k).filter f).map g
theorem Ug{α:Type}{f:X→Bool}{g:X→α}(h:f k=true):Gk f g (k+1)=Gk f g k++[g k]:=by simp[Gk,List.range_succ,h]
theorem Qah{α:Type}{f:X→Bool}{g:X→α}(h:f k=false):Gk f g (k+1)=Gk f g k:=by simp[Gk,List.range_succ,h]
theorem Gx{α:Type}(f:X→Bool)(g:X→α)(k:X):(Gk f g k).length≤k:=by
 unfold Gk;rw[List.length_map];exact Nat.le_trans (List.length_filter_le _ _) qi
theorem sel_at{α:Type}{f:X→Bool}{g:X→α}:∀ {k i:X},i<(Gk f g k).length→∃j,j<k∧(Gk f g k)[i]?=M (g j):=by
 intro k i hi;unfold Gk at hi ⊢;rw[List.length_map]at hi;refine⟨((List.range k).filter f)[i],?_,?_⟩
 ·have:=List.getElem_mem hi
  rw[List.mem_filter,List.mem_range]at this;exact this.1
 ·rw[List.getElem?_map,Hq hi];rfl
theorem qx_sel{f:X→Bool}(hi:i<(Gk f (qx R) k).length):∃j,j<k∧qx (Gk f (qx R) k) i=qx R j:=by
 obtain⟨j,h1,h2⟩:=sel_at hi;exact⟨j,h1,by unfold qx at h2 ⊢;rw[gG,h2];rfl⟩
def Qk(Q:L T3)(x:By):Prop:=∃i,i<Q.length∧((qx Q i).out=x∨∃k,k<(qx Q i).looks.length∧(gx (qx Q i).looks k).ask=true∧(gx (qx Q i).looks k).sum=x)
def Gm(us:L X)(R:L T3):L T3:=Gk (λi=>decide (i∈us)) (qx R) R.length
open Classical in
noncomputable def Ht (n:X) (T:L By) (Q:L T3) (i:X):Bool:=decide (Qk Q (Ap n (nx T i)))
noncomputable def Iw (n:X) (T:L By) (Q:L T3):L By:=Gk (Ht n T Q) (nx T) T.length
open Classical in
theorem Rf:Ht n T Q i=true↔Qk Q (Ap n (nx T i)):=by unfold Ht;exact decide_eq_true_iff
def Kx(n:Int)(ss:L S2)(ts:L T2)(T:L By)(R:L T3)(xs:L By)(wd:Int)(T':L By)(R':L T3)(c:Int):Prop:=
 ∃d,Jn n ss ts T R xs d∧((5<d.c∧wd=0∧T'=[]∧R'=[]∧c=d.c)∨(d.c≤5∧Fx ss ts=0∧wd=n∧c=0∧∃s c0 t0,Ew ss ts n.toNat ⟨T,R,[],[],[]⟩ 0 ⟨#[]⟩ xs (.ok s c0 t0)∧R'=Gm s.us s.R∧T'=Iw n.toNat s.T (Gm s.us s.R)))
theorem Kx.uniq{n:Int}{wd2:Int}{T2:L By}{R2:L T3}{c c2:Int}(h:Kx n ss ts T R xs wd T' R' c)(k:Kx n ss ts T R xs wd2 T2 R2 c2)(hv:Fx ss ts=0→Xv ss ts):wd2=wd∧T2=T'∧R2=R'∧c2=c:=by
 obtain⟨d,hd,h⟩:=h;obtain⟨d2,kd,k⟩:=k;obtain rfl:=Jn.uniq hd kd hv
 rcases h with⟨h0,rfl,rfl,rfl,rfl⟩|⟨h0,hc,rfl,rfl,s,c0,t0,ha,rfl,rfl⟩
 ·rcases k with⟨k0,rfl,rfl,rfl,rfl⟩|⟨k0,_⟩
  ·exact⟨rfl,rfl,rfl,rfl⟩
  ·omega
 ·rcases k with⟨k0,_⟩|⟨k0,_,rfl,rfl,s2,c3,t3,ka,rfl,rfl⟩
  ·omega
  ·have:=Ew.uniq (hv hc) ha ka
   cases this;exact⟨rfl,rfl,rfl,rfl⟩
theorem Kx.sm{n:Int}{c:Int}(h:Kx n ss ts T R xs wd T' R' c)(hv:Fx ss ts=0→Xv ss ts)(hl:Fx ss ts=0→ts.length≤200)(hT:T.length≤1048576)(hR:Ec R):T'.length≤1048576∧Ec R':=by
 obtain⟨d,hd,h⟩:=h
 rcases h with⟨h0,rfl,rfl,rfl,rfl⟩|⟨h0,hc,rfl,rfl,s,c0,t0,ha,rfl,rfl⟩
 ·exact⟨Nat.zero_le _,Nat.zero_le _,λi hi=>Wl⟩
 ·have hs:=hd.sm hv hl hT hR
  have e1:d.T=s.T∧d.R=s.R:=by
   rcases hd with⟨_,rfl⟩|⟨_,r,hb,⟨s2,c2,t2,rfl,rfl⟩|⟨b,rfl,rfl⟩|⟨rfl,rfl⟩⟩
   ·exact absurd h0 (show ¬ (9:Int)≤5 from qh)
   ·have:=Ew.uniq (hv hc) ha hb
    cases this;exact⟨rfl,rfl⟩
   ·have:=Ew.uniq (hv hc) ha hb
    cases this
   ·have:=Ew.uniq (hv hc) ha hb
    cases this
  have h1:=hs.T;have h2:=hs.R;rw[e1.1]at h1;rw[e1.2]at h2;refine⟨Nat.le_trans (Gx _ _ _) h1,Nat.le_trans (Gx _ _ _) h2.1,λi hi=>?_⟩;obtain⟨j,h3,h4⟩:=qx_sel hi;unfold Gm;rw[h4];exact h2.2 j h3
def Jl(w:E)(b n:X)(f:By→X):Prop:=
 ∃AJ:DataW Z,w.ownsMap prog 9 (λv=>M (.held v,[])) b n AJ∧∀s l,keyOf prog 9 (.string s)=M l→AJ.atKey l (.held (I 0))=.held (I (f s))
theorem lawC:WideMaps.KeyLaw prog 9:=WideMaps.string_law underlying9
theorem Jl.made(w:E):Jl (w.alloc (.map #[] 0)) w.heap.size 0 (λ_=>0):=⟨_,World.ownsMap_made w _ _ _,λs l _=>rfl⟩
theorem Jl.same(h:Jl w b n f)(he:w'.heap[b]?=w.heap[b]?):Jl w' b n f:=by
 exact qfx
theorem Jl.lt(h:Jl w b n f):b<w.heap.size:=by obtain⟨AJ,h1,_⟩:=h;exact h1.lt
theorem Jl.bl(h:Jl w b n f)(hb:Bw w w'):Jl w' b n f:=h.same (hb.block b h.lt)
theorem zeroC(w:E):(zeroValue 3).run prog w=.ok (I 0) w:=qk
theorem Jl.look(h:Jl w b n f){s:By}(hs:s.size≤maxLen):(Instr.lookup 82 (.map (M b)) (.string s) false).run prog w=.ok (I (f s)) w:=by
 obtain⟨AJ,h1,h2⟩:=h;have hk:=WideMaps.keyOf_string_mk (P:=prog) underlying9 hs;obtain⟨v,ps,h3,h4⟩:=h1.lookup (Maps.Keyed.of_law lawC) underlying82 (zeroC w) (zd:=.held (I 0)) (zp:=[]) rfl hk;simp only[Option.some.injEq,Prod.mk.injEq]at h4;have h5:=h4.1;rw[h2 s _ hk]at h5;rw[h3,DataW.held.inj h5]
open Classical in
theorem Jl.store{f:ByteArray→X}(h:Jl w b n f){s:ByteArray}(hs:s.size≤maxLen)(hn:n<maxLen)(v:X):∃w',(Instr.mapUpdate 82 (.map (M b)) (.string s) (.int .i64 v)).run Tryz.prog w=.ok () w'∧Jl w' b (n+1) (λx=>if x=s then v else f x)∧w.grownBy w' (M b):=by
 obtain⟨AJ,h1,h2⟩:=h;have hk:=WideMaps.keyOf_string_mk (P:=Tryz.prog) Tryz.underlying9 hs;obtain⟨w',h3,h4,h5⟩:=h1.update (Maps.Keyed.of_law lawC) Tryz.underlying82 hn hk (val:=.int .i64 v) (d:=.held (.int .i64 v)) (ps:=[]) rfl
 have hkey:∀ {k:Z} {l:Lit},keyOf Tryz.prog 9 k=M l→WideAt.IsKeyLit l:=λh=>by
  obtain⟨s,rfl⟩:=lawC.str h;trivial
 refine⟨w',h3,⟨_,h4,λx m hx=>?_⟩,h5⟩
 by_cases L0:x=s
 ·subst L0
  rw[hx]at hk;have hk:=Option.some.inj hk;simp only[if_true];rw[←hk];exact Maps.atKey_put_same h1.isMap (hkey hx) _ _
 ·simp only[if_neg L0]
  have hne:m≠_:=λe=>L0 (by
   have q:=lawC.inj (e▸hx) hk;exact Value.string.inj q)
  rw[Maps.atKey_put_other hne];exact h2 x m hx
def Sh(Q:L T3)(k:X)(x:By):Prop:=∃i,i<k∧((qx Q i).out=x∨∃j,j<(qx Q i).looks.length∧(gx (qx Q i).looks j).ask=true∧(gx (qx Q i).looks j).sum=x)
def Hu(Q:L T3)(k j:X)(x:By):Prop:=Sh Q k x∨(qx Q k).out=x∨∃i,i<j∧(gx (qx Q k).looks i).ask=true∧(gx (qx Q k).looks i).sum=x
theorem Yr(h:j=(qx Q k).looks.length):Hu Q k j x↔Sh Q (k+1) x:=by
 subst h;constructor
 ·rintro(⟨i,h1,h2⟩|h|h)
  ·exact⟨i,qg,h2⟩
  ·exact⟨k,qg,Or.inl h⟩
  ·exact⟨k,qg,Or.inr h⟩
 ·rintro⟨i,h1,h2⟩
  rcases Nat.lt_or_ge i k with q|q
  ·exact Or.inl ⟨i,q,h2⟩
  ·obtain rfl:i=k:=qg
   exact Or.inr h2
theorem needL_no(h:(gx (qx Q k).looks j).ask=false):Hu Q k (j+1) x↔Hu Q k j x:=by
 unfold Hu;refine or_congr Iff.rfl (or_congr Iff.rfl ?_);constructor
 ·rintro⟨i,h1,h2,h3⟩
  rcases Nat.lt_or_ge i j with q|q
  ·exact⟨i,q,h2,h3⟩
  ·obtain rfl:i=j:=qg
   rw[h]at h2;cases h2
 ·rintro⟨i,h1,h2⟩
  exact⟨i,qg,h2⟩
theorem Yq(h:(gx (qx Q k).looks j).ask=true):Hu Q k (j+1) x↔Hu Q k j x∨x=(gx (qx Q k).looks j).sum:=by
 unfold Hu;constructor
 ·rintro(h1|h1|⟨i,h1,h2,h3⟩)
  ·exact Or.inl (Or.inl h1)
  ·exact Or.inl (Or.inr (Or.inl h1))
  ·rcases Nat.lt_or_ge i j with q|q
   ·exact Or.inl (Or.inr (Or.inr ⟨i,q,h2,h3⟩))
   ·obtain rfl:i=j:=qg
    exact Or.inr h3.symm
 ·rintro((h1|h1|⟨i,h1,h2⟩)|h1)
  ·exact Or.inl h1
  ·exact Or.inr (Or.inl h1)
  ·exact Or.inr (Or.inr ⟨i,qg,h2⟩)
  ·exact Or.inr (Or.inr ⟨j,qg,h,h1.symm⟩)
theorem Vk:Hu Q k 0 x↔Sh Q k x∨x=(qx Q k).out:=by
 unfold Hu;constructor
 ·rintro(h1|h1|⟨i,h1,_⟩)
  ·exact Or.inl h1
  ·exact Or.inr h1.symm
  ·omega
 ·rintro(h1|h1)
  ·exact Or.inl h1
  ·exact Or.inr (Or.inl h1.symm)
open Classical in
theorem Yj{P P':By→Prop}{s:By}(h:∀x,0<f x↔P x)(hv:v=f s+1)(hp:∀x,P' x↔P x∨x=s):∀x,0<(if x=s then v else f x)↔P' x:=λx=>by
 rw[hp x]
 by_cases e:x=s
 ·rw[if_pos e];exact⟨λ_=>Or.inr e,λ_=>qg⟩
 ·rw[if_neg e,h x];exact⟨Or.inl,λq=>q.elim id (λq=>absurd q e)⟩
open Classical in
theorem le_count{s:By}(h:∀x,f x≤n)(hv:v=f s+1):∀x,(if x=s then v else f x)≤n+1:=λx=>by
 have h1:=h x;have h2:=h s
 by_cases e:x=s
 ·rw[if_pos e];omega
 ·rw[if_neg e];omega
theorem Jl.cells(h:Jl AM b n f)(hg:AM.grownBy AK (M b)){b':X}{v:Z}(hc:AM.cell? ⟨b',j,N⟩=M v):AK.cell? ⟨b',j,N⟩=M v:=by
 have h1:b'≠b:=λq=>by
  obtain⟨AJ,⟨es,cl,h1,_⟩,_⟩:=h;unfold World.cell? at hc;simp only[q,h1]at hc;cases hc
 rw[←hc];exact Ce (hg.block _ (World.block_lt_of_cell? _ _ hc) qj)
theorem Gf.mapped{la:Option Addr}{gl:L G3}(hr:Gf AM la gl)(h:Jl AM b n f)(hg:AM.grownBy AK (M b)):Gf AK la gl:=λi hi=>by
 obtain⟨b',o',e,a1,a2,a3⟩:=hr i hi;exact⟨b',o',e,h.cells hg a1,h.cells hg a2,h.cells hg a3⟩
theorem Uu(a:Option Addr)(cap:X)(Q:L T3)(w:E)(hq:Mk w a Q)(hl:Ec Q)(hs:∀i,i<Q.length→(qx Q i).out.size≤maxLen∧∀j,j<(qx Q i).looks.length→(gx (qx Q i).looks j).sum.size≤maxLen):Calls prog 32 #[J a Q.length cap] w λe w'=>Bw w w'∧∃n f,e=H (.map (M w.heap.size))∧Jl w' w.heap.size n f∧∀x,0<f x↔Qk Q x:=by
 have HQ:=Ab hq;have HS:=Ab hs;have hQl:=hl.1;have HL:=Ab hl.2;clear hq hs hl;obtain⟨W,eW⟩:=Aj (w.alloc (.map #[] 0));have HM0:Hd (Jl W w.heap.size 0 (λ_=>0)):=by show Jl _ _ _ _;rw[←eW];exact Jl.made w
 have py:Hd (Bw w W):=by show Below _ _ _;rw[←eW];exact Ai _ _
 obtain⟨m,em⟩:=Aj Q.length;have EM:=Ab em;rw[em]at hQl ⊢;clear em;have hmm:(Instr.makeMap 82 N).run prog w=.ok (.map (M w.heap.size)) W:=by rw[←eW];kernel_rfl
 clear eW;go_enter func32,ntmps32;go_wp2;clear hmm
 go_loopw [11] (λi wr=>∃(k n:X)(f:By→X),k≤m∧i=I k∧Hd (Jl wr w.heap.size n f)∧Hd (∀x,0<f x↔Sh Q k x)∧Hd (∀x,f x≤n)∧Hd (n≤k*1048577)∧Hd (Bw w wr)) (λi _=>m-(intOf i).toNat)
 case atStart=>exact⟨0,0,_,Nat.zero_le _,rfl,HM0.o,(λx=>⟨λh=>qg,λ⟨i,h,_⟩=>qg⟩),(λx=>Nat.le_refl _),Nat.zero_le _,py.o⟩
 case round=>
  clear HM0 py;obtain⟨k,n,f,hk,rfl,HM,HF,HN,HC,HB⟩:=hrel
  by_cases ai:k<m
  ·have fs:(k:Int)<(m:Int):=qg
   have HSk:=Ab (HS.o k qah);have HLk:=Ab (HL.o k qah).2;obtain⟨b,off,rfl,ca,cc,la,lc,r1,r2,r3,left,r5⟩:=(HQ.o.bl HB.o) k qah;have X8:=Ab r5;obtain⟨o,eo⟩:=Aj ((qx Q k).out);obtain⟨gl,egl⟩:=Aj ((qx Q k).looks);obtain⟨cn,ecn⟩:=Aj ((qx Q k).code.length);rw[eo]at r3 HSk;rw[ecn]at r1;rw[egl]at r2 X8 HLk HSk;have EO:=Ab eo;have EGL:=Ab egl;obtain⟨gn,egn⟩:=Aj gl.length;rw[egn]at r2 HLk HSk;have EGN:=Ab egn;have hgn:gn≤1048576:=HLk.o;clear eo egl egn ecn r5 HLk;obtain⟨AM,eX⟩:=Aj (wr.alloc (O #[J ca cn cc,J la gn lc,S o] 73));have xd:Bw wr AM:=qhl;have HXB:Hd (AM.heap[wr.heap.size]?=M (O #[J ca cn cc,J la gn lc,S o] 73 (0,0))):=qhh;have HMX:=Ab (HM.o.bl xd);have hMB:w.heap.size<wr.heap.size:=HM.o.lt;have nr:=HMX.o.look HSk.o.1;obtain⟨v,ev⟩:=Aj (f o);(have hvn:v≤n:=by rw[←ev];exact HN.o o);have EV:=Ab ev;rw[ev]at nr;have cz:n≤2000000000000:=zo HC.o;obtain⟨AK,hY,hMY,hgY⟩:=HMX.o.store HSk.o.1 qq (v+1);replace hY:(Instr.mapUpdate 82 (.map (M w.heap.size)) (S o) (I ((v:Int)+1))).run prog AM=.ok () AK:=hY;have HBY:=Ab (bt HB.o xd);have HR5X:=Ab (X8.o.bl xd);clear xd ev X8 HM HB;(have HYB:Hd (AK.heap[wr.heap.size]?=M (O #[J ca cn cc,J la gn lc,S o] 73 (0,0))):=by show _=_;rw[hgY.block _ (Ag HXB.o) qj];exact HXB.o);have HBY2:=Ab (HBY.o.grown hgY HBY.o.size qi);have HR5Y:=Ab (HR5X.o.mapped HMX.o hgY);have HMY:=Ab hMY;have D2:=Ab (Yj (P':=Hu Q k 0) HF.o (show v+1=f o+1 by rw[EV.o]) (λx=>by rw[Vk,EO.o]));have HNY:=Ab (le_count (s:=o) (v:=v+1) HN.o (by rw[EV.o]));obtain⟨fY,efY⟩:=Aj ((λx=>if x=o then v+1 else f x));(have HNY2:Hd (∀x,fY x≤n+1):=by rw[←efY];exact HNY);(have HFY2:Hd (∀x,0<fY x↔Hu Q k 0 x):=by rw[←efY];exact D2);rw[efY]at HMY;(have G7:Hd (n+1≤k*1048577+0+1):=by have:=HC.o;show _≤_;omega);clear hMY hgY efY HNY D2 HMX HR5X HBY HF HN HC EV;obtain⟨x0,x1,x2,xf⟩:=Ci HXB.o;obtain⟨y0,y1,y2,yf⟩:=Ci HYB.o;go_wp2;clear x0 x1 x2 xf y0 y1 y2 yf nr hY eX r1 r2 r3
   go_loopw [23] (λi wq=>∃(j nq:X)(g:By→X),j≤gn∧i=I j∧Hd (Jl wq w.heap.size nq g)∧Hd (∀x,0<g x↔Hu Q k j x)∧Hd (∀x,g x≤nq)∧Hd (nq≤k*1048577+j+1)∧Hd (Gf wq la gl)∧Hd (Bw w wq)) (λi _=>gn-(intOf i).toNat)
   case atStart=>exact⟨0,n+1,fY,Nat.zero_le _,rfl,HMY.o,HFY2.o,HNY2.o,G7.o,HR5Y.o,HBY2.o⟩
   case round=>
    clear HMY HFY2 HNY2 G7 HR5Y HBY2 HYB HXB hvn hMB;clear left;obtain⟨j,nq,g,hj,rfl,HM,HF,HN,HC,HR,HB⟩:=hrel
    by_cases hlj:j<gn
    ·have hjI:(j:Int)<(gn:Int):=qg
     obtain⟨b2,off2,rfl,a1,a2,a3⟩:=HR.o j (by rw[EGN.o];exact hlj);have de:=HSk.o.2 j hlj;obtain⟨gg,egg⟩:=Aj (gx gl j);rw[egg]at a1 a2 a3 de;(have EGG:Hd (gx (qx Q k).looks j=gg):=by show _=_;rw[EGL.o];exact egg);clear egg;obtain⟨gname,ask,sm⟩:=gg;dsimp only at a1 a2 a3 de;obtain⟨AM,eX⟩:=Aj (wr.alloc (O #[S gname,F ask,S sm] 115));have xd:Bw wr AM:=qhl;have HXB:Hd (AM.heap[wr.heap.size]?=M (O #[S gname,F ask,S sm] 115 (0,0))):=qhh;have HMX:=Ab (HM.o.bl xd);have HBX:=Ab (bt HB.o xd);have mz:=Ab (HR.o.bl xd);obtain⟨x0,x1,x2,xf⟩:=Ci HXB.o;clear xd HM HB HR;cases ask
     ·have fj:Hd (∀x,0<g x↔Hu Q k (j+1) x):=λx=>by rw[needL_no (by rw[EGG.o])];exact HF.o x
      (have HC2:Hd (nq≤k*1048577+(j+1)+1):=by have:=HC.o;show _≤_;omega);go_wp2;go_roundw
      case rel=>exact⟨j+1,nq,g,qg,qm,HMX.o,fj.o,HN.o,HC2.o,mz.o,HBX.o⟩
      case measure=>simp[intOf];omega
     ·have nr:=HMX.o.look de
      obtain⟨v,ev⟩:=Aj (g sm);(have hvn:v≤nq:=by rw[←ev];exact HN.o sm);have EV:=Ab ev;rw[ev]at nr;have cz:nq≤2000000000000:=zo HC.o;obtain⟨AK,hY,hMY,hgY⟩:=HMX.o.store de qq (v+1);replace hY:(Instr.mapUpdate 82 (.map (M w.heap.size)) (S sm) (I ((v:Int)+1))).run prog AM=.ok () AK:=hY;have HBY:=Ab (HBX.o.grown hgY HBX.o.size qi);have HRY:=Ab (mz.o.mapped HMX.o hgY);have HMY:=Ab hMY;have D2:=Ab (Yj (P':=Hu Q k (j+1)) HF.o (show v+1=g sm+1 by rw[EV.o]) (λx=>by rw[Yq (by rw[EGG.o]),EGG.o]));have HNY:=Ab (le_count (s:=sm) (v:=v+1) HN.o (by rw[EV.o]));(have HCY:Hd (nq+1≤k*1048577+(j+1)+1):=by have:=HC.o;show _≤_;omega);clear hMY hgY HMX mz HBX HF HN HC EV ev;go_wp2;go_roundw
      case rel=>exact⟨j+1,nq+1,_,qg,qm,HMY.o,D2.o,HNY.o,HCY.o,HRY.o,HBY.o⟩
      case measure=>simp[intOf];omega
    ·have hjI:¬ (j:Int)<(gn:Int):=qg
     obtain rfl:j=gn:=qg;(have HFE:Hd (∀x,0<g x↔Sh Q (k+1) x):=λx=>by rw[←Yr (by rw[EGL.o,EGN.o])];exact HF.o x);(have HCE:Hd (nq≤(k+1)*1048577):=by have:=HC.o;show _≤_;omega);go_wp2;go_roundw
     case rel=>exact⟨k+1,nq,g,qg,qm,HM.o,HFE.o,HN.o,HCE.o,HB.o⟩
     case measure=>simp[intOf];omega
  ·have fs:¬ (k:Int)<(m:Int):=qg
   obtain rfl:k=m:=qg;go_wp2;go_ret;exact⟨HB.o,rfl,n,f,HM.o,λx=>by rw[HF.o x,←EM.o];exact Iff.rfl⟩
theorem sumB_small(h:n≤8):(Ap n x).size≤maxLen:=by
 have h1:(Ap n x).size=n:=by unfold Ap;simp[ByteArray.size,Fv]
 unfold maxLen;omega
theorem Zk(n b1 b2 AA AB:X)(f:By→X)(x:By)(w:E)(c1:w.cell? ⟨b1,0,N⟩=M (.map (M AA)))(c2:w.cell? ⟨b2,0,N⟩=M (I n))(hm:Jl w AA AB f)(h1:1≤n)(h8:n≤8)(hx:x.size≤1048576):Calls prog 35 #[S x,D (p_ b1),D (p_ b2)] w λe w'=>Bw w w'∧e=H (F (decide (0<f (Ap n x)))):=by
 obtain⟨q,eq⟩:=Aj (Ap n x);have ly:Hd (∀W:E,Calls prog 36 #[S x,I n] W λe w'=>e=H (S q)∧Bw W w'):=λW=>by rw[←eq];exact Hc x n W hx h1 h8
 have hq:q.size≤maxLen:=by rw[←eq];exact sumB_small h8
 rw[eq];obtain⟨v,ev⟩:=Aj (f q);have HM:=Ab hm;obtain⟨U,eU⟩:=Aj w.drew;have be:Bw w U:=qan;have kh:=Ab be;have HC:Hd (U.cell? ⟨b1,0,N⟩=M (.map (M AA))∧U.cell? ⟨b2,0,N⟩=M (I n)):=⟨Aa be c1,Aa be c2⟩;rw[ev];have EV:=Ab ev;clear hm eq ev c1 c2 be;go_enter func35,ntmps35;go_wp2_with fail;refine Lt.begin 99 (λw'=>w'.cell? ⟨b1,0,N⟩=M (.map (M AA))∧w'.cell? ⟨b2,0,N⟩=M (I n)) qk ?_;rw[eU];clear eU;change K 0 _
 iterate 4
  refine Lt.ti (v:=?_) HC.o ?_ ?_;rotate_left 1
  ·rintro w ⟨s1,s2⟩
   exact qae
  simp only[gX]
 refine Lt.sp (i:=4) (λK hK=>?_);go_simp;refine(ly.o U).mono ?_;rintro e w4 ⟨rfl,bp⟩;have HC4:Hd (w4.cell? ⟨b1,0,N⟩=M (.map (M AA))∧w4.cell? ⟨b2,0,N⟩=M (I n)):=⟨Aa bp HC.o.1,Aa bp HC.o.2⟩;have ox:=Ab (bt kh.o bp);have nr:=(HM.o.bl ox.o).look hq;rw[EV.o]at nr;refine hK.out _ _ (λ_=>HC4.o) (λ_=>?_);clear hK K bp
 try simp only[gX]
 refine Lt.sp (i:=5) (λK hK=>?_);go_simp;refine hK.out _ _ (λ_=>HC4.o) (λ_=>?_);clear hK K nr
 try simp only[gX]
 by_cases hv:0<v
 ·have hvI:(0:Int)<(v:Int):=qg
  exact qjf
 ·have hvI:¬ (0:Int)<(v:Int):=qg
  exact qjf
theorem needB_K:Qk Q x↔Sh Q Q.length x:=Iff.rfl
theorem bl_ne{o:By}(h:o≠x):(o.toList == x.toList)=false:=by
 rw[beq_eq_false_iff_ne];intro e;rw[ByteArray.toList_eq,ByteArray.toList_eq]at e;obtain⟨o⟩:=o;obtain⟨x⟩:=x;exact h (by simpa using e)
theorem l6Needed_any(a:Option Addr)(cap:X)(Q:L T3)(x:By)(w:E)(hq:Mk w a Q)(hl:Ec Q):Calls prog 26 #[J a Q.length cap,S x] w λe w'=>w=w'∧∃b,e=H (F b)∧(b=true↔Qk Q x):=by
 have HQ:=Ab hq;have hQl:=hl.1;have HL:=Ab hl.2;clear hq hl;obtain⟨m,em⟩:=Aj Q.length;have EM:=Ab em;rw[em]at hQl ⊢;clear em;go_enter func26,ntmps26;go_wp2
 go_loopw [5] (λi wr=>∃k:X,k≤m∧i=I k∧w=wr∧Hd (¬ Sh Q k x)) (λi _=>m-(intOf i).toNat)
 case atStart=>exact⟨0,Nat.zero_le _,rfl,rfl,λ⟨i,h,_⟩=>qg⟩
 case round=>
  obtain⟨k,hk,rfl,rfl,HN⟩:=hrel
  by_cases ai:k<m
  ·have fs:(k:Int)<(m:Int):=qg
   obtain⟨b,off,rfl,ca,cc,la,lc,r1,r2,r3,_,r5⟩:=HQ.o k qah;have X8:=Ab r5;have HLk:=Ab (HL.o k qah);obtain⟨o,eo⟩:=Aj ((qx Q k).out);obtain⟨gl,egl⟩:=Aj ((qx Q k).looks);rw[eo]at r3;rw[egl]at r2 X8 HLk;have EO:=Ab eo;have EGL:=Ab egl;obtain⟨gn,egn⟩:=Aj gl.length;rw[egn]at r2 HLk;have EGN:=Ab egn;have hgn:=HLk.o.2;clear eo egl egn r5 r1 HLk
   by_cases jh:o=x
   ·have hoe:(o.toList == x.toList)=true:=by rw[jh];simp
    have HY:Hd (Qk Q x):=⟨k,qah,Or.inl (EO.o.trans jh)⟩;go_wp2;go_ret;exact⟨rfl,true,rfl,λ_=>HY.o,λ_=>rfl⟩
   ·have hne:=bl_ne jh
    have D0:=Ab jh;clear jh;go_wp2
    have zb:Hd (¬ Hu Q k 0 x):=λh=>by
     rw[Vk,EO.o]at h;exact h.elim HN.o (λh=>D0.o h.symm)
    clear hne HN D0
    go_loopw [6] (λi wq=>∃j:X,j≤gn∧i=I j∧w=wq∧Hd (¬ Hu Q k j x)) (λi _=>gn-(intOf i).toNat)
    case atStart=>exact⟨0,Nat.zero_le _,rfl,rfl,zb.o⟩
    case round=>
     clear zb;obtain⟨j,hj,rfl,rfl,HN⟩:=hrel
     by_cases hlj:j<gn
     ·have hjI:(j:Int)<(gn:Int):=qg
      obtain⟨b2,off2,rfl,-,a2,a3⟩:=X8.o j (by rw[EGN.o];exact hlj);obtain⟨gg,egg⟩:=Aj (gx gl j);rw[egg]at a2 a3;(have EGG:Hd (gx (qx Q k).looks j=gg):=by show _=_;rw[EGL.o];exact egg);clear egg;obtain⟨gname,ask,sm⟩:=gg;dsimp only at a2 a3;cases ask
      ·have S4:Hd (¬ Hu Q k (j+1) x):=by show ¬ _;rw[needL_no (by rw[EGG.o])];exact HN.o
       exact qlu
      ·by_cases jh:sm=x
       ·have hoe:(sm.toList == x.toList)=true:=by rw[jh];simp
        have HY:Hd (Qk Q x):=⟨k,qah,Or.inr ⟨j,by rw[EGL.o,EGN.o];exact hlj,by rw[EGG.o],by rw[EGG.o];exact jh⟩⟩;go_wp2;go_ret;exact⟨rfl,true,rfl,λ_=>HY.o,λ_=>rfl⟩
       ·have hne:=bl_ne jh
        (have S4:Hd (¬ Hu Q k (j+1) x):=by show ¬ _;rw[Yq (by rw[EGG.o]),EGG.o];exact λh=>h.elim HN.o (λh=>jh h.symm));exact qlu
     ·have hjI:¬ (j:Int)<(gn:Int):=qg
      obtain rfl:j=gn:=qg;(have D0:Hd (¬ Sh Q (k+1) x):=by show ¬ _;rw[←Yr (by rw[EGL.o,EGN.o])];exact HN.o);go_wp2;go_roundw
      case rel=>exact⟨k+1,qg,qm,trivial,D0.o⟩
      case measure=>simp[intOf];omega
  ·have fs:¬ (k:Int)<(m:Int):=qg
   obtain rfl:k=m:=qg;go_wp2;go_ret;exact⟨rfl,Or.inl ⟨rfl,by rw[needB_K,EM.o];exact HN.o⟩⟩
attribute [local go_sem] Oper.semAt_some
theorem Vu(h:Bw w w'):w.grownBy w' N:=⟨h.os,h.tape,h.output,h.size,λk hk _=>h.block k hk⟩
theorem those1_in(n l Bl Bs n₀ len qc Bj AB:X)(c1 c2:Z)(qa:Option Addr)(vals:X→ByteArray)(stays:X→Bool)(hn:1≤n)(hN:len≤AB)(h63:len≤1048576)(A_ Jx:L By→E→Prop)(hJ:AbidesFrom Bj A_)(hY:∀pre x W,A_ pre W→pre.length<AB→YieldAt Fence.wide (n-1) prog l #[S x] W λe W'=>
 (e=H (F true)∧A_ (pre++[x]) W'∧Below n₀ W W')∨(e=H (F false)∧Jx (pre++[x]) W'))(W:E)(hn0:n₀≤W.heap.size)(hBl:Bl<n₀)(hBs:Bs<n₀)(hl:W.cell? ⟨Bl,0,N⟩=M (J qa len qc))(hs:W.cell? ⟨Bs,0,N⟩=M (.func (.func 35) #[] #[c1,c2]))(du:∀W',Below n₀ W W'→∀i,i<len→∃b off,qa=M ⟨b,off,N⟩∧W'.cell? ⟨b,off+i,N⟩=M (S (vals i)))(cr:∀W',Below n₀ W W'→∀i,i<len→Calls prog 35 #[S (vals i),c1,c2] W' λe w'=>Bw W' w'∧e=H (F (stays i)))(h0:A_ [] W):CallsIn Fence.wide n prog 63 #[.func (.yield l) #[] #[],D (p_ Bl),D (p_ Bs)] W λe W'=>(∃v,e=H v)∧
 ((∃ys,ys=Gk stays vals len∧A_ ys W')∨(∃pre,True∧Jx pre W')):=by
 refine callsIn_of_wp func63 rfl trivial ?_ rfl;simp only[ntmps63,List.size_toArray,List.length_cons,List.length_nil,Nat.reduceAdd,Nat.reduceSub,Array.replicate_succ,Array.replicate_zero,List.push_toArray,List.append_toArray,List.nil_append,List.cons_append]
 gi_wp2
 gi_loopw [8] (λi wr=>∃k:X,k≤len∧i=I k∧Hd (A_ (Gk stays vals k) wr)∧Below n₀ W wr) (λi _=>len-(intOf i).toNat)
 case atStart=>exact⟨0,Nat.zero_le _,rfl,h0,Below.refl _ _⟩
 case round=>
  obtain⟨k,hk,rfl,HJ,bc⟩:=hrel
  by_cases ai:k<len
  ·have fs:(k:Int)<(len:Int):=qg
   obtain⟨b,off,rfl,c⟩:=du wr bc k ai;obtain⟨x,ex⟩:=Aj (vals k);rw[ex]at c;have HX:=Ab ex;have hn0r:n₀≤wr.heap.size:=zo bc.size;have s1:wr.cell? ⟨Bs,0,N⟩=M (.func (.func 35) #[] #[c1,c2]):=(bc.cell (p:=⟨Bs,0,N⟩) hBs).trans hs
   have di:Hd (Calls prog 35 #[S x,c1,c2] wr λe w'=>Bw wr w'∧e=H (F (stays k))):=by
    have h:=cr wr bc k ai;rw[ex]at h;exact h
   clear ex;obtain⟨v,hv⟩:=Aj (stays k);rw[hv]at di;have HV:=Ab hv;clear hv
   gi_wp2
   refine⟨trivial,(callsIn_wide.2 di.o).mono ?_⟩;rintro e w2 ⟨af,rfl⟩;dsimp only;have bg:Below n₀ W w2:=bc.trans (af.mono qg);have HJ2:Hd (A_ (Gk stays vals k) w2):=hJ _ _ _ _ HJ.o (Vu af) (λr e=>qw);clear s1 af di HJ c;cases v
   ·have HC:Hd (Gk stays vals (k+1)=Gk stays vals k):=Qah HV.o
    gi_wp2
    refine⟨λ_ h=>(by cases h),?_⟩
    gi_wp2
    go_roundw
    case rel=>exact⟨k+1,qg,qm,by rw[HC.o];exact HJ2.o,bg⟩
    case measure=>simp[intOf];omega
   ·have HC:Hd (Gk stays vals (k+1)=Gk stays vals k++[x]):=by show _=_;rw[Ug HV.o,HX.o]
    obtain⟨fn,tmps,assign,body,hy,hR⟩:=hY (Gk stays vals k) x w2 HJ2.o (zo (Gx stays vals k))
    gi_wp2
    refine hR.mono ?_;rintro e w3 (⟨rfl,hJ3,gu⟩|⟨rfl,hJx3⟩)
    ·have HJ3:Hd (A_ (Gk stays vals (k+1)) w3):=by show A_ _ _;rw[HC.o];exact hJ3
     have ig:=bg.trans gu;clear hJ3 gu
     gi_wp2
     go_roundw
     case rel=>exact⟨k+1,qg,qm,HJ3.o,ig⟩
     case measure=>simp[intOf];omega
    ·gi_wp2
     refine bR (results_none rfl _ _ _) rfl ?_;exact⟨⟨_,rfl⟩,.inr ⟨_,trivial,hJx3⟩⟩
  ·have fs:¬ (k:Int)<(len:Int):=qg
   obtain rfl:k=len:=qg
   gi_wp2
   go_end0
   exact⟨⟨_,rfl⟩,Or.inl HJ.o⟩
theorem those_stops(n Bl Bs n₀ len qc:X)(c1 c2:Z)(qa:Option Addr)(vals:X→ByteArray)(stays:X→Bool)(hn:1≤n)(h63:len≤1048576)(w:E)(hn0:n₀≤w.heap.size)(hBl:Bl<n₀)(hBs:Bs<n₀)(hl:w.cell? ⟨Bl,0,N⟩=M (J qa len qc))(hs:w.cell? ⟨Bs,0,N⟩=M (.func (.func 35) #[] #[c1,c2]))(du:∀W',Below n₀ w W'→∀i,i<len→∃b off,qa=M ⟨b,off,N⟩∧W'.cell? ⟨b,off+i,N⟩=M (S (vals i)))(cr:∀W',Below n₀ w W'→∀i,i<len→Calls prog 35 #[S (vals i),c1,c2] W' λe w'=>Bw W' w'∧e=H (F (stays i))):SeqStopsK Fence.wide n prog 63 #[D (p_ Bl),D (p_ Bs)] (λx:By=>#[S x]) (Below n₀) (λys=>ys=Gk stays vals len) (λ_=>True) len w:=λl A_ Jx W hW hJ _ hY h0=>by
 have hW0:=hW.mono hn0;exact those1_in n l Bl Bs n₀ len qc _ len c1 c2 qa vals stays hn (Nat.le_refl _) h63 A_ Jx hJ hY W (Nat.le_trans hn0 hW.size) hBl hBs ((hW0.cell (p:=⟨Bl,0,N⟩) hBl).trans hl) ((hW0.cell (p:=⟨Bs,0,N⟩) hBs).trans hs) (λW' h=>du W' (hW0.trans h)) (λW' h=>cr W' (hW0.trans h)) h0
theorem Xu(Bl Bs len:X)(vals:X→ByteArray)(stays:X→Bool)(h63:len≤1048576)(w:E)(hseq:SeqStopsK Fence.wide 2 Tryz.prog 63 #[D (M ⟨Bl,0,N⟩),D (M ⟨Bs,0,N⟩)] (λx:ByteArray=>#[S x]) (Below w.heap.size) (λys=>ys=Gk stays vals len) (λ_=>True) len w):Calls Tryz.prog 62 #[J N 0 0,.func (.func 63) #[] #[D (M ⟨Bl,0,N⟩),D (M ⟨Bs,0,N⟩)]] w λe W'=>∃v,e=H v∧W'.ownsRow w.heap.size 9 1 v (Gk stays vals len).length (Ar (Gk stays vals len))∧Below w.heap.size w W':=by
 obtain⟨i0,hi,bq,bi,ci⟩:=info_parts Tryz.info9b;refine(callsIn_wide (n:=3)).1 ?_;refine callsIn_of_wp_marks Tryz.func62 rfl trivial ?_ rfl;simp only[Tryz.ntmps62,List.size_toArray,List.length_cons,List.length_nil,Nat.reduceAdd,Nat.reduceSub,Array.replicate_succ,Array.replicate_zero,List.push_toArray,List.append_toArray,List.nil_append,List.cons_append]
 gi_wp2
 obtain⟨W0,eW⟩:∃y,w.alloc (O #[J N 0 0] 22)=y:=⟨_,rfl⟩;have bO:Boxed W0 w.heap.size 22 (J N 0 0):=by rw[←eW];exact Boxed.new w 22 _
 have hB0:Below w.heap.size w W0:=by rw[←eW];exact(Below.refl _ w).alloc (Nat.le_refl _) _
 have hs0:W0.heap.size=w.heap.size+1:=by rw[←eW];simp
 rw[eW];clear eW
 refine wpIn_rangeFunc_ownH rfl (by decide) (gf:=63) (lb:=#[D (M ⟨Bl,0,N⟩),D (M ⟨Bs,0,N⟩)]) rfl trivial (enters_of Tryz.func63 (by kernel_rfl) rfl)
  hseq belowK_t (belowK_b (by omega)) hB0 (λ_=>rfl)
  (λpre W=>(∃v,Boxed W w.heap.size 22 v∧W.ownsRow w.heap.size 9 1 v pre.length (Ar pre)∧True)∧Below w.heap.size w W)
  (λ_ _ _=>False)
  (OwnFrom.and (Go.Own.from (holdsRow_own w.heap.size w.heap.size 22 9 1 (λpre:L ByteArray=>pre.length) (λpre=>Ar pre) (λ_ _=>True)) _) (ownFrom_below (Nat.le_refl _) (by omega)))
  (λ_ _ _ _ _ hs _ _=>hs)
  ⟨⟨_,bO,World.ownsRow_nil _ _ _ _,trivial⟩,hB0⟩
  (λx a' W=>a'={ tmps:=#[J N 0 0,.func (.func 63) #[] #[D (M ⟨Bl,0,N⟩),D (M ⟨Bs,0,N⟩)],D (M ⟨w.heap.size,0,N⟩),undef,J N 0 0,S x,.func (.func 63) #[] #[D (M ⟨Bl,0,N⟩),D (M ⟨Bs,0,N⟩)],S x,undef,undef,undef,undef,undef],defers:=[] })
  (λx a' s AM AK row hs hg hr=>hs)
  ?assign ?body ?done ?stop
 case assign=>
  rintro l pre x W K ⟨⟨v,hv,du,_⟩,hB⟩ hK
  gi_wp2
  exact hK _ _ (KeepsFrom.refl _ _) (Below.refl _ W) ⟨⟨v,hv,du,trivial⟩,hB⟩ rfl
 case body=>
  rintro l pre x a' W hl hr ⟨⟨v,hv,du,_⟩,hB⟩ rfl ai;have hc:=hv.cell
  gi_wp2_with (gi_at_builtin;refine wpListIn_append_own _ rfl _ _ 22 rfl w.heap.size 9 i0 (S ⟨#[]⟩) 1 16 Tryz.underlying22 hi bq bi ci rfl (by decide) _ _ _ rfl (du.alloc _) ⟨W.heap.size,0,N⟩ 1 1 [S x] rfl rfl (World.news_of_block (cs:=#[S x]) (t:=9) (fr:=(0,0)) (Cr _ _)) (by intro u hu;simp at hu;rcases hu with rfl;rfl) (by unfold maxLen;omega) (by omega) (by have:=hB.size;simp;omega) ?_;intro v' w1 aw ae _;obtain⟨g',aj,rfl⟩:=ownsRow_succ aw;obtain⟨hv1,hv2,mq,ib,af⟩:=hv.appended (by decide) du hB.size (Nat.le_refl _) aw ae;have V5:=hv1.cell;have C0:=hv1.frozen)
  exact⟨ib.from _,af,⟨_,hv2,by simpa [Ar] using mq,trivial⟩,hB.trans af⟩
 case done=>
  rintro AJ ys W hD rfl ⟨⟨v,hv,du,_⟩,hB⟩ hK;have hc:=hv.cell
  gi_wp2
  refine⟨by simp,.inl ⟨_,_,rfl,run_takeDeferred hK,?_⟩⟩;exact⟨_,results_tmp rfl _ _ _,v,rfl,ownsRow_putObj du _ hK rfl,hB.trans (belowK_b (w:=w) (Nat.le_refl _) W AJ _ _ (by omega) hK rfl rfl)⟩
 case stop=>
  rintro AJ c pre W _ _ h _;exact h.elim
theorem collect_any(Bl Bs len:X)(vals:X→ByteArray)(stays:X→Bool)(h63:len≤1048576)(w:E)(hseq:SeqStopsK Fence.wide 2 prog 63 #[D (p_ Bl),D (p_ Bs)] (λx:By=>#[S x]) (Below w.heap.size) (λys=>ys=Gk stays vals len) (λ_=>True) len w):Calls prog 33 #[.func (.func 63) #[] #[D (p_ Bl),D (p_ Bs)]] w λe W'=>∃v,e=H v∧W'.ownsRow w.heap.size 9 1 v (Gk stays vals len).length (Ar (Gk stays vals len))∧Bw w W':=by
 have HA:=Ab (Xu Bl Bs len vals stays h63 w hseq);go_enter func33,ntmps33;go_wp2_with fail;refine HA.o.mono ?_;rintro e w1 ⟨v,rfl,h1,h2⟩;go_wp2_with fail;go_ret;exact⟨v,rfl,h1,h2⟩
theorem thoseF_any(qa:Option Addr)(len qc:X)(c1 c2:Z)(w:E):Calls prog 34 #[J qa len qc,.func (.func 35) #[] #[c1,c2]] w λe w'=>e=H (.func (.func 63) #[] #[D (p_ w.heap.size),D (p_ (w.heap.size+1))])∧w'=(w.alloc (O #[J qa len qc] 22)).alloc (O #[.func (.func 35) #[] #[c1,c2]] 88):=by
 go_enter func34,ntmps34;go_wp2_with fail;go_ret;exact⟨qi,rfl⟩
def idx(f:X→Bool)(k j:X):X:=(((List.range k).filter f)[j]?).getD 0
theorem sel_len{α β:Type}(f:X→Bool)(g:X→α)(g':X→β)(k:X):(Gk f g k).length=(Gk f g' k).length:=by simp[Gk]
theorem Ks{α:Type}{f:X→Bool}{g:X→α}(h:j<(Gk f g k).length):(Gk f g k)[j]?=M (g (idx f k j))∧idx f k j<k:=by
 unfold Gk at h ⊢;rw[List.length_map]at h;have h1:=List.getElem_mem h;rw[List.mem_filter,List.mem_range]at h1;unfold idx;rw[List.getElem?_map,Hq h];exact⟨rfl,h1.1⟩
theorem idx_lt{α:Type}{f:X→Bool}{g:X→α}{k i j:X}(h:i<j)(hj:j<(Gk f g k).length):idx f k i<idx f k j:=by
 unfold Gk at hj;rw[List.length_map]at hj;have hp:((List.range k).filter f).Pairwise (·<·):=List.Pairwise.sublist List.filter_sublist List.pairwise_lt_range;have:=List.pairwise_iff_getElem.1 hp i j qg hj h;unfold idx;rw[Hq hj,Hq qg];exact this
def c3v(x:Z×Z×ByteArray):L Z:=[x.1,x.2.1,S x.2.2]
theorem Qw:∀(l:L (Z×Z×ByteArray)) (j t:X) (x:Z×Z×ByteArray),t<3→l[j]?=M x→(l.flatMap c3v)[j*3+t]?=(c3v x)[t]?
 | [],j,t,x,_,h=>by simp at h
 | y::l,0,t,x,ht,h=>by
   simp only[List.getElem?_cons_zero,Option.some.injEq]at h;subst h;rw[List.flatMap_cons,List.getElem?_append_left (by simp[c3v];omega),Nat.zero_mul,Nat.zero_add]
 | y::l,j+1,t,x,ht,h=>by
   rw[List.getElem?_cons_succ]at h;rw[List.flatMap_cons,List.getElem?_append_right (by simp[c3v];omega),show(j+1)*3+t-(c3v y).length=j*3+t by simp[c3v];omega];exact Qw l j t x ht h
theorem Vc{f:X→Bool}(h:j<(Gk f (qx R) k).length):qx (Gk f (qx R) k) j=qx R (idx f k j):=by
 have h1:=(Ks h).1;unfold qx at h1 ⊢;rw[gG,h1];rfl
theorem Dv.pick{v:Z}{xs:L Z}{cv:X→Z}(h:Dv w B v R xs cv lv)(f:X→Bool)(hr:w.ownsRow B 73 3 qv (Gk f (λi=>(cv i,lv i,(qx R i).out)) R.length).length ((Gk f (λi=>(cv i,lv i,(qx R i).out)) R.length).flatMap c3v)):Dv w B qv (Gk f (qx R) R.length) ((Gk f (λi=>(cv i,lv i,(qx R i).out)) R.length).flatMap c3v) (λj=>cv (idx f R.length j)) (λj=>lv (idx f R.length j)):=by
 have hl:=sel_len f (λi=>(cv i,lv i,(qx R i).out)) (qx R) R.length;refine⟨by rw[←hl];exact hr,λi hi=>?_,λi hi=>?_,λi hi=>?_,λi j n9 hj b e1=>?_,λi j n9 hj b e1=>?_⟩
 ·have h1:=(Ks (f:=f) (g:=λi=>(cv i,lv i,(qx R i).out)) (k:=R.length) (j:=i) (by rw[hl];exact hi)).1
  rw[Vc hi];exact⟨by have:=Qw _ i 0 _ qh h1;simpa [c3v] using this,by have:=Qw _ i 1 _ qh h1;simpa [c3v] using this,by have:=Qw _ i 2 _ qh h1;simpa [c3v] using this⟩
 ·rw[Vc hi];exact h.code _ (Ks hi).2
 ·rw[Vc hi];exact h.look _ (Ks hi).2
 ·exact h.apc _ _ (idx_lt n9 hj) (Ks hj).2 b e1
 ·exact h.apl _ _ (idx_lt n9 hj) (Ks hj).2 b e1
structure SW (w:E) (lo:X) (T:L By) (R:L T3) (tx qv:Z) (zs:L Z) (kv lv:X→Z):Prop where
 txs:w.ownsRow lo 9 1 tx T.length (Ar T)
 rq:Dv w lo qv R zs kv lv
theorem SW.kept{tx:Z}(h:SW w lo T R tx qv zs kv lv)(hk:∀(e sz n:X)(u:Z)(xs:L Z),w.ownsRow lo e sz u n xs→e≠35→w'.ownsRow lo e sz u n xs):SW w' lo T R tx qv zs kv lv:=
 ⟨hk _ _ _ _ _ h.txs qh,hk _ _ _ _ _ h.rq.row qh,h.rq.fil,λi hi=>by obtain⟨ys,a,b⟩:=h.rq.code i hi;exact⟨ys,hk _ _ _ _ _ a qh,b⟩,λi hi=>by obtain⟨ys,a,b⟩:=h.rq.look i hi;exact⟨ys,hk _ _ _ _ _ a qh,b⟩,h.rq.apc,h.rq.apl⟩
theorem SW.bl{tx:Z}(h:SW w lo T R tx qv zs kv lv)(hb:Bw w w'):SW w' lo T R tx qv zs kv lv:=h.kept λ_ _ _ _ _ ho _=>Ad ho hb
theorem SW.set3{P:X}{tx:Z}(h:SW w lo T R tx qv zs kv lv)(ht:Dl w P 35)(a b c:Z):SW (((w.setCell ⟨P,0,N⟩ a).setCell ⟨P,1,N⟩ b).setCell ⟨P,2,N⟩ c) lo T R tx qv zs kv lv:=h.kept λ_ _ _ _ _ ho he=>Ha ho ht (λe=>he e.symm) a b c
def TrO(B:X)(n:Int)(ss:L S2)(ts:L T2)(T:L By)(R:L T3)(xs:L By)(v:Z)(w':E):Prop:=
 ∃wd T' R' c tx qv zs kv lv,v=Y #[G #[I wd,tx,qv],I c]∧Kx n ss ts T R xs wd T' R' c∧SW w' B T' R' tx qv zs kv lv
theorem SW.nil(w:E)(B:X):SW w B [] [] nS nS [] (λ_=>nS) (λ_=>nS):=⟨Ff _ _,World.ownsRow_nil _ _ _ _,(λi hi=>Wl),(λi hi=>Wl),(λi hi=>Wl),(λi j _ hj=>by simp at hj),(λi j _ hj=>by simp at hj)⟩
theorem Jn.okd{n:Int}{d:BD}(h:Jn n ss ts T R xs d)(h5:d.c≤5):(Jc n T R∧Fx ss ts=0∧xs.length≤200)∧∃s c t,Ew ss ts n.toNat ⟨T,R,[],[],[]⟩ 0 ⟨#[]⟩ xs (.ok s c t)∧d.T=s.T∧d.R=s.R:=by
 rcases h with⟨_,rfl⟩|⟨h0,r,hb,⟨s2,c2,t2,rfl,rfl⟩|⟨b,rfl,rfl⟩|⟨rfl,rfl⟩⟩
 ·exact absurd h5 (show ¬ (9:Int)≤5 from qh)
 ·exact⟨h0,s2,c2,t2,hb,rfl,rfl⟩
 ·have:=Qy b
  have h5:Hx b≤5:=h5;omega
 ·exact absurd h5 (show ¬ (9:Int)≤5 from qh)
theorem rec_at(h:Dv w B (J a n cap) R zs kv lv)(e:R.length=n)(hi:i<n):∃b off,a=M ⟨b,off,N⟩∧w.cell? ⟨b,off+i*3,N⟩=M (kv i)∧w.cell? ⟨b,off+i*3+1,N⟩=M (lv i)∧w.cell? ⟨b,off+i*3+2,N⟩=M (S (qx R i).out):=by
 subst e;obtain⟨f1,f2,f3⟩:=h.fil i hi;have hr:=h.row
 rcases hr.2 with⟨e,h0⟩|⟨g,c,cur,e,_⟩
 ·omega
 ·cases e
  refine⟨g,0,rfl,?_,?_,?_⟩
  ·rw[Nat.zero_add,hr.cellAt _ qg];exact f1
  ·rw[Nat.zero_add,hr.cellAt _ qg];exact f2
  ·rw[Nat.zero_add,hr.cellAt _ qg];exact f3
theorem bool_at{ys:L Bool}(h:w.ownsRow B 4 1 (J a n cap) n (ys.map .bool))(hi:i<n):∃b off v,a=M ⟨b,off,N⟩∧ys[i]?=M v∧w.cell? ⟨b,off+i,N⟩=M (F v):=by
 have hl:ys.length=n:=by have:=h.1;rw[List.length_map]at this;omega
 rcases h.2 with⟨e,h0⟩|⟨g,c,cur,e,_⟩
 ·omega
 ·cases e
  have hi2:i<ys.length:=qg;refine⟨g,0,ys[i],rfl,Hq hi2,?_⟩;rw[Nat.zero_add,h.cellAt _ qg,List.getElem?_map,Hq hi2];rfl
theorem str_at(h:w.ownsRow B 9 1 (J a n cap) n (Ar T))(e:T.length=n)(hi:i<n):∃b off,a=M ⟨b,off,N⟩∧w.cell? ⟨b,off+i,N⟩=M (S (nx T i)):=by
 subst e
 rcases h.2 with⟨e,h0⟩|⟨g,c,cur,e,_⟩
 ·omega
 ·cases e
  refine⟨g,0,rfl,?_⟩;rw[Nat.zero_add,h.cellAt _ qg];unfold Ar nx;exact qma
theorem setC_at{T:TypeId}(h:w.heap[b]?=M (O #[u0,u1,u2] T (0,0)))(v:Z):(w.setCell ⟨b,2,N⟩ v).heap[b]?=M (O #[u0,u1,v] T (0,0)):=by
 rw[jB h v];rfl
theorem setB_at{T:TypeId}(h:w.heap[b]?=M (O #[u0,u1,u2] T (0,0)))(v:Z):(w.setCell ⟨b,1,N⟩ v).heap[b]?=M (O #[u0,v,u2] T (0,0)):=by
 rw[jB h v];rfl
theorem Vg{m:X}(h:Fy m s)(h8:m≤8)(us:L X):Ec (Gm us s.R)∧∀i,i<(Gm us s.R).length→(qx (Gm us s.R) i).out.size≤maxLen∧∀j,j<(qx (Gm us s.R) i).looks.length→(gx (qx (Gm us s.R) i).looks j).sum.size≤maxLen:=by
 have h1:=Ph h;refine⟨⟨?_,λi hi=>?_⟩,λi hi=>?_⟩
 ·have:=Gx (λi=>decide (i∈us)) (qx s.R) s.R.length
  have:=h1.2.1;unfold Gm;omega
 ·unfold Gm at hi ⊢
  rw[Vc hi];have:=h1.2.2 _ (Ks hi).2;exact⟨this.2.1,this.2.2⟩
 ·unfold Gm at hi ⊢
  rw[Vc hi];obtain⟨_,h2,_,h3⟩:=h.2.2 _ (Ks hi).2;refine⟨by rw[h2];unfold maxLen;omega,λj hj=>?_⟩;rw[(h3 j hj).2];unfold maxLen;omega
theorem implTrim_any(n:Int)(tb tf tc nc:X)(na qa sa ta:Option Addr)(qc c1 c2:X)(T:L By)(R:L T3)(ss:L S2)(ts:L T2)(xs:L By)(w:E)(h:ArgL w n tb tf qa sa ta T R ss ts na xs):Calls prog 11 #[G #[I n,J (M ⟨tb,tf,N⟩) T.length tc,J qa R.length qc],G #[J sa ss.length c1,J ta ts.length c2],J na xs.length nc] w λe w'=>Bw w w'/\∃v,e=H v/\TrO w.heap.size n ss ts T R xs v w':=by
 obtain⟨W,eW⟩:=Aj (((w.alloc (O #[I n,J (M ⟨tb,tf,N⟩) T.length tc,J qa R.length qc] 35)).alloc (O #[J sa ss.length c1,J ta ts.length c2] 42)).alloc (O #[I 0,nS,nS] 35));have cj:Bw w W:=qbv;have HQ:Hd (W.heap[w.heap.size]?=M (O #[I n,J (M ⟨tb,tf,N⟩) T.length tc,J qa R.length qc] 35 (0,0))):=qca
 have HP:Hd (W.heap[w.heap.size+1]?=M (O #[J sa ss.length c1,J ta ts.length c2] 42 (0,0))):=by
  exact qdg
 have HZ:Hd (W.heap[w.heap.size+1+1]?=M (O #[I 0,nS,nS] 35 (0,0))):=by
  show _=_;rw[←eW];have:=Fg ((w.alloc (O #[I n,J (M ⟨tb,tf,N⟩) T.length tc,J qa R.length qc] 35)).alloc (O #[J sa ss.length c1,J ta ts.length c2] 42)) (O #[I 0,nS,nS] 35)
  rwa [show((w.alloc (O #[I n,J (M ⟨tb,tf,N⟩) T.length tc,J qa R.length qc] 35)).alloc (O #[J sa ss.length c1,J ta ts.length c2] 42)).heap.size=w.heap.size+2 from qi]at this
 have I0:=Ag HZ.o;have HB:=Ab cj;have Y9:=Ab (all_any n tb tf tc nc na qa sa ta qc c1 c2 T R ss ts xs W (h.bl cj));have Gt:Hd (Fx ss ts=0→Xv ss ts):=λe=>(Mf h.sp e).v;have HTL:Hd (Fx ss ts=0→ts.length≤200):=λe=>(Mf h.sp e).l2;have HTT:=Ab h.st.lt;have HQS:Hd (Ec R):=⟨h.lr,h.lk⟩;obtain⟨q0,q1,q2,qf⟩:=Ci HQ.o;obtain⟨x0,x1⟩:=En HP.o;clear h cj;go_enter func11,ntmps11;go_wp2_with fail;clear eW q0 q1 q2 qf x0 x1;refine Y9.o.mono ?_;rintro e w1 ⟨ag,v,u,rfl,hpm⟩;clear Y9;have fg:=ag.size;replace HQ:=Ab (Ac ag HQ.o);replace HP:=Ab (Ac ag HP.o);replace HZ:=Ab (Ac ag HZ.o);have d6:=Ab (bt HB.o ag);clear HB ag;obtain⟨xc,yt,ca,cn,cc,m,txa,tn,txc,rqa,rqn,rqc,na',nn',nc',ea',en',ec',At,Bt,rfl⟩:=hpm.form;obtain⟨d,cv,tx,qv,nv,ev,zs,kv,lv,hd,hbo,hus⟩:=hpm;obtain⟨⟨a1,b1,e1⟩,⟨a2,b2,e2⟩,⟨a3,b3,e3⟩,⟨a4,b4,e4⟩,⟨a5,b5,e5⟩⟩:=hbo.bw.slices;have jh:=hbo.eq;rw[e1,e2,e3,e4,e5]at jh;simp only[Value.agg.injEq,Array.mk.injEq,List.cons.injEq,Value.int.injEq,Value.string.injEq,Value.slice.injEq,true_and,and_true]at jh;obtain⟨rfl,rfl,⟨rfl,rfl,rfl⟩,rfl,⟨rfl,etn,rfl⟩,⟨rfl,ern,rfl⟩,⟨rfl,rfl,rfl⟩,⟨rfl,rfl,rfl⟩,rfl,rfl⟩:=jh;have HD:=Ab hd;have HUS:=Ab hus;have l7:=Ab hbo.txs;have X7:=Ab hbo.rq;rw[e2,←etn]at l7;rw[e3,←ern]at X7;have ETN:=Ab etn.symm;have ERN:=Ab ern.symm;clear hd hus hbo e1 e2 e3 e4 e5 etn ern;obtain⟨dc,edc⟩:=Aj d.c;have EDC:=Ab edc;rw[edc];clear edc
 go_upto_region 2 with fail
 obtain⟨w2,e2⟩:=Aj (w1.alloc (O #[I dc,S d.t,J ca d.ch.length cc,I d.n,J txa tn txc,J rqa rqn rqc,J na' d.ran.length nc',J ea' d.held.length ec',S d.A,S d.B] 55));have af:=aB e2;have HX:Hd (w2.heap[w1.heap.size]?=M (O #[I dc,S d.t,J ca d.ch.length cc,I d.n,J txa tn txc,J rqa rqn rqc,J na' d.ran.length nc',J ea' d.held.length ec',S d.A,S d.B] 55 (0,0))):=by show _=_;rw[←e2];exact Fg _ _
 rw[e2];obtain⟨AJ,eD⟩:=Aj w1.heap.size;rw[eD]at HX ⊢;have hDw:W.heap.size≤AJ:=qg;have hD2:=Ag HX.o;have hD1:AJ+1=w2.heap.size:=by rw[←e2,←eD];simp
 clear e2;replace HQ:=Ab (Ac af HQ.o);replace HZ:=Ab (Ac af HZ.o);have dy:=Ab (bt d6.o af);replace l7:=Ab (Ad l7.o af);replace X7:=Ab (X7.o.bl af);have HUB:=Ab (λ(e sz k:X) (z:Z) (l:L Z) (q:w1.ownsRow W.heap.size e sz z k l)=>Ad q af);clear af d6 HP fg
 by_cases h5:5<dc
 ·have rd:Hd (Kx n ss ts T R xs 0 [] [] dc):=⟨d,HD.o,Or.inl ⟨by rw[EDC.o];exact h5,rfl,rfl,rfl,EDC.o.symm⟩⟩
  obtain⟨y0,y1,y2,y3,y4,y5,y6,y7,y8,y9⟩:=Mi HX.o;go_wp2_with fail;clear y0 y1 y2 y3 y4 y5 y6 y7 y8 y9;obtain⟨U,eU⟩:=Aj w2.drew;have be:Bw w2 U:=qan;have HXU:=Ab (Ac be HX.o);have HZU:=Ab (Ac be HZ.o);have kh:=Ab (bt dy.o be);have br:=Ab ((Mi HXU.o).1);clear be;refine Lt.begin 99 (λw'=>w'.cell? ⟨AJ,0,N⟩=M (I dc)) qk ?_;rw[eU];clear eU;change K 0 _
  iterate 3
   refine Lt.ti (v:=?_) br.o ?_ ?_;rotate_left 1
   ·intro w s1
    try dsimp only at s1
    exact qae
   simp only[gX]
  obtain⟨z0,z1,z2,zf⟩:=Ci HZU.o;obtain⟨V,eV⟩:=Aj (((U.setCell ⟨w.heap.size+1+1,0,N⟩ (I 0)).setCell ⟨w.heap.size+1+1,1,N⟩ nS).setCell ⟨w.heap.size+1+1,2,N⟩ nS);(have HVZ:Hd (V.heap[w.heap.size+1+1]?=M (O #[I 0,nS,nS] 35 (0,0))):=by show _=_;rw[←eV];exact Ba HZU.o _ _ _);(have HVD:Hd (V.cell? ⟨AJ,0,N⟩=M (I dc)):=by show _=_;rw[←eV,Ce (Ea (show AJ≠w.heap.size+1+1 from qg) _ _ _)];exact br.o);(have gj:Hd (Bw w V):=by show Below _ _ _;rw[←eV];exact Co kh.o qg _ _ _);refine Lt.sp (i:=3) (λK hK=>?_);go_simp
  try rw[eV]
  refine hK.out _ _ (λ_=>HVD.o) (λ_=>?_);clear hK K z0 z1 z2 zf eV
  try simp only[gX]
  refine Lt.sp (i:=4) (λK hK=>?_);go_simp;refine hK.out _ _ (λ_=>HVD.o) (λ_=>?_);clear hK K
  try simp only[gX]
  refine Lt.done qk ?_ _;go_wp2_with fail;obtain⟨y0,y1,y2,-⟩:=Ci HVZ.o;exact bR (v:=Y #[G #[I 0,nS,nS],I dc]) (by simp[results,results11,go_sem,y0,y1,y2]) rfl ⟨gj.o,_,rfl,0,[],[],dc,_,_,_,_,_,rfl,rd.o,SW.nil _ _⟩
 obtain⟨uf,s,c0,t0,ik,eT,eR⟩:=HD.o.okd qdb;obtain⟨s2,A2,t2,ys,hall2,dm,hur,rm⟩:=HUS.o qdb;have:=Ew.uniq (Gt.o uf.2.1) ik hall2;cases this;have HSB:=Ab (ik.small (Gt.o uf.2.1) (HTL.o uf.2.1) (show Fy n.toNat ⟨T,R,[],[],[]⟩ from uf.1.2.2) s c0 t0 rfl).1;have rd:Hd (Kx n ss ts T R xs n (Iw n.toNat s.T (Gm s.us s.R)) (Gm s.us s.R) 0):=⟨d,HD.o,Or.inr ⟨qdb,uf.2.1,rfl,rfl,s,c0,t0,ik,rfl,rfl⟩⟩;replace hur:=HUB.o _ _ _ _ _ hur;obtain⟨ua,uc,rfl⟩:=Al hur;rw[eT]at l7 ETN;rw[eR]at X7 ERN;rw[eR,ERN.o]at hur;rw[eR,ERN.o];have HUR:=Ab hur;clear hur;have um:=Ab rm;obtain⟨m,rfl⟩:=Int.eq_ofNat_of_zero_le (show 0<=n by have:=uf.1.1;omega);have hm8:m≤8:=zo uf.1.2.1;have sd:1≤m:=zo uf.1.1;replace HSB:=Ab HSB;have hrq2:rqn≤2000:=by rw[←ERN.o];exact HSB.o.2.1
 have htn2:tn≤5000:=by rw[←ETN.o];exact HSB.o.1.1
 clear ik hall2 dm uf rm HUS HUB HD Gt HTL HTT HQS;obtain⟨y0,y1,y2,y3,y4,y5,y6,y7,y8,y9⟩:=Mi HX.o;obtain⟨q0,q1,q2,qf⟩:=Ci HQ.o
 go_upto_region 5 with fail
 clear y0 y1 y2 y3 y4 y5 y6 y7 y8 y9 q0 q1 q2 qf;obtain⟨w3,e3⟩:=Aj (w2.alloc (O #[I m,nS,nS] 35));have au:=aB e3;have A6:Hd (w3.heap[w2.heap.size]?=M (O #[I m,nS,nS] 35 (0,0))):=by show _=_;rw[←e3];exact Fg _ _
 have hO3:w2.heap.size+1=w3.heap.size:=by rw[←e3];simp
 rw[e3];obtain⟨AD,eO⟩:=Aj w2.heap.size;have HX3:=Ab (Ac au HX.o);rw[eO]at A6 hO3 au hD1 hD2 ⊢;have ia:=Ab au;obtain⟨y0,y1,y2,y3,y4,y5,y6,y7,y8,y9⟩:=Mi HX3.o;clear e3 au;obtain⟨f,ef⟩:∃y:X→Bool,(λi=>decide (i∈s.us))=y:=⟨_,rfl⟩;obtain⟨g,eg⟩:∃y:X→Z×Z×ByteArray,(λi=>(kv i,lv i,(qx s.R i).out))=y:=⟨_,rfl⟩;have EF:=Ab ef;have EG:=Ab eg;have D2:Hd (∀i,f i=true↔ys[i]?=M true):=λi=>by rw[←ef,decide_eq_true_iff,um.o i]
 clear ef eg;go_wp2;clear y0 y1 y2 y3 y4 y5 y6 y7 y8 y9
 go_loopw [34] (λi wr=>∃(k:X)(q:Z),k≤rqn∧i=I k∧Hd (wr.heap[AD]?=M (O #[I m,nS,q] 35 (0,0)))∧Hd (wr.ownsRow (AD+1) 73 3 q (Gk f g k).length ((Gk f g k).flatMap c3v))∧Hd (Below AD w2 wr)) (λi _=>rqn-(intOf i).toNat)
 case atStart=>exact⟨0,_,Nat.zero_le _,rfl,A6.o,World.ownsRow_nil _ _ _ _,ia.o⟩
 case round=>
  clear A6 ia HX3 hO3;obtain⟨k,q,hk,rfl,HO,HW,jl⟩:=hrel;(have fu:Hd (Bw w2 wr):=by have q:=jl.o;rw[←eO]at q;exact q);obtain⟨me,l8,rfl⟩:=Al HW.o;obtain⟨l,el⟩:=Aj ((Gk f g k).length);have EL:=Ab el;(have nr:l≤k:=by rw[←el];exact Gx _ _ _);rw[el]at HO HW;clear el
  by_cases ai:k<rqn
  ·have fs:(k:Int)<(rqn:Int):=qg
   obtain⟨b,off,rfl,r1,r2,r3⟩:=rec_at (X7.o.bl fu.o) ERN.o ai;obtain⟨ub,uo,v,rfl,hyv,hcv⟩:=bool_at (Ad HUR.o fu.o) ai;obtain⟨cs,V5,-⟩:=X7.o.code k qey;obtain⟨ls,uu,-⟩:=X7.o.look k qey;obtain⟨ka,kc,ekv⟩:=Al V5;obtain⟨la,lc,elv⟩:=Al uu;obtain⟨o,eo⟩:=Aj ((qx s.R k).out);obtain⟨kn,ekn⟩:=Aj ((qx s.R k).code.length);obtain⟨ln,eln⟩:=Aj ((qx s.R k).looks.length);rw[ekn]at ekv;rw[eln]at elv;rw[ekv]at r1;rw[elv]at r2;rw[eo]at r3;have EGK:Hd (g k=(J ka kn kc,J la ln lc,o)):=by show _=_;rw[←EG.o,←ekv,←elv,←eo]
   have HFK:Hd (f k=v):=by
    exact qlf
   clear hyv V5 uu ekv elv eo ekn eln;obtain⟨AM,eX⟩:=Aj (wr.alloc (O #[J ka kn kc,J la ln lc,S o] 73));have xd:Bw wr AM:=qhl;have HXX:Hd (AM.heap[wr.heap.size]?=M (O #[J ka kn kc,J la ln lc,S o] 73 (0,0))):=qhh;have HOX:=Ab (Ac xd HO.o);have X1:=Ab (Ad HW.o xd);have hOr:=Ag HO.o;have HBX:=Ab (jl.o.trans (xd.mono qg));have hcX:=Aa xd hcv;clear xd jl HW HO fu;obtain⟨i0,hi,bq,bi,ci⟩:=info_parts Tryz.info97x;cases v
   ·have ct:=Ab (Qah (g:=g) HFK.o)
    (have HRE:Hd (AM.ownsRow (AD+1) 73 3 (J me l l8) (Gk f g (k+1)).length ((Gk f g (k+1)).flatMap c3v)):=by show AM.ownsRow _ _ _ _ _ _;rw[ct.o,EL.o];exact X1.o);clear X1;go_wp2;go_roundw
    case rel=>exact⟨k+1,_,qg,qm,HOX.o,HRE.o,HBX.o⟩
    case measure=>simp[intOf];omega
   ·have ct:=Ab (Ug (g:=g) HFK.o)
    obtain⟨AK,eY⟩:=Aj (AM.alloc (O #[J ka kn kc,J la ln lc,S o] 73));have hbY:=aB eY;(have HYN:Hd (AK.heap[AM.heap.size]?=M (O #[J ka kn kc,J la ln lc,S o] 73 (0,0))):=by show _=_;rw[←eY];exact Fg _ _);have HOY:=Ab (Ac hbY HOX.o);have HWY:=Ab (Ad X1.o hbY);have HBY:=Ab (HBX.o.trans (hbY.mono (zo (Ag HOX.o))));have hOY:=Ag HOY.o;obtain⟨o0,o1,o2,of⟩:=Ci HOX.o;obtain⟨x0,x1,x2,xf⟩:=Ci HXX.o;clear hbY
    go_wp2_with (first|(at_builtin;refine wpList_append_own _ rfl (.tmp 44) (.tmp 46) 33 rfl (AD+1) 73 i0 (G #[nS,nS,ze]) 3 64 underlying33 hi bq bi ci rfl qh (J me l l8) l _ rfl HWY.o ⟨AM.heap.size,0,N⟩ 1 1 [J ka kn kc,J la ln lc,S o] rfl rfl (World.news_of_block (cs:=#[J ka kn kc,J la ln lc,S o]) HYN.o) (by intro u hu;simp at hu;rcases hu with rfl|rfl|rfl<;>rfl) qq qg hOY ?_;intro v' w5 ah ae dj;obtain⟨ya,yc,evw⟩:=Al ah;subst evw;have hO5:=Bh HOY.o ae (Ae HWY.o qh HOY.o);obtain⟨p0,p1,p2,pf⟩:=Ci hO5))
    clear o0 o1 o2 of x0 x1 x2 xf p0 p1 p2 pf;go_roundw
    case rel=>
     refine⟨k+1,J ya (l+1) yc,qg,qm,?_,?_,?_⟩
     ·exact setC_at hO5 _
     ·show World.ownsRow _ _ _ _ _ _ _
      rw[ct.o,EGK.o,List.length_append,EL.o,List.flatMap_append];exact Ak ah ⟨_,hO5⟩ qh _
     ·exact(HBY.o.grown ae qg (λj hj=>by have:=(HWY.o.lt j hj).1;omega)).setCell (p:=⟨AD,2,N⟩) (Nat.le_refl _) _
    case measure=>simp[intOf];omega
  ·have fs:¬ (k:Int)<(rqn:Int):=qg
   obtain rfl:k=rqn:=qg;have hOr:=Ag HO.o
   have I5:Hd (Dv wr W.heap.size (J me l l8) (Gm s.us s.R) ((Gk f g k).flatMap c3v) (λj=>kv (idx f k j)) (λj=>lv (idx f k j))):=by
    have h1:=(X7.o.bl fu.o).pick f (qv:=J me l l8) (by rw[EG.o,ERN.o,EL.o];exact Ah HW.o qg);rw[EG.o,ERN.o]at h1;unfold Gm;rw[EF.o,ERN.o];exact h1
   obtain⟨Q,eQ⟩:=Aj (Gm s.us s.R);have HPS:=Ab (Vg HSB.o hm8 s.us);rw[eQ]at I5 HPS rd;clear eQ
   have hQl:Q.length=l:=by
    have h1:=I5.o.row;obtain⟨a',c',e⟩:=Al h1;simp only[Value.slice.injEq]at e;exact e.2.1.symm
   obtain⟨To,S9,e2,hrq⟩:=I5.o.rowQ;(obtain⟨rfl,-,rfl⟩:me=To∧l=Q.length∧l8=S9:=by simpa using e2);have HSN:=Ab (Uu me l8 Q wr hrq HPS.o.1 HPS.o.2);rw[hQl]at HSN;clear hrq e2;obtain⟨o0,o1,o2,of⟩:=Ci HO.o;go_wp2_with fail;clear o0 o1 o2 of;refine HSN.o.mono ?_;rintro e w4 ⟨bp,AB,f2,rfl,hmc,te⟩;have py:=Ab (dy.o.trans (fu.o.mono dy.o.size));have HX4:=Ab (Ac bp (Ac fu.o HX.o));have HQ4:=Ab (Ac bp (Ac fu.o HQ.o));have HZ4:=Ab (Ac bp (Ac fu.o HZ.o));have tm:=Ab (Ad (Ad l7.o fu.o) bp);have pk:=Ab (Ac bp HO.o);have lp:=Ab (I5.o.bl bp);have ox:=Ab (bt py.o bp);have HMC:=Ab hmc;have fj:=Ab te;have h4s:=bp.size;clear bp hmc te HX HQ HZ l7 HO I5 jl fu py HW HSN X7 HUR um D2 EF EG EL
   go_upto_region 12 with fail
   obtain⟨w5,e5⟩:=Aj (w4.alloc (O #[.map (M wr.heap.size)] 82));have co:Bw w4 w5:=qeq;(have HN5:Hd (w5.cell? ⟨w4.heap.size,0,N⟩=M (.map (M wr.heap.size))):=by show _=_;rw[←e5];simp[go_sem]);(have h5s:w4.heap.size+1=w5.heap.size:=by rw[←e5];simp);rw[e5];replace HX4:=Ab (Ac co HX4.o);replace HQ4:=Ab (Ac co HQ4.o);replace HZ4:=Ab (Ac co HZ4.o);replace tm:=Ab (Ad tm.o co);replace pk:=Ab (Ac co pk.o);replace lp:=Ab (lp.o.bl co);replace ox:=Ab (bt ox.o co);replace HMC:=Ab (HMC.o.bl co);clear co e5;obtain⟨u1,eu⟩:=Aj ((w5.alloc (O #[J txa tn txc] 22)).alloc (O #[.func (.func 35) #[] #[D (p_ w4.heap.size),D (p_ w.heap.size)]] 88));(have hbu:Bw w5 u1:=by rw[←eu];exact Ay (Ai _ _) (Ai _ _));(have hsu:u1.heap.size=w5.heap.size+1+1:=by rw[←eu];simp);have yx:Hd (Calls prog 34 #[J txa tn txc,.func (.func 35) #[] #[D (p_ w4.heap.size),D (p_ w.heap.size)]] w5 λe w'=>e=H (.func (.func 63) #[] #[D (p_ w5.heap.size),D (p_ (w5.heap.size+1))])∧w'=u1):=by rw[←eu];exact thoseF_any txa tn txc _ _ w5
   have HSQ:=Ab (those_stops 2 w5.heap.size (w5.heap.size+1) u1.heap.size tn txc (D (p_ w4.heap.size)) (D (p_ w.heap.size)) txa (nx s.T) (Ht m s.T Q) qh qg u1 (Nat.le_refl _) qg qg (by rw[←eu];simp[go_sem]) (by rw[←eu];simp[go_sem])
    (λW' hW i hi=>str_at (Ad (Ad tm.o hbu) hW) ETN.o hi)
    (λW' hW i hi=>by
      have cj:=bt hbu hW;have h1:=Zk m w4.heap.size w.heap.size wr.heap.size AB f2 (nx s.T i) W' (Aa cj HN5.o) (Aa cj (Ci HQ4.o).1) (HMC.o.bl cj) sd hm8 (zo (HSB.o.1.2.1 i (by rw[ETN.o];exact hi)))
      have h2:decide (0<f2 (Ap m (nx s.T i)))=Ht m s.T Q i:=by
       by_cases h3:0<f2 (Ap m (nx s.T i))
       ·rw[decide_eq_true h3];exact(Rf.2 ((fj.o _).1 h3)).symm
       ·rw[decide_eq_false h3]
        cases h4:Ht m s.T Q i
        ·rfl
        ·exact absurd ((fj.o _).2 (Rf.1 h4)) h3
      rw[h2]at h1;exact h1))
   have gt:=Ab (collect_any w5.heap.size (w5.heap.size+1) tn (nx s.T) (Ht m s.T Q) qg u1 HSQ.o);obtain⟨y0,y1,y2,y3,y4,y5,y6,y7,y8,y9⟩:=Mi HX4.o;clear HSQ eu;go_wp2_with fail;clear y0 y1 y2 y3 y4 y5 y6 y7 y8 y9;refine yx.o.mono ?_;rintro e w6 ⟨rfl,rfl⟩;clear yx;go_wp2_with fail;refine gt.o.mono ?_;rintro e w7 ⟨v,rfl,hv,bo⟩;clear gt;have xj:=bt hbu bo;obtain⟨va,vc,rfl⟩:=Al hv;have HO7:=Ab (Ac xj pk.o);have HZ7:=Ab (Ac xj HZ4.o);have t8:=Ab (bt ox.o xj)
   have up:Hd (SW w7 w.heap.size (Iw m s.T Q) Q (J va (Iw m s.T Q).length vc) (J me Q.length l8) ((Gk f g k).flatMap c3v) (λj=>kv (idx f k j)) (λj=>lv (idx f k j))):=by
    have h1:=lp.o.bl xj;rw[←hQl]at h1;(have hv2:w7.ownsRow w6.heap.size 9 1 (J va (Iw m s.T Q).length vc) (Iw m s.T Q).length (Ar (Iw m s.T Q)):=by unfold Iw;rw[ETN.o];exact hv);exact⟨Ah hv2 (zo ox.o.size),⟨Ah h1.row qg,h1.fil,λi hi=>by obtain⟨ys',a,b⟩:=h1.code i hi;exact⟨ys',Ah a qg,b⟩,λi hi=>by obtain⟨ys',a,b⟩:=h1.look i hi;exact⟨ys',Ah a qg,b⟩,h1.apc,h1.apl⟩⟩
   (have se:(Gk (Ht m s.T Q) (nx s.T) tn).length=(Iw m s.T Q).length:=by unfold Iw;rw[ETN.o]);rw[se];obtain⟨vl,evl⟩:=Aj ((Iw m s.T Q).length);rw[evl]at up ⊢;rw[hQl]at up;clear se evl hv bo xj hbu;obtain⟨o0,o1,o2,of⟩:=Ci HO7.o;obtain⟨w8,e8⟩:=Aj (w7.setCell ⟨AD,1,N⟩ (J va vl vc));(have HO8:Hd (w8.heap[AD]?=M (O #[I m,J va vl vc,J me l l8] 35 (0,0))):=by show _=_;rw[←e8];exact setB_at HO7.o _);(have gk:Hd (SW w8 w.heap.size (Iw m s.T Q) Q (J va vl vc) (J me l l8) ((Gk f g k).flatMap c3v) (λj=>kv (idx f k j)) (λj=>lv (idx f k j))):=by show SW _ _ _ _ _ _ _ _ _;rw[←e8];exact up.o.kept λ_ _ _ _ _ ho he=>Ak ho ⟨_,HO7.o⟩ (λe=>he e.symm) _);have hOP:AD≠w.heap.size+1+1:=qg;(have oa:Hd (w8.heap[w.heap.size+1+1]?=M (O #[I 0,nS,nS] 35 (0,0))):=by show _=_;rw[←e8,Dm _ ⟨AD,1,N⟩ _ _ (λe=>hOP e.symm)];exact HZ7.o);have B6:Hd (Bw w w8):=by show Below _ _ _;rw[←e8];exact t8.o.setCell (p:=⟨AD,1,N⟩) (by show w.heap.size≤AD;omega) _
   go_upto_region 13 with fail
   try rw[e8]
   clear o0 o1 o2 of e8 HO7 up HZ7 t8;obtain⟨o0,o1,o2,of⟩:=Ci HO8.o;obtain⟨z0,z1,z2,zf⟩:=Ci oa.o;go_wp2_with fail;obtain⟨y0,y1,y2,-⟩:=Ci (Ba oa.o (I m) (J va vl vc) (J me l l8));refine bR (v:=Y #[G #[I m,J va vl vc,J me l l8],I 0]) (by simp only[results,results11,go_sem];simp[go_sem,y0,y1,y2]) rfl ⟨Co B6.o qg _ _ _,_,rfl,m,_,Q,0,_,_,_,_,_,rfl,rd.o,gk.o.set3 ⟨_,oa.o⟩ _ _ _⟩
end Go.Proofs.YtnflkpmmfpfhlaaGreatDoor
