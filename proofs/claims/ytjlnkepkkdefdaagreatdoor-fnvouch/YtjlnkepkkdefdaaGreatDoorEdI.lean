import Derived.Test.YtjlnkepkkdefdaaGreatDoorTClB
import Derived.Test.YtjlnkepkkdefdaaGreatDoorEdC
namespace Go.Proofs.YtjlnkepkkdefdaaGreatDoor
open Go.RowKit Go.Deep
set_option linter.unusedVariables false
set_option linter.unusedSimpArgs false
inductive Ev (ss:List S2) (ts:List T2):Nat->Job->Md->Prop
 | source {nm i}:i<ss.length->(sx ss i).name=nm->Ev ss ts 0 (.make nm) ⟨0,(sx ss i).text,[]⟩
 | missing {nm}:¬ Lm ss ts nm->Ev ss ts 0 (.make nm) ⟨4,nm,[]⟩
 | made {nm i k d}:¬ Fi (Ai ss) nm->i<ts.length->(tx ts i).name=nm->Ev ss ts k (.run (tx ts i).code [] []) d->Ev ss ts (k+1) (.make nm) d
 | over {is ys ls c t n}:Az is ys Gc (.over c t n)->Ev ss ts 0 (.run is ys ls) ⟨c,t,ls⟩
 | has {is ys ls nm n k d}:Az is ys Gc (.wait false nm n)->Ev ss ts k (.run is (ys++[⟨Cb ss ts nm,0,⟨#[]⟩⟩]) (ls++[⟨nm,false,Cw (Cb ss ts nm)⟩])) d->Ev ss ts k (.run is ys ls) d
 | asked {is ys ls nm n k k' d d'}:Az is ys Gc (.wait true nm n)->Ev ss ts k (.make nm) d->Ev ss ts k' (.run is (ys++[Kw ss ts nm d]) (ls++[⟨nm,true,Bn d.c d.t⟩])) d'->Ev ss ts (max k k') (.run is ys ls) d'
theorem Ev.unique {ss:List S2} {ts:List T2} (hs:Ey (Ai ss)) (ht:Ey (Ae ts)) {k:Nat} {j:Job} {d:Md} (h:Ev ss ts k j d):∀ {k' d'},Ev ss ts k' j d'->k'=k/\d'=d:=by
 induction h with
 | source h1 h2=>
  intro k' d' h'
  cases h' with
  | source k1 k2=>cases src_inj hs k1 h1 (k2.trans h2.symm);exact⟨rfl,rfl⟩
  | missing k1=>exact absurd (Or.inl (h2▸Dm h1)) k1
  | made k1=>exact absurd (h2▸Dm h1) k1
 | missing h1=>
  intro k' d' h'
  cases h' with
  | source k1 k2=>exact absurd (Or.inl (k2▸Dm k1)) h1
  | missing k1=>exact⟨rfl,rfl⟩
  | made k1 k2 k3=>exact absurd (Or.inr (k3▸Dv k2)) h1
 | made h1 h2 h3 h4 ih=>
  intro k' d' h'
  cases h' with
  | source k1 k2=>exact absurd (k2▸Dm k1) h1
  | missing k1=>exact absurd (Or.inr (h3▸Dv h2)) k1
  | made k1 k2 k3 k4=>
   cases Il ht k2 h2 (k3.trans h3.symm)
   obtain⟨e,e'⟩:=ih k4;exact⟨by rw[e],e'⟩
 | over h1=>
  intro k' d' h'
  cases h' with
  | over k1=>cases h1.unique k1;exact⟨rfl,rfl⟩
  | has k1=>cases h1.unique k1
  | asked k1=>cases h1.unique k1
 | has h1 h2 ih=>
  intro k' d' h'
  cases h' with
  | over k1=>cases h1.unique k1
  | has k1 k2=>cases h1.unique k1;exact ih k2
  | asked k1=>cases h1.unique k1
 | asked h1 h2 h3 ih1 ih2=>
  intro k' d' h'
  cases h' with
  | over k1=>cases h1.unique k1
  | has k1=>cases h1.unique k1
  | asked k1 k2 k3=>
   cases h1.unique k1
   obtain⟨e,e'⟩:=ih1 k2;subst e;subst e';obtain⟨e,e'⟩:=ih2 k3;subst e;subst e';exact⟨rfl,rfl⟩
def Snd (ss:List S2) (ts:List T2) (ms:Ms):Prop:=∀ nm d,lk ms nm=some (some d)->∃ k,Ev ss ts k (.make nm) d
theorem Snd.app {ss:List S2} {ts:List T2} {ms:Ms} (h:Snd ss ts ms) {nm:ByteArray} {o:Option Md} (hn:lk ms nm=none) (ho:∀ d,o=some d->∃ k,Ev ss ts k (.make nm) d):Snd ss ts (ms++[(nm,o)]):=fun x d hx=>by
 by_cases e:nm=x
 ·subst e;rw[Dp hn] at hx;cases hx;exact ho _ rfl
 ·rw[Bw e] at hx;exact h x d hx
theorem Snd.set {ss:List S2} {ts:List T2} {ms:Ms} (h:Snd ss ts ms) {nm:ByteArray} {d:Md} {k:Nat} (ho:Ev ss ts k (.make nm) d):Snd ss ts (Fx ms nm d):=fun x d' hx=>by
 by_cases e:nm=x
 ·subst e
  cases hl:lk ms nm with
  | none=>rw[Gq,<- Mo ms nm d,<- Gq] at hl;rw[hl] at hx;cases hx
  | some y=>rw[Gp hl] at hx;cases hx;exact⟨k,ho⟩
 ·rw[Ft e] at hx;exact h x d' hx
theorem Av.ev {ss:List S2} {ts:List T2} {ms:Ms} {st:List ByteArray} {j:Job} {ms':Ms} {a:Um} (h:Av ss ts ms st j ms' a):Snd ss ts ms->∀ d,a=.ok d->(∃ k,Ev ss ts k j d)/\Snd ss ts ms':=by
 induction h with
 | known h1=>intro hi d e;cases e;exact⟨hi _ _ h1,hi⟩
 | circle=>intro _ d e;cases e
 | source h1 h2 h3=>intro hi d e;cases e;exact⟨⟨_,.source h2 h3⟩,hi.app h1 fun d e=>by cases e;exact⟨_,.source h2 h3⟩⟩
 | missing h1 h2=>intro hi d e;cases e;exact⟨⟨_,.missing h2⟩,hi.app h1 fun d e=>by cases e;exact⟨_,.missing h2⟩⟩
 | deep=>intro _ d e;cases e
 | made h1 h2 h3 h4 h5 h6 ih=>
  intro hi d e;cases e;obtain⟨⟨k,hk⟩,hs⟩:=ih (hi.app h1 fun d e=>by cases e) _ rfl;exact⟨⟨_,.made h2 h3 h4 hk⟩,hs.set (.made h2 h3 h4 hk)⟩
 | fell h1 h2 h3 h4 h5 h6 h7=>intro _ d e;subst e;exact absurd h7 id
 | over h1=>intro hi d e;cases e;exact⟨⟨_,.over h1⟩,hi⟩
 | has h1 h2 ih=>
  intro hi d e;obtain⟨⟨k,hk⟩,hs⟩:=ih hi d e;exact⟨⟨_,.has h1 hk⟩,hs⟩
 | asked h1 h2 h3 ih1 ih2=>
  intro hi d e;obtain⟨⟨k,hk⟩,hs⟩:=ih1 hi _ rfl;obtain⟨⟨k',hk'⟩,hs'⟩:=ih2 hs d e;exact⟨⟨_,.asked h1 hk hk'⟩,hs'⟩
 | askfell h1 h2 h3=>intro _ d e;subst e;exact absurd h3 id
theorem step_name {is:List I3} {s s':St} {ask:Bool} {nm:ByteArray} (h:Bk is s=.look ask nm s'):Aq nm:=by
 unfold Bk at h
 split at h
 ·cases h
 ·split at h
  ·cases h
  ·simp only[Iu] at h
   split at h
   ·cases h
   ·split at h
    ·cases h
    ·split at h
     ·cases h
     ·split at h
      ·split at h
       ·cases h
       ·split at h
        ·cases h
        ·rename_i h1 h2
         injection h with e1 e2 e3;rw[<- e2];exact Classical.not_not.mp h1
      ·split at h<;>cases h
theorem Vd {is:List I3} {ys:List R3} {s:St} {r:Res} (h:Az is ys s r):∀ {ask nm n},r=.wait ask nm n->Aq nm:=by
 induction h with
 | over=>intro ask nm n e;cases e
 | go _ _ ih=>exact ih
 | wait h1=>intro ask nm n e;cases e;exact step_name h1
 | ans _ _ _ _ ih=>exact ih
 | «end»=>intro ask nm n e;cases e
theorem Ev.does {ss:List S2} {ts:List T2} (hs:Ey (Ai ss)) (ht:Ey (Ae ts)) {k:Nat} {j:Job} {d:Md} (h:Ev ss ts k j d):∀(ms:Ms) (st:List ByteArray),Snd ss ts ms->(∀ y,lk ms y=some none->∃ m e,k<m/\Ev ss ts m (.make y) e)->st.length+k<=60->∃ ms',Av ss ts ms st j ms' (.ok d)/\Snd ss ts ms'/\∀ y,lk ms' y=some none->lk ms y=some none:=by
 have hmake:∀ {nm k d},Ev ss ts k (.make nm) d->∀(ms:Ms) (st:List ByteArray),Snd ss ts ms->(∀ y,lk ms y=some none->∃ m e,k<m/\Ev ss ts m (.make y) e)->(lk ms nm=none->∃ ms',Av ss ts ms st (.make nm) ms' (.ok d)/\Snd ss ts ms'/\∀ y,lk ms' y=some none->lk ms y=some none)->∃ ms',Av ss ts ms st (.make nm) ms' (.ok d)/\Snd ss ts ms'/\∀ y,lk ms' y=some none->lk ms y=some none:=by
  intro nm k d h ms st hm hb hn
  cases hl:lk ms nm with
  | none=>exact hn hl
  | some o=>
   cases o with
   | none=>
    obtain⟨m,e,h1,h2⟩:=hb nm hl;have:=(h.unique hs ht h2).1;omega
   | some d'=>
    obtain⟨k',h'⟩:=hm nm d' hl;obtain⟨_,e⟩:=h.unique hs ht h';subst e;exact⟨ms,.known hl,hm,fun y hy=>hy⟩
 have hnew:∀ {ms:Ms} {nm:ByteArray} {d:Md},lk ms nm=none->∀ y,lk (ms++[(nm,some d)]) y=some none->lk ms y=some none:=fun {ms nm d} hl y hy=>by
  by_cases e:nm=y
  ·subst e;rw[Dp hl] at hy;cases hy
  ·rw[Bw e] at hy;exact hy
 induction h with
 | source h1 h2=>
  intro ms st hm hb hk;exact hmake (.source h1 h2) ms st hm hb fun hl=>⟨_,.source hl h1 h2,hm.app hl fun d e=>by cases e;exact⟨_,.source h1 h2⟩,hnew hl⟩
 | missing h1=>
  intro ms st hm hb hk;exact hmake (.missing h1) ms st hm hb fun hl=>⟨_,.missing hl h1,hm.app hl fun d e=>by cases e;exact⟨_,.missing h1⟩,hnew hl⟩
 | @made nm i k d h1 h2 h3 h4 ih=>
  intro ms st hm hb hk;refine hmake (.made h1 h2 h3 h4) ms st hm hb fun hl=>?_
  obtain⟨ms',h5,h6,h7⟩:=ih (ms++[(nm,none)]) (st++[nm]) (hm.app hl fun d e=>by cases e) (fun y hy=>by
   by_cases e:nm=y
   ·subst e;exact⟨k+1,d,by omega,.made h1 h2 h3 h4⟩
   ·rw[Bw e] at hy;obtain⟨m,e',h8,h9⟩:=hb y hy;exact⟨m,e',by omega,h9⟩) (by simp;omega)
  refine⟨_,.made hl h1 h2 h3 (by omega) h5,h6.set (.made h1 h2 h3 h4),fun y hy=>?_⟩
  by_cases e:nm=y
  ·subst e
   cases hq:lk ms' nm with
   | none=>rw[Gq,<- Mo ms' nm d,<- Gq] at hq;rw[hq] at hy;cases hy
   | some x=>rw[Gp hq] at hy;cases hy
  ·rw[Ft e] at hy;have:=h7 y hy;rw[Bw e] at this;exact this
 | over h1=>intro ms st hm hb hk;exact⟨ms,.over h1,hm,fun y hy=>hy⟩
 | has h1 h2 ih=>
  intro ms st hm hb hk;obtain⟨ms',h5,h6,h7⟩:=ih ms st hm hb hk;exact⟨ms',.has h1 h5,h6,h7⟩
 | @asked is ys ls nm n k k' d d' h1 h2 h3 ih1 ih2=>
  intro ms st hm hb hk;obtain⟨ms1,h5,h6,h7⟩:=ih1 ms st hm (fun y hy=>by obtain⟨m,e',h8,h9⟩:=hb y hy;exact⟨m,e',by omega,h9⟩) (by omega);obtain⟨ms2,h8,h9,h10⟩:=ih2 ms1 st h6 (fun y hy=>by obtain⟨m,e',h8,h9⟩:=hb y (h7 y hy);exact⟨m,e',by omega,h9⟩) (by omega);exact⟨ms2,.asked h1 h5 h8,h9,fun y hy=>h7 y (h10 y hy)⟩
theorem Ev.clean {ss:List S2} {ts:List T2} (hs:Ey (Ai ss)) (ht:Ey (Ae ts)) {k:Nat} {nm:ByteArray} {d:Md} (h:Ev ss ts k (.make nm) d) (hk:k<=60):∃ ms,Av ss ts [] [] (.make nm) ms (.ok d):=by
 obtain⟨ms,h1,_⟩:=h.does hs ht [] [] (fun nm d h=>by simp[lk] at h) (fun y h=>by simp[lk] at h) (by simpa using hk)
 exact⟨ms,h1⟩
def Js (c:List I3):Bool:=c.any fun i=>i.op.toNat == 12
theorem step_ask {is:List I3} {s s':St} {nm:ByteArray} (h:Bk is s=.look true nm s'):Js is=true:=by
 unfold Bk at h
 split at h
 ·cases h
 ·split at h
  ·cases h
  ·rename_i h1 h2
   simp only[Iu] at h
   split at h
   ·cases h
   ·split at h
    ·cases h
    ·split at h
     ·cases h
     ·split at h
      ·split at h
       ·cases h
       ·split at h
        ·cases h
        ·injection h with e1 e2 e3;rw[Js,List.any_eq_true];refine⟨ix is s.pl,?_,e1⟩;unfold ix;rw[gG,gQ (by omega)];exact List.getElem_mem _
      ·split at h<;>cases h
theorem full_ask {is:List I3} {ys:List R3} {s:St} {r:Res} (h:Az is ys s r):∀ {nm n},r=.wait true nm n->Js is=true:=by
 induction h with
 | over=>intro nm n e;cases e
 | go _ _ ih=>exact ih
 | wait h1=>intro nm n e;cases e;exact step_ask h1
 | ans _ _ _ _ ih=>exact ih
 | «end»=>intro nm n e;cases e
theorem Ev.top {ss:List S2} {ts:List T2} {k:Nat} {j:Job} {d:Md} (h:Ev ss ts k j d):∀ {is ys ls},j=.run is ys ls->1<=k->Js is=true/\∃ nm d',Ev ss ts k (.make nm) d':=by
 induction h with
 | source|missing|made=>intro is ys ls e;cases e
 | over=>intro is ys ls e hk;omega
 | has _ _ ih=>intro is ys ls e hk;cases e;exact ih rfl hk
 | @asked is ys ls nm n k k' d d' h1 h2 h3 ih1 ih2=>
  intro is ys ls e hk;cases e;refine⟨full_ask h1 rfl,?_⟩
  rcases Nat.le_total k' k with h|h
  ·rw[Nat.max_eq_left h];exact⟨_,_,h2⟩
  ·rw[Nat.max_eq_right h] at hk ⊢;exact(ih2 rfl hk).2
theorem Ev.inv {ss:List S2} {ts:List T2} {k:Nat} {nm:ByteArray} {d:Md} (h:Ev ss ts k (.make nm) d):k=0\/∃ i k',k=k'+1/\¬ Fi (Ai ss) nm/\i<ts.length/\(tx ts i).name=nm/\Ev ss ts k' (.run (tx ts i).code [] []) d:=by
 cases h with
 | source=>exact Or.inl rfl
 | missing=>exact Or.inl rfl
 | made h1 h2 h3 h4=>exact Or.inr ⟨_,_,rfl,h1,h2,h3,h4⟩
theorem tx_mem {ts:List T2} {i:Nat} (h:i<ts.length):tx ts i∈ts:=by
 unfold tx
 rw[gG,gQ h]
 exact List.getElem_mem _
theorem Ev.chain {ss:List S2} {ts:List T2}:∀(k:Nat) {nm:ByteArray} {d:Md},Ev ss ts (k+1) (.make nm) d->∃ l:List T2,l.length=k+1/\∀ p,(hp:p<l.length)->l[p]∈ts/\(∃ d',Ev ss ts (k+1-p) (.make l[p].name) d')/\(p<k->Js l[p].code=true)
 | 0,nm,d,h=>by
  rcases h.inv with h'|⟨i,k',e,h1,h2,h3,h4⟩
  ·omega
  ·refine⟨[tx ts i],rfl,fun p hp=>?_⟩;obtain rfl:p=0:=by simp at hp;omega
   exact⟨tx_mem h2,⟨d,by show Ev ss ts 1 (.make (tx ts i).name) d;rw[h3];exact h⟩,fun h=>absurd h (Nat.not_lt_zero _)⟩
 | k+1,nm,d,h=>by
  rcases h.inv with h'|⟨i,k',e,h1,h2,h3,h4⟩
  ·omega
  ·obtain rfl:k'=k+1:=by omega
   obtain⟨ha,nm',d',h5⟩:=h4.top rfl (by omega);obtain⟨l,hl,hp⟩:=Ev.chain k h5;refine⟨tx ts i :: l,by simp[hl],fun p hq=>?_⟩
   cases p with
   | zero=>exact⟨tx_mem h2,⟨d,by show Ev ss ts (k+1+1) (.make (tx ts i).name) d;rw[h3];exact h⟩,fun _=>ha⟩
   | succ p=>
    obtain⟨q1,⟨q2,q3⟩,q4⟩:=hp p (by simpa using hq);refine⟨q1,⟨q2,?_⟩,fun h=>q4 (by omega)⟩;rw[show k+1+1-(p+1)=k+1-p by omega];exact q3
theorem nd_le {α:Type}:∀(l m:List α),l.Nodup->(∀ x∈l,x∈m)->l.length<=m.length
 | [],m,_,_=>Nat.zero_le _
 | x :: l,m,h,hs=>by
  obtain⟨m1,m2,rfl⟩:=List.append_of_mem (hs x (by simp));obtain⟨h1,h2⟩:=List.nodup_cons.mp h
  have:=nd_le l (m1++m2) h2 fun y hy=>by
   have:=hs y (by simp[hy]);simp only[List.mem_append,List.mem_cons] at this ⊢
   rcases this with h|rfl|h
   ·exact Or.inl h
   ·exact absurd hy h1
   ·exact Or.inr h
  simp only[List.length_append,List.length_cons] at this ⊢;omega
theorem Ev.few {ss:List S2} {ts:List T2} (hs:Ey (Ai ss)) (ht:Ey (Ae ts)) {k:Nat} {nm:ByteArray} {d:Md} (h:Ev ss ts k (.make nm) d):k<=(ts.filter fun t=>Js t.code).length+1/\((∀ t∈ts,Js t.code=true)->k<=(ts.filter fun t=>Js t.code).length):=by
 cases k with
 | zero=>exact⟨by omega,fun _=>by omega⟩
 | succ k=>
  obtain⟨l,hl,hp⟩:=Ev.chain k h
  have hn:l.Nodup:=by
   rw[List.nodup_iff_pairwise_ne,List.pairwise_iff_getElem];intro i j hi hj hij e;obtain⟨_,⟨_,a⟩,_⟩:=hp i hi;obtain⟨_,⟨_,b⟩,_⟩:=hp j hj;rw[e] at a;have:=(a.unique hs ht b).1;omega
  refine⟨?_,fun hall=>?_⟩
  ·have:=nd_le (l.take k) (ts.filter fun t=>Js t.code) (hn.sublist (List.take_sublist _ _)) fun x hx=>by
    obtain⟨i,hi,rfl⟩:=List.getElem_of_mem hx;rw[List.length_take] at hi;rw[List.getElem_take];obtain⟨a,_,b⟩:=hp i (by omega);exact List.mem_filter.mpr ⟨a,b (by omega)⟩
   rw[List.length_take] at this;omega
  ·have:=nd_le l (ts.filter fun t=>Js t.code) hn fun x hx=>by
    obtain⟨i,hi,rfl⟩:=List.getElem_of_mem hx;obtain⟨a,_,b⟩:=hp i hi;exact List.mem_filter.mpr ⟨a,hall _ a⟩
   omega
def Rb (x:ByteArray):I3:=⟨1,x,0⟩
def Ul:I3:=⟨12,ByteArray.empty,0⟩
def dropI:I3:=⟨9,ByteArray.empty,0⟩
def Wn:I3:=⟨15,ByteArray.empty,0⟩
structure Ch (ts:List T2) (l:Nat->ByteArray) (mk:ByteArray):Prop where
 inj:∀ i j,i<=61->j<=61->l i=l j->i=j
 nm:∀ i,i<=61->Aq (l i)
 all:∀ q,q<ts.length->∃ i,i<=61/\(tx ts q).name=l i
 one:∃ q,q<ts.length/\tx ts q=⟨l 0,[Rb (l 61),Ul,dropI,Rb (l 1),Ul,Wn]⟩
 mid:∀ i,1<=i->i<=60->∃ q,q<ts.length/\tx ts q=⟨l i,[Rb (l (i+1)),Ul,Wn]⟩
 last:∃ q,q<ts.length/\tx ts q=⟨l 61,[Rb mk,Wn]⟩
 mks:mk.size<=2000
theorem Ou {x:ByteArray} (h:Aq x):x.size<=2000:=by have:=h.2.1;omega
theorem Qg {is:List I3} {p k m:Nat} {l:List ByteArray} {x:ByteArray} (hp:p<is.length) (hk:k<2000) (e:ix is p=Rb x) (hl:l.length<50) (hx:x.size<=2000):Bk is ⟨p,l,k,m⟩=.go ⟨p+1,l++[x],k+1,m⟩:=by
 have hb:¬ Pp 1 x 0 l:=by
  unfold Pp;rintro (h|⟨y,h1,h2⟩)
  ·simp[Be,An,Fo,Cl] at h;omega
  ·simp[Cl] at h1;subst h1;omega
 have h:=(Fj (s:=⟨p,l,k,m⟩) hp (show k≠2000 by omega) (o:=1) (t:=x) (n:=0) (by rw[e];rfl)).trans (Ma (by simp[An,Fo]) (by omega) hb)
 rw[h]
 simp[Eu,Be,An,Fo,Cl]
theorem Sf {is:List I3} {p k m:Nat} {l:List ByteArray} {x:ByteArray} (hp:p<is.length) (hk:k<2000) (e:ix is p=Ul) (hx:Aq x) (hm:m<200):Bk is ⟨p,l++[x],k,m⟩=.look true x ⟨p,l,k+1,m+1⟩:=by
 have ht:Bq (l++[x])=x:=by unfold Bq;simp
 have h:=(Fj (s:=⟨p,l++[x],k,m⟩) hp (show k≠2000 by omega) (o:=12) (t:=ByteArray.empty) (n:=0) (by rw[e];rfl)).trans (He (by simp[An,Fo]) (Or.inl rfl) (by rw[ht];exact hx) (show m≠200 by omega))
 rw[h,ht]
 simp[Be,An,Fo]
theorem Yg {is:List I3} {p k m:Nat} {l:List ByteArray} {x:ByteArray} (hp:p<is.length) (hk:k<2000) (e:ix is p=Wn):Bk is ⟨p,l++[x],k,m⟩=.over 0 x (k+1):=by
 have ht:Bq (l++[x])=x:=by unfold Bq;simp
 have h:=(Fj (s:=⟨p,l++[x],k,m⟩) hp (show k≠2000 by omega) (o:=15) (t:=ByteArray.empty) (n:=0) (by rw[e];rfl)).trans (La (by simp[An,Fo]) rfl)
 rw[h,ht]
theorem go_drop {is:List I3} {p k m:Nat} {l:List ByteArray} {x:ByteArray} (hp:p<is.length) (hk:k<2000) (e:ix is p=dropI) (hl:l.length<50):Bk is ⟨p,l++[x],k,m⟩=.go ⟨p+1,l,k+1,m⟩:=by
 have hb:¬ Pp 9 ByteArray.empty 0 (l++[x]):=by
  unfold Pp;rintro (h|⟨y,h1,h2⟩)
  ·simp[Be,An,Fo,Cl] at h;omega
  ·simp[Cl] at h1
 have h:=(Fj (s:=⟨p,l++[x],k,m⟩) hp (show k≠2000 by omega) (o:=9) (t:=ByteArray.empty) (n:=0) (by rw[e];rfl)).trans (Ma (by simp[An,Fo]) (by omega) hb)
 rw[h]
 simp[Eu,Be,An,Fo,Cl]
theorem ans_t (x t:ByteArray):Dy true x (rx [⟨true,0,t⟩] 0) ⟨1,[],2,1⟩=.go ⟨2,[t],2,1⟩:=by simp[Dy,rx]
theorem f_mid0 {x:ByteArray} (hx:Aq x):Az [Rb x,Ul,Wn] [] Gc (.wait true x 2):=
 .go (Qg (by simp) (by omega) rfl (by simp) (Ou hx)) (.wait (Sf (l:=[]) (by simp) (by omega) rfl hx (by omega)) (by simp))
theorem f_mid1 {x:ByteArray} (hx:Aq x) (t:ByteArray):Az [Rb x,Ul,Wn] [⟨true,0,t⟩] Gc (.over 0 t 3):=
 .go (Qg (by simp) (by omega) rfl (by simp) (Ou hx)) (.ans (Sf (l:=[]) (by simp) (by omega) rfl hx (by omega)) (by simp) (ans_t _ t) (.over (Yg (l:=[]) (by simp) (by omega) rfl)))
theorem f_last {x:ByteArray} (hx:x.size<=2000):Az [Rb x,Wn] [] Gc (.over 0 x 2):=
 .go (Qg (by simp) (by omega) rfl (by simp) hx) (.over (Yg (l:=[]) (by simp) (by omega) rfl))
theorem f_one0 {x z:ByteArray} (hz:Aq z):Az [Rb z,Ul,dropI,Rb x,Ul,Wn] [] Gc (.wait true z 2):=
 .go (Qg (by simp) (by omega) rfl (by simp) (Ou hz)) (.wait (Sf (l:=[]) (by simp) (by omega) rfl hz (by omega)) (by simp))
theorem f_one1 {x z:ByteArray} (hz:Aq z) (hx:Aq x) (t:ByteArray):Az [Rb z,Ul,dropI,Rb x,Ul,Wn] [⟨true,0,t⟩] Gc (.wait true x 5):=
 .go (Qg (by simp) (by omega) rfl (by simp) (Ou hz)) (.ans (Sf (l:=[]) (by simp) (by omega) rfl hz (by omega)) (by simp) (ans_t _ t) (.go (go_drop (l:=[]) (by simp) (by omega) rfl (by simp)) (.go (Qg (l:=[]) (by simp) (by omega) rfl (by simp) (Ou hx)) (.wait (Sf (l:=[]) (by simp) (by omega) rfl hx (by omega)) (by simp)))))
theorem Qc {is:List I3} {ys:List R3} {ask ask':Bool} {x y:ByteArray} {n m:Nat} (h:Az is ys Gc (.wait ask x n)) (h':Az is ys Gc (.wait ask' y m)):ask=ask'/\x=y:=by
 have:=h.unique h'
 injection this with a b
 exact⟨a,b⟩
open Classical in
theorem rep_tgt {ss:List S2} {ts:List T2} {nm:ByteArray} {d:Md} (h:Fi (Ae ts) nm):Kw ss ts nm d=⟨true,d.c,d.t⟩:=by
 unfold Kw
 rw[if_pos (by unfold Cb;rw[decide_eq_true_iff];exact Or.inr h)]
theorem Ch.tgt {ts:List T2} {l:Nat->ByteArray} {mk:ByteArray} (h:Ch ts l mk) (i:Nat) (hi:i<=61):Fi (Ae ts) (l i):=by
 rcases (show i=0\/(1<=i/\i<=60)\/i=61 by omega) with rfl|⟨h1,h2⟩|rfl
 ·obtain⟨q,hq,e⟩:=h.one;have:=Dv hq;rw[e] at this;exact this
 ·obtain⟨q,hq,e⟩:=h.mid i h1 h2;have:=Dv hq;rw[e] at this;exact this
 ·obtain⟨q,hq,e⟩:=h.last;have:=Dv hq;rw[e] at this;exact this
theorem Ch.ev {ss:List S2} {ts:List T2} (hv:SpV ss ts) {l:Nat->ByteArray} {mk:ByteArray} (h:Ch ts l mk):∀ k,k<=60->∃ d,Ev ss ts (k+1) (.make (l (61-k))) d/\d.c=0
 | 0,_=>by
  obtain⟨q,hq,e⟩:=h.last;refine⟨⟨0,mk,[]⟩,.made (fun hn=>hv.dis _ hn (h.tgt 61 (by omega))) hq (by rw[e]) ?_,rfl⟩;rw[e];exact .over (f_last h.mks)
 | k+1,hk=>by
  obtain⟨d,h1,h2⟩:=Ch.ev hv h k (by omega);obtain⟨q,hq,e⟩:=h.mid (61-(k+1)) (by omega) (by omega);rw[show 61-(k+1)+1=61-k by omega] at e;have hr:Kw ss ts (l (61-k)) d=⟨true,0,d.t⟩:=by rw[rep_tgt (h.tgt _ (by omega)),h2]
  refine⟨⟨0,d.t,[⟨l (61-k),true,Bn d.c d.t⟩]⟩,.made (fun hn=>hv.dis _ hn (h.tgt (61-(k+1)) (by omega))) hq (by rw[e]) ?_,rfl⟩;rw[e];have:=Ev.asked (f_mid0 (h.nm (61-k) (by omega))) h1 (ls:=[]) (k':=0) (d':=⟨0,d.t,[⟨l (61-k),true,Bn d.c d.t⟩]⟩) (ss:=ss) (ts:=ts) (by rw[hr];exact .over (f_mid1 (h.nm (61-k) (by omega)) d.t));rw[Nat.max_eq_left (Nat.zero_le _)] at this;exact this
theorem Ch.dead {ss:List S2} {ts:List T2} (hv:SpV ss ts) {l:Nat->ByteArray} {mk:ByteArray} (h:Ch ts l mk):∀(k:Nat) (ms:Ms) (st:List ByteArray) (ms':Ms) (a:Um),k<=59->st.length=60-k->(∀ j,60-k<=j->j<=60->lk ms (l j)=none)->Av ss ts ms st (.make (l (60-k))) ms' a->a.stop:=by
 intro k
 induction k with
 | zero=>
  intro ms st ms' a _ hl hn hd;have h0:=hn 60 (by omega) (by omega)
  cases hd with
  | known h1=>rw[h0] at h1;cases h1
  | circle h1=>rw[h0] at h1;cases h1
  | source h1 h2 h3=>exact absurd (h.tgt 60 (by omega)) (hv.dis _ (h3▸Dm h2))
  | missing h1 h2=>exact absurd (Or.inr (h.tgt 60 (by omega))) h2
  | deep=>exact trivial
  | made h1 h2 h3 h4 h5=>omega
  | fell h1 h2 h3 h4 h5=>omega
 | succ k ih=>
  intro ms st ms' a hk hl hn hd;have h0:=hn (60-(k+1)) (by omega) (by omega)
  cases hd with
  | known h1=>rw[h0] at h1;cases h1
  | circle h1=>rw[h0] at h1;cases h1
  | source h1 h2 h3=>exact absurd (h.tgt (60-(k+1)) (by omega)) (hv.dis _ (h3▸Dm h2))
  | missing h1 h2=>exact absurd (Or.inr (h.tgt (60-(k+1)) (by omega))) h2
  | deep=>exact trivial
  | fell h1 h2 h3 h4 h5 h6 h7=>exact h7
  | made h1 h2 h3 h4 h5 h6=>
   obtain⟨q,hq,e⟩:=h.mid (60-(k+1)) (by omega) (by omega)
   cases Il hv.ascT h3 hq (by rw[h4,e])
   rw[e,show 60-(k+1)+1=60-k by omega] at h6;have hf:=f_mid0 (h.nm (60-k) (by omega))
   cases h6 with
   | over k1=>cases hf.unique k1
   | has k1=>cases (Qc hf k1).1
   | asked k1 k2 k3=>
    obtain⟨_,ex⟩:=Qc hf k1;subst ex;refine absurd (ih _ _ _ _ (by omega) (by simp;omega) (fun j hj hj'=>?_) k2) id;rw[Bw (fun e'=>by have:=h.inj _ _ (by omega) (by omega) e';omega)];exact hn j (by omega) hj'
   | askfell k1 k2 k3=>exact absurd k3 id
theorem Ch.first {ss:List S2} {ts:List T2} (hv:SpV ss ts) {l:Nat->ByteArray} {mk:ByteArray} (h:Ch ts l mk) {ms:Ms} {d:Md}:¬ Av ss ts [] [] (.make (l 0)) ms (.ok d):=by
 intro hd
 cases hd with
 | source h1 h2 h3=>exact absurd (h.tgt 0 (by omega)) (hv.dis _ (h3▸Dm h2))
 | missing h1 h2=>exact absurd (Or.inr (h.tgt 0 (by omega))) h2
 | fell h1 h2 h3 h4 h5 h6 h7=>exact h7
 | known h1=>simp[lk] at h1
 | made h1 h2 h3 h4 h5 h6=>
  obtain⟨q,hq,e⟩:=h.one
  cases Il hv.ascT h3 hq (by rw[h4,e])
  rw[e] at h6;have hf:=f_one0 (x:=l 1) (h.nm 61 (by omega))
  cases h6 with
  | over k1=>cases hf.unique k1
  | has k1=>cases (Qc hf k1).1
  | askfell k1 k2 k3=>exact absurd k3 id
  | asked k1 k2 k3=>
   obtain⟨_,ex⟩:=Qc hf k1;subst ex;have hz:lk ([]++[(l 0,none)]) (l 61)=none:=by rw[Bw (fun e'=>by have:=h.inj 0 61 (by omega) (by omega) e';omega)];simp[lk]
   cases k2 with
   | known h1=>rw[hz] at h1;cases h1
   | source h1 h2 h3=>exact absurd (h.tgt 61 (by omega)) (hv.dis _ (h3▸Dm h2))
   | missing h1 h2=>exact absurd (Or.inr (h.tgt 61 (by omega))) h2
   | fell g1 g2 g3 g4 g5 g6 g7=>exact g7
   | made g1 g2 g3 g4 g5 g6=>
    obtain⟨q',hq',e'⟩:=h.last
    cases Il hv.ascT g3 hq' (by rw[g4,e'])
    rw[e'] at g6;have hl:=f_last h.mks
    cases g6 with
    | has k1=>cases hl.unique k1
    | asked k1=>cases hl.unique k1
    | askfell k1=>cases hl.unique k1
    | over k1=>
     cases hl.unique k1
     rw[rep_tgt (h.tgt 61 (by omega))] at k3;have hf1:=f_one1 (h.nm 61 (by omega)) (h.nm 1 (by omega)) mk
     cases k3 with
     | over k1=>cases hf1.unique k1
     | has k1=>cases (Qc hf1 k1).1
     | askfell k1 k2 k3=>exact absurd k3 id
     | asked k1 k2 k3=>
      obtain⟨_,ex⟩:=Qc hf1 k1;subst ex;refine absurd (h.dead hv 59 _ _ _ _ (by omega) (by simp) (fun j hj hj'=>?_) k2) id;rw[Ft (fun e'=>by have:=h.inj _ _ (by omega) (by omega) e';omega),Bw (fun e'=>by have:=h.inj _ _ (by omega) (by omega) e';omega),Bw (fun e'=>by have:=h.inj _ _ (by omega) (by omega) e';omega)];simp[lk]
def Pm (ts:List T2):Prop:=(ts.filter fun t=>Js t.code).length<=60\/(ts.length<=61/\∀ t∈ts,Js t.code=true)\/∃ l mk,Ch ts l mk
def SpS (B R:Nat) (a:Option Addr) (len cap p K:Nat) (w:World) (e:Ending) (w':World):Prop:=
 ∃ v1 v2 l1 l2,e=.returned (.agg #[v1,v2])/\Dw w' w.heap.size v1 v2 l1 l2/\Tm l1 l2/\Bd B R a len cap p K w w'/\Pm (l2.map (·.t))
theorem Xv {l:List TC} (h:(l.filter fun a=>Js a.t.code).length<=60):Pm (l.map (·.t)):=Or.inl (by rw[List.filter_map,List.length_map];exact h)
theorem Em (l:List TC) (h:l.length<=60):Pm (l.map (·.t)):=Xv (Nat.le_trans (List.length_filter_le _ _) h)
theorem ask_skip {l:List TC} {x:TC} (h:Js x.t.code=false):((l++[x]).filter fun a=>Js a.t.code).length=(l.filter fun a=>Js a.t.code).length:=by
 rw[List.filter_append,List.length_append,List.filter_cons_of_neg (by simp[h])]
 rfl
section
variable {P:Program} {ops:Array Oper} {Q:Exit->Act->World->Prop} {S:World->Prop} {z:Nat}
theorem Lt.two {i j:Nat} {oi oj:Oper} {n:Nat} {l:Array Bool} {a:Act} {w:World} (hr:Region.ready .any ops l=[i,j]) (hi:ops.toList[i]?=some oi) (hj:ops.toList[j]?=some oj)
  (h1:∀ K:Act->World->Prop,Shut (∀ a w,(i≠z->S w)->((i≠z->S w)->Lt P ops Q S z n (l.setIfInBounds i true) a w)->K a w)->if Region.wanted oi (yielded ops a.tmps)=true then Oper.wp P oi a w K Q else K (a.put oi.dst undef) w)
  (h2:∀ K:Act->World->Prop,Shut (∀ a w,(j≠z->S w)->((j≠z->S w)->Lt P ops Q S z n (l.setIfInBounds j true) a w)->K a w)->if Region.wanted oj (yielded ops a.tmps)=true then Oper.wp P oj a w K Q else K (a.put oj.dst undef) w):Lt P ops Q S z (n+1) l a w:=by
 refine⟨fun h0=>(by rw[hr] at h0;cases h0),fun m hm=>?_⟩
 rw[hr] at hm
 rcases List.mem_cons.1 hm with q|q
 ·subst q;exact wpOp_step (Array.getElem?_toList.symm.trans hi) (fun K hK=>h1 K (fun a w hS hW=>hK a w ⟨hS,hW hS⟩))
 ·obtain rfl:m=j:=by simpa using q
  exact wpOp_step (Array.getElem?_toList.symm.trans hj) (fun K hK=>h2 K (fun a w hS hW=>hK a w ⟨hS,hW hS⟩))
end
theorem Xe:∀(l:List TC) (i:Nat) (c:Value) (is:List I3),i<l.length->(Ha l).set (i*2+1) c=Ha (l.set i ⟨⟨(cx l i).t.name,is⟩,c⟩)
 | [],i,c,is,h=>by simp at h
 | e :: r,0,c,is,h=>rfl
 | e :: r,i+1,c,is,h=>by
  have ih:=Xe r i c is (by simpa using h);have e1:cx (e :: r) (i+1)=cx r i:=rfl;rw[e1,List.set_cons_succ];show (Value.string e.t.name :: e.c :: Ha r).set ((i+1)*2+1) c=Value.string e.t.name :: e.c :: Ha (r.set i _);rw[show (i+1)*2+1=(i*2+1)+1+1 by omega,List.set_cons_succ,List.set_cons_succ,ih]
theorem Xd:∀(l:List TC) (i:Nat) (x:TC),i<l.length->((Ha l).set (i*2) (.string x.t.name)).set (i*2+1) x.c=Ha (l.set i x)
 | [],i,x,h=>by simp at h
 | e :: r,0,x,h=>rfl
 | e :: r,i+1,x,h=>by
  have ih:=Xd r i x (by simpa using h);rw[List.set_cons_succ];show ((Value.string e.t.name :: e.c :: Ha r).set ((i+1)*2) _).set ((i+1)*2+1) x.c=Value.string e.t.name :: e.c :: Ha (r.set i _);rw[show (i+1)*2=i*2+1+1 by omega,List.set_cons_succ,List.set_cons_succ,List.set_cons_succ,List.set_cons_succ,ih]
theorem Us:∀(l:List S2) (i:Nat) (t:ByteArray),i<l.length->(Fp l).set (i*2+1) (.string t)=Fp (l.set i ⟨(sx l i).name,t⟩)
 | [],i,t,h=>by simp at h
 | e :: r,0,t,h=>rfl
 | e :: r,i+1,t,h=>by
  have ih:=Us r i t (by simpa using h);have e1:sx (e :: r) (i+1)=sx r i:=rfl;rw[e1,List.set_cons_succ];show (Value.string e.name :: Value.string e.text :: Fp r).set ((i+1)*2+1) _=Value.string e.name :: Value.string e.text :: Fp (r.set i _);rw[show (i+1)*2+1=(i*2+1)+1+1 by omega,List.set_cons_succ,List.set_cons_succ,ih]
theorem Ut:∀(l:List S2) (i:Nat) (t:ByteArray),i<l.length->(Fp l).set (i*2) (.string t)=Fp (l.set i ⟨t,(sx l i).text⟩)
 | [],i,t,h=>by simp at h
 | e :: r,0,t,h=>rfl
 | e :: r,i+1,t,h=>by
  have ih:=Ut r i t (by simpa using h);have e1:sx (e :: r) (i+1)=sx r i:=rfl;rw[e1,List.set_cons_succ];show (Value.string e.name :: Value.string e.text :: Fp r).set ((i+1)*2) _=Value.string e.name :: Value.string e.text :: Fp (r.set i _);rw[show (i+1)*2=i*2+1+1 by omega,List.set_cons_succ,List.set_cons_succ,ih]
theorem Oy {α:Type} {p:α->Prop} {l:List α} {i:Nat} {x:α} (h:∀ a∈l,p a) (hx:p x):∀ a∈l.set i x,p a:=fun a ha=>by
 rcases List.mem_or_eq_of_mem_set ha with q|q
 ·exact h a q
 ·rw[q];exact hx
section
variable {V:World} {P lo g cap:Nat} {v1 v2:Value} {l1:List S2} {l2:List TC}
theorem Sw.setC (h:Sw V P lo v1 (.slice (some ⟨g,0,none⟩) l2.length cap) l1 l2) (i:Nat) (hi:i<l2.length) {c:Value} {is:List I3} (hc:V.ownsRow lo 106 3 c is.length (Di is)) (hl:is.length<=400) (hx:∀ x∈is,x.text.size<=50000) :
  Sw (V.setCell ⟨g,i*2+1,none⟩ c) P lo v1 (.slice (some ⟨g,0,none⟩) l2.length cap) l1 (l2.set i ⟨⟨(cx l2 i).t.name,is⟩,c⟩):=by
 have hst:=h.dw.t.stored (i*2+1) c
 rw[Xe l2 i c is hi] at hst
 have hP:P≠g:=fun e=>h.noR.2 (by rw[e];rfl)
 refine⟨?_,⟨Ee h.dw.s h.dw.t (by decide) c,by rw[List.length_set];exact hst.1,fun a ha=>?_⟩,⟨h.bd.n1,by rw[List.length_set];exact h.bd.n2,h.bd.s,Oy h.bd.t ⟨(h.bd.t _ (Dq hi)).1,hl,hx⟩⟩,h.ge⟩
 ·exact Bp h.blk hP c
 ·rcases List.mem_or_eq_of_mem_set ha with q|q
  ·exact Ee (h.dw.c a q) h.dw.t (by decide) c
  ·rw[q];exact Ee hc h.dw.t (by decide) c
theorem Sw.setX (h:Sw V P lo v1 (.slice (some ⟨g,0,none⟩) l2.length cap) l1 l2) (i:Nat) (hi:i<l2.length) {x:TC} (hc:V.ownsRow lo 106 3 x.c x.t.code.length (Di x.t.code)) (hx:x.t.name.size<=50000/\x.t.code.length<=400/\∀ y∈x.t.code,y.text.size<=50000) :
  Sw ((V.setCell ⟨g,i*2,none⟩ (.string x.t.name)).setCell ⟨g,i*2+1,none⟩ x.c) P lo v1 (.slice (some ⟨g,0,none⟩) l2.length cap) l1 (l2.set i x):=by
 have hs1:=(h.dw.t.stored (i*2) (.string x.t.name)).1
 have hst:=hs1.stored (i*2+1) x.c
 rw[Xd l2 i x hi] at hst
 have hP:P≠g:=fun e=>h.noR.2 (by rw[e];rfl)
 refine⟨?_,⟨Ee (Ee h.dw.s h.dw.t (by decide) _) hs1 (by decide) _,by rw[List.length_set];exact hst.1,fun a ha=>?_⟩,⟨h.bd.n1,by rw[List.length_set];exact h.bd.n2,h.bd.s,Oy h.bd.t hx⟩,h.ge⟩
 ·exact Bp (Bp h.blk hP _) hP _
 ·rcases List.mem_or_eq_of_mem_set ha with q|q
  ·exact Ee (Ee (h.dw.c a q) h.dw.t (by decide) _) hs1 (by decide) _
  ·rw[q];exact Ee (Ee hc h.dw.t (by decide) _) hs1 (by decide) _
theorem Sw.setT (h:Sw V P lo (.slice (some ⟨g,0,none⟩) l1.length cap) v2 l1 l2) (i:Nat) (hi:i<l1.length) {t:ByteArray} (ht:t.size<=50000) :
  Sw (V.setCell ⟨g,i*2+1,none⟩ (.string t)) P lo (.slice (some ⟨g,0,none⟩) l1.length cap) v2 (l1.set i ⟨(sx l1 i).name,t⟩) l2:=by
 have hst:=h.dw.s.stored (i*2+1) (.string t)
 rw[Us l1 i t hi] at hst
 have hP:P≠g:=fun e=>h.noR.1 (by rw[e];rfl)
 refine⟨?_,⟨by rw[List.length_set];exact hst.1,Ee h.dw.t h.dw.s (by decide) _,fun a ha=>Ee (h.dw.c a ha) h.dw.s (by decide) _⟩,⟨by rw[List.length_set];exact h.bd.n1,h.bd.n2,Oy h.bd.s ⟨(h.bd.s _ (Vp hi)).1,ht⟩,h.bd.t⟩,h.ge⟩
 exact Bp h.blk hP _
theorem Sw.setN (h:Sw V P lo (.slice (some ⟨g,0,none⟩) l1.length cap) v2 l1 l2) (i:Nat) (hi:i<l1.length) {t:ByteArray} (ht:t.size<=50000) :
  Sw (V.setCell ⟨g,i*2,none⟩ (.string t)) P lo (.slice (some ⟨g,0,none⟩) l1.length cap) v2 (l1.set i ⟨t,(sx l1 i).text⟩) l2:=by
 have hst:=h.dw.s.stored (i*2) (.string t)
 rw[Ut l1 i t hi] at hst
 have hP:P≠g:=fun e=>h.noR.1 (by rw[e];rfl)
 refine⟨?_,⟨by rw[List.length_set];exact hst.1,Ee h.dw.t h.dw.s (by decide) _,fun a ha=>Ee (h.dw.c a ha) h.dw.s (by decide) _⟩,⟨by rw[List.length_set];exact h.bd.n1,h.bd.n2,Oy h.bd.s ⟨ht,(h.bd.s _ (Vp hi)).2⟩,h.bd.t⟩,h.ge⟩
 exact Bp h.blk hP _
theorem Ea {B R:Nat} {a:Option Addr} {len cap' p K b:Nat} {w W:World} {x y:Value} (h:Sw W P w.heap.size v1 v2 l1 l2) (hr:Bd B R a len cap' p K w W) (hB:B<=w.heap.size) (hq:W.heap[b]?=some (.cells #[x,y] 26 (0,0))) (hb:w.heap.size<=b) (hK:K<=600) (hS:Pm (l2.map (·.t))) :
  ∃ u1 u2 m1 m2,Ending.returned (.agg #[v1,v2])=.returned (.agg #[u1,u2])/\Dw ((W.setCell ⟨b,0,none⟩ v1).setCell ⟨b,1,none⟩ v2) w.heap.size u1 u2 m1 m2/\Tm m1 m2/\Bd B R a len cap' p 600 w ((W.setCell ⟨b,0,none⟩ v1).setCell ⟨b,1,none⟩ v2)/\Pm (m2.map (·.t)):=
 ⟨v1,v2,l1,l2,rfl,h.dw.ret hq,h.bd,((hr.set hB hb _).set hB hb _).more hK,hS⟩
end
end Go.Proofs.YtjlnkepkkdefdaaGreatDoor
