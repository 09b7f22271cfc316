import Derived.Test.YtdbjfdhknkfjaaaGreatDoorTVoA
import Derived.Test.YtdbjfdhknkfjaaaGreatDoorTSrch
namespace Go.Proofs.YtdbjfdhknkfjaaaGreatDoor
open Go.RowKit
set_option linter.unusedVariables false
set_option maxHeartbeats 8000000
set_option maxRecDepth 100000
set_option linter.unusedSimpArgs false
structure Md where
 c:Int
 t:ByteArray
 ls:List G3
inductive Yc where
 | ok (d:Md)
 | circle (ch:List ByteArray)
 | deep (nm:ByteArray)
abbrev Ms:=List (ByteArray × Option Md)
open Classical in
noncomputable def lk (ms:Ms) (nm:ByteArray):Option (Option Md):=(ms.find? fun e=>decide (e.1=nm)).map (·.2)
open Classical in
noncomputable def Fo (ms:Ms) (nm:ByteArray) (d:Md):Ms:=ms.map fun e=>if e.1=nm then (nm,some d) else e
def Ep (c:Int) (t:ByteArray):ByteArray:=⟨#[UInt8.ofNat (48+c.toNat)]⟩++(⟨#[58]⟩:ByteArray)++t
def Kw (ss:List S2) (ts:List T2) (nm:ByteArray):Prop:=Ds (Ag ss) nm\/Ds (Ae ts) nm
open Classical in
noncomputable def Cg (ss:List S2) (ts:List T2) (nm:ByteArray):Bool:=decide (Kw ss ts nm)
noncomputable def Ki (ss:List S2) (ts:List T2) (nm:ByteArray) (d:Md):R3:=if Cg ss ts nm then ⟨true,d.c,d.t⟩ else ⟨false,0,⟨#[]⟩⟩
inductive Job where
 | make (nm:ByteArray)
 | run (is:List I3) (ys:List R3) (ls:List G3)
def Yc.stop:Yc->Prop
 | .ok _=>False
 | _=>True
inductive Au (ss:List S2) (ts:List T2):Ms->List ByteArray->Job->Ms->Yc->Prop
 | known {ms st nm d}:lk ms nm=some (some d)->Au ss ts ms st (.make nm) ms (.ok d)
 | circle {ms st nm i}:lk ms nm=some none->i<st.length->nx st i=nm->(∀ j,j<i->nx st j≠nm)->Au ss ts ms st (.make nm) ms (.circle (st.drop i))
 | source {ms st nm i}:lk ms nm=none->i<ss.length->(sx ss i).name=nm->Au ss ts ms st (.make nm) (ms++[(nm,some ⟨0,(sx ss i).text,[]⟩)]) (.ok ⟨0,(sx ss i).text,[]⟩)
 | missing {ms st nm}:lk ms nm=none->¬ Kw ss ts nm->Au ss ts ms st (.make nm) (ms++[(nm,some ⟨4,nm,[]⟩)]) (.ok ⟨4,nm,[]⟩)
 | deep {ms st nm}:lk ms nm=none->¬ Ds (Ag ss) nm->Ds (Ae ts) nm->60<=st.length->Au ss ts ms st (.make nm) (ms++[(nm,none)]) (.deep nm)
 | made {ms st nm i ms' d}:lk ms nm=none->¬ Ds (Ag ss) nm->i<ts.length->(tx ts i).name=nm->st.length<60->Au ss ts (ms++[(nm,none)]) (st++[nm]) (.run (tx ts i).code [] []) ms' (.ok d)->Au ss ts ms st (.make nm) (Fo ms' nm d) (.ok d)
 | fell {ms st nm i ms' a}:lk ms nm=none->¬ Ds (Ag ss) nm->i<ts.length->(tx ts i).name=nm->st.length<60->Au ss ts (ms++[(nm,none)]) (st++[nm]) (.run (tx ts i).code [] []) ms' a->a.stop->Au ss ts ms st (.make nm) ms' a
 | over {ms st is ys ls c t n}:Ca is ys Gw (.over c t n)->Au ss ts ms st (.run is ys ls) ms (.ok ⟨c,t,ls⟩)
 | has {ms st is ys ls nm n ms' a}:Ca is ys Gw (.wait false nm n)->Au ss ts ms st (.run is (ys++[⟨Cg ss ts nm,0,⟨#[]⟩⟩]) (ls++[⟨nm,false,Da (Cg ss ts nm)⟩])) ms' a->Au ss ts ms st (.run is ys ls) ms' a
 | asked {ms st is ys ls nm n ms1 d ms' a}:Ca is ys Gw (.wait true nm n)->Au ss ts ms st (.make nm) ms1 (.ok d)->Au ss ts ms1 st (.run is (ys++[Ki ss ts nm d]) (ls++[⟨nm,true,Ep d.c d.t⟩])) ms' a->Au ss ts ms st (.run is ys ls) ms' a
 | askfell {ms st is ys ls nm n ms' a}:Ca is ys Gw (.wait true nm n)->Au ss ts ms st (.make nm) ms' a->a.stop->Au ss ts ms st (.run is ys ls) ms' a
theorem asc_inj {l:List ByteArray} (h:Eu l) {i j:Nat} (hi:i<l.length) (hj:j<l.length) (e:nx l i=nx l j):i=j:=by
 rcases Nat.lt_trichotomy i j with h1|h1|h1
 ·have:=h.pair h1 hj;rw[e,Ig] at this;cases this
 ·exact h1
 ·have:=h.pair h1 hi;rw[e,Ig] at this;cases this
theorem Qax {ss:List S2} (h:Eu (Ag ss)) {i j:Nat} (hi:i<ss.length) (hj:j<ss.length) (e:(sx ss i).name=(sx ss j).name):i=j:=asc_inj h (by rw[Bc];exact hi) (by rw[Bc];exact hj) (by rw[Cy,Cy];exact e)
theorem Jk {ts:List T2} (h:Eu (Ae ts)) {i j:Nat} (hi:i<ts.length) (hj:j<ts.length) (e:(tx ts i).name=(tx ts j).name):i=j:=asc_inj h (by rw[Ax];exact hi) (by rw[Ax];exact hj) (by rw[Cu,Cu];exact e)
theorem Dh {ss:List S2} {i:Nat} (hi:i<ss.length):Ds (Ag ss) (sx ss i).name:=⟨i,by rw[Bc];exact hi,Cy ss i⟩
theorem Dq {ts:List T2} {i:Nat} (hi:i<ts.length):Ds (Ae ts) (tx ts i).name:=⟨i,by rw[Ax];exact hi,Cu ts i⟩
theorem Au.unique {ss:List S2} {ts:List T2} (hs:Eu (Ag ss)) (ht:Eu (Ae ts)) {ms:Ms} {st:List ByteArray} {j:Job} {ms':Ms} {a:Yc} (h:Au ss ts ms st j ms' a):∀ {ms'':Ms} {a':Yc},Au ss ts ms st j ms'' a'->ms''=ms'/\a'=a:=by
 induction h with
 | known h1=>
  intro m' a' h'
  cases h' with
  | known k1=>rw[h1] at k1;cases k1;exact⟨rfl,rfl⟩
  | circle k1=>rw[h1] at k1;cases k1
  | source k1=>rw[h1] at k1;cases k1
  | missing k1=>rw[h1] at k1;cases k1
  | deep k1=>rw[h1] at k1;cases k1
  | made k1=>rw[h1] at k1;cases k1
  | fell k1=>rw[h1] at k1;cases k1
 | circle h1 h2 h3 h4=>
  intro m' a' h'
  cases h' with
  | known k1=>rw[h1] at k1;cases k1
  | circle k1 k2 k3 k4=>
   rename_i i i'
   rcases Nat.lt_trichotomy i i' with e|e|e
   ·exact absurd h3 (k4 _ e)
   ·subst e;exact⟨rfl,rfl⟩
   ·exact absurd k3 (h4 _ e)
  | source k1=>rw[h1] at k1;cases k1
  | missing k1=>rw[h1] at k1;cases k1
  | deep k1=>rw[h1] at k1;cases k1
  | made k1=>rw[h1] at k1;cases k1
  | fell k1=>rw[h1] at k1;cases k1
 | source h1 h2 h3=>
  intro m' a' h'
  cases h' with
  | known k1=>rw[h1] at k1;cases k1
  | circle k1=>rw[h1] at k1;cases k1
  | source k1 k2 k3=>obtain rfl:=Qax hs h2 k2 (h3.trans k3.symm);exact⟨rfl,rfl⟩
  | missing k1 k2=>exact absurd (Or.inl (h3▸Dh h2)) k2
  | deep k1 k2=>exact absurd (h3▸Dh h2) k2
  | made k1 k2=>exact absurd (h3▸Dh h2) k2
  | fell k1 k2=>exact absurd (h3▸Dh h2) k2
 | missing h1 h2=>
  intro m' a' h'
  cases h' with
  | known k1=>rw[h1] at k1;cases k1
  | circle k1=>rw[h1] at k1;cases k1
  | source k1 k2 k3=>exact absurd (Or.inl (k3▸Dh k2)) h2
  | missing k1 k2=>exact⟨rfl,rfl⟩
  | deep k1 k2 k3=>exact absurd (Or.inr k3) h2
  | made k1 k2 k3 k4=>exact absurd (Or.inr (k4▸Dq k3)) h2
  | fell k1 k2 k3 k4=>exact absurd (Or.inr (k4▸Dq k3)) h2
 | deep h1 h2 h3 h4=>
  intro m' a' h'
  cases h' with
  | known k1=>rw[h1] at k1;cases k1
  | circle k1=>rw[h1] at k1;cases k1
  | source k1 k2 k3=>exact absurd (k3▸Dh k2) h2
  | missing k1 k2=>exact absurd (Or.inr h3) k2
  | deep k1 k2 k3=>exact⟨rfl,rfl⟩
  | made k1 k2 k3 k4 k5=>omega
  | fell k1 k2 k3 k4 k5=>omega
 | made h1 h2 h3 h4 h5 _ ih=>
  intro m' a' h'
  cases h' with
  | known k1=>rw[h1] at k1;cases k1
  | circle k1=>rw[h1] at k1;cases k1
  | source k1 k2 k3=>exact absurd (k3▸Dh k2) h2
  | missing k1 k2=>exact absurd (Or.inr (h4▸Dq h3)) k2
  | deep k1 k2 k3 k4=>omega
  | made k1 k2 k3 k4 k5 k6=>
   obtain rfl:=Jk ht h3 k3 (h4.trans k4.symm);obtain⟨rfl,e⟩:=ih k6;cases e;exact⟨rfl,rfl⟩
  | fell k1 k2 k3 k4 k5 k6 k7=>
   obtain rfl:=Jk ht h3 k3 (h4.trans k4.symm);obtain⟨rfl,rfl⟩:=ih k6;exact absurd k7 id
 | fell h1 h2 h3 h4 h5 _ h7 ih=>
  intro m' a' h'
  cases h' with
  | known k1=>rw[h1] at k1;cases k1
  | circle k1=>rw[h1] at k1;cases k1
  | source k1 k2 k3=>exact absurd (k3▸Dh k2) h2
  | missing k1 k2=>exact absurd (Or.inr (h4▸Dq h3)) k2
  | deep k1 k2 k3 k4=>omega
  | made k1 k2 k3 k4 k5 k6=>
   obtain rfl:=Jk ht h3 k3 (h4.trans k4.symm);obtain⟨_,rfl⟩:=ih k6;exact absurd h7 id
  | fell k1 k2 k3 k4 k5 k6 k7=>
   obtain rfl:=Jk ht h3 k3 (h4.trans k4.symm);exact ih k6
 | over h1=>
  intro m' a' h'
  cases h' with
  | over k1=>cases Ca.unique h1 k1;exact⟨rfl,rfl⟩
  | has k1=>cases Ca.unique h1 k1
  | asked k1=>cases Ca.unique h1 k1
  | askfell k1=>cases Ca.unique h1 k1
 | has h1 _ ih=>
  intro m' a' h'
  cases h' with
  | over k1=>cases Ca.unique h1 k1
  | has k1 k2=>cases Ca.unique h1 k1;exact ih k2
  | asked k1=>cases Ca.unique h1 k1
  | askfell k1=>cases Ca.unique h1 k1
 | asked h1 _ _ ih1 ih2=>
  intro m' a' h'
  cases h' with
  | over k1=>cases Ca.unique h1 k1
  | has k1 k2=>cases Ca.unique h1 k1
  | asked k1 k2 k3=>cases Ca.unique h1 k1;obtain⟨rfl,e⟩:=ih1 k2;cases e;exact ih2 k3
  | askfell k1 k2 k3=>cases Ca.unique h1 k1;obtain⟨_,rfl⟩:=ih1 k2;exact absurd k3 id
 | askfell h1 _ h3 ih=>
  intro m' a' h'
  cases h' with
  | over k1=>cases Ca.unique h1 k1
  | has k1 k2=>cases Ca.unique h1 k1
  | asked k1 k2 k3=>cases Ca.unique h1 k1;obtain⟨_,rfl⟩:=ih k2;exact absurd h3 id
  | askfell k1 k2 k3=>cases Ca.unique h1 k1;exact ih k2
theorem Dp {nm:ByteArray} {o:Option Md} {r:Ms}:lk ((nm,o) :: r) nm=some o:=by simp[lk]
theorem Bs {nm nm':ByteArray} {o:Option Md} {r:Ms} (h:nm'≠nm):lk ((nm',o) :: r) nm=lk r nm:=by simp[lk,h]
theorem Di {ms:Ms} {nm:ByteArray} {o:Option Md} (h:lk ms nm=none):lk (ms++[(nm,o)]) nm=some o:=by
 induction ms with
 | nil=>rw[List.nil_append,Dp]
 | cons e r ih=>
  obtain⟨a,y⟩:=e
  by_cases ha:a=nm
  ·subst ha;rw[Dp] at h;cases h
  ·rw[Bs ha] at h;rw[List.cons_append,Bs ha];exact ih h
theorem Bu {ms:Ms} {nm nm':ByteArray} {o:Option Md} (hn:nm'≠nm):lk (ms++[(nm',o)]) nm=lk ms nm:=by
 induction ms with
 | nil=>rw[List.nil_append,Bs hn]
 | cons e r ih=>
  obtain⟨a,y⟩:=e
  by_cases ha:a=nm
  ·subst ha;rw[List.cons_append,Dp,Dp]
  ·rw[List.cons_append,Bs ha,Bs ha];exact ih
theorem Gc {ms:Ms} {nm:ByteArray} {d:Md} {x:Option Md} (h:lk ms nm=some x):lk (Fo ms nm d) nm=some (some d):=by
 induction ms with
 | nil=>cases h
 | cons e r ih=>
  obtain⟨a,o⟩:=e
  by_cases ha:a=nm
  ·subst ha;simp[Fo,lk]
  ·rw[Bs ha] at h;have:=ih h;simp only[Fo,List.map_cons,if_neg ha] at this ⊢;rw[Bs ha];exact this
theorem Fl {ms:Ms} {nm nm':ByteArray} {d:Md} (hn:nm'≠nm):lk (Fo ms nm' d) nm=lk ms nm:=by
 induction ms with
 | nil=>rfl
 | cons e r ih=>
  obtain⟨a,o⟩:=e
  by_cases ha:a=nm'
  ·subst ha;simp only[Fo,List.map_cons,if_true] at ih ⊢;rw[Bs hn,Bs hn];exact ih
  ·simp only[Fo,List.map_cons,if_neg ha] at ih ⊢
   by_cases hb:a=nm
   ·subst hb;rw[Dp,Dp]
   ·rw[Bs hb,Bs hb];exact ih
def Ei (ms:Ms):List ByteArray:=ms.map (·.1)
theorem Lz (ms:Ms) (nm:ByteArray) (d:Md):Ei (Fo ms nm d)=Ei ms:=by
 unfold Ei Fo
 rw[List.map_map]
 apply List.map_congr_left
 intro e he
 by_cases h:e.1=nm
 ·simp[h]
 ·simp[h]
theorem Gd {ms:Ms} {nm:ByteArray}:lk ms nm=none↔nm ∉ Ei ms:=by
 induction ms with
 | nil=>simp[lk,Ei]
 | cons e r ih=>
  obtain⟨a,o⟩:=e
  by_cases ha:a=nm
  ·subst ha;rw[Dp];simp[Ei]
  ·rw[Bs ha,ih];simp[Ei,Ne.symm ha]
structure MdOk (ss:List S2) (ts:List T2) (nm:ByteArray) (d:Md):Prop where
 c0:0<=d.c
 c5:d.c<=5
 t2:d.t.size<=2000
 ls:d.ls.length<=200
 no:¬ Kw ss ts nm->d=⟨4,nm,[]⟩
structure SpV (ss:List S2) (ts:List T2):Prop where
 ascS:Eu (Ag ss)
 ascT:Eu (Ae ts)
 dis:∀ nm,Ds (Ag ss) nm->¬ Ds (Ae ts) nm
 txt:∀ i,i<ss.length->(sx ss i).text.size<=2000
 pr:∀ i,i<ts.length->Al (tx ts i).code=true
 nm:∀ i,i<ts.length->Ar (tx ts i).name
structure Jg (ss:List S2) (ts:List T2) (ms:Ms) (st:List ByteArray):Prop where
 nd:(Ei ms).Nodup
 being:∀ nm,lk ms nm=some none↔nm∈st
 tgt:∀ nm,nm∈st->Ds (Ae ts) nm
 done:∀ nm d,lk ms nm=some (some d)->MdOk ss ts nm d
 nds:st.Nodup
theorem Jg.nil (ss:List S2) (ts:List T2):Jg ss ts [] []:=⟨by simp[Ei],fun nm=>by simp[lk],fun nm h=>by simp at h,fun nm d h=>by simp[lk] at h,by simp⟩
theorem Jg.add {ss:List S2} {ts:List T2} {ms:Ms} {st:List ByteArray} (h:Jg ss ts ms st) {nm:ByteArray} {d:Md} (hn:lk ms nm=none) (hd:MdOk ss ts nm d):Jg ss ts (ms++[(nm,some d)]) st:=by
 refine⟨?_,fun x=>?_,h.tgt,fun x e hx=>?_,h.nds⟩
 ·unfold Ei;rw[List.map_append,List.nodup_append];refine⟨h.nd,by simp,?_⟩;intro a ha b hb;simp at hb;subst hb;rintro rfl;exact Gd.mp hn ha
 ·by_cases hx:nm=x
  ·subst hx;rw[Di hn];constructor
   ·intro e;simp at e
   ·intro e;rw[(h.being nm).mpr e] at hn;cases hn
  ·rw[Bu hx];exact h.being x
 ·by_cases he:nm=x
  ·subst he;rw[Di hn] at hx;simp at hx;subst hx;exact hd
  ·rw[Bu he] at hx;exact h.done x e hx
theorem Jg.push {ss:List S2} {ts:List T2} {ms:Ms} {st:List ByteArray} (h:Jg ss ts ms st) {nm:ByteArray} (hn:lk ms nm=none) (ht:Ds (Ae ts) nm):Jg ss ts (ms++[(nm,none)]) (st++[nm]):=by
 have hns:nm ∉ st:=fun e=>by rw[(h.being nm).mpr e] at hn;cases hn
 refine⟨?_,fun x=>?_,fun x hx=>?_,fun x e hx=>?_,?_⟩
 ·unfold Ei;rw[List.map_append,List.nodup_append];refine⟨h.nd,by simp,?_⟩;intro a ha b hb;simp at hb;subst hb;rintro rfl;exact Gd.mp hn ha
 ·by_cases hx:nm=x
  ·subst hx;rw[Di hn];simp
  ·rw[Bu hx,h.being x];simp[Ne.symm hx]
 ·rcases List.mem_append.mp hx with hx|hx
  ·exact h.tgt x hx
  ·simp at hx;subst hx;exact ht
 ·by_cases he:nm=x
  ·subst he;rw[Di hn] at hx;simp at hx
  ·rw[Bu he] at hx;exact h.done x e hx
 ·rw[List.nodup_append];refine⟨h.nds,by simp,?_⟩;intro a ha b hb;simp at hb;subst hb;rintro rfl;exact hns ha
theorem Jg.pop {ss:List S2} {ts:List T2} {ms:Ms} {st:List ByteArray} {nm:ByteArray} {d:Md} (h:Jg ss ts ms (st++[nm])) (hd:MdOk ss ts nm d):Jg ss ts (Fo ms nm d) st:=by
 have hnd:=h.nds
 rw[List.nodup_append] at hnd
 have hns:nm ∉ st:=fun e=>hnd.2.2 nm e nm (by simp) rfl
 have hl:=(h.being nm).mpr (by simp)
 refine⟨by rw[Lz];exact h.nd,fun x=>?_,fun x hx=>h.tgt x (by simp[hx]),fun x e hx=>?_,hnd.1⟩
 ·by_cases hx:nm=x
  ·subst hx;rw[Gc hl];simp[hns]
  ·rw[Fl hx,h.being x];simp[Ne.symm hx]
 ·by_cases he:nm=x
  ·subst he;rw[Gc hl] at hx;simp at hx;subst hx;exact hd
  ·rw[Fl he] at hx;exact h.done x e hx
structure Gy (is:List I3) (ys:List R3) (ls:List G3):Prop where
 pr:Al is=true
 ok:∀ i,i<ys.length->Hx (rx ys i)=true
 eq:ls.length=ys.length
def JobOk:Job->Prop
 | .make nm=>Ar nm
 | .run is ys ls=>Gy is ys ls
theorem Ca.looks {is:List I3} {ys:List R3} (hv:Al is=true) (hys:∀ i,i<ys.length->(rx ys i).text.size<=2000) {s:St} {r:Res} (h:Ca is ys s r):Du is s->s.looks<=ys.length->∀ {ask nm n},r=.wait ask nm n->ys.length<200/\Ar nm:=by
 have hl:=(Em hv).2
 induction h with
 | over h1=>intro _ _ c t n e;cases e
 | go h1 _ ih=>intro hs hk c t n e;obtain⟨k1,k2⟩:=Np hv hs h1;exact ih k1 (by omega) e
 | wait h1 k1=>
  intro hs hk c t n e;cases e;obtain⟨q1,q2,q3,q4,q5,q6,q7,q8⟩:=Gz h1;have:=hs.looks;exact⟨by omega,(Ib hv hs h1).2⟩
 | ans h1 k1 a1 _ ih=>
  intro hs hk c t n e;obtain⟨q1,q2,q3,q4,q5,q6,q7,q8⟩:=Gz h1;have hs':=(Ib hv hs h1).1
  rename_i s s' s'' _ _
  have h50:s'.stack.length<50:=by rw[q7,Bk];have:=hs.len;omega
  have hso:Du is s''/\s''.looks=s'.looks:=by
   unfold Er at a1
   split at a1
   ·cases a1;exact⟨Jy hs' hl (by omega) h50 (by rw[Hg];omega),rfl⟩
   ·split at a1
    ·cases a1
    ·split at a1
     ·cases a1
     ·cases a1;exact⟨Jy hs' hl (by omega) h50 (hys _ k1),rfl⟩
  exact ih hso.1 (by omega) e
 | «end» h1 k1 a1=>intro _ _ c t n e;cases e
theorem Rf {ys:List R3} (h:∀ i,i<ys.length->Hx (rx ys i)=true):∀ i,i<ys.length->(rx ys i).text.size<=2000:=fun i hi=>by
 have:=h i hi
 simp only[Hx,Bool.and_eq_true,decide_eq_true_eq] at this
 exact this.1.1
theorem Qay {ys:List R3} {y:R3} (h:∀ i,i<ys.length->Hx (rx ys i)=true) (hy:Hx y=true):∀ i,i<(ys++[y]).length->Hx (rx (ys++[y]) i)=true:=by
 intro i hi
 rw[List.length_append,List.length_singleton] at hi
 rcases Nat.lt_or_ge i ys.length with h1|h1
 ·have e:rx (ys++[y]) i=rx ys i:=by
   unfold rx;rw[gG,gG,List.getElem?_append_left h1]
  rw[e];exact h i h1
 ·obtain rfl:i=ys.length:=by omega
  have:=rx_mid ys [] y;rw[List.append_nil] at this;rw[this];exact hy
theorem Gy.has {is:List I3} {ys:List R3} {ls:List G3} (h:Gy is ys ls) (b:Bool) (g:G3):Gy is (ys++[⟨b,0,⟨#[]⟩⟩]) (ls++[g]):=⟨h.pr,Qay h.ok (by cases b<;>decide),by simp[h.eq]⟩
theorem repP_ok {ss:List S2} {ts:List T2} {nm:ByteArray} {d:Md} (h:MdOk ss ts nm d):Hx (Ki ss ts nm d)=true:=by
 unfold Ki
 split
 ·have h1:=h.c0;have h2:=h.c5;have h3:=h.t2;simp only[Hx,Bool.and_eq_true,decide_eq_true_eq];omega
 ·decide
theorem Gy.asked {is:List I3} {ys:List R3} {ls:List G3} (h:Gy is ys ls) {ss:List S2} {ts:List T2} {nm:ByteArray} {d:Md} (hd:MdOk ss ts nm d) (g:G3):Gy is (ys++[Ki ss ts nm d]) (ls++[g]):=⟨h.pr,Qay h.ok (repP_ok hd),by simp[h.eq]⟩
theorem Gy.over {is:List I3} {ys:List R3} {ls:List G3} (h:Gy is ys ls) {c:Int} {t:ByteArray} {n:Nat} (hf:Ca is ys Gw (.over c t n)):t.size<=2000/\0<=c/\c<=5:=Ca.size h.pr (Rf h.ok) hf (Rc is) rfl
theorem Gy.wait {is:List I3} {ys:List R3} {ls:List G3} (h:Gy is ys ls) {ask:Bool} {nm:ByteArray} {n:Nat} (hf:Ca is ys Gw (.wait ask nm n)):ys.length<200/\Ar nm:=Ca.looks h.pr (Rf h.ok) hf (Rc is) (by simp[Gw]) rfl
theorem Au.inv {ss:List S2} {ts:List T2} (hv:SpV ss ts) {ms:Ms} {st:List ByteArray} {j:Job} {ms':Ms} {a:Yc} (h:Au ss ts ms st j ms' a):Jg ss ts ms st->JobOk j->(match j with|.run is ys ls=>ys.length<=200|_=>True)->∀ d,a=.ok d->Jg ss ts ms' st/\(∃ r,Ei ms'=Ei ms++r)/\(match j with|.make nm=>lk ms' nm=some (some d)|.run _ _ _=>0<=d.c/\d.c<=5/\d.t.size<=2000/\d.ls.length<=200):=by
 induction h with
 | known h1=>intro hi _ _ d e;cases e;exact⟨hi,⟨[],by simp⟩,h1⟩
 | circle=>intro _ _ _ d e;cases e
 | source h1 h2 h3=>
  intro hi _ _ d e;cases e;refine⟨hi.add h1 ⟨by simp,by simp,hv.txt _ h2,by simp,fun hn=>absurd (Or.inl (h3▸Dh h2)) hn⟩,⟨_,by simp[Ei];rfl⟩,Di h1⟩
 | missing h1 h2=>
  intro hi hj _ d e;cases e;have h60:_<=60:=hj.2.1;exact⟨hi.add h1 ⟨by simp,by simp,by simp;omega,by simp,fun _=>rfl⟩,⟨_,by simp[Ei];rfl⟩,Di h1⟩
 | deep=>intro _ _ _ d e;cases e
 | made h1 h2 h3 h4 h5 _ ih=>
  intro hi hj _ d e;cases e;have hth:=h4▸Dq h3;obtain⟨k1,⟨r,k2⟩,k3⟩:=ih (hi.push h1 hth) ⟨hv.pr _ h3,fun i hi=>by simp at hi,rfl⟩ (by simp) _ rfl;refine⟨k1.pop ⟨k3.1,k3.2.1,k3.2.2.1,k3.2.2.2,fun hn=>absurd (Or.inr hth) hn⟩,?_,?_⟩
  ·rw[Lz,k2]
   rename_i nm _ _ _ _ _
   exact⟨nm :: r,by simp[Ei]⟩
  ·exact Gc ((k1.being _).mpr (by simp))
 | fell _ _ _ _ _ _ h7 _=>intro _ _ _ d e;subst e;exact absurd h7 id
 | over h1=>
  intro hi hj hl d e;cases e;obtain⟨k1,k2,k3⟩:=hj.over h1;have:=hj.eq;exact⟨hi,⟨[],by simp⟩,k2,k3,k1,by simp only at hl ⊢;omega⟩
 | has h1 _ ih=>
  intro hi hj hl d e;obtain⟨k1,k2⟩:=hj.wait h1;exact ih hi (hj.has _ _) (by simp;omega) d e
 | asked h1 _ _ ih1 ih2=>
  intro hi hj hl d e;obtain⟨k1,k2⟩:=hj.wait h1;obtain⟨i1,⟨r1,i2⟩,i3⟩:=ih1 hi k2 trivial _ rfl;obtain⟨j1,⟨r2,j2⟩,j3⟩:=ih2 i1 (hj.asked (i1.done _ _ i3) _) (by simp;omega) d e;exact⟨j1,⟨r1++r2,by rw[j2,i2,List.append_assoc]⟩,j3⟩
 | askfell _ _ h3 _=>intro _ _ _ d e;subst e;exact absurd h3 id
end Go.Proofs.YtdbjfdhknkfjaaaGreatDoor
