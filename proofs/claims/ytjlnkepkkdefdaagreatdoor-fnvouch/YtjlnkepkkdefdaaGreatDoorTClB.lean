import Derived.Test.YtjlnkepkkdefdaaGreatDoorTVoA
import Derived.Test.YtjlnkepkkdefdaaGreatDoorTSrch
namespace Go.Proofs.YtjlnkepkkdefdaaGreatDoor
open Go.RowKit
set_option linter.unusedVariables false
set_option maxHeartbeats 8000000
set_option maxRecDepth 100000
set_option linter.unusedSimpArgs false
structure Md where
 c:Int
 t:ByteArray
 ls:List G3
inductive Um where
 | ok (d:Md)
 | circle (ch:List ByteArray)
 | deep (nm:ByteArray)
abbrev Ms:=List (ByteArray × Option Md)
open Classical in
noncomputable def lk (ms:Ms) (nm:ByteArray):Option (Option Md):=(ms.find? fun e=>decide (e.1=nm)).map (·.2)
open Classical in
noncomputable def Fx (ms:Ms) (nm:ByteArray) (d:Md):Ms:=ms.map fun e=>if e.1=nm then (nm,some d) else e
def Bn (c:Int) (t:ByteArray):ByteArray:=⟨#[UInt8.ofNat (48+c.toNat)]⟩++(⟨#[58]⟩:ByteArray)++t
def Lm (ss:List S2) (ts:List T2) (nm:ByteArray):Prop:=Fi (Ai ss) nm\/Fi (Ae ts) nm
open Classical in
noncomputable def Cb (ss:List S2) (ts:List T2) (nm:ByteArray):Bool:=decide (Lm ss ts nm)
noncomputable def Kw (ss:List S2) (ts:List T2) (nm:ByteArray) (d:Md):R3:=if Cb ss ts nm then ⟨true,d.c,d.t⟩ else ⟨false,0,⟨#[]⟩⟩
inductive Job where
 | make (nm:ByteArray)
 | run (is:List I3) (ys:List R3) (ls:List G3)
def Um.stop:Um->Prop
 | .ok _=>False
 | _=>True
inductive Av (ss:List S2) (ts:List T2):Ms->List ByteArray->Job->Ms->Um->Prop
 | known {ms st nm d}:lk ms nm=some (some d)->Av ss ts ms st (.make nm) ms (.ok d)
 | circle {ms st nm i}:lk ms nm=some none->i<st.length->nx st i=nm->(∀ j,j<i->nx st j≠nm)->Av ss ts ms st (.make nm) ms (.circle (st.drop i))
 | source {ms st nm i}:lk ms nm=none->i<ss.length->(sx ss i).name=nm->Av ss ts ms st (.make nm) (ms++[(nm,some ⟨0,(sx ss i).text,[]⟩)]) (.ok ⟨0,(sx ss i).text,[]⟩)
 | missing {ms st nm}:lk ms nm=none->¬ Lm ss ts nm->Av ss ts ms st (.make nm) (ms++[(nm,some ⟨4,nm,[]⟩)]) (.ok ⟨4,nm,[]⟩)
 | deep {ms st nm}:lk ms nm=none->¬ Fi (Ai ss) nm->Fi (Ae ts) nm->60<=st.length->Av ss ts ms st (.make nm) (ms++[(nm,none)]) (.deep nm)
 | made {ms st nm i ms' d}:lk ms nm=none->¬ Fi (Ai ss) nm->i<ts.length->(tx ts i).name=nm->st.length<60->Av ss ts (ms++[(nm,none)]) (st++[nm]) (.run (tx ts i).code [] []) ms' (.ok d)->Av ss ts ms st (.make nm) (Fx ms' nm d) (.ok d)
 | fell {ms st nm i ms' a}:lk ms nm=none->¬ Fi (Ai ss) nm->i<ts.length->(tx ts i).name=nm->st.length<60->Av ss ts (ms++[(nm,none)]) (st++[nm]) (.run (tx ts i).code [] []) ms' a->a.stop->Av ss ts ms st (.make nm) ms' a
 | over {ms st is ys ls c t n}:Az is ys Gc (.over c t n)->Av ss ts ms st (.run is ys ls) ms (.ok ⟨c,t,ls⟩)
 | has {ms st is ys ls nm n ms' a}:Az is ys Gc (.wait false nm n)->Av ss ts ms st (.run is (ys++[⟨Cb ss ts nm,0,⟨#[]⟩⟩]) (ls++[⟨nm,false,Cw (Cb ss ts nm)⟩])) ms' a->Av ss ts ms st (.run is ys ls) ms' a
 | asked {ms st is ys ls nm n ms1 d ms' a}:Az is ys Gc (.wait true nm n)->Av ss ts ms st (.make nm) ms1 (.ok d)->Av ss ts ms1 st (.run is (ys++[Kw ss ts nm d]) (ls++[⟨nm,true,Bn d.c d.t⟩])) ms' a->Av ss ts ms st (.run is ys ls) ms' a
 | askfell {ms st is ys ls nm n ms' a}:Az is ys Gc (.wait true nm n)->Av ss ts ms st (.make nm) ms' a->a.stop->Av ss ts ms st (.run is ys ls) ms' a
theorem asc_inj {l:List ByteArray} (h:Ey l) {i j:Nat} (hi:i<l.length) (hj:j<l.length) (e:nx l i=nx l j):i=j:=by
 rcases Nat.lt_trichotomy i j with h1|h1|h1
 ·have:=h.pair h1 hj;rw[e,Fa] at this;cases this
 ·exact h1
 ·have:=h.pair h1 hi;rw[e,Fa] at this;cases this
theorem src_inj {ss:List S2} (h:Ey (Ai ss)) {i j:Nat} (hi:i<ss.length) (hj:j<ss.length) (e:(sx ss i).name=(sx ss j).name):i=j:=asc_inj h (by rw[Ca];exact hi) (by rw[Ca];exact hj) (by rw[Eb,Eb];exact e)
theorem Il {ts:List T2} (h:Ey (Ae ts)) {i j:Nat} (hi:i<ts.length) (hj:j<ts.length) (e:(tx ts i).name=(tx ts j).name):i=j:=asc_inj h (by rw[Bj];exact hi) (by rw[Bj];exact hj) (by rw[Df,Df];exact e)
theorem Dm {ss:List S2} {i:Nat} (hi:i<ss.length):Fi (Ai ss) (sx ss i).name:=⟨i,by rw[Ca];exact hi,Eb ss i⟩
theorem Dv {ts:List T2} {i:Nat} (hi:i<ts.length):Fi (Ae ts) (tx ts i).name:=⟨i,by rw[Bj];exact hi,Df ts i⟩
theorem Av.unique {ss:List S2} {ts:List T2} (hs:Ey (Ai ss)) (ht:Ey (Ae ts)) {ms:Ms} {st:List ByteArray} {j:Job} {ms':Ms} {a:Um} (h:Av ss ts ms st j ms' a):∀ {ms'':Ms} {a':Um},Av ss ts ms st j ms'' a'->ms''=ms'/\a'=a:=by
 induction h with
 | known h1=>
  intro m' a' h'
  cases h' with
  | known k1=>rw[h1] at k1;cases k1;exact⟨rfl,rfl⟩
  | circle k1=>rw[h1] at k1;cases k1
  | source k1=>rw[h1] at k1;cases k1
  | missing k1=>rw[h1] at k1;cases k1
  | deep k1=>rw[h1] at k1;cases k1
  | made k1=>rw[h1] at k1;cases k1
  | fell k1=>rw[h1] at k1;cases k1
 | circle h1 h2 h3 h4=>
  intro m' a' h'
  cases h' with
  | known k1=>rw[h1] at k1;cases k1
  | circle k1 k2 k3 k4=>
   rename_i i i'
   rcases Nat.lt_trichotomy i i' with e|e|e
   ·exact absurd h3 (k4 _ e)
   ·subst e;exact⟨rfl,rfl⟩
   ·exact absurd k3 (h4 _ e)
  | source k1=>rw[h1] at k1;cases k1
  | missing k1=>rw[h1] at k1;cases k1
  | deep k1=>rw[h1] at k1;cases k1
  | made k1=>rw[h1] at k1;cases k1
  | fell k1=>rw[h1] at k1;cases k1
 | source h1 h2 h3=>
  intro m' a' h'
  cases h' with
  | known k1=>rw[h1] at k1;cases k1
  | circle k1=>rw[h1] at k1;cases k1
  | source k1 k2 k3=>obtain rfl:=src_inj hs h2 k2 (h3.trans k3.symm);exact⟨rfl,rfl⟩
  | missing k1 k2=>exact absurd (Or.inl (h3▸Dm h2)) k2
  | deep k1 k2=>exact absurd (h3▸Dm h2) k2
  | made k1 k2=>exact absurd (h3▸Dm h2) k2
  | fell k1 k2=>exact absurd (h3▸Dm h2) k2
 | missing h1 h2=>
  intro m' a' h'
  cases h' with
  | known k1=>rw[h1] at k1;cases k1
  | circle k1=>rw[h1] at k1;cases k1
  | source k1 k2 k3=>exact absurd (Or.inl (k3▸Dm k2)) h2
  | missing k1 k2=>exact⟨rfl,rfl⟩
  | deep k1 k2 k3=>exact absurd (Or.inr k3) h2
  | made k1 k2 k3 k4=>exact absurd (Or.inr (k4▸Dv k3)) h2
  | fell k1 k2 k3 k4=>exact absurd (Or.inr (k4▸Dv k3)) h2
 | deep h1 h2 h3 h4=>
  intro m' a' h'
  cases h' with
  | known k1=>rw[h1] at k1;cases k1
  | circle k1=>rw[h1] at k1;cases k1
  | source k1 k2 k3=>exact absurd (k3▸Dm k2) h2
  | missing k1 k2=>exact absurd (Or.inr h3) k2
  | deep k1 k2 k3=>exact⟨rfl,rfl⟩
  | made k1 k2 k3 k4 k5=>omega
  | fell k1 k2 k3 k4 k5=>omega
 | made h1 h2 h3 h4 h5 _ ih=>
  intro m' a' h'
  cases h' with
  | known k1=>rw[h1] at k1;cases k1
  | circle k1=>rw[h1] at k1;cases k1
  | source k1 k2 k3=>exact absurd (k3▸Dm k2) h2
  | missing k1 k2=>exact absurd (Or.inr (h4▸Dv h3)) k2
  | deep k1 k2 k3 k4=>omega
  | made k1 k2 k3 k4 k5 k6=>
   obtain rfl:=Il ht h3 k3 (h4.trans k4.symm);obtain⟨rfl,e⟩:=ih k6;cases e;exact⟨rfl,rfl⟩
  | fell k1 k2 k3 k4 k5 k6 k7=>
   obtain rfl:=Il ht h3 k3 (h4.trans k4.symm);obtain⟨rfl,rfl⟩:=ih k6;exact absurd k7 id
 | fell h1 h2 h3 h4 h5 _ h7 ih=>
  intro m' a' h'
  cases h' with
  | known k1=>rw[h1] at k1;cases k1
  | circle k1=>rw[h1] at k1;cases k1
  | source k1 k2 k3=>exact absurd (k3▸Dm k2) h2
  | missing k1 k2=>exact absurd (Or.inr (h4▸Dv h3)) k2
  | deep k1 k2 k3 k4=>omega
  | made k1 k2 k3 k4 k5 k6=>
   obtain rfl:=Il ht h3 k3 (h4.trans k4.symm);obtain⟨_,rfl⟩:=ih k6;exact absurd h7 id
  | fell k1 k2 k3 k4 k5 k6 k7=>
   obtain rfl:=Il ht h3 k3 (h4.trans k4.symm);exact ih k6
 | over h1=>
  intro m' a' h'
  cases h' with
  | over k1=>cases Az.unique h1 k1;exact⟨rfl,rfl⟩
  | has k1=>cases Az.unique h1 k1
  | asked k1=>cases Az.unique h1 k1
  | askfell k1=>cases Az.unique h1 k1
 | has h1 _ ih=>
  intro m' a' h'
  cases h' with
  | over k1=>cases Az.unique h1 k1
  | has k1 k2=>cases Az.unique h1 k1;exact ih k2
  | asked k1=>cases Az.unique h1 k1
  | askfell k1=>cases Az.unique h1 k1
 | asked h1 _ _ ih1 ih2=>
  intro m' a' h'
  cases h' with
  | over k1=>cases Az.unique h1 k1
  | has k1 k2=>cases Az.unique h1 k1
  | asked k1 k2 k3=>cases Az.unique h1 k1;obtain⟨rfl,e⟩:=ih1 k2;cases e;exact ih2 k3
  | askfell k1 k2 k3=>cases Az.unique h1 k1;obtain⟨_,rfl⟩:=ih1 k2;exact absurd k3 id
 | askfell h1 _ h3 ih=>
  intro m' a' h'
  cases h' with
  | over k1=>cases Az.unique h1 k1
  | has k1 k2=>cases Az.unique h1 k1
  | asked k1 k2 k3=>cases Az.unique h1 k1;obtain⟨_,rfl⟩:=ih k2;exact absurd h3 id
  | askfell k1 k2 k3=>cases Az.unique h1 k1;exact ih k2
theorem Du {nm:ByteArray} {o:Option Md} {r:Ms}:lk ((nm,o) :: r) nm=some o:=by simp[lk]
theorem Bt {nm nm':ByteArray} {o:Option Md} {r:Ms} (h:nm'≠nm):lk ((nm',o) :: r) nm=lk r nm:=by simp[lk,h]
theorem Dp {ms:Ms} {nm:ByteArray} {o:Option Md} (h:lk ms nm=none):lk (ms++[(nm,o)]) nm=some o:=by
 induction ms with
 | nil=>rw[List.nil_append,Du]
 | cons e r ih=>
  obtain⟨a,y⟩:=e
  by_cases ha:a=nm
  ·subst ha;rw[Du] at h;cases h
  ·rw[Bt ha] at h;rw[List.cons_append,Bt ha];exact ih h
theorem Bw {ms:Ms} {nm nm':ByteArray} {o:Option Md} (hn:nm'≠nm):lk (ms++[(nm',o)]) nm=lk ms nm:=by
 induction ms with
 | nil=>rw[List.nil_append,Bt hn]
 | cons e r ih=>
  obtain⟨a,y⟩:=e
  by_cases ha:a=nm
  ·subst ha;rw[List.cons_append,Du,Du]
  ·rw[List.cons_append,Bt ha,Bt ha];exact ih
theorem Gp {ms:Ms} {nm:ByteArray} {d:Md} {x:Option Md} (h:lk ms nm=some x):lk (Fx ms nm d) nm=some (some d):=by
 induction ms with
 | nil=>cases h
 | cons e r ih=>
  obtain⟨a,o⟩:=e
  by_cases ha:a=nm
  ·subst ha;simp[Fx,lk]
  ·rw[Bt ha] at h;have:=ih h;simp only[Fx,List.map_cons,if_neg ha] at this ⊢;rw[Bt ha];exact this
theorem Ft {ms:Ms} {nm nm':ByteArray} {d:Md} (hn:nm'≠nm):lk (Fx ms nm' d) nm=lk ms nm:=by
 induction ms with
 | nil=>rfl
 | cons e r ih=>
  obtain⟨a,o⟩:=e
  by_cases ha:a=nm'
  ·subst ha;simp only[Fx,List.map_cons,if_true] at ih ⊢;rw[Bt hn,Bt hn];exact ih
  ·simp only[Fx,List.map_cons,if_neg ha] at ih ⊢
   by_cases hb:a=nm
   ·subst hb;rw[Du,Du]
   ·rw[Bt hb,Bt hb];exact ih
def Eo (ms:Ms):List ByteArray:=ms.map (·.1)
theorem Mo (ms:Ms) (nm:ByteArray) (d:Md):Eo (Fx ms nm d)=Eo ms:=by
 unfold Eo Fx
 rw[List.map_map]
 apply List.map_congr_left
 intro e he
 by_cases h:e.1=nm
 ·simp[h]
 ·simp[h]
theorem Gq {ms:Ms} {nm:ByteArray}:lk ms nm=none↔nm ∉ Eo ms:=by
 induction ms with
 | nil=>simp[lk,Eo]
 | cons e r ih=>
  obtain⟨a,o⟩:=e
  by_cases ha:a=nm
  ·subst ha;rw[Du];simp[Eo]
  ·rw[Bt ha,ih];simp[Eo,Ne.symm ha]
structure MdOk (ss:List S2) (ts:List T2) (nm:ByteArray) (d:Md):Prop where
 c0:0<=d.c
 c5:d.c<=5
 t2:d.t.size<=2000
 ls:d.ls.length<=200
 no:¬ Lm ss ts nm->d=⟨4,nm,[]⟩
structure SpV (ss:List S2) (ts:List T2):Prop where
 ascS:Ey (Ai ss)
 ascT:Ey (Ae ts)
 dis:∀ nm,Fi (Ai ss) nm->¬ Fi (Ae ts) nm
 txt:∀ i,i<ss.length->(sx ss i).text.size<=2000
 pr:∀ i,i<ts.length->Ah (tx ts i).code=true
 nm:∀ i,i<ts.length->Aq (tx ts i).name
structure Ja (ss:List S2) (ts:List T2) (ms:Ms) (st:List ByteArray):Prop where
 nd:(Eo ms).Nodup
 being:∀ nm,lk ms nm=some none↔nm∈st
 tgt:∀ nm,nm∈st->Fi (Ae ts) nm
 done:∀ nm d,lk ms nm=some (some d)->MdOk ss ts nm d
 nds:st.Nodup
theorem Ja.nil (ss:List S2) (ts:List T2):Ja ss ts [] []:=⟨by simp[Eo],fun nm=>by simp[lk],fun nm h=>by simp at h,fun nm d h=>by simp[lk] at h,by simp⟩
theorem Ja.add {ss:List S2} {ts:List T2} {ms:Ms} {st:List ByteArray} (h:Ja ss ts ms st) {nm:ByteArray} {d:Md} (hn:lk ms nm=none) (hd:MdOk ss ts nm d):Ja ss ts (ms++[(nm,some d)]) st:=by
 refine⟨?_,fun x=>?_,h.tgt,fun x e hx=>?_,h.nds⟩
 ·unfold Eo;rw[List.map_append,List.nodup_append];refine⟨h.nd,by simp,?_⟩;intro a ha b hb;simp at hb;subst hb;rintro rfl;exact Gq.mp hn ha
 ·by_cases hx:nm=x
  ·subst hx;rw[Dp hn];constructor
   ·intro e;simp at e
   ·intro e;rw[(h.being nm).mpr e] at hn;cases hn
  ·rw[Bw hx];exact h.being x
 ·by_cases he:nm=x
  ·subst he;rw[Dp hn] at hx;simp at hx;subst hx;exact hd
  ·rw[Bw he] at hx;exact h.done x e hx
theorem Ja.push {ss:List S2} {ts:List T2} {ms:Ms} {st:List ByteArray} (h:Ja ss ts ms st) {nm:ByteArray} (hn:lk ms nm=none) (ht:Fi (Ae ts) nm):Ja ss ts (ms++[(nm,none)]) (st++[nm]):=by
 have hns:nm ∉ st:=fun e=>by rw[(h.being nm).mpr e] at hn;cases hn
 refine⟨?_,fun x=>?_,fun x hx=>?_,fun x e hx=>?_,?_⟩
 ·unfold Eo;rw[List.map_append,List.nodup_append];refine⟨h.nd,by simp,?_⟩;intro a ha b hb;simp at hb;subst hb;rintro rfl;exact Gq.mp hn ha
 ·by_cases hx:nm=x
  ·subst hx;rw[Dp hn];simp
  ·rw[Bw hx,h.being x];simp[Ne.symm hx]
 ·rcases List.mem_append.mp hx with hx|hx
  ·exact h.tgt x hx
  ·simp at hx;subst hx;exact ht
 ·by_cases he:nm=x
  ·subst he;rw[Dp hn] at hx;simp at hx
  ·rw[Bw he] at hx;exact h.done x e hx
 ·rw[List.nodup_append];refine⟨h.nds,by simp,?_⟩;intro a ha b hb;simp at hb;subst hb;rintro rfl;exact hns ha
theorem Ja.pop {ss:List S2} {ts:List T2} {ms:Ms} {st:List ByteArray} {nm:ByteArray} {d:Md} (h:Ja ss ts ms (st++[nm])) (hd:MdOk ss ts nm d):Ja ss ts (Fx ms nm d) st:=by
 have hnd:=h.nds
 rw[List.nodup_append] at hnd
 have hns:nm ∉ st:=fun e=>hnd.2.2 nm e nm (by simp) rfl
 have hl:=(h.being nm).mpr (by simp)
 refine⟨by rw[Mo];exact h.nd,fun x=>?_,fun x hx=>h.tgt x (by simp[hx]),fun x e hx=>?_,hnd.1⟩
 ·by_cases hx:nm=x
  ·subst hx;rw[Gp hl];simp[hns]
  ·rw[Ft hx,h.being x];simp[Ne.symm hx]
 ·by_cases he:nm=x
  ·subst he;rw[Gp hl] at hx;simp at hx;subst hx;exact hd
  ·rw[Ft he] at hx;exact h.done x e hx
structure Hk (is:List I3) (ys:List R3) (ls:List G3):Prop where
 pr:Ah is=true
 ok:∀ i,i<ys.length->Fg (rx ys i)=true
 eq:ls.length=ys.length
def JobOk:Job->Prop
 | .make nm=>Aq nm
 | .run is ys ls=>Hk is ys ls
theorem Az.looks {is:List I3} {ys:List R3} (hv:Ah is=true) (hys:∀ i,i<ys.length->(rx ys i).text.size<=2000) {s:St} {r:Res} (h:Az is ys s r):Ec is s->s.looks<=ys.length->∀ {ask nm n},r=.wait ask nm n->ys.length<200/\Aq nm:=by
 have hl:=(Ed hv).2
 induction h with
 | over h1=>intro _ _ c t n e;cases e
 | go h1 _ ih=>intro hs hk c t n e;obtain⟨k1,k2⟩:=Od hv hs h1;exact ih k1 (by omega) e
 | wait h1 k1=>
  intro hs hk c t n e;cases e;obtain⟨q1,q2,q3,q4,q5,q6,q7,q8⟩:=Gm h1;have:=hs.looks;exact⟨by omega,(Ip hv hs h1).2⟩
 | ans h1 k1 a1 _ ih=>
  intro hs hk c t n e;obtain⟨q1,q2,q3,q4,q5,q6,q7,q8⟩:=Gm h1;have hs':=(Ip hv hs h1).1
  rename_i s s' s'' _ _
  have h50:s'.stack.length<50:=by rw[q7,Bi];have:=hs.len;omega
  have hso:Ec is s''/\s''.looks=s'.looks:=by
   unfold Dy at a1
   split at a1
   ·cases a1;exact⟨Kg hs' hl (by omega) h50 (by rw[Ht];omega),rfl⟩
   ·split at a1
    ·cases a1
    ·split at a1
     ·cases a1
     ·cases a1;exact⟨Kg hs' hl (by omega) h50 (hys _ k1),rfl⟩
  exact ih hso.1 (by omega) e
 | «end» h1 k1 a1=>intro _ _ c t n e;cases e
theorem Rt {ys:List R3} (h:∀ i,i<ys.length->Fg (rx ys i)=true):∀ i,i<ys.length->(rx ys i).text.size<=2000:=fun i hi=>by
 have:=h i hi
 simp only[Fg,Bool.and_eq_true,decide_eq_true_eq] at this
 exact this.1.1
theorem Vv {ys:List R3} {y:R3} (h:∀ i,i<ys.length->Fg (rx ys i)=true) (hy:Fg y=true):∀ i,i<(ys++[y]).length->Fg (rx (ys++[y]) i)=true:=by
 intro i hi
 rw[List.length_append,List.length_singleton] at hi
 rcases Nat.lt_or_ge i ys.length with h1|h1
 ·have e:rx (ys++[y]) i=rx ys i:=by
   unfold rx;rw[gG,gG,List.getElem?_append_left h1]
  rw[e];exact h i h1
 ·obtain rfl:i=ys.length:=by omega
  have:=rx_mid ys [] y;rw[List.append_nil] at this;rw[this];exact hy
theorem Hk.has {is:List I3} {ys:List R3} {ls:List G3} (h:Hk is ys ls) (b:Bool) (g:G3):Hk is (ys++[⟨b,0,⟨#[]⟩⟩]) (ls++[g]):=⟨h.pr,Vv h.ok (by cases b<;>decide),by simp[h.eq]⟩
theorem repP_ok {ss:List S2} {ts:List T2} {nm:ByteArray} {d:Md} (h:MdOk ss ts nm d):Fg (Kw ss ts nm d)=true:=by
 unfold Kw
 split
 ·have h1:=h.c0;have h2:=h.c5;have h3:=h.t2;simp only[Fg,Bool.and_eq_true,decide_eq_true_eq];omega
 ·decide
theorem Hk.asked {is:List I3} {ys:List R3} {ls:List G3} (h:Hk is ys ls) {ss:List S2} {ts:List T2} {nm:ByteArray} {d:Md} (hd:MdOk ss ts nm d) (g:G3):Hk is (ys++[Kw ss ts nm d]) (ls++[g]):=⟨h.pr,Vv h.ok (repP_ok hd),by simp[h.eq]⟩
theorem Hk.over {is:List I3} {ys:List R3} {ls:List G3} (h:Hk is ys ls) {c:Int} {t:ByteArray} {n:Nat} (hf:Az is ys Gc (.over c t n)):t.size<=2000/\0<=c/\c<=5:=Az.size h.pr (Rt h.ok) hf (Px is) rfl
theorem Hk.wait {is:List I3} {ys:List R3} {ls:List G3} (h:Hk is ys ls) {ask:Bool} {nm:ByteArray} {n:Nat} (hf:Az is ys Gc (.wait ask nm n)):ys.length<200/\Aq nm:=Az.looks h.pr (Rt h.ok) hf (Px is) (by simp[Gc]) rfl
theorem Av.inv {ss:List S2} {ts:List T2} (hv:SpV ss ts) {ms:Ms} {st:List ByteArray} {j:Job} {ms':Ms} {a:Um} (h:Av ss ts ms st j ms' a):Ja ss ts ms st->JobOk j->(match j with|.run is ys ls=>ys.length<=200|_=>True)->∀ d,a=.ok d->Ja ss ts ms' st/\(∃ r,Eo ms'=Eo ms++r)/\(match j with|.make nm=>lk ms' nm=some (some d)|.run _ _ _=>0<=d.c/\d.c<=5/\d.t.size<=2000/\d.ls.length<=200):=by
 induction h with
 | known h1=>intro hi _ _ d e;cases e;exact⟨hi,⟨[],by simp⟩,h1⟩
 | circle=>intro _ _ _ d e;cases e
 | source h1 h2 h3=>
  intro hi _ _ d e;cases e;refine⟨hi.add h1 ⟨by simp,by simp,hv.txt _ h2,by simp,fun hn=>absurd (Or.inl (h3▸Dm h2)) hn⟩,⟨_,by simp[Eo];rfl⟩,Dp h1⟩
 | missing h1 h2=>
  intro hi hj _ d e;cases e;have h60:_<=60:=hj.2.1;exact⟨hi.add h1 ⟨by simp,by simp,by simp;omega,by simp,fun _=>rfl⟩,⟨_,by simp[Eo];rfl⟩,Dp h1⟩
 | deep=>intro _ _ _ d e;cases e
 | made h1 h2 h3 h4 h5 _ ih=>
  intro hi hj _ d e;cases e;have hth:=h4▸Dv h3;obtain⟨k1,⟨r,k2⟩,k3⟩:=ih (hi.push h1 hth) ⟨hv.pr _ h3,fun i hi=>by simp at hi,rfl⟩ (by simp) _ rfl;refine⟨k1.pop ⟨k3.1,k3.2.1,k3.2.2.1,k3.2.2.2,fun hn=>absurd (Or.inr hth) hn⟩,?_,?_⟩
  ·rw[Mo,k2]
   rename_i nm _ _ _ _ _
   exact⟨nm :: r,by simp[Eo]⟩
  ·exact Gp ((k1.being _).mpr (by simp))
 | fell _ _ _ _ _ _ h7 _=>intro _ _ _ d e;subst e;exact absurd h7 id
 | over h1=>
  intro hi hj hl d e;cases e;obtain⟨k1,k2,k3⟩:=hj.over h1;have:=hj.eq;exact⟨hi,⟨[],by simp⟩,k2,k3,k1,by simp only at hl ⊢;omega⟩
 | has h1 _ ih=>
  intro hi hj hl d e;obtain⟨k1,k2⟩:=hj.wait h1;exact ih hi (hj.has _ _) (by simp;omega) d e
 | asked h1 _ _ ih1 ih2=>
  intro hi hj hl d e;obtain⟨k1,k2⟩:=hj.wait h1;obtain⟨i1,⟨r1,i2⟩,i3⟩:=ih1 hi k2 trivial _ rfl;obtain⟨j1,⟨r2,j2⟩,j3⟩:=ih2 i1 (hj.asked (i1.done _ _ i3) _) (by simp;omega) d e;exact⟨j1,⟨r1++r2,by rw[j2,i2,List.append_assoc]⟩,j3⟩
 | askfell _ _ h3 _=>intro _ _ _ d e;subst e;exact absurd h3 id
end Go.Proofs.YtjlnkepkkdefdaaGreatDoor
