import Derived.Test.YtbkkjodaaijimaaGreatDoorVpA
import Derived.Test.YtbkkjodaaijimaaGreatDoorVsN
import Derived.Test.YtbkkjodaaijimaaGreatDoorVsV
namespace Go.Proofs.YtbkkjodaaijimaaGreatDoor
open _root_.Go.Proofs.Tryz Go.RowKit
open Option renaming some->M,none->N
open _root_ renaming List->L,Nat->X
set_option linter.unusedVariables false
set_option linter.unusedSimpArgs false
variable {n:X} {T1:L By}
structure Sb where
 T:L By
 R:L T3
 ran:L By
 held:L By
inductive Hm where
 | circle (ch:L By)
 | deep (nm:By)
 | clash (A B:By)
 | full
inductive BJ where
 | make (nm:By)
 | work (nm:By) (is:L I3)
 | tri (is:L I3) (i m:X)
 | holds (gs:L G3) (k:X)
 | run (is:L I3) (ys:L R3) (ls:L G3)
inductive BA where
 | ok (d:Md)
 | hit (c:Int) (t:By)
 | none
 | yes
 | no
 | bad (b:Hm)
abbrev Mm:=L (ByteArray×Md)
open Classical in
noncomputable def fd (ms:Mm) (nm:By):Option Md:=(ms.find? λe=>decide (e.1=nm)).map (·.2)
inductive Dj (n:X):L By->L By->L By->Option Hm->Prop
 | nil {T}:Dj n T [] T N
 | go {T x xs r T' T'' a}:Rp n T (Av n x) r->Iv n T x r 0 T' ⟨#[]⟩ ⟨#[]⟩->Dj n T' xs T'' a->Dj n T (x::xs) T'' a
 | clash {T x xs r A B}:Rp n T (Av n x) r->Iv n T x r 2 T A B->Dj n T (x::xs) T (M (.clash A B))
 | full {T x xs r}:Rp n T (Av n x) r->Iv n T x r 3 T ⟨#[]⟩ ⟨#[]⟩->Dj n T (x::xs) T (M .full)
theorem Rp.uniq{T:L By}{x:By}{r r':X}(h:Rp n T x r)(h':Rp n T x r'):r'=r:=by
 rcases Nat.lt_trichotomy r r' with k|k|k
 ·have h1:=h'.lo r k;have h2:=h.hi (zo h'.le);rw[h1]at h2;cases h2
 ·exact k.symm
 ·have h1:=h.lo r' k;have h2:=h'.hi (zo h.le);rw[h1]at h2;cases h2
theorem Iv.uniq{T:L By}{x:By}{r:X}{cd cd':Int}{T2:L By}{A A' B B':By}(h:Iv n T x r cd T1 A B)(h':Iv n T x r cd' T2 A' B'):cd'=cd/\T2=T1/\A'=A/\B'=B:=by
 rcases h with⟨a,b,rfl,rfl,rfl,rfl⟩|⟨a,b,rfl,rfl,rfl,rfl⟩|⟨a,b,rfl,rfl,rfl,rfl⟩|⟨a,b,rfl,rfl,rfl,rfl⟩<;>rcases h' with⟨a',b',rfl,rfl,rfl,rfl⟩|⟨a',b',rfl,rfl,rfl,rfl⟩|⟨a',b',rfl,rfl,rfl,rfl⟩|⟨a',b',rfl,rfl,rfl,rfl⟩<;>first|exact⟨rfl,rfl,rfl,rfl⟩|exact absurd a a'|exact absurd a' a|exact absurd b b'|exact absurd b' b
theorem Dj.uniq{T xs:L By}{a:Option Hm}(h:Dj n T xs T1 a):∀ {T2 a'},Dj n T xs T2 a'->T2=T1/\a'=a:=by
 induction h with
 | nil=>intro T2 a' h';cases h';exact⟨rfl,rfl⟩
 | go h1 h2 _ ih=>
   intro T2 a' h'
   cases h' with
   | go k1 k2 k3=>obtain rfl:=h1.uniq k1;obtain⟨_,rfl,_,_⟩:=h2.uniq k2;exact ih k3
   | clash k1 k2=>obtain rfl:=h1.uniq k1;obtain⟨e,_⟩:=h2.uniq k2;cases e
   | full k1 k2=>obtain rfl:=h1.uniq k1;obtain⟨e,_⟩:=h2.uniq k2;cases e
 | clash h1 h2=>
   intro T2 a' h'
   cases h' with
   | go k1 k2 k3=>obtain rfl:=h1.uniq k1;obtain⟨e,_⟩:=h2.uniq k2;cases e
   | clash k1 k2=>obtain rfl:=h1.uniq k1;obtain⟨_,_,rfl,rfl⟩:=h2.uniq k2;exact⟨rfl,rfl⟩
   | full k1 k2=>obtain rfl:=h1.uniq k1;obtain⟨e,_⟩:=h2.uniq k2;cases e
 | full h1 h2=>
   intro T2 a' h'
   cases h' with
   | go k1 k2 k3=>obtain rfl:=h1.uniq k1;obtain⟨e,_⟩:=h2.uniq k2;cases e
   | clash k1 k2=>obtain rfl:=h1.uniq k1;obtain⟨e,_⟩:=h2.uniq k2;cases e
   | full k1 k2=>exact⟨rfl,rfl⟩
def Iu(ls:L G3):L By:=(ls.filter (·.ask)).map (·.sum)
inductive Fw (n:X) (s:Sb) (is:L I3) (ls:L G3) (c:Int) (t:By):Sb->Option Hm->Prop
 | ok {T'}:Dj n s.T (Iu ls++[Bi c t]) T' N->s.R.length<2000->Fw n s is ls c t ⟨T',s.R++[⟨is,ls.map (Hg n),Av n (Bi c t)⟩],s.ran,s.held⟩ N
 | recs {T'}:Dj n s.T (Iu ls++[Bi c t]) T' N->2000<=s.R.length->Fw n s is ls c t ⟨T',s.R,s.ran,s.held⟩ (M .full)
 | bad {T' b}:Dj n s.T (Iu ls++[Bi c t]) T' (M b)->Fw n s is ls c t ⟨T',s.R,s.ran,s.held⟩ (M b)
theorem Fw.uniq{s:Sb}{is:L I3}{ls:L G3}{c:Int}{t:By}{s1 s2:Sb}{a a':Option Hm}(h:Fw n s is ls c t s1 a)(h':Fw n s is ls c t s2 a'):s2=s1/\a'=a:=by
 cases h with
 | ok h1 h2=>cases h' with
   | ok k1 k2=>obtain⟨rfl,_⟩:=h1.uniq k1;exact⟨rfl,rfl⟩
   | recs k1 k2=>omega
   | bad k1=>obtain⟨_,e⟩:=h1.uniq k1;cases e
 | recs h1 h2=>cases h' with
   | ok k1 k2=>omega
   | recs k1 k2=>obtain⟨rfl,_⟩:=h1.uniq k1;exact⟨rfl,rfl⟩
   | bad k1=>obtain⟨_,e⟩:=h1.uniq k1;cases e
 | bad h1=>cases h' with
   | ok k1 k2=>obtain⟨_,e⟩:=h1.uniq k1;cases e
   | recs k1 k2=>obtain⟨_,e⟩:=h1.uniq k1;cases e
   | bad k1=>obtain⟨rfl,e⟩:=h1.uniq k1;cases e;exact⟨rfl,rfl⟩
noncomputable def outT (n:X) (s:Sb) (i:X):By:=Lq n s.T (qx s.R i).out
def Us(n:X)(s:Sb)(is:L I3)(i:X):Prop:=(qx s.R i).code=is/\Yh (outT n s i)
inductive Bc (ss:L S2) (ts:L T2) (n:X):Mm->Sb->L By->BJ->Mm->Sb->BA->Prop
 | known {ms s st nm d}:fd ms nm=M d->Bc ss ts n ms s st (.make nm) ms s (.ok d)
 | circle {ms s st nm i}:fd ms nm=N->i<st.length->nx st i=nm->(∀j,j<i->nx st j≠nm)->Bc ss ts n ms s st (.make nm) ms s (.bad (.circle (st.drop i)))
 | source {ms s st nm i}:fd ms nm=N->¬ Ed st nm->i<ss.length->(sx ss i).name=nm->Bc ss ts n ms s st (.make nm) (ms++[(nm,⟨0,(sx ss i).text,[]⟩)]) s (.ok ⟨0,(sx ss i).text,[]⟩)
 | missing {ms s st nm}:fd ms nm=N->¬ Ed st nm->¬ Xf ss ts nm->Bc ss ts n ms s st (.make nm) (ms++[(nm,⟨4,nm,[]⟩)]) s (.ok ⟨4,nm,[]⟩)
 | deep {ms s st nm}:fd ms nm=N->¬ Ed st nm->¬ Ed (Am ss) nm->Ed (Ak ts) nm->60<=st.length->Bc ss ts n ms s st (.make nm) ms s (.bad (.deep nm))
 | made {ms s st nm i ms' s' d}:fd ms nm=N->¬ Ed st nm->¬ Ed (Am ss) nm->i<ts.length->(tx ts i).name=nm->st.length<60->Bc ss ts n ms s (st++[nm]) (.work nm (tx ts i).code) ms' s' (.ok d)->Bc ss ts n ms s st (.make nm) (ms'++[(nm,d)]) s' (.ok d)
 | fell {ms s st nm i ms' s' b}:fd ms nm=N->¬ Ed st nm->¬ Ed (Am ss) nm->i<ts.length->(tx ts i).name=nm->st.length<60->Bc ss ts n ms s (st++[nm]) (.work nm (tx ts i).code) ms' s' (.bad b)->Bc ss ts n ms s st (.make nm) ms' s' (.bad b)
 | held {ms s st nm is ms' s' c t}:Bc ss ts n ms s st (.tri is 0 s.R.length) ms' s' (.hit c t)->Bc ss ts n ms s st (.work nm is) ms' ⟨s'.T,s'.R,s'.ran,s'.held++[nm]⟩ (.ok ⟨c,t,[]⟩)
 | tfell {ms s st nm is ms' s' b}:Bc ss ts n ms s st (.tri is 0 s.R.length) ms' s' (.bad b)->Bc ss ts n ms s st (.work nm is) ms' s' (.bad b)
 | ran {ms s st nm is ms1 s1 ms' s' d}:Bc ss ts n ms s st (.tri is 0 s.R.length) ms1 s1 .none->Bc ss ts n ms1 s1 st (.run is [] []) ms' s' (.ok d)->Bc ss ts n ms s st (.work nm is) ms' ⟨s'.T,s'.R,s'.ran++[nm],s'.held⟩ (.ok d)
 | rfell {ms s st nm is ms1 s1 ms' s' b}:Bc ss ts n ms s st (.tri is 0 s.R.length) ms1 s1 .none->Bc ss ts n ms1 s1 st (.run is [] []) ms' s' (.bad b)->Bc ss ts n ms s st (.work nm is) ms' s' (.bad b)
 | tend {ms s st is i m}:m<=i->Bc ss ts n ms s st (.tri is i m) ms s .none
 | tother {ms s st is i m ms' s' a}:i<m->¬ Us n s is i->Bc ss ts n ms s st (.tri is (i+1) m) ms' s' a->Bc ss ts n ms s st (.tri is i m) ms' s' a
 | thit {ms s st is i m ms' s'}:i<m->Us n s is i->Bc ss ts n ms s st (.holds (qx s.R i).looks 0) ms' s' .yes->Bc ss ts n ms s st (.tri is i m) ms' s' (.hit (rdC (outT n s i)) (rdT (outT n s i)))
 | tno {ms s st is i m ms1 s1 ms' s' a}:i<m->Us n s is i->Bc ss ts n ms s st (.holds (qx s.R i).looks 0) ms1 s1 .no->Bc ss ts n ms1 s1 st (.tri is (i+1) m) ms' s' a->Bc ss ts n ms s st (.tri is i m) ms' s' a
 | tbad {ms s st is i m ms' s' b}:i<m->Us n s is i->Bc ss ts n ms s st (.holds (qx s.R i).looks 0) ms' s' (.bad b)->Bc ss ts n ms s st (.tri is i m) ms' s' (.bad b)
 | hend {ms s st gs k}:gs.length<=k->Bc ss ts n ms s st (.holds gs k) ms s .yes
 | hhas {ms s st gs k ms' s' a}:k<gs.length->(gx gs k).ask=false->Av n (Cl (Cf ss ts (gx gs k).name))=(gx gs k).sum->Bc ss ts n ms s st (.holds gs (k+1)) ms' s' a->Bc ss ts n ms s st (.holds gs k) ms' s' a
 | hhasno {ms s st gs k}:k<gs.length->(gx gs k).ask=false->Av n (Cl (Cf ss ts (gx gs k).name))≠(gx gs k).sum->Bc ss ts n ms s st (.holds gs k) ms s .no
 | hask {ms s st gs k ms1 s1 d ms' s' a}:k<gs.length->(gx gs k).ask=true->Bc ss ts n ms s st (.make (gx gs k).name) ms1 s1 (.ok d)->Av n (Bi d.c d.t)=(gx gs k).sum->Bc ss ts n ms1 s1 st (.holds gs (k+1)) ms' s' a->Bc ss ts n ms s st (.holds gs k) ms' s' a
 | haskno {ms s st gs k ms' s' d}:k<gs.length->(gx gs k).ask=true->Bc ss ts n ms s st (.make (gx gs k).name) ms' s' (.ok d)->Av n (Bi d.c d.t)≠(gx gs k).sum->Bc ss ts n ms s st (.holds gs k) ms' s' .no
 | haskbad {ms s st gs k ms' s' b}:k<gs.length->(gx gs k).ask=true->Bc ss ts n ms s st (.make (gx gs k).name) ms' s' (.bad b)->Bc ss ts n ms s st (.holds gs k) ms' s' (.bad b)
 | over {ms s st is ys ls c t m s'}:Ce is ys Lz (.over c t m)->Fw n s is ls c t s' N->Bc ss ts n ms s st (.run is ys ls) ms s' (.ok ⟨c,t,ls⟩)
 | overbad {ms s st is ys ls c t m s' b}:Ce is ys Lz (.over c t m)->Fw n s is ls c t s' (M b)->Bc ss ts n ms s st (.run is ys ls) ms s' (.bad b)
 | has {ms s st is ys ls nm m ms' s' a}:Ce is ys Lz (.wait false nm m)->Bc ss ts n ms s st (.run is (ys++[⟨Cf ss ts nm,0,⟨#[]⟩⟩]) (ls++[⟨nm,false,Cl (Cf ss ts nm)⟩])) ms' s' a->Bc ss ts n ms s st (.run is ys ls) ms' s' a
 | asked {ms s st is ys ls nm m ms1 s1 d ms' s' a}:Ce is ys Lz (.wait true nm m)->Bc ss ts n ms s st (.make nm) ms1 s1 (.ok d)->Bc ss ts n ms1 s1 st (.run is (ys++[Vn ss ts nm d]) (ls++[⟨nm,true,Bi d.c d.t⟩])) ms' s' a->Bc ss ts n ms s st (.run is ys ls) ms' s' a
 | askbad {ms s st is ys ls nm m ms' s' b}:Ce is ys Lz (.wait true nm m)->Bc ss ts n ms s st (.make nm) ms' s' (.bad b)->Bc ss ts n ms s st (.run is ys ls) ms' s' (.bad b)
theorem Bc.unique{ss:L S2}{ts:L T2}(hs:Fs (Am ss))(ht:Fs (Ak ts)){ms:Mm}{s:Sb}{st:L By}{j:BJ}{ms1:Mm}{s1:Sb}{a:BA}(h:Bc ss ts n ms s st j ms1 s1 a):∀ {br:Mm} {s2:Sb} {a2:BA},Bc ss ts n ms s st j br s2 a2->br=ms1/\s2=s1/\a2=a:=by
 induction h with
 | known h1=>
   intro m2 s2 a2 q
   cases q with
   | known k1=>rw[h1]at k1;cases k1;exact⟨rfl,rfl,rfl⟩
   | circle k1=>rw[h1]at k1;cases k1
   | source k1=>rw[h1]at k1;cases k1
   | missing k1=>rw[h1]at k1;cases k1
   | deep k1=>rw[h1]at k1;cases k1
   | made k1=>rw[h1]at k1;cases k1
   | fell k1=>rw[h1]at k1;cases k1
 | circle h1 h2 h3 h4=>
   intro m2 s2 a2 q
   cases q with
   | known k1=>rw[h1]at k1;cases k1
   | circle k1 k2 k3 k4=>
     rename_i i i'
     rcases Nat.lt_trichotomy i i' with e|e|e
     ·exact absurd h3 (k4 _ e)
     ·subst e;exact⟨rfl,rfl,rfl⟩
     ·exact absurd k3 (h4 _ e)
   | source k1 k0=>exact absurd ⟨_,h2,h3⟩ k0
   | missing k1 k0=>exact absurd ⟨_,h2,h3⟩ k0
   | deep k1 k0=>exact absurd ⟨_,h2,h3⟩ k0
   | made k1 k0=>exact absurd ⟨_,h2,h3⟩ k0
   | fell k1 k0=>exact absurd ⟨_,h2,h3⟩ k0
 | source h1 h0 h2 h3=>
   intro m2 s2 a2 q
   cases q with
   | known k1=>rw[h1]at k1;cases k1
   | circle k1 k2 k3=>exact absurd ⟨_,k2,k3⟩ h0
   | source k1 k0 k2 k3=>obtain rfl:=src_inj hs h2 k2 (h3.trans k3.symm);exact⟨rfl,rfl,rfl⟩
   | missing k1 k0 k2=>exact absurd (Or.inl (h3▸Hf h2)) k2
   | deep k1 k0 k2=>exact absurd (h3▸Hf h2) k2
   | made k1 k0 k2=>exact absurd (h3▸Hf h2) k2
   | fell k1 k0 k2=>exact absurd (h3▸Hf h2) k2
 | missing h1 h0 h2=>
   intro m2 s2 a2 q
   cases q with
   | known k1=>rw[h1]at k1;cases k1
   | circle k1 k2 k3=>exact absurd ⟨_,k2,k3⟩ h0
   | source k1 k0 k2 k3=>exact absurd (Or.inl (k3▸Hf k2)) h2
   | missing k1 k0 k2=>exact⟨rfl,rfl,rfl⟩
   | deep k1 k0 k2 k3=>exact absurd (Or.inr k3) h2
   | made k1 k0 k2 k3 k4=>exact absurd (Or.inr (k4▸Il k3)) h2
   | fell k1 k0 k2 k3 k4=>exact absurd (Or.inr (k4▸Il k3)) h2
 | deep h1 h0 h2 h3 h4=>
   intro m2 s2 a2 q
   cases q with
   | known k1=>rw[h1]at k1;cases k1
   | circle k1 k2 k3=>exact absurd ⟨_,k2,k3⟩ h0
   | source k1 k0 k2 k3=>exact absurd (k3▸Hf k2) h2
   | missing k1 k0 k2=>exact absurd (Or.inr h3) k2
   | deep k1 k0 k2 k3=>exact⟨rfl,rfl,rfl⟩
   | made k1 k0 k2 k3 k4 k5=>omega
   | fell k1 k0 k2 k3 k4 k5=>omega
 | made h1 h0 h2 h3 h4 h5 _ ih=>
   intro m2 s2 a2 q
   cases q with
   | known k1=>rw[h1]at k1;cases k1
   | circle k1 k2 k3=>exact absurd ⟨_,k2,k3⟩ h0
   | source k1 k0 k2 k3=>exact absurd (k3▸Hf k2) h2
   | missing k1 k0 k2=>exact absurd (Or.inr (h4▸Il h3)) k2
   | deep k1 k0 k2 k3 k4=>omega
   | made k1 k0 k2 k3 k4 k5 k6=>obtain rfl:=Sv ht h3 k3 (h4.trans k4.symm);obtain⟨rfl,rfl,e⟩:=ih k6;cases e;exact⟨rfl,rfl,rfl⟩
   | fell k1 k0 k2 k3 k4 k5 k6=>obtain rfl:=Sv ht h3 k3 (h4.trans k4.symm);obtain⟨_,_,e⟩:=ih k6;cases e
 | fell h1 h0 h2 h3 h4 h5 _ ih=>
   intro m2 s2 a2 q
   cases q with
   | known k1=>rw[h1]at k1;cases k1
   | circle k1 k2 k3=>exact absurd ⟨_,k2,k3⟩ h0
   | source k1 k0 k2 k3=>exact absurd (k3▸Hf k2) h2
   | missing k1 k0 k2=>exact absurd (Or.inr (h4▸Il h3)) k2
   | deep k1 k0 k2 k3 k4=>omega
   | made k1 k0 k2 k3 k4 k5 k6=>obtain rfl:=Sv ht h3 k3 (h4.trans k4.symm);obtain⟨_,_,e⟩:=ih k6;cases e
   | fell k1 k0 k2 k3 k4 k5 k6=>obtain rfl:=Sv ht h3 k3 (h4.trans k4.symm);exact ih k6
 | held _ ih=>
   intro m2 s2 a2 q
   cases q with
   | held k1=>obtain⟨rfl,rfl,e⟩:=ih k1;cases e;exact⟨rfl,rfl,rfl⟩
   | tfell k1=>obtain⟨_,_,e⟩:=ih k1;cases e
   | ran k1=>obtain⟨_,_,e⟩:=ih k1;cases e
   | rfell k1=>obtain⟨_,_,e⟩:=ih k1;cases e
 | tfell _ ih=>
   intro m2 s2 a2 q
   cases q with
   | held k1=>obtain⟨_,_,e⟩:=ih k1;cases e
   | tfell k1=>exact ih k1
   | ran k1=>obtain⟨_,_,e⟩:=ih k1;cases e
   | rfell k1=>obtain⟨_,_,e⟩:=ih k1;cases e
 | ran _ _ ih ih2=>
   intro m2 s2 a2 q
   cases q with
   | held k1=>obtain⟨_,_,e⟩:=ih k1;cases e
   | tfell k1=>obtain⟨_,_,e⟩:=ih k1;cases e
   | ran k1 k2=>obtain⟨rfl,rfl,_⟩:=ih k1;obtain⟨rfl,rfl,e⟩:=ih2 k2;cases e;exact⟨rfl,rfl,rfl⟩
   | rfell k1 k2=>obtain⟨rfl,rfl,_⟩:=ih k1;obtain⟨_,_,e⟩:=ih2 k2;cases e
 | rfell _ _ ih ih2=>
   intro m2 s2 a2 q
   cases q with
   | held k1=>obtain⟨_,_,e⟩:=ih k1;cases e
   | tfell k1=>obtain⟨_,_,e⟩:=ih k1;cases e
   | ran k1 k2=>obtain⟨rfl,rfl,_⟩:=ih k1;obtain⟨_,_,e⟩:=ih2 k2;cases e
   | rfell k1 k2=>obtain⟨rfl,rfl,_⟩:=ih k1;exact ih2 k2
 | tend h1=>
   intro m2 s2 a2 q
   cases q with
   | tend k1=>exact⟨rfl,rfl,rfl⟩
   | tother k1=>omega
   | thit k1=>omega
   | tno k1=>omega
   | tbad k1=>omega
 | tother h1 h2 _ ih=>
   intro m2 s2 a2 q
   cases q with
   | tend k1=>omega
   | tother k1 k2 k3=>exact ih k3
   | thit k1 k2=>exact absurd k2 h2
   | tno k1 k2=>exact absurd k2 h2
   | tbad k1 k2=>exact absurd k2 h2
 | thit h1 h2 _ ih=>
   intro m2 s2 a2 q
   cases q with
   | tend k1=>omega
   | tother k1 k2=>exact absurd h2 k2
   | thit k1 k2 k3=>obtain⟨rfl,rfl,_⟩:=ih k3;exact⟨rfl,rfl,rfl⟩
   | tno k1 k2 k3=>obtain⟨_,_,e⟩:=ih k3;cases e
   | tbad k1 k2 k3=>obtain⟨_,_,e⟩:=ih k3;cases e
 | tno h1 h2 _ _ ih ih2=>
   intro m2 s2 a2 q
   cases q with
   | tend k1=>omega
   | tother k1 k2=>exact absurd h2 k2
   | thit k1 k2 k3=>obtain⟨_,_,e⟩:=ih k3;cases e
   | tno k1 k2 k3 k4=>obtain⟨rfl,rfl,_⟩:=ih k3;exact ih2 k4
   | tbad k1 k2 k3=>obtain⟨_,_,e⟩:=ih k3;cases e
 | tbad h1 h2 _ ih=>
   intro m2 s2 a2 q
   cases q with
   | tend k1=>omega
   | tother k1 k2=>exact absurd h2 k2
   | thit k1 k2 k3=>obtain⟨_,_,e⟩:=ih k3;cases e
   | tno k1 k2 k3=>obtain⟨_,_,e⟩:=ih k3;cases e
   | tbad k1 k2 k3=>exact ih k3
 | hend h1=>
   intro m2 s2 a2 q
   cases q with
   | hend k1=>exact⟨rfl,rfl,rfl⟩
   | hhas k1=>omega
   | hhasno k1=>omega
   | hask k1=>omega
   | haskno k1=>omega
   | haskbad k1=>omega
 | hhas h1 h2 h3 _ ih=>
   intro m2 s2 a2 q
   cases q with
   | hend k1=>omega
   | hhas k1 k2 k3 k4=>exact ih k4
   | hhasno k1 k2 k3=>exact absurd h3 k3
   | hask k1 k2=>rw[h2]at k2;cases k2
   | haskno k1 k2=>rw[h2]at k2;cases k2
   | haskbad k1 k2=>rw[h2]at k2;cases k2
 | hhasno h1 h2 h3=>
   intro m2 s2 a2 q
   cases q with
   | hend k1=>omega
   | hhas k1 k2 k3 k4=>exact absurd k3 h3
   | hhasno k1 k2 k3=>exact⟨rfl,rfl,rfl⟩
   | hask k1 k2=>rw[h2]at k2;cases k2
   | haskno k1 k2=>rw[h2]at k2;cases k2
   | haskbad k1 k2=>rw[h2]at k2;cases k2
 | hask h1 h2 _ h4 _ ih ih2=>
   intro m2 s2 a2 q
   cases q with
   | hend k1=>omega
   | hhas k1 k2=>rw[h2]at k2;cases k2
   | hhasno k1 k2=>rw[h2]at k2;cases k2
   | hask k1 k2 k3 k4 k5=>obtain⟨rfl,rfl,e⟩:=ih k3;cases e;exact ih2 k5
   | haskno k1 k2 k3 k4=>obtain⟨rfl,rfl,e⟩:=ih k3;cases e;exact absurd h4 k4
   | haskbad k1 k2 k3=>obtain⟨_,_,e⟩:=ih k3;cases e
 | haskno h1 h2 _ h4 ih=>
   intro m2 s2 a2 q
   cases q with
   | hend k1=>omega
   | hhas k1 k2=>rw[h2]at k2;cases k2
   | hhasno k1 k2=>rw[h2]at k2;cases k2
   | hask k1 k2 k3 k4 k5=>obtain⟨rfl,rfl,e⟩:=ih k3;cases e;exact absurd k4 h4
   | haskno k1 k2 k3 k4=>obtain⟨rfl,rfl,e⟩:=ih k3;exact⟨rfl,rfl,rfl⟩
   | haskbad k1 k2 k3=>obtain⟨_,_,e⟩:=ih k3;cases e
 | haskbad h1 h2 _ ih=>
   intro m2 s2 a2 q
   cases q with
   | hend k1=>omega
   | hhas k1 k2=>rw[h2]at k2;cases k2
   | hhasno k1 k2=>rw[h2]at k2;cases k2
   | hask k1 k2 k3 k4 k5=>obtain⟨_,_,e⟩:=ih k3;cases e
   | haskno k1 k2 k3 k4=>obtain⟨_,_,e⟩:=ih k3;cases e
   | haskbad k1 k2 k3=>exact ih k3
 | over h1 h2=>
   intro m2 s2 a2 q
   cases q with
   | over k1 k2=>cases Ce.unique h1 k1;obtain⟨rfl,_⟩:=h2.uniq k2;exact⟨rfl,rfl,rfl⟩
   | overbad k1 k2=>cases Ce.unique h1 k1;obtain⟨_,e⟩:=h2.uniq k2;cases e
   | has k1=>cases Ce.unique h1 k1
   | asked k1=>cases Ce.unique h1 k1
   | askbad k1=>cases Ce.unique h1 k1
 | overbad h1 h2=>
   intro m2 s2 a2 q
   cases q with
   | over k1 k2=>cases Ce.unique h1 k1;obtain⟨_,e⟩:=h2.uniq k2;cases e
   | overbad k1 k2=>cases Ce.unique h1 k1;obtain⟨rfl,e⟩:=h2.uniq k2;cases e;exact⟨rfl,rfl,rfl⟩
   | has k1=>cases Ce.unique h1 k1
   | asked k1=>cases Ce.unique h1 k1
   | askbad k1=>cases Ce.unique h1 k1
 | has h1 _ ih=>
   intro m2 s2 a2 q
   cases q with
   | over k1=>cases Ce.unique h1 k1
   | overbad k1=>cases Ce.unique h1 k1
   | has k1 k2=>cases Ce.unique h1 k1;exact ih k2
   | asked k1=>cases Ce.unique h1 k1
   | askbad k1=>cases Ce.unique h1 k1
 | asked h1 _ _ ih ih2=>
   intro m2 s2 a2 q
   cases q with
   | over k1=>cases Ce.unique h1 k1
   | overbad k1=>cases Ce.unique h1 k1
   | has k1=>cases Ce.unique h1 k1
   | asked k1 k2 k3=>cases Ce.unique h1 k1;obtain⟨rfl,rfl,e⟩:=ih k2;cases e;exact ih2 k3
   | askbad k1 k2=>cases Ce.unique h1 k1;obtain⟨_,_,e⟩:=ih k2;cases e
 | askbad h1 _ ih=>
   intro m2 s2 a2 q
   cases q with
   | over k1=>cases Ce.unique h1 k1
   | overbad k1=>cases Ce.unique h1 k1
   | has k1=>cases Ce.unique h1 k1
   | asked k1 k2 k3=>cases Ce.unique h1 k1;obtain⟨_,_,e⟩:=ih k2;cases e
   | askbad k1 k2=>cases Ce.unique h1 k1;exact ih k2
end Go.Proofs.YtbkkjodaaijimaaGreatDoor
