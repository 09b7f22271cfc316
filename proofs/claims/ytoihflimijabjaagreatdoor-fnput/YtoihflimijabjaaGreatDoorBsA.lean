import Derived.Test.YtoihflimijabjaaGreatDoorFtF
import Derived.Test.YtoihflimijabjaaGreatDoorVpA
import Derived.Test.YtoihflimijabjaaGreatDoorVsN
import Derived.Test.YtoihflimijabjaaGreatDoorVsV
namespace Go.Proofs.YtoihflimijabjaaGreatDoor
open _root_.Go.Proofs.Tryz Go.RowKit Go.Deep
open Value renaming slice->J,string->S
open Option renaming some->M,none->N
open Go renaming Value->Z,World->E
open _root_ renaming List->L,Nat->X
set_option linter.unusedVariables false
set_option linter.unusedSimpArgs false
variable {n e sz j h:X} {T1:L By} {AN X':X->Prop} {w':E} {u v nv sv tv:Z}
structure Sb where
 T:L By
 R:L T3
 ran:L By
 held:L By
inductive He where
 | circle (ch:L By)
 | deep (nm:By)
 | clash (A B:By)
 | full
inductive BJ where
 | make (nm:By)
 | work (nm:By) (is:L I3)
 | tri (is:L I3) (i m:X)
 | holds (gs:L G3) (k:X)
 | run (is:L I3) (ys:L R3) (ls:L G3)
inductive BA where
 | ok (d:Md)
 | hit (c:Int) (t:By)
 | none
 | yes
 | no
 | bad (b:He)
abbrev Mm:=L (ByteArray×Md)
open Classical in
noncomputable def fd (ms:Mm) (nm:By):Option Md:=(ms.find? λe=>decide (e.1=nm)).map (·.2)
inductive Fd (n:X):L By->L By->L By->Option He->Prop
 | nil {T}:Fd n T [] T N
 | go {T x xs r T' T'' a}:Oe n T (Ap n x) r->Hc n T x r 0 T' ⟨#[]⟩ ⟨#[]⟩->Fd n T' xs T'' a->Fd n T (x::xs) T'' a
 | clash {T x xs r A B}:Oe n T (Ap n x) r->Hc n T x r 2 T A B->Fd n T (x::xs) T (M (.clash A B))
 | full {T x xs r}:Oe n T (Ap n x) r->Hc n T x r 3 T ⟨#[]⟩ ⟨#[]⟩->Fd n T (x::xs) T (M .full)
theorem Oe.uniq{T:L By}{x:By}{r r':X}(h:Oe n T x r)(h':Oe n T x r'):r'=r:=by
 rcases Nat.lt_trichotomy r r' with k|k|k
 ·have h1:=h'.lo r k;have h2:=h.hi (zo h'.le);rw[h1]at h2;cases h2
 ·exact k.symm
 ·have h1:=h.lo r' k;have h2:=h'.hi (zo h.le);rw[h1]at h2;cases h2
theorem Hc.uniq{T:L By}{x:By}{r:X}{cd cd':Int}{T2:L By}{A A' B B':By}(h:Hc n T x r cd T1 A B)(h':Hc n T x r cd' T2 A' B'):cd'=cd/\T2=T1/\A'=A/\B'=B:=by
 rcases h with⟨a,b,rfl,rfl,rfl,rfl⟩|⟨a,b,rfl,rfl,rfl,rfl⟩|⟨a,b,rfl,rfl,rfl,rfl⟩|⟨a,b,rfl,rfl,rfl,rfl⟩<;>rcases h' with⟨a',b',rfl,rfl,rfl,rfl⟩|⟨a',b',rfl,rfl,rfl,rfl⟩|⟨a',b',rfl,rfl,rfl,rfl⟩|⟨a',b',rfl,rfl,rfl,rfl⟩<;>first|exact⟨rfl,rfl,rfl,rfl⟩|exact absurd a a'|exact absurd a' a|exact absurd b b'|exact absurd b' b
theorem Fd.uniq{T xs:L By}{a:Option He}(h:Fd n T xs T1 a):∀ {T2 a'},Fd n T xs T2 a'->T2=T1/\a'=a:=by
 induction h with
 | nil=>intro T2 a' h';cases h';exact⟨rfl,rfl⟩
 | go h1 h2 _ ih=>
   intro T2 a' h'
   cases h' with
   | go k1 k2 k3=>obtain rfl:=h1.uniq k1;obtain⟨_,rfl,_,_⟩:=h2.uniq k2;exact ih k3
   | clash k1 k2=>obtain rfl:=h1.uniq k1;obtain⟨e,_⟩:=h2.uniq k2;cases e
   | full k1 k2=>obtain rfl:=h1.uniq k1;obtain⟨e,_⟩:=h2.uniq k2;cases e
 | clash h1 h2=>
   intro T2 a' h'
   cases h' with
   | go k1 k2 k3=>obtain rfl:=h1.uniq k1;obtain⟨e,_⟩:=h2.uniq k2;cases e
   | clash k1 k2=>obtain rfl:=h1.uniq k1;obtain⟨_,_,rfl,rfl⟩:=h2.uniq k2;exact⟨rfl,rfl⟩
   | full k1 k2=>obtain rfl:=h1.uniq k1;obtain⟨e,_⟩:=h2.uniq k2;cases e
 | full h1 h2=>
   intro T2 a' h'
   cases h' with
   | go k1 k2 k3=>obtain rfl:=h1.uniq k1;obtain⟨e,_⟩:=h2.uniq k2;cases e
   | clash k1 k2=>obtain rfl:=h1.uniq k1;obtain⟨e,_⟩:=h2.uniq k2;cases e
   | full k1 k2=>exact⟨rfl,rfl⟩
def Kq(ls:L G3):L By:=(ls.filter (·.ask)).map (·.sum)
inductive Gv (n:X) (s:Sb) (is:L I3) (ls:L G3) (c:Int) (t:By):Sb->Option He->Prop
 | ok {T'}:Fd n s.T (Kq ls++[Co c t]) T' N->s.R.length<2000->Gv n s is ls c t ⟨T',s.R++[⟨is,ls.map (Mr n),Ap n (Co c t)⟩],s.ran,s.held⟩ N
 | recs {T'}:Fd n s.T (Kq ls++[Co c t]) T' N->2000<=s.R.length->Gv n s is ls c t ⟨T',s.R,s.ran,s.held⟩ (M .full)
 | bad {T' b}:Fd n s.T (Kq ls++[Co c t]) T' (M b)->Gv n s is ls c t ⟨T',s.R,s.ran,s.held⟩ (M b)
theorem Gv.uniq{s:Sb}{is:L I3}{ls:L G3}{c:Int}{t:By}{s1 s2:Sb}{a a':Option He}(h:Gv n s is ls c t s1 a)(h':Gv n s is ls c t s2 a'):s2=s1/\a'=a:=by
 cases h with
 | ok h1 h2=>cases h' with
   | ok k1 k2=>obtain⟨rfl,_⟩:=h1.uniq k1;exact⟨rfl,rfl⟩
   | recs k1 k2=>omega
   | bad k1=>obtain⟨_,e⟩:=h1.uniq k1;cases e
 | recs h1 h2=>cases h' with
   | ok k1 k2=>omega
   | recs k1 k2=>obtain⟨rfl,_⟩:=h1.uniq k1;exact⟨rfl,rfl⟩
   | bad k1=>obtain⟨_,e⟩:=h1.uniq k1;cases e
 | bad h1=>cases h' with
   | ok k1 k2=>obtain⟨_,e⟩:=h1.uniq k1;cases e
   | recs k1 k2=>obtain⟨_,e⟩:=h1.uniq k1;cases e
   | bad k1=>obtain⟨rfl,e⟩:=h1.uniq k1;cases e;exact⟨rfl,rfl⟩
noncomputable def outT (n:X) (s:Sb) (i:X):By:=Nu n s.T (qx s.R i).out
def Apt(n:X)(s:Sb)(is:L I3)(i:X):Prop:=(qx s.R i).code=is/\rrB (outT n s i)
inductive Ca (ss:L S2) (ts:L T2) (n:X):Mm->Sb->L By->BJ->Mm->Sb->BA->Prop
 | known {ms s st nm d}:fd ms nm=M d->Ca ss ts n ms s st (.make nm) ms s (.ok d)
 | circle {ms s st nm i}:fd ms nm=N->i<st.length->nx st i=nm->(∀j,j<i->nx st j≠nm)->Ca ss ts n ms s st (.make nm) ms s (.bad (.circle (st.drop i)))
 | source {ms s st nm i}:fd ms nm=N->¬ Hs st nm->i<ss.length->(sx ss i).name=nm->Ca ss ts n ms s st (.make nm) (ms++[(nm,⟨0,(sx ss i).text,[]⟩)]) s (.ok ⟨0,(sx ss i).text,[]⟩)
 | missing {ms s st nm}:fd ms nm=N->¬ Hs st nm->¬ Ye ss ts nm->Ca ss ts n ms s st (.make nm) (ms++[(nm,⟨4,nm,[]⟩)]) s (.ok ⟨4,nm,[]⟩)
 | deep {ms s st nm}:fd ms nm=N->¬ Hs st nm->¬ Hs (Av ss) nm->Hs (Au ts) nm->60<=st.length->Ca ss ts n ms s st (.make nm) ms s (.bad (.deep nm))
 | made {ms s st nm i ms' s' d}:fd ms nm=N->¬ Hs st nm->¬ Hs (Av ss) nm->i<ts.length->(tx ts i).name=nm->st.length<60->Ca ss ts n ms s (st++[nm]) (.work nm (tx ts i).code) ms' s' (.ok d)->Ca ss ts n ms s st (.make nm) (ms'++[(nm,d)]) s' (.ok d)
 | fell {ms s st nm i ms' s' b}:fd ms nm=N->¬ Hs st nm->¬ Hs (Av ss) nm->i<ts.length->(tx ts i).name=nm->st.length<60->Ca ss ts n ms s (st++[nm]) (.work nm (tx ts i).code) ms' s' (.bad b)->Ca ss ts n ms s st (.make nm) ms' s' (.bad b)
 | held {ms s st nm is ms' s' c t}:Ca ss ts n ms s st (.tri is 0 s.R.length) ms' s' (.hit c t)->Ca ss ts n ms s st (.work nm is) ms' ⟨s'.T,s'.R,s'.ran,s'.held++[nm]⟩ (.ok ⟨c,t,[]⟩)
 | tfell {ms s st nm is ms' s' b}:Ca ss ts n ms s st (.tri is 0 s.R.length) ms' s' (.bad b)->Ca ss ts n ms s st (.work nm is) ms' s' (.bad b)
 | ran {ms s st nm is ms1 s1 ms' s' d}:Ca ss ts n ms s st (.tri is 0 s.R.length) ms1 s1 .none->Ca ss ts n ms1 s1 st (.run is [] []) ms' s' (.ok d)->Ca ss ts n ms s st (.work nm is) ms' ⟨s'.T,s'.R,s'.ran++[nm],s'.held⟩ (.ok d)
 | rfell {ms s st nm is ms1 s1 ms' s' b}:Ca ss ts n ms s st (.tri is 0 s.R.length) ms1 s1 .none->Ca ss ts n ms1 s1 st (.run is [] []) ms' s' (.bad b)->Ca ss ts n ms s st (.work nm is) ms' s' (.bad b)
 | tend {ms s st is i m}:m<=i->Ca ss ts n ms s st (.tri is i m) ms s .none
 | tother {ms s st is i m ms' s' a}:i<m->¬ Apt n s is i->Ca ss ts n ms s st (.tri is (i+1) m) ms' s' a->Ca ss ts n ms s st (.tri is i m) ms' s' a
 | thit {ms s st is i m ms' s'}:i<m->Apt n s is i->Ca ss ts n ms s st (.holds (qx s.R i).looks 0) ms' s' .yes->Ca ss ts n ms s st (.tri is i m) ms' s' (.hit (rdC (outT n s i)) (rdT (outT n s i)))
 | tno {ms s st is i m ms1 s1 ms' s' a}:i<m->Apt n s is i->Ca ss ts n ms s st (.holds (qx s.R i).looks 0) ms1 s1 .no->Ca ss ts n ms1 s1 st (.tri is (i+1) m) ms' s' a->Ca ss ts n ms s st (.tri is i m) ms' s' a
 | tbad {ms s st is i m ms' s' b}:i<m->Apt n s is i->Ca ss ts n ms s st (.holds (qx s.R i).looks 0) ms' s' (.bad b)->Ca ss ts n ms s st (.tri is i m) ms' s' (.bad b)
 | hend {ms s st gs k}:gs.length<=k->Ca ss ts n ms s st (.holds gs k) ms s .yes
 | hhas {ms s st gs k ms' s' a}:k<gs.length->(gx gs k).ask=false->Ap n (De (Du ss ts (gx gs k).name))=(gx gs k).sum->Ca ss ts n ms s st (.holds gs (k+1)) ms' s' a->Ca ss ts n ms s st (.holds gs k) ms' s' a
 | hhasno {ms s st gs k}:k<gs.length->(gx gs k).ask=false->Ap n (De (Du ss ts (gx gs k).name))≠(gx gs k).sum->Ca ss ts n ms s st (.holds gs k) ms s .no
 | hask {ms s st gs k ms1 s1 d ms' s' a}:k<gs.length->(gx gs k).ask=true->Ca ss ts n ms s st (.make (gx gs k).name) ms1 s1 (.ok d)->Ap n (Co d.c d.t)=(gx gs k).sum->Ca ss ts n ms1 s1 st (.holds gs (k+1)) ms' s' a->Ca ss ts n ms s st (.holds gs k) ms' s' a
 | haskno {ms s st gs k ms' s' d}:k<gs.length->(gx gs k).ask=true->Ca ss ts n ms s st (.make (gx gs k).name) ms' s' (.ok d)->Ap n (Co d.c d.t)≠(gx gs k).sum->Ca ss ts n ms s st (.holds gs k) ms' s' .no
 | haskbad {ms s st gs k ms' s' b}:k<gs.length->(gx gs k).ask=true->Ca ss ts n ms s st (.make (gx gs k).name) ms' s' (.bad b)->Ca ss ts n ms s st (.holds gs k) ms' s' (.bad b)
 | over {ms s st is ys ls c t m s'}:Cu is ys Vu (.over c t m)->Gv n s is ls c t s' N->Ca ss ts n ms s st (.run is ys ls) ms s' (.ok ⟨c,t,ls⟩)
 | overbad {ms s st is ys ls c t m s' b}:Cu is ys Vu (.over c t m)->Gv n s is ls c t s' (M b)->Ca ss ts n ms s st (.run is ys ls) ms s' (.bad b)
 | has {ms s st is ys ls nm m ms' s' a}:Cu is ys Vu (.wait false nm m)->Ca ss ts n ms s st (.run is (ys++[⟨Du ss ts nm,0,⟨#[]⟩⟩]) (ls++[⟨nm,false,De (Du ss ts nm)⟩])) ms' s' a->Ca ss ts n ms s st (.run is ys ls) ms' s' a
 | asked {ms s st is ys ls nm m ms1 s1 d ms' s' a}:Cu is ys Vu (.wait true nm m)->Ca ss ts n ms s st (.make nm) ms1 s1 (.ok d)->Ca ss ts n ms1 s1 st (.run is (ys++[Wp ss ts nm d]) (ls++[⟨nm,true,Co d.c d.t⟩])) ms' s' a->Ca ss ts n ms s st (.run is ys ls) ms' s' a
 | askbad {ms s st is ys ls nm m ms' s' b}:Cu is ys Vu (.wait true nm m)->Ca ss ts n ms s st (.make nm) ms' s' (.bad b)->Ca ss ts n ms s st (.run is ys ls) ms' s' (.bad b)
theorem Ca.unique{ss:L S2}{ts:L T2}(hs:Fg (Av ss))(ht:Fg (Au ts)){ms:Mm}{s:Sb}{st:L By}{j:BJ}{ms1:Mm}{s1:Sb}{a:BA}(h:Ca ss ts n ms s st j ms1 s1 a):∀ {d7:Mm} {s2:Sb} {a2:BA},Ca ss ts n ms s st j d7 s2 a2->d7=ms1/\s2=s1/\a2=a:=by
 induction h with
 | known h1=>
   intro m2 s2 a2 q
   cases q with
   | known k1=>rw[h1]at k1;cases k1;exact⟨rfl,rfl,rfl⟩
   | circle k1=>rw[h1]at k1;cases k1
   | source k1=>rw[h1]at k1;cases k1
   | missing k1=>rw[h1]at k1;cases k1
   | deep k1=>rw[h1]at k1;cases k1
   | made k1=>rw[h1]at k1;cases k1
   | fell k1=>rw[h1]at k1;cases k1
 | circle h1 h2 h3 h4=>
   intro m2 s2 a2 q
   cases q with
   | known k1=>rw[h1]at k1;cases k1
   | circle k1 k2 k3 k4=>
     rename_i i i'
     rcases Nat.lt_trichotomy i i' with e|e|e
     ·exact absurd h3 (k4 _ e)
     ·subst e;exact⟨rfl,rfl,rfl⟩
     ·exact absurd k3 (h4 _ e)
   | source k1 k0=>exact absurd ⟨_,h2,h3⟩ k0
   | missing k1 k0=>exact absurd ⟨_,h2,h3⟩ k0
   | deep k1 k0=>exact absurd ⟨_,h2,h3⟩ k0
   | made k1 k0=>exact absurd ⟨_,h2,h3⟩ k0
   | fell k1 k0=>exact absurd ⟨_,h2,h3⟩ k0
 | source h1 h0 h2 h3=>
   intro m2 s2 a2 q
   cases q with
   | known k1=>rw[h1]at k1;cases k1
   | circle k1 k2 k3=>exact absurd ⟨_,k2,k3⟩ h0
   | source k1 k0 k2 k3=>obtain rfl:=src_inj hs h2 k2 (h3.trans k3.symm);exact⟨rfl,rfl,rfl⟩
   | missing k1 k0 k2=>exact absurd (Or.inl (h3▸Gm h2)) k2
   | deep k1 k0 k2=>exact absurd (h3▸Gm h2) k2
   | made k1 k0 k2=>exact absurd (h3▸Gm h2) k2
   | fell k1 k0 k2=>exact absurd (h3▸Gm h2) k2
 | missing h1 h0 h2=>
   intro m2 s2 a2 q
   cases q with
   | known k1=>rw[h1]at k1;cases k1
   | circle k1 k2 k3=>exact absurd ⟨_,k2,k3⟩ h0
   | source k1 k0 k2 k3=>exact absurd (Or.inl (k3▸Gm k2)) h2
   | missing k1 k0 k2=>exact⟨rfl,rfl,rfl⟩
   | deep k1 k0 k2 k3=>exact absurd (Or.inr k3) h2
   | made k1 k0 k2 k3 k4=>exact absurd (Or.inr (k4▸Il k3)) h2
   | fell k1 k0 k2 k3 k4=>exact absurd (Or.inr (k4▸Il k3)) h2
 | deep h1 h0 h2 h3 h4=>
   intro m2 s2 a2 q
   cases q with
   | known k1=>rw[h1]at k1;cases k1
   | circle k1 k2 k3=>exact absurd ⟨_,k2,k3⟩ h0
   | source k1 k0 k2 k3=>exact absurd (k3▸Gm k2) h2
   | missing k1 k0 k2=>exact absurd (Or.inr h3) k2
   | deep k1 k0 k2 k3=>exact⟨rfl,rfl,rfl⟩
   | made k1 k0 k2 k3 k4 k5=>omega
   | fell k1 k0 k2 k3 k4 k5=>omega
 | made h1 h0 h2 h3 h4 h5 _ ih=>
   intro m2 s2 a2 q
   cases q with
   | known k1=>rw[h1]at k1;cases k1
   | circle k1 k2 k3=>exact absurd ⟨_,k2,k3⟩ h0
   | source k1 k0 k2 k3=>exact absurd (k3▸Gm k2) h2
   | missing k1 k0 k2=>exact absurd (Or.inr (h4▸Il h3)) k2
   | deep k1 k0 k2 k3 k4=>omega
   | made k1 k0 k2 k3 k4 k5 k6=>obtain rfl:=Qn ht h3 k3 (h4.trans k4.symm);obtain⟨rfl,rfl,e⟩:=ih k6;cases e;exact⟨rfl,rfl,rfl⟩
   | fell k1 k0 k2 k3 k4 k5 k6=>obtain rfl:=Qn ht h3 k3 (h4.trans k4.symm);obtain⟨_,_,e⟩:=ih k6;cases e
 | fell h1 h0 h2 h3 h4 h5 _ ih=>
   intro m2 s2 a2 q
   cases q with
   | known k1=>rw[h1]at k1;cases k1
   | circle k1 k2 k3=>exact absurd ⟨_,k2,k3⟩ h0
   | source k1 k0 k2 k3=>exact absurd (k3▸Gm k2) h2
   | missing k1 k0 k2=>exact absurd (Or.inr (h4▸Il h3)) k2
   | deep k1 k0 k2 k3 k4=>omega
   | made k1 k0 k2 k3 k4 k5 k6=>obtain rfl:=Qn ht h3 k3 (h4.trans k4.symm);obtain⟨_,_,e⟩:=ih k6;cases e
   | fell k1 k0 k2 k3 k4 k5 k6=>obtain rfl:=Qn ht h3 k3 (h4.trans k4.symm);exact ih k6
 | held _ ih=>
   intro m2 s2 a2 q
   cases q with
   | held k1=>obtain⟨rfl,rfl,e⟩:=ih k1;cases e;exact⟨rfl,rfl,rfl⟩
   | tfell k1=>obtain⟨_,_,e⟩:=ih k1;cases e
   | ran k1=>obtain⟨_,_,e⟩:=ih k1;cases e
   | rfell k1=>obtain⟨_,_,e⟩:=ih k1;cases e
 | tfell _ ih=>
   intro m2 s2 a2 q
   cases q with
   | held k1=>obtain⟨_,_,e⟩:=ih k1;cases e
   | tfell k1=>exact ih k1
   | ran k1=>obtain⟨_,_,e⟩:=ih k1;cases e
   | rfell k1=>obtain⟨_,_,e⟩:=ih k1;cases e
 | ran _ _ ih ih2=>
   intro m2 s2 a2 q
   cases q with
   | held k1=>obtain⟨_,_,e⟩:=ih k1;cases e
   | tfell k1=>obtain⟨_,_,e⟩:=ih k1;cases e
   | ran k1 k2=>obtain⟨rfl,rfl,_⟩:=ih k1;obtain⟨rfl,rfl,e⟩:=ih2 k2;cases e;exact⟨rfl,rfl,rfl⟩
   | rfell k1 k2=>obtain⟨rfl,rfl,_⟩:=ih k1;obtain⟨_,_,e⟩:=ih2 k2;cases e
 | rfell _ _ ih ih2=>
   intro m2 s2 a2 q
   cases q with
   | held k1=>obtain⟨_,_,e⟩:=ih k1;cases e
   | tfell k1=>obtain⟨_,_,e⟩:=ih k1;cases e
   | ran k1 k2=>obtain⟨rfl,rfl,_⟩:=ih k1;obtain⟨_,_,e⟩:=ih2 k2;cases e
   | rfell k1 k2=>obtain⟨rfl,rfl,_⟩:=ih k1;exact ih2 k2
 | tend h1=>
   intro m2 s2 a2 q
   cases q with
   | tend k1=>exact⟨rfl,rfl,rfl⟩
   | tother k1=>omega
   | thit k1=>omega
   | tno k1=>omega
   | tbad k1=>omega
 | tother h1 h2 _ ih=>
   intro m2 s2 a2 q
   cases q with
   | tend k1=>omega
   | tother k1 k2 k3=>exact ih k3
   | thit k1 k2=>exact absurd k2 h2
   | tno k1 k2=>exact absurd k2 h2
   | tbad k1 k2=>exact absurd k2 h2
 | thit h1 h2 _ ih=>
   intro m2 s2 a2 q
   cases q with
   | tend k1=>omega
   | tother k1 k2=>exact absurd h2 k2
   | thit k1 k2 k3=>obtain⟨rfl,rfl,_⟩:=ih k3;exact⟨rfl,rfl,rfl⟩
   | tno k1 k2 k3=>obtain⟨_,_,e⟩:=ih k3;cases e
   | tbad k1 k2 k3=>obtain⟨_,_,e⟩:=ih k3;cases e
 | tno h1 h2 _ _ ih ih2=>
   intro m2 s2 a2 q
   cases q with
   | tend k1=>omega
   | tother k1 k2=>exact absurd h2 k2
   | thit k1 k2 k3=>obtain⟨_,_,e⟩:=ih k3;cases e
   | tno k1 k2 k3 k4=>obtain⟨rfl,rfl,_⟩:=ih k3;exact ih2 k4
   | tbad k1 k2 k3=>obtain⟨_,_,e⟩:=ih k3;cases e
 | tbad h1 h2 _ ih=>
   intro m2 s2 a2 q
   cases q with
   | tend k1=>omega
   | tother k1 k2=>exact absurd h2 k2
   | thit k1 k2 k3=>obtain⟨_,_,e⟩:=ih k3;cases e
   | tno k1 k2 k3=>obtain⟨_,_,e⟩:=ih k3;cases e
   | tbad k1 k2 k3=>exact ih k3
 | hend h1=>
   intro m2 s2 a2 q
   cases q with
   | hend k1=>exact⟨rfl,rfl,rfl⟩
   | hhas k1=>omega
   | hhasno k1=>omega
   | hask k1=>omega
   | haskno k1=>omega
   | haskbad k1=>omega
 | hhas h1 h2 h3 _ ih=>
   intro m2 s2 a2 q
   cases q with
   | hend k1=>omega
   | hhas k1 k2 k3 k4=>exact ih k4
   | hhasno k1 k2 k3=>exact absurd h3 k3
   | hask k1 k2=>rw[h2]at k2;cases k2
   | haskno k1 k2=>rw[h2]at k2;cases k2
   | haskbad k1 k2=>rw[h2]at k2;cases k2
 | hhasno h1 h2 h3=>
   intro m2 s2 a2 q
   cases q with
   | hend k1=>omega
   | hhas k1 k2 k3 k4=>exact absurd k3 h3
   | hhasno k1 k2 k3=>exact⟨rfl,rfl,rfl⟩
   | hask k1 k2=>rw[h2]at k2;cases k2
   | haskno k1 k2=>rw[h2]at k2;cases k2
   | haskbad k1 k2=>rw[h2]at k2;cases k2
 | hask h1 h2 _ h4 _ ih ih2=>
   intro m2 s2 a2 q
   cases q with
   | hend k1=>omega
   | hhas k1 k2=>rw[h2]at k2;cases k2
   | hhasno k1 k2=>rw[h2]at k2;cases k2
   | hask k1 k2 k3 k4 k5=>obtain⟨rfl,rfl,e⟩:=ih k3;cases e;exact ih2 k5
   | haskno k1 k2 k3 k4=>obtain⟨rfl,rfl,e⟩:=ih k3;cases e;exact absurd h4 k4
   | haskbad k1 k2 k3=>obtain⟨_,_,e⟩:=ih k3;cases e
 | haskno h1 h2 _ h4 ih=>
   intro m2 s2 a2 q
   cases q with
   | hend k1=>omega
   | hhas k1 k2=>rw[h2]at k2;cases k2
   | hhasno k1 k2=>rw[h2]at k2;cases k2
   | hask k1 k2 k3 k4 k5=>obtain⟨rfl,rfl,e⟩:=ih k3;cases e;exact absurd k4 h4
   | haskno k1 k2 k3 k4=>obtain⟨rfl,rfl,e⟩:=ih k3;exact⟨rfl,rfl,rfl⟩
   | haskbad k1 k2 k3=>obtain⟨_,_,e⟩:=ih k3;cases e
 | haskbad h1 h2 _ ih=>
   intro m2 s2 a2 q
   cases q with
   | hend k1=>omega
   | hhas k1 k2=>rw[h2]at k2;cases k2
   | hhasno k1 k2=>rw[h2]at k2;cases k2
   | hask k1 k2 k3 k4 k5=>obtain⟨_,_,e⟩:=ih k3;cases e
   | haskno k1 k2 k3 k4=>obtain⟨_,_,e⟩:=ih k3;cases e
   | haskbad k1 k2 k3=>exact ih k3
 | over h1 h2=>
   intro m2 s2 a2 q
   cases q with
   | over k1 k2=>cases Cu.unique h1 k1;obtain⟨rfl,_⟩:=h2.uniq k2;exact⟨rfl,rfl,rfl⟩
   | overbad k1 k2=>cases Cu.unique h1 k1;obtain⟨_,e⟩:=h2.uniq k2;cases e
   | has k1=>cases Cu.unique h1 k1
   | asked k1=>cases Cu.unique h1 k1
   | askbad k1=>cases Cu.unique h1 k1
 | overbad h1 h2=>
   intro m2 s2 a2 q
   cases q with
   | over k1 k2=>cases Cu.unique h1 k1;obtain⟨_,e⟩:=h2.uniq k2;cases e
   | overbad k1 k2=>cases Cu.unique h1 k1;obtain⟨rfl,e⟩:=h2.uniq k2;cases e;exact⟨rfl,rfl,rfl⟩
   | has k1=>cases Cu.unique h1 k1
   | asked k1=>cases Cu.unique h1 k1
   | askbad k1=>cases Cu.unique h1 k1
 | has h1 _ ih=>
   intro m2 s2 a2 q
   cases q with
   | over k1=>cases Cu.unique h1 k1
   | overbad k1=>cases Cu.unique h1 k1
   | has k1 k2=>cases Cu.unique h1 k1;exact ih k2
   | asked k1=>cases Cu.unique h1 k1
   | askbad k1=>cases Cu.unique h1 k1
 | asked h1 _ _ ih ih2=>
   intro m2 s2 a2 q
   cases q with
   | over k1=>cases Cu.unique h1 k1
   | overbad k1=>cases Cu.unique h1 k1
   | has k1=>cases Cu.unique h1 k1
   | asked k1 k2 k3=>cases Cu.unique h1 k1;obtain⟨rfl,rfl,e⟩:=ih k2;cases e;exact ih2 k3
   | askbad k1 k2=>cases Cu.unique h1 k1;obtain⟨_,_,e⟩:=ih k2;cases e
 | askbad h1 _ ih=>
   intro m2 s2 a2 q
   cases q with
   | over k1=>cases Cu.unique h1 k1
   | overbad k1=>cases Cu.unique h1 k1
   | has k1=>cases Cu.unique h1 k1
   | asked k1 k2 k3=>cases Cu.unique h1 k1;obtain⟨_,_,e⟩:=ih k2;cases e
   | askbad k1 k2=>cases Cu.unique h1 k1;exact ih k2
structure Cp (B:X) (AN X':X->Prop) (w w':E):Prop where
 bel:Below B w w'
 keep:∀b,b<w.heap.size->¬ AN b->w'.heap[b]?=w.heap[b]?
 new:∀b,X' b->AN b\/w.heap.size<=b
theorem Cp.no{B:X}{w:E}(h:Cp B AN X' w w'){b:X}(hb:b<w.heap.size)(hx:¬ AN b):¬ X' b:=λk=>by
 rcases h.new b k with q|q
 ·exact hx q
 ·omega
theorem Cp.trans{B:X}{X'':X->Prop}{w w1 w2:E}(h:Cp B AN X' w w1)(k:Cp B X' X'' w1 w2):Cp B AN X'' w w2:=by
 have hs:=h.bel.size;refine⟨h.bel.trans k.bel,λb hb hx=>(k.keep b qg (h.no hb hx)).trans (h.keep b hb hx),λb hb=>?_⟩
 rcases k.new b hb with q|q
 ·exact h.new b q
 ·right;omega
theorem Cp.refl{B:X}(w:E):Cp B AN AN w w:=⟨Below.refl _ _,λ_ _ _=>rfl,λ_ h=>Or.inl h⟩
theorem Cp.of_below{B:X}{w:E}(h:Bw w w')(hB:B<=w.heap.size):Cp B AN AN w w':=⟨h.mono hB,λb hb _=>h.block b hb,λ_ h=>Or.inl h⟩
theorem Cp.blk{B:X}{w:E}(h:Cp B AN X' w w'){b:X}{o:Obj}(hb:w.heap[b]?=M o)(hx:¬ AN b):w'.heap[b]?=M o:=(h.keep b (Bq hb) hx).trans hb
theorem Cp.own{B:X}{w:E}(h:Cp B AN X' w w'){B':X}{xs:L Z}(ho:w.ownsRow B' e sz u n xs)(hx:∀b,u.ownBlock=M b->¬ AN b):w'.ownsRow B' e sz u n xs:=Cc ho λb e=>h.keep b (ho.lt b e).2 (hx b e)
theorem Cp.cell{B:X}{w:E}(h:Cp B AN X' w w'){b:X}(hc:w.cell? ⟨b,j,N⟩=M v)(hx:¬ AN b):w'.cell? ⟨b,j,N⟩=M v:=by
 have hb:=World.block_lt_of_cell? w _ hc;have hk:=h.keep b hb hx;have:w'.cell? ⟨b,j,N⟩=w.cell? ⟨b,j,N⟩:=by unfold World.cell?;simp only[hk]
 rw[this];exact hc
structure Hv where
 tx:Z
 qv:Z
 mv:Z
 kv:Z
 nv:Z
 ev:Z
def Bs(h:X)(v:Hv)(b:X):Prop:=b=h\/v.qv.ownBlock=M b\/v.mv.ownBlock=M b\/v.kv.ownBlock=M b\/v.nv.ownBlock=M b\/v.ev.ownBlock=M b
def mm(ms:Mm)(i:X):By×Md:=ms.getD i (⟨#[]⟩,⟨0,⟨#[]⟩,[]⟩)
def FilM(ms:Mm)(xs:L Z):Prop:=∀i,i<ms.length->xs[i*5]?=M (S (mm ms i).1)/\xs[i*5+1]?=M (I (mm ms i).2.c)/\xs[i*5+2]?=M (S (mm ms i).2.t)/\xs[i*5+3]?=M nS/\∃r,xs[i*5+4]?=M (I r)
theorem mm_lt{ms:Mm}{e:By×Md}{i:X}(h:i<ms.length):mm (ms++[e]) i=mm ms i:=by
 unfold mm;rw[gG,List.getElem?_append_left h,gG]
theorem mm_at(ms:Mm)(e:By×Md):mm (ms++[e]) ms.length=e:=by
 unfold mm;rw[gG,List.getElem?_append_right (Nat.le_refl _)];simp
theorem FilM.snoc{ms:Mm}{xs:L Z}(h:FilM ms xs)(hl:xs.length=ms.length*5)(nm:By)(d:Md)(r:Int):FilM (ms++[(nm,d)]) (xs++[S nm,I d.c,S d.t,nS,I r]):=by
 intro i hi;rw[List.length_append,List.length_singleton]at hi
 rcases Nat.lt_or_ge i ms.length with k|k
 ·obtain⟨a,b,c,e,q,f⟩:=h i k
  rw[mm_lt k];refine⟨?_,?_,?_,?_,q,?_⟩<;>rw[List.getElem?_append_left qg]<;>assumption
 ·obtain rfl:i=ms.length:=qg
  rw[mm_at];refine⟨?_,?_,?_,?_,r,?_⟩
  ·rw[List.getElem?_append_right qg,show ms.length*5-xs.length=0 from qg];rfl
  ·rw[List.getElem?_append_right qg,show ms.length*5+1-xs.length=1 from qg];rfl
  ·rw[List.getElem?_append_right qg,show ms.length*5+2-xs.length=2 from qg];rfl
  ·rw[List.getElem?_append_right qg,show ms.length*5+3-xs.length=3 from qg];rfl
  ·rw[List.getElem?_append_right qg,show ms.length*5+4-xs.length=4 from qg];rfl
structure Oc (w:E) (B:X) (v:Z) (R:L T3) (xs:L Z) (cv lv:X->Z):Prop where
 row:w.ownsRow B 56 3 v R.length xs
 fil:∀i,i<R.length->xs[i*3]?=M (cv i)/\xs[i*3+1]?=M (lv i)/\xs[i*3+2]?=M (S (qx R i).out)
 code:∀i,i<R.length->∃ys,w.ownsRow B 103 3 (cv i) (qx R i).code.length ys/\Cf (qx R i).code (qx R i).code.length ys
 look:∀i,i<R.length->∃ys,w.ownsRow B 79 3 (lv i) (qx R i).looks.length ys/\Be (qx R i).looks (qx R i).looks.length ys
 apc:∀i j,i<j->j<R.length->∀b,(cv i).ownBlock=M b->(cv j).ownBlock≠M b
 apl:∀i j,i<j->j<R.length->∀b,(lv i).ownBlock=M b->(lv j).ownBlock≠M b
def Gr(w:E)(B:X)(v:Z)(R:L T3):Prop:=∃xs cv lv,Oc w B v R xs cv lv
theorem Ax{w:E}{B:X}{xs:L Z}(h:w.ownsRow B e sz v n xs):∃a cap,v=J a n cap:=by
 rcases h.2 with⟨e,h0⟩|⟨g,c,cur,e,_⟩
 ·exact⟨N,0,by rw[e,h0]⟩
 ·exact⟨_,c,e⟩
theorem Rf{w:E}{B:X}{is:L I3}{ys:L Z}(h:w.ownsRow B 103 3 v is.length ys)(hf:Cf is is.length ys):∃a cap,v=J a is.length cap/\Dl w a is:=by
 have h':=h
 rcases h.2 with⟨e,h0⟩|⟨g,c,cur,e,_⟩
 ·exact⟨N,0,by rw[e,h0],λi hi=>qg⟩
 ·rw[e]at h'
  exact⟨_,c,e,Wo rfl h' hf⟩
theorem Hl{w:E}{B T:X}{gs:L G3}{ys:L Z}(h:w.ownsRow B T 3 v gs.length ys)(hf:Be gs gs.length ys):∃a cap,v=J a gs.length cap/\Kb w a gs:=by
 have h':=h
 rcases h.2 with⟨e,h0⟩|⟨g,c,cur,e,_⟩
 ·exact⟨N,0,by rw[e,h0],λi hi=>qg⟩
 ·rw[e]at h'
  exact⟨_,c,e,Wn rfl h' hf⟩
theorem Bi{w:E}{B:X}{a:Option Addr}{cap:X}{xs:L Z}(h:w.ownsRow B e sz (J a n cap) n xs)(hj:xs[j]?=M u):∃b,a=p_ b/\w.cell? ⟨b,j,N⟩=M u:=by
 rcases h.2 with⟨e,h0⟩|⟨g,c,cur,e,hg,hh,h1,h2,h3,h4⟩
 ·have:=h.1
  rw[h0,Nat.zero_mul]at this;rw[List.eq_nil_of_length_eq_zero this]at hj;simp at hj
 ·cases e
  refine⟨g,rfl,?_⟩;rw[cH hh,←Array.getElem?_toList];rw[←h4,List.getElem?_take]at hj
  split at hj
  ·exact hj
  ·cases hj
theorem Gr.at{w:E}{B:X}{a:Option Addr}{cap:X}{R:L T3}(h:Gr w B (J a R.length cap) R){i:X}(hi:i<R.length):∃b ca cc la lc,a=p_ b/\w.cell? ⟨b,i*3,N⟩=M (J ca (qx R i).code.length cc)/\w.cell? ⟨b,i*3+1,N⟩=M (J la (qx R i).looks.length lc)/\w.cell? ⟨b,i*3+2,N⟩=M (S (qx R i).out)/\Dl w ca (qx R i).code/\Kb w la (qx R i).looks:=by
 obtain⟨xs,cv,lv,h⟩:=h;obtain⟨f1,f2,f3⟩:=h.fil i hi;obtain⟨ys,k1,k2⟩:=h.code i hi;obtain⟨zs,l1,l2⟩:=h.look i hi;obtain⟨ca,cc,e1,r1⟩:=Rf k1 k2;obtain⟨la,lc,e2,r2⟩:=Hl l1 l2;rw[e1]at f1;rw[e2]at f2;obtain⟨b,rfl,c1⟩:=Bi h.row f1;obtain⟨b',q,c2⟩:=Bi h.row f2;cases q;obtain⟨b',q,c3⟩:=Bi h.row f3;cases q;exact⟨b,ca,cc,la,lc,rfl,c1,c2,c3,r1,r2⟩
structure Fl (B h:X) (sv tv:Z) (n:X) (w:E) (ms:Mm) (s:Sb) (st:L By) (v:Hv):Prop where
 hB:B<=h
 blk:w.heap[h]?=M (.cells #[sv,tv,I n,v.tx,v.qv,v.mv,v.kv,v.nv,v.ev,.bool false,I 0,ze,nS,I 0,nS,nS,nS,nS,ze,ze] 120 (0,0))
 txt:w.ownsRow B 9 1 v.tx s.T.length (Ar s.T)
 rcs:Gr w B v.qv s.R
 made:∃xs,w.ownsRow B 140 5 v.mv ms.length xs/\FilM ms xs
 stk:w.ownsRow B 9 1 v.kv st.length (Ar st)
 ran:w.ownsRow B 9 1 v.nv s.ran.length (Ar s.ran)
 held:w.ownsRow B 9 1 v.ev s.held.length (Ar s.held)
 txa:∃g p,v.tx=J (p_ g) s.T.length p
 tk:∀b,v.tx.ownBlock=M b->v.kv.ownBlock≠M b/\v.nv.ownBlock≠M b/\v.ev.ownBlock≠M b
 kn:∀b,v.kv.ownBlock=M b->v.nv.ownBlock≠M b/\v.ev.ownBlock≠M b
 ne:∀b,v.nv.ownBlock=M b->v.ev.ownBlock≠M b
def Jd(B:X)(w:E)(b:He)(e:L Z):Prop:=
 match b with
 | .circle ch=>∃cv,w.ownsRow B 9 1 cv ch.length (Ar ch)/\e=[I 6,ze,cv,I 0,nS,nS,nS,nS,ze,ze]
 | .deep nm=>e=[I 7,S nm,nS,I 0,nS,nS,nS,nS,ze,ze]
 | .clash A B=>e=[I 10,ze,nS,I 0,nS,nS,nS,nS,S A,S B]
 | .full=>e=[I 11,ze,nS,I 0,nS,nS,nS,nS,ze,ze]
def Jm:He->Int
 | .circle _=>6
 | .deep _=>7
 | .clash _ _=>10
 | .full=>11
def Vd(h:X)(nv:Z)(b:X):Prop:=b=h\/nv.ownBlock=M b
def DeadR(B k:X)(nv:Z)(w:E)(pre e:L Z):Prop:=pre[7]?=M nv/\(∃xs:L By,w.ownsRow B 9 1 nv xs.length (Ar xs)/\xs.length+k<=1000)/\∀u b,e[2]?=M u->u.ownBlock=M b->nv.ownBlock≠M b
def Fk(B h k:X)(nv:Z)(w:E)(b:He):Prop:=∃pre e,pre.length=9/\w.heap[h]?=M (.cells ((pre++[Value.bool true]++e).toArray) 120 (0,0))/\Jd B w b e/\DeadR B k nv w pre e
theorem Jd.code{B:X}{w:E}{b:He}{e:L Z}(h:Jd B w b e):e.length=10/\e[0]?=M (I (Jm b)):=by
 cases b with
 | circle ch=>obtain⟨cv,_,rfl⟩:=h;exact⟨rfl,rfl⟩
 | deep nm=>cases h;exact⟨rfl,rfl⟩
 | clash A B=>cases h;exact⟨rfl,rfl⟩
 | full=>cases h;exact⟨rfl,rfl⟩
theorem Fk.cells{B m:X}{w:E}{b:He}(k:Fk B h m nv w b):w.cell? ⟨h,9,N⟩=M (.bool true)/\w.cell? ⟨h,10,N⟩=M (I (Jm b))/\h<w.heap.size:=by
 obtain⟨pre,e,hl,hb,he,_⟩:=k;obtain⟨e1,e2⟩:=he.code;refine⟨?_,?_,Bq hb⟩
 ·rw[cH hb]
  simp[List.getElem?_append,hl]
 ·rw[cH hb]
  simp[List.getElem?_append,hl,e2]
theorem Fk.frx{B m:X}{w:E}{b:He}(k:Fk B h m nv w b)(hb:Bw w w'):Fk B h m nv w' b:=by
 obtain⟨pre,e,hl,hk,he,d1,⟨xs,d2,d4⟩,d3⟩:=k;refine⟨pre,e,hl,Ac hk hb,?_,d1,⟨xs,Ae d2 hb,d4⟩,d3⟩
 cases b with
 | circle ch=>obtain⟨cv,h1,h2⟩:=he;exact⟨cv,Ae h1 hb,h2⟩
 | deep nm=>exact he
 | clash A B=>exact he
 | full=>exact he
theorem Fl.bl{B:X}{w:E}{ms:Mm}{s:Sb}{st:L By}{v:Hv}(k:Fl B h sv tv n w ms s st v)(hb:Bw w w'):Fl B h sv tv n w' ms s st v:=by
 obtain⟨xs,m1,m2⟩:=k.made;refine⟨k.hB,Ac k.blk hb,Ae k.txt hb,?_,⟨xs,Ae m1 hb,m2⟩,Ae k.stk hb,Ae k.ran hb,Ae k.held hb,k.txa,k.tk,k.kn,k.ne⟩;obtain⟨xs,cv,lv,r⟩:=k.rcs;exact⟨xs,cv,lv,Ae r.row hb,r.fil,λi hi=>by obtain⟨ys,a,b⟩:=r.code i hi;exact⟨ys,Ae a hb,b⟩,λi hi=>by obtain⟨ys,a,b⟩:=r.look i hi;exact⟨ys,Ae a hb,b⟩,r.apc,r.apl⟩
theorem Fl.not{B:X}{w:E}{ms:Mm}{s:Sb}{st:L By}{v:Hv}(k:Fl B h sv tv n w ms s st v){b:X}(hb:w.heap.size<=b):¬ Bs h v b:=by
 have h0:=Bq k.blk;obtain⟨xs,m1,m2⟩:=k.made;obtain⟨ys,cv,lv,r⟩:=k.rcs;rintro(e|e|e|e|e|e)
 ·omega
 ·have:=(r.row.lt b e).2;omega
 ·have:=(m1.lt b e).2;omega
 ·have:=(k.stk.lt b e).2;omega
 ·have:=(k.ran.lt b e).2;omega
 ·have:=(k.held.lt b e).2;omega
end Go.Proofs.YtoihflimijabjaaGreatDoor
