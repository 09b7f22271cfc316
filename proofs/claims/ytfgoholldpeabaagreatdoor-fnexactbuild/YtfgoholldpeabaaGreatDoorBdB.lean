import Derived.Test.YtfgoholldpeabaaGreatDoorRpA
import Derived.Test.YtfgoholldpeabaaGreatDoorVsV
namespace Go.Proofs.YtfgoholldpeabaaGreatDoor
open _root_.Go.Proofs.Tryz Go.RowKit
set_option linter.unusedVariables false
set_option linter.unusedSimpArgs false
variable {n:Nat} {L T1:List By} {y nm':By} {ss:List S2} {ts:List T2} {is':List I3}
section
variable {s:By→ByteArray}
theorem Ua:∀(a b:List UInt8),Op.bytesLess a b=false→a≠b→Op.bytesLess b a=true
  | [],[]=>qg
  | [],_ :: _=>by simp[Op.bytesLess]
  | _ :: _,[]=>by simp[Op.bytesLess]
  | a :: ar,b :: bs=>by
    have ih:=Ua ar bs
    by_cases h1:a<b
    · simp[Op.bytesLess,h1]
    · by_cases h2:b<a
      · intro _ _
        simp[Op.bytesLess,h2]
      · have he:=UInt8.le_antisymm (UInt8.not_lt.mp h2) (UInt8.not_lt.mp h1)
        subst he;intro k1 k2;simp only[Op.bytesLess,h1] at k1 ⊢;simp at k1 k2 ⊢
        first
          | exact ih k1 k2
          | exact Or.inr (ih k1 k2)
theorem Qbg {a b:By} (h:Ar a b=false) (hne:a≠b):Ar b a=true:=by
  unfold Ar at *;refine Ua _ _ h (fun e=>hne ?_);rw[ByteArray.toList_eq,ByteArray.toList_eq] at e;exact WideShapes.bytes_inj e
def Lt1 (s:By→ByteArray) (x y:By):Prop:=Ar (s x) (s y)=true
theorem Lt1.tot {x y:By} (h:Ar (s x) (s y)=false) (hne:s x≠s y):Lt1 s y x:=Qbg h hne
def So (s:By→ByteArray) (l:List By):Prop:=l.Pairwise (Lt1 s)
theorem So.of_asc {l:List By} (h:Gf (l.map s)):So s l:=by
  refine List.pairwise_iff_getElem.2 fun i j hi hj td=>?_;have:=h.pair td qcf;unfold nx at this;rw[gG,List.getElem?_map,Iu hi,gG,List.getElem?_map,Iu hj] at this;exact this
theorem So.asc {l:List By} (h:So s l):Gf (l.map s):=by
  intro i h1 h2;rw[List.length_map] at h2;have:=List.pairwise_iff_getElem.1 h (i-1) i qb h2 qb;unfold nx;rw[gG,List.getElem?_map,Iu (show i-1<l.length from qb),gG,List.getElem?_map,Iu h2];exact this
end
theorem Oi {l:List By} {i:Nat} (h:i<l.length):nx l i=l[i]:=by simp[nx,gG,h]
theorem Uu.none {r:Nat} (hL:So (Ap n) L) (hp:Uu n L (Ap n y) r) (ht:¬ Iv n L y r):∀ x∈L,Ap n x≠Ap n y:=fun x hx e=>by
  obtain⟨i,hi,rfl⟩:=List.mem_iff_getElem.1 hx
  rcases Nat.lt_trichotomy i r with q|q|q
  · have:=hp.lo i q
    rw[Oi hi,e,Ej] at this;cases this
  · subst q
    exact ht ⟨hi,by rw[Oi hi];exact e⟩
  · have h1:Lt1 (Ap n) L[r] L[i]:=List.pairwise_iff_getElem.1 hL r i qb hi q
    have h2:=hp.hi qb;rw[Oi qb] at h2;unfold Lt1 at h1;rw[e,h2] at h1;cases h1
theorem Uu.ins {r:Nat} (hL:So (Ap n) L) (hp:Uu n L (Ap n y) r) (ht:¬ Iv n L y r):So (Ap n) (Gj L y r)∧(∀ x,x∈Gj L y r↔x∈L∨x=y)∧(Gj L y r).length=L.length+1:=by
  have hn:=hp.none hL ht
  have uf:∀ x∈L.take r,Lt1 (Ap n) x y:=fun x hx=>by
    obtain⟨i,hi,rfl⟩:=List.mem_iff_getElem.1 hx;rw[List.length_take] at hi;rw[List.getElem_take];have:=hp.lo i qb;rw[Oi qb] at this;exact this
  have hhi:∀ z∈L.drop r,Lt1 (Ap n) y z:=fun z hz=>by
    have hzL:=List.mem_of_mem_drop hz;obtain⟨i,hi,rfl⟩:=List.mem_iff_getElem.1 hz;rw[List.length_drop] at hi;rw[List.getElem_drop] at hzL ⊢;refine Lt1.tot ?_ (hn _ hzL);have h2:=hp.hi qb;rw[Oi qb] at h2
    rcases Nat.eq_zero_or_pos i with q|q
    · subst q;exact h2
    · have h1:Lt1 (Ap n) L[r] L[r+i]:=List.pairwise_iff_getElem.1 hL r (r+i) qb qb qb
      cases hb:Ar (Ap n L[r+i]) (Ap n y) with
      | false=>rfl
      | true=>have:=Jy h1 hb;rw[h2] at this;cases this
  have hL':=hL;rw[← List.take_append_drop r L] at hL';obtain⟨p1,p2,p3⟩:=List.pairwise_append.1 hL';refine⟨?_,fun x=>?_,Ib _ _ _ hp.le⟩
  · unfold Gj
    refine List.pairwise_append.2 ⟨List.pairwise_append.2 ⟨p1,List.pairwise_singleton _ _,fun a ha b hb=>?_⟩,p2,fun a ha b hb=>?_⟩
    · rw[List.mem_singleton] at hb;subst hb;exact uf a ha
    · rcases List.mem_append.1 ha with q|q
      · exact p3 a q b hb
      · rw[List.mem_singleton] at q;subst q;exact hhi b hb
  · unfold Gj
    rw[List.mem_append,List.mem_append,List.mem_singleton];constructor
    · rintro ((q|q)|q)
      · exact Or.inl (List.mem_of_mem_take q)
      · exact Or.inr q
      · exact Or.inl (List.mem_of_mem_drop q)
    · rintro (q|q)
      · rw[← List.take_append_drop r L] at q
        rcases List.mem_append.1 q with p|p
        · exact Or.inl (Or.inl p)
        · exact Or.inr p
      · exact Or.inl (Or.inr q)
theorem Qak (n:Nat) (x:By):(Ap n x).size=n:=by
  have:∀(V:Int) (n:Nat),(Hm V n).length=n:=fun V n=>by induction n with|zero=>rfl|succ n ih=>simp[Hm,ih]
  show ((Hm _ n).toArray).size=n;simp[this]
structure Sb where
  T:List By
  R:List T3
  ran:List By
  held:List By
inductive Gd where
  | circle (ch:List By)
  | deep (nm:By)
  | clash (A B:By)
  | full
inductive BJ where
  | make (nm:By)
  | work (nm:By) (is:List I3)
  | tri (is:List I3) (i m:Nat)
  | holds (gs:List G3) (k:Nat)
  | run (is:List I3) (ys:List R3) (ls:List G3)
inductive BA where
  | ok (d:Md)
  | hit (c:Int) (t:By)
  | none
  | yes
  | no
  | bad (b:Gd)
abbrev Mm:=List (ByteArray × Md)
open Classical in
noncomputable def fd (ms:Mm) (nm:By):Option Md:=(ms.find? fun e=>decide (e.1=nm)).map (·.2)
inductive Di (n:Nat):List By->List By->List By->Option Gd->Prop
  | nil {T}:Di n T [] T none
  | go {T x xs r T' T'' a}:Uu n T (Ap n x) r->Im n T x r 0 T' ⟨#[]⟩ ⟨#[]⟩->Di n T' xs T'' a->Di n T (x :: xs) T'' a
  | clash {T x xs r A B}:Uu n T (Ap n x) r->Im n T x r 2 T A B->Di n T (x :: xs) T (some (.clash A B))
  | full {T x xs r}:Uu n T (Ap n x) r->Im n T x r 3 T ⟨#[]⟩ ⟨#[]⟩->Di n T (x :: xs) T (some .full)
theorem Uu.uniq {T:List By} {x:By} {r r':Nat} (h:Uu n T x r) (h':Uu n T x r'):r'=r:=by
  rcases Nat.lt_trichotomy r r' with k|k|k
  · have h1:=h'.lo r k;have h2:=h.hi (zo h'.le);rw[h1] at h2;cases h2
  · exact k.symm
  · have h1:=h.lo r' k;have h2:=h'.hi (zo h.le);rw[h1] at h2;cases h2
theorem Im.uniq {T:List By} {x:By} {r:Nat} {cd cd':Int} {T2:List By} {A A' B B':By} (h:Im n T x r cd T1 A B) (h':Im n T x r cd' T2 A' B'):cd'=cd/\T2=T1/\A'=A/\B'=B:=by
  rcases h with ⟨a,b,rfl,rfl,rfl,rfl⟩|⟨a,b,rfl,rfl,rfl,rfl⟩|⟨a,b,rfl,rfl,rfl,rfl⟩|⟨a,b,rfl,rfl,rfl,rfl⟩<;>rcases h' with ⟨a',b',rfl,rfl,rfl,rfl⟩|⟨a',b',rfl,rfl,rfl,rfl⟩|⟨a',b',rfl,rfl,rfl,rfl⟩|⟨a',b',rfl,rfl,rfl,rfl⟩<;>first|exact⟨rfl,rfl,rfl,rfl⟩|exact absurd a a'|exact absurd a' a|exact absurd b b'|exact absurd b' b
theorem Di.uniq {T xs:List By} {a:Option Gd} (h:Di n T xs T1 a):∀ {T2 a'},Di n T xs T2 a'->T2=T1/\a'=a:=by
  induction h with
  | nil=>intro T2 a' h';cases h';exact⟨rfl,rfl⟩
  | go h1 h2 _ ih=>
    intro T2 a' h'
    cases h' with
    | go k1 k2 k3=>obtain rfl:=h1.uniq k1;obtain⟨_,rfl,_,_⟩:=h2.uniq k2;exact ih k3
    | clash k1 k2=>obtain rfl:=h1.uniq k1;obtain⟨e,_⟩:=h2.uniq k2;cases e
    | full k1 k2=>obtain rfl:=h1.uniq k1;obtain⟨e,_⟩:=h2.uniq k2;cases e
  | clash h1 h2=>
    intro T2 a' h'
    cases h' with
    | go k1 k2 k3=>obtain rfl:=h1.uniq k1;obtain⟨e,_⟩:=h2.uniq k2;cases e
    | clash k1 k2=>obtain rfl:=h1.uniq k1;obtain⟨_,_,rfl,rfl⟩:=h2.uniq k2;exact⟨rfl,rfl⟩
    | full k1 k2=>obtain rfl:=h1.uniq k1;obtain⟨e,_⟩:=h2.uniq k2;cases e
  | full h1 h2=>
    intro T2 a' h'
    cases h' with
    | go k1 k2 k3=>obtain rfl:=h1.uniq k1;obtain⟨e,_⟩:=h2.uniq k2;cases e
    | clash k1 k2=>obtain rfl:=h1.uniq k1;obtain⟨e,_⟩:=h2.uniq k2;cases e
    | full k1 k2=>exact⟨rfl,rfl⟩
def Ih (ls:List G3):List By:=(ls.filter (·.ask)).map (·.sum)
inductive Fl (n:Nat) (s:Sb) (is:List I3) (ls:List G3) (c:Int) (t:By):Sb->Option Gd->Prop
  | ok {T'}:Di n s.T (Ih ls++[Bk c t]) T' none->s.R.length<2000->Fl n s is ls c t ⟨T',s.R++[⟨is,ls.map (Kw n),Ap n (Bk c t)⟩],s.ran,s.held⟩ none
  | recs {T'}:Di n s.T (Ih ls++[Bk c t]) T' none->2000<=s.R.length->Fl n s is ls c t ⟨T',s.R,s.ran,s.held⟩ (some .full)
  | bad {T' b}:Di n s.T (Ih ls++[Bk c t]) T' (some b)->Fl n s is ls c t ⟨T',s.R,s.ran,s.held⟩ (some b)
theorem Fl.uniq {s:Sb} {is:List I3} {ls:List G3} {c:Int} {t:By} {s1 s2:Sb} {a a':Option Gd} (h:Fl n s is ls c t s1 a) (h':Fl n s is ls c t s2 a'):s2=s1/\a'=a:=by
  cases h with
  | ok h1 h2=>cases h' with
    | ok k1 k2=>obtain⟨rfl,_⟩:=h1.uniq k1;exact⟨rfl,rfl⟩
    | recs k1 k2=>omega
    | bad k1=>obtain⟨_,e⟩:=h1.uniq k1;cases e
  | recs h1 h2=>cases h' with
    | ok k1 k2=>omega
    | recs k1 k2=>obtain⟨rfl,_⟩:=h1.uniq k1;exact⟨rfl,rfl⟩
    | bad k1=>obtain⟨_,e⟩:=h1.uniq k1;cases e
  | bad h1=>cases h' with
    | ok k1 k2=>obtain⟨_,e⟩:=h1.uniq k1;cases e
    | recs k1 k2=>obtain⟨_,e⟩:=h1.uniq k1;cases e
    | bad k1=>obtain⟨rfl,e⟩:=h1.uniq k1;cases e;exact⟨rfl,rfl⟩
noncomputable def outT (n:Nat) (s:Sb) (i:Nat):By:=Lg n s.T (qx s.R i).out
def Uv (n:Nat) (s:Sb) (is:List I3) (i:Nat):Prop:=(qx s.R i).code=is/\Yl (outT n s i)
inductive Bc (ss:List S2) (ts:List T2) (n:Nat):Mm->Sb->List By->BJ->Mm->Sb->BA->Prop
  | known {ms s st nm d}:fd ms nm=some d->Bc ss ts n ms s st (.make nm) ms s (.ok d)
  | circle {ms s st nm i}:fd ms nm=none->i<st.length->nx st i=nm->(∀ j,j<i->nx st j≠nm)->Bc ss ts n ms s st (.make nm) ms s (.bad (.circle (st.drop i)))
  | source {ms s st nm i}:fd ms nm=none->¬ Ec st nm->i<ss.length->(sx ss i).name=nm->Bc ss ts n ms s st (.make nm) (ms++[(nm,⟨0,(sx ss i).text,[]⟩)]) s (.ok ⟨0,(sx ss i).text,[]⟩)
  | missing {ms s st nm}:fd ms nm=none->¬ Ec st nm->¬ Xj ss ts nm->Bc ss ts n ms s st (.make nm) (ms++[(nm,⟨4,nm,[]⟩)]) s (.ok ⟨4,nm,[]⟩)
  | deep {ms s st nm}:fd ms nm=none->¬ Ec st nm->¬ Ec (Aq ss) nm->Ec (Ao ts) nm->60<=st.length->Bc ss ts n ms s st (.make nm) ms s (.bad (.deep nm))
  | made {ms s st nm i ms' s' d}:fd ms nm=none->¬ Ec st nm->¬ Ec (Aq ss) nm->i<ts.length->(tx ts i).name=nm->st.length<60->Bc ss ts n ms s (st++[nm]) (.work nm (tx ts i).code) ms' s' (.ok d)->Bc ss ts n ms s st (.make nm) (ms'++[(nm,d)]) s' (.ok d)
  | fell {ms s st nm i ms' s' b}:fd ms nm=none->¬ Ec st nm->¬ Ec (Aq ss) nm->i<ts.length->(tx ts i).name=nm->st.length<60->Bc ss ts n ms s (st++[nm]) (.work nm (tx ts i).code) ms' s' (.bad b)->Bc ss ts n ms s st (.make nm) ms' s' (.bad b)
  | held {ms s st nm is ms' s' c t}:Bc ss ts n ms s st (.tri is 0 s.R.length) ms' s' (.hit c t)->Bc ss ts n ms s st (.work nm is) ms' ⟨s'.T,s'.R,s'.ran,s'.held++[nm]⟩ (.ok ⟨c,t,[]⟩)
  | tfell {ms s st nm is ms' s' b}:Bc ss ts n ms s st (.tri is 0 s.R.length) ms' s' (.bad b)->Bc ss ts n ms s st (.work nm is) ms' s' (.bad b)
  | ran {ms s st nm is ms1 s1 ms' s' d}:Bc ss ts n ms s st (.tri is 0 s.R.length) ms1 s1 .none->Bc ss ts n ms1 s1 st (.run is [] []) ms' s' (.ok d)->Bc ss ts n ms s st (.work nm is) ms' ⟨s'.T,s'.R,s'.ran++[nm],s'.held⟩ (.ok d)
  | rfell {ms s st nm is ms1 s1 ms' s' b}:Bc ss ts n ms s st (.tri is 0 s.R.length) ms1 s1 .none->Bc ss ts n ms1 s1 st (.run is [] []) ms' s' (.bad b)->Bc ss ts n ms s st (.work nm is) ms' s' (.bad b)
  | tend {ms s st is i m}:m<=i->Bc ss ts n ms s st (.tri is i m) ms s .none
  | tother {ms s st is i m ms' s' a}:i<m->¬ Uv n s is i->Bc ss ts n ms s st (.tri is (i+1) m) ms' s' a->Bc ss ts n ms s st (.tri is i m) ms' s' a
  | thit {ms s st is i m ms' s'}:i<m->Uv n s is i->Bc ss ts n ms s st (.holds (qx s.R i).looks 0) ms' s' .yes->Bc ss ts n ms s st (.tri is i m) ms' s' (.hit (rdC (outT n s i)) (rdT (outT n s i)))
  | tno {ms s st is i m ms1 s1 ms' s' a}:i<m->Uv n s is i->Bc ss ts n ms s st (.holds (qx s.R i).looks 0) ms1 s1 .no->Bc ss ts n ms1 s1 st (.tri is (i+1) m) ms' s' a->Bc ss ts n ms s st (.tri is i m) ms' s' a
  | tbad {ms s st is i m ms' s' b}:i<m->Uv n s is i->Bc ss ts n ms s st (.holds (qx s.R i).looks 0) ms' s' (.bad b)->Bc ss ts n ms s st (.tri is i m) ms' s' (.bad b)
  | hend {ms s st gs k}:gs.length<=k->Bc ss ts n ms s st (.holds gs k) ms s .yes
  | hhas {ms s st gs k ms' s' a}:k<gs.length->(gx gs k).ask=false->Ap n (Co (Cb ss ts (gx gs k).name))=(gx gs k).sum->Bc ss ts n ms s st (.holds gs (k+1)) ms' s' a->Bc ss ts n ms s st (.holds gs k) ms' s' a
  | hhasno {ms s st gs k}:k<gs.length->(gx gs k).ask=false->Ap n (Co (Cb ss ts (gx gs k).name))≠(gx gs k).sum->Bc ss ts n ms s st (.holds gs k) ms s .no
  | hask {ms s st gs k ms1 s1 d ms' s' a}:k<gs.length->(gx gs k).ask=true->Bc ss ts n ms s st (.make (gx gs k).name) ms1 s1 (.ok d)->Ap n (Bk d.c d.t)=(gx gs k).sum->Bc ss ts n ms1 s1 st (.holds gs (k+1)) ms' s' a->Bc ss ts n ms s st (.holds gs k) ms' s' a
  | haskno {ms s st gs k ms' s' d}:k<gs.length->(gx gs k).ask=true->Bc ss ts n ms s st (.make (gx gs k).name) ms' s' (.ok d)->Ap n (Bk d.c d.t)≠(gx gs k).sum->Bc ss ts n ms s st (.holds gs k) ms' s' .no
  | haskbad {ms s st gs k ms' s' b}:k<gs.length->(gx gs k).ask=true->Bc ss ts n ms s st (.make (gx gs k).name) ms' s' (.bad b)->Bc ss ts n ms s st (.holds gs k) ms' s' (.bad b)
  | over {ms s st is ys ls c t m s'}:Ce is ys Ma (.over c t m)->Fl n s is ls c t s' none->Bc ss ts n ms s st (.run is ys ls) ms s' (.ok ⟨c,t,ls⟩)
  | overbad {ms s st is ys ls c t m s' b}:Ce is ys Ma (.over c t m)->Fl n s is ls c t s' (some b)->Bc ss ts n ms s st (.run is ys ls) ms s' (.bad b)
  | has {ms s st is ys ls nm m ms' s' a}:Ce is ys Ma (.wait false nm m)->Bc ss ts n ms s st (.run is (ys++[⟨Cb ss ts nm,0,⟨#[]⟩⟩]) (ls++[⟨nm,false,Co (Cb ss ts nm)⟩])) ms' s' a->Bc ss ts n ms s st (.run is ys ls) ms' s' a
  | asked {ms s st is ys ls nm m ms1 s1 d ms' s' a}:Ce is ys Ma (.wait true nm m)->Bc ss ts n ms s st (.make nm) ms1 s1 (.ok d)->Bc ss ts n ms1 s1 st (.run is (ys++[Vq ss ts nm d]) (ls++[⟨nm,true,Bk d.c d.t⟩])) ms' s' a->Bc ss ts n ms s st (.run is ys ls) ms' s' a
  | askbad {ms s st is ys ls nm m ms' s' b}:Ce is ys Ma (.wait true nm m)->Bc ss ts n ms s st (.make nm) ms' s' (.bad b)->Bc ss ts n ms s st (.run is ys ls) ms' s' (.bad b)
theorem Bc.unique (hs:Gf (Aq ss)) (ht:Gf (Ao ts)) {ms:Mm} {s:Sb} {st:List By} {j:BJ} {ms1:Mm} {s1:Sb} {a:BA} (h:Bc ss ts n ms s st j ms1 s1 a):∀ {br:Mm} {s2:Sb} {a2:BA},Bc ss ts n ms s st j br s2 a2->br=ms1/\s2=s1/\a2=a:=by
  induction h with
  | known h1=>
    intro m2 s2 a2 q
    cases q with
    | known k1=>rw[h1] at k1;cases k1;exact⟨rfl,rfl,rfl⟩
    | circle k1=>rw[h1] at k1;cases k1
    | source k1=>rw[h1] at k1;cases k1
    | missing k1=>rw[h1] at k1;cases k1
    | deep k1=>rw[h1] at k1;cases k1
    | made k1=>rw[h1] at k1;cases k1
    | fell k1=>rw[h1] at k1;cases k1
  | circle h1 h2 h3 h4=>
    intro m2 s2 a2 q
    cases q with
    | known k1=>rw[h1] at k1;cases k1
    | circle k1 k2 k3 k4=>
      rename_i i i'
      rcases Nat.lt_trichotomy i i' with e|e|e
      · exact absurd h3 (k4 _ e)
      · subst e;exact⟨rfl,rfl,rfl⟩
      · exact absurd k3 (h4 _ e)
    | source k1 k0=>exact absurd ⟨_,h2,h3⟩ k0
    | missing k1 k0=>exact absurd ⟨_,h2,h3⟩ k0
    | deep k1 k0=>exact absurd ⟨_,h2,h3⟩ k0
    | made k1 k0=>exact absurd ⟨_,h2,h3⟩ k0
    | fell k1 k0=>exact absurd ⟨_,h2,h3⟩ k0
  | source h1 h0 h2 h3=>
    intro m2 s2 a2 q
    cases q with
    | known k1=>rw[h1] at k1;cases k1
    | circle k1 k2 k3=>exact absurd ⟨_,k2,k3⟩ h0
    | source k1 k0 k2 k3=>obtain rfl:=src_inj hs h2 k2 (h3.trans k3.symm);exact⟨rfl,rfl,rfl⟩
    | missing k1 k0 k2=>exact absurd (Or.inl (h3▸Gs h2)) k2
    | deep k1 k0 k2=>exact absurd (h3▸Gs h2) k2
    | made k1 k0 k2=>exact absurd (h3▸Gs h2) k2
    | fell k1 k0 k2=>exact absurd (h3▸Gs h2) k2
  | missing h1 h0 h2=>
    intro m2 s2 a2 q
    cases q with
    | known k1=>rw[h1] at k1;cases k1
    | circle k1 k2 k3=>exact absurd ⟨_,k2,k3⟩ h0
    | source k1 k0 k2 k3=>exact absurd (Or.inl (k3▸Gs k2)) h2
    | missing k1 k0 k2=>exact⟨rfl,rfl,rfl⟩
    | deep k1 k0 k2 k3=>exact absurd (Or.inr k3) h2
    | made k1 k0 k2 k3 k4=>exact absurd (Or.inr (k4▸Hz k3)) h2
    | fell k1 k0 k2 k3 k4=>exact absurd (Or.inr (k4▸Hz k3)) h2
  | deep h1 h0 h2 h3 h4=>
    intro m2 s2 a2 q
    cases q with
    | known k1=>rw[h1] at k1;cases k1
    | circle k1 k2 k3=>exact absurd ⟨_,k2,k3⟩ h0
    | source k1 k0 k2 k3=>exact absurd (k3▸Gs k2) h2
    | missing k1 k0 k2=>exact absurd (Or.inr h3) k2
    | deep k1 k0 k2 k3=>exact⟨rfl,rfl,rfl⟩
    | made k1 k0 k2 k3 k4 k5=>omega
    | fell k1 k0 k2 k3 k4 k5=>omega
  | made h1 h0 h2 h3 h4 h5 _ ih=>
    intro m2 s2 a2 q
    cases q with
    | known k1=>rw[h1] at k1;cases k1
    | circle k1 k2 k3=>exact absurd ⟨_,k2,k3⟩ h0
    | source k1 k0 k2 k3=>exact absurd (k3▸Gs k2) h2
    | missing k1 k0 k2=>exact absurd (Or.inr (h4▸Hz h3)) k2
    | deep k1 k0 k2 k3 k4=>omega
    | made k1 k0 k2 k3 k4 k5 k6=>obtain rfl:=Tb ht h3 k3 (h4.trans k4.symm);obtain⟨rfl,rfl,e⟩:=ih k6;cases e;exact⟨rfl,rfl,rfl⟩
    | fell k1 k0 k2 k3 k4 k5 k6=>obtain rfl:=Tb ht h3 k3 (h4.trans k4.symm);obtain⟨_,_,e⟩:=ih k6;cases e
  | fell h1 h0 h2 h3 h4 h5 _ ih=>
    intro m2 s2 a2 q
    cases q with
    | known k1=>rw[h1] at k1;cases k1
    | circle k1 k2 k3=>exact absurd ⟨_,k2,k3⟩ h0
    | source k1 k0 k2 k3=>exact absurd (k3▸Gs k2) h2
    | missing k1 k0 k2=>exact absurd (Or.inr (h4▸Hz h3)) k2
    | deep k1 k0 k2 k3 k4=>omega
    | made k1 k0 k2 k3 k4 k5 k6=>obtain rfl:=Tb ht h3 k3 (h4.trans k4.symm);obtain⟨_,_,e⟩:=ih k6;cases e
    | fell k1 k0 k2 k3 k4 k5 k6=>obtain rfl:=Tb ht h3 k3 (h4.trans k4.symm);exact ih k6
  | held _ ih=>
    intro m2 s2 a2 q
    cases q with
    | held k1=>obtain⟨rfl,rfl,e⟩:=ih k1;cases e;exact⟨rfl,rfl,rfl⟩
    | tfell k1=>obtain⟨_,_,e⟩:=ih k1;cases e
    | ran k1=>obtain⟨_,_,e⟩:=ih k1;cases e
    | rfell k1=>obtain⟨_,_,e⟩:=ih k1;cases e
  | tfell _ ih=>
    intro m2 s2 a2 q
    cases q with
    | held k1=>obtain⟨_,_,e⟩:=ih k1;cases e
    | tfell k1=>exact ih k1
    | ran k1=>obtain⟨_,_,e⟩:=ih k1;cases e
    | rfell k1=>obtain⟨_,_,e⟩:=ih k1;cases e
  | ran _ _ ih ih2=>
    intro m2 s2 a2 q
    cases q with
    | held k1=>obtain⟨_,_,e⟩:=ih k1;cases e
    | tfell k1=>obtain⟨_,_,e⟩:=ih k1;cases e
    | ran k1 k2=>obtain⟨rfl,rfl,_⟩:=ih k1;obtain⟨rfl,rfl,e⟩:=ih2 k2;cases e;exact⟨rfl,rfl,rfl⟩
    | rfell k1 k2=>obtain⟨rfl,rfl,_⟩:=ih k1;obtain⟨_,_,e⟩:=ih2 k2;cases e
  | rfell _ _ ih ih2=>
    intro m2 s2 a2 q
    cases q with
    | held k1=>obtain⟨_,_,e⟩:=ih k1;cases e
    | tfell k1=>obtain⟨_,_,e⟩:=ih k1;cases e
    | ran k1 k2=>obtain⟨rfl,rfl,_⟩:=ih k1;obtain⟨_,_,e⟩:=ih2 k2;cases e
    | rfell k1 k2=>obtain⟨rfl,rfl,_⟩:=ih k1;exact ih2 k2
  | tend h1=>
    intro m2 s2 a2 q
    cases q with
    | tend k1=>exact⟨rfl,rfl,rfl⟩
    | tother k1=>omega
    | thit k1=>omega
    | tno k1=>omega
    | tbad k1=>omega
  | tother h1 h2 _ ih=>
    intro m2 s2 a2 q
    cases q with
    | tend k1=>omega
    | tother k1 k2 k3=>exact ih k3
    | thit k1 k2=>exact absurd k2 h2
    | tno k1 k2=>exact absurd k2 h2
    | tbad k1 k2=>exact absurd k2 h2
  | thit h1 h2 _ ih=>
    intro m2 s2 a2 q
    cases q with
    | tend k1=>omega
    | tother k1 k2=>exact absurd h2 k2
    | thit k1 k2 k3=>obtain⟨rfl,rfl,_⟩:=ih k3;exact⟨rfl,rfl,rfl⟩
    | tno k1 k2 k3=>obtain⟨_,_,e⟩:=ih k3;cases e
    | tbad k1 k2 k3=>obtain⟨_,_,e⟩:=ih k3;cases e
  | tno h1 h2 _ _ ih ih2=>
    intro m2 s2 a2 q
    cases q with
    | tend k1=>omega
    | tother k1 k2=>exact absurd h2 k2
    | thit k1 k2 k3=>obtain⟨_,_,e⟩:=ih k3;cases e
    | tno k1 k2 k3 k4=>obtain⟨rfl,rfl,_⟩:=ih k3;exact ih2 k4
    | tbad k1 k2 k3=>obtain⟨_,_,e⟩:=ih k3;cases e
  | tbad h1 h2 _ ih=>
    intro m2 s2 a2 q
    cases q with
    | tend k1=>omega
    | tother k1 k2=>exact absurd h2 k2
    | thit k1 k2 k3=>obtain⟨_,_,e⟩:=ih k3;cases e
    | tno k1 k2 k3=>obtain⟨_,_,e⟩:=ih k3;cases e
    | tbad k1 k2 k3=>exact ih k3
  | hend h1=>
    intro m2 s2 a2 q
    cases q with
    | hend k1=>exact⟨rfl,rfl,rfl⟩
    | hhas k1=>omega
    | hhasno k1=>omega
    | hask k1=>omega
    | haskno k1=>omega
    | haskbad k1=>omega
  | hhas h1 h2 h3 _ ih=>
    intro m2 s2 a2 q
    cases q with
    | hend k1=>omega
    | hhas k1 k2 k3 k4=>exact ih k4
    | hhasno k1 k2 k3=>exact absurd h3 k3
    | hask k1 k2=>rw[h2] at k2;cases k2
    | haskno k1 k2=>rw[h2] at k2;cases k2
    | haskbad k1 k2=>rw[h2] at k2;cases k2
  | hhasno h1 h2 h3=>
    intro m2 s2 a2 q
    cases q with
    | hend k1=>omega
    | hhas k1 k2 k3 k4=>exact absurd k3 h3
    | hhasno k1 k2 k3=>exact⟨rfl,rfl,rfl⟩
    | hask k1 k2=>rw[h2] at k2;cases k2
    | haskno k1 k2=>rw[h2] at k2;cases k2
    | haskbad k1 k2=>rw[h2] at k2;cases k2
  | hask h1 h2 _ h4 _ ih ih2=>
    intro m2 s2 a2 q
    cases q with
    | hend k1=>omega
    | hhas k1 k2=>rw[h2] at k2;cases k2
    | hhasno k1 k2=>rw[h2] at k2;cases k2
    | hask k1 k2 k3 k4 k5=>obtain⟨rfl,rfl,e⟩:=ih k3;cases e;exact ih2 k5
    | haskno k1 k2 k3 k4=>obtain⟨rfl,rfl,e⟩:=ih k3;cases e;exact absurd h4 k4
    | haskbad k1 k2 k3=>obtain⟨_,_,e⟩:=ih k3;cases e
  | haskno h1 h2 _ h4 ih=>
    intro m2 s2 a2 q
    cases q with
    | hend k1=>omega
    | hhas k1 k2=>rw[h2] at k2;cases k2
    | hhasno k1 k2=>rw[h2] at k2;cases k2
    | hask k1 k2 k3 k4 k5=>obtain⟨rfl,rfl,e⟩:=ih k3;cases e;exact absurd k4 h4
    | haskno k1 k2 k3 k4=>obtain⟨rfl,rfl,e⟩:=ih k3;exact⟨rfl,rfl,rfl⟩
    | haskbad k1 k2 k3=>obtain⟨_,_,e⟩:=ih k3;cases e
  | haskbad h1 h2 _ ih=>
    intro m2 s2 a2 q
    cases q with
    | hend k1=>omega
    | hhas k1 k2=>rw[h2] at k2;cases k2
    | hhasno k1 k2=>rw[h2] at k2;cases k2
    | hask k1 k2 k3 k4 k5=>obtain⟨_,_,e⟩:=ih k3;cases e
    | haskno k1 k2 k3 k4=>obtain⟨_,_,e⟩:=ih k3;cases e
    | haskbad k1 k2 k3=>exact ih k3
  | over h1 h2=>
    intro m2 s2 a2 q
    cases q with
    | over k1 k2=>cases Ce.unique h1 k1;obtain⟨rfl,_⟩:=h2.uniq k2;exact⟨rfl,rfl,rfl⟩
    | overbad k1 k2=>cases Ce.unique h1 k1;obtain⟨_,e⟩:=h2.uniq k2;cases e
    | has k1=>cases Ce.unique h1 k1
    | asked k1=>cases Ce.unique h1 k1
    | askbad k1=>cases Ce.unique h1 k1
  | overbad h1 h2=>
    intro m2 s2 a2 q
    cases q with
    | over k1 k2=>cases Ce.unique h1 k1;obtain⟨_,e⟩:=h2.uniq k2;cases e
    | overbad k1 k2=>cases Ce.unique h1 k1;obtain⟨rfl,e⟩:=h2.uniq k2;cases e;exact⟨rfl,rfl,rfl⟩
    | has k1=>cases Ce.unique h1 k1
    | asked k1=>cases Ce.unique h1 k1
    | askbad k1=>cases Ce.unique h1 k1
  | has h1 _ ih=>
    intro m2 s2 a2 q
    cases q with
    | over k1=>cases Ce.unique h1 k1
    | overbad k1=>cases Ce.unique h1 k1
    | has k1 k2=>cases Ce.unique h1 k1;exact ih k2
    | asked k1=>cases Ce.unique h1 k1
    | askbad k1=>cases Ce.unique h1 k1
  | asked h1 _ _ ih ih2=>
    intro m2 s2 a2 q
    cases q with
    | over k1=>cases Ce.unique h1 k1
    | overbad k1=>cases Ce.unique h1 k1
    | has k1=>cases Ce.unique h1 k1
    | asked k1 k2 k3=>cases Ce.unique h1 k1;obtain⟨rfl,rfl,e⟩:=ih k2;cases e;exact ih2 k3
    | askbad k1 k2=>cases Ce.unique h1 k1;obtain⟨_,_,e⟩:=ih k2;cases e
  | askbad h1 _ ih=>
    intro m2 s2 a2 q
    cases q with
    | over k1=>cases Ce.unique h1 k1
    | overbad k1=>cases Ce.unique h1 k1
    | has k1=>cases Ce.unique h1 k1
    | asked k1 k2 k3=>cases Ce.unique h1 k1;obtain⟨_,_,e⟩:=ih k2;cases e
    | askbad k1 k2=>cases Ce.unique h1 k1;exact ih k2
theorem Hl {ms:Mm} {nm:By} {d:Md} (h:fd ms nm=none):fd (ms++[(nm,d)]) nm=some d:=by
  unfold fd at *;rw[List.find?_append]
  cases hf:ms.find? (fun e=>decide (e.1=nm)) with
  | some x=>rw[hf] at h;cases h
  | none=>simp
theorem Lh {ms:Mm} {nm:By} {d:Md} (h:nm'≠nm):fd (ms++[(nm,d)]) nm'=fd ms nm':=by
  unfold fd;rw[List.find?_append];have:¬ nm=nm':=fun e=>h e.symm
  cases hf:ms.find? (fun e=>decide (e.1=nm')) with
  | some x=>simp
  | none=>simp[this]
theorem Qby {ms:Mm} {nm:By} {d d':Md} (h:fd ms nm'=some d'):fd (ms++[(nm,d)]) nm'=some d':=by
  unfold fd at *;rw[List.find?_append]
  cases hf:ms.find? (fun e=>decide (e.1=nm')) with
  | some x=>rw[hf] at h;simpa using h
  | none=>rw[hf] at h;cases h
theorem Dz {st:List By} {nm x:By}:Ec (st++[nm]) x↔Ec st x\/x=nm:=by
  constructor
  · rintro ⟨j,hj,e⟩
    rw[List.length_append,List.length_singleton] at hj
    rcases Nat.lt_or_ge j st.length with h|h
    · left
      exact⟨j,h,by rw[← e];unfold nx;rw[gG,gG,List.getElem?_append_left h]⟩
    · right
      obtain rfl:j=st.length:=qb;rw[← e];unfold nx;rw[gG,List.getElem?_append_right (Nat.le_refl _)];simp
  · rintro (⟨j,hj,e⟩|rfl)
    · exact⟨j,qgs,by rw[← e];unfold nx;rw[gG,gG,List.getElem?_append_left hj]⟩
    · exact⟨st.length,qg,by unfold nx;rw[gG,List.getElem?_append_right (Nat.le_refl _)];simp⟩
structure Fv (ss:List S2) (ts:List T2) (ms:Mm) (st:List By):Prop where
  done:∀ nm d,fd ms nm=some d->MdOk ss ts nm d
  tgt:∀ nm,Ec st nm->Ec (Ao ts) nm
  nst:∀ nm,Ec st nm->fd ms nm=none
theorem Fv.nil (ss:List S2) (ts:List T2):Fv ss ts [] []:=⟨fun nm d h=>by simp[fd] at h,fun nm h=>by obtain⟨j,hj,_⟩:=h;simp at hj,fun nm h=>by obtain⟨j,hj,_⟩:=h;simp at hj⟩
theorem Fv.add {ms:Mm} {st:List By} (h:Fv ss ts ms st) {nm:By} {d:Md} (h1:fd ms nm=none) (h2:¬ Ec st nm) (hd:MdOk ss ts nm d):Fv ss ts (ms++[(nm,d)]) st:=by
  refine⟨fun x d' hx=>?_,h.tgt,fun x hx=>?_⟩
  · by_cases e:x=nm
    · subst e;rw[Hl h1] at hx;cases hx;exact hd
    · rw[Lh e] at hx;exact h.done x d' hx
  · rw[Lh (fun e=>by subst e;exact h2 hx)];exact h.nst x hx
theorem Fv.push {ms:Mm} {st:List By} (h:Fv ss ts ms st) {nm:By} (h1:fd ms nm=none) (ht:Ec (Ao ts) nm):Fv ss ts ms (st++[nm]):=by
  refine⟨h.done,fun x hx=>?_,fun x hx=>?_⟩
  · rcases Dz.1 hx with k|rfl
    · exact h.tgt x k
    · exact ht
  · rcases Dz.1 hx with k|rfl
    · exact h.nst x k
    · exact h1
theorem Fv.pop {ms:Mm} {st:List By} {nm:By} (h:Fv ss ts ms (st++[nm])) (h2:¬ Ec st nm) {d:Md} (hd:MdOk ss ts nm d):Fv ss ts (ms++[(nm,d)]) st:=
  Fv.add ⟨h.done,fun x hx=>h.tgt x (Dz.2 (Or.inl hx)),fun x hx=>h.nst x (Dz.2 (Or.inl hx))⟩ (h.nst nm (Dz.2 (Or.inr rfl))) h2 hd
def Kl (n:Nat) (s:Sb):Prop:=Js n s.T s.R
structure BGr (k:Nat) (ms:Mm) (s:Sb) (ms':Mm) (s':Sb):Prop where
  ex:∃ r,ms'=ms++r
  recs:∃ r,s'.R=s.R++r
  cnt:s'.ran.length+s'.held.length+ms.length<=s.ran.length+s.held.length+ms'.length+k
theorem BGr.refl (ms:Mm) (s:Sb):BGr 0 ms s ms s:=⟨⟨[],qg⟩,⟨[],qg⟩,Nat.le_refl _⟩
theorem BGr.trans {p q:Nat} {a b c:Mm} {x y z:Sb} (h:BGr p a x b y) (k:BGr q b y c z):BGr (p+q) a x c z:=by
  obtain⟨⟨r,rfl⟩,⟨q,e1⟩,h3⟩:=h;obtain⟨⟨r',rfl⟩,⟨q',e2⟩,k3⟩:=k;exact⟨⟨r++r',by rw[List.append_assoc]⟩,⟨q++q',by rw[e2,e1,List.append_assoc]⟩,qb⟩
theorem BGr.len {k0:Nat} {ms ms':Mm} {s s':Sb} (h:BGr k0 ms s ms' s'):s.R.length<=s'.R.length:=by
  obtain⟨_,⟨r,e⟩,_⟩:=h;rw[e,List.length_append];omega
def Lz (ls:List G3):Prop:=∀ g∈ls,Am g.name/\g.sum.size<=2002
theorem Lz.snoc {ls:List G3} {g:G3} (h:Lz ls) (h1:Am g.name) (h2:g.sum.size<=2002):Lz (ls++[g]):=fun x hx=>by
  rcases List.mem_append.1 hx with k|k
  · exact h x k
  · rw[List.mem_singleton] at k;subst k;exact⟨h1,h2⟩
def GsOk (gs:List G3):Prop:=gs.length<=200/\∀ j,j<gs.length->Am (gx gs j).name
def JobB (s:Sb):BJ->Prop
  | .make nm=>Am nm
  | .work nm is=>Au is=true
  | .tri is i m=>m<=s.R.length
  | .holds gs k=>GsOk gs
  | .run is ys ls=>Ft is ys ls/\ys.length<=200/\Lz ls
def MdB (d:Md):Prop:=0<=d.c/\d.c<=5/\d.t.size<=2000/\d.ls.length<=200
def Wi (ms':Mm):BJ->BA->Prop
  | .make nm,.ok d=>fd ms' nm=some d
  | .work nm is,.ok d=>MdB d
  | .tri is i m,.hit c t=>0<=c/\c<=5/\t.size<=2000
  | .run is ys ls,.ok d=>MdB d
  | _,_=>True
theorem Wi.tri {ms:Mm} {is:List I3} {i m i' m':Nat} {a:BA} (h:Wi ms (.tri is i m) a):Wi ms (.tri is' i' m') a:=by cases a<;>exact h
theorem Wi.run {ms:Mm} {is:List I3} {ys ys':List R3} {ls ls':List G3} {a:BA} (h:Wi ms (.run is ys ls) a):Wi ms (.run is' ys' ls') a:=by cases a<;>exact h
theorem Wi.holds {ms:Mm} {gs gs':List G3} {k k':Nat} {a:BA} (h:Wi ms (.holds gs k) a):Wi ms (.holds gs' k') a:=by cases a<;>exact h
theorem Di.ok {T xs T':List By} {a:Option Gd} (h:Di n T xs T' a):Uo n T->(∀ x∈xs,x.size<=2002)->Uo n T':=by
  induction h with
  | nil=>intro h _;exact h
  | @go T x xs r T' T'' a h1 h2 _ ih=>
    intro h hx;refine ih ?_ (fun y hy=>hx y (List.mem_cons_of_mem _ hy))
    rcases h2 with ⟨_,_,e,_⟩|⟨_,_,_,e,_⟩|⟨_,_,e,_⟩|⟨h3,h4,_,e,_⟩
    · cases e
    · rw[e];exact h
    · cases e
    · obtain⟨p1,p2,p3⟩:=h1.ins (So.of_asc h.2.2) h3
      rw[e];refine⟨by rw[p3];omega,fun i hi=>?_,p1.asc⟩;rw[Oi hi]
      rcases (p2 _).1 (List.getElem_mem hi) with k|k
      · obtain⟨j,hj,ej⟩:=List.mem_iff_getElem.1 k
        rw[← ej,← Oi hj];exact h.2.1 j hj
      · rw[k];exact hx x (List.mem_cons_self ..)
  | clash=>intro h _;exact h
  | full=>intro h _;exact h
theorem askT_size {ls:List G3} (h:Lz ls):∀ x∈Ih ls,x.size<=2002:=fun x hx=>by
  unfold Ih at hx;obtain⟨g,hg,rfl⟩:=List.mem_map.1 hx;exact(h g (List.mem_filter.1 hg).1).2
theorem Lf {ls:List G3} {i:Nat} (h:i<ls.length):gx ls i∈ls:=by
  unfold gx;rw[gG,Iu h];exact List.getElem_mem _
theorem Fl.good {s s':Sb} {is:List I3} {ls:List G3} {c:Int} {t:By} (h:Fl n s is ls c t s' none) (hs:Kl n s) (hp:Au is=true) (hl:ls.length<=200) (hls:Lz ls) (ht:t.size<=2000) (ms:Mm):Kl n s'/\BGr 0 ms s ms s':=by
  cases h with
  | ok h1 h2=>
    refine⟨⟨h1.ok hs.1 (fun x hx=>?_),by simp only[List.length_append,List.length_singleton];omega,fun i hi=>?_⟩,⟨⟨[],qg⟩,⟨_,rfl⟩,Nat.le_refl _⟩⟩
    · rcases List.mem_append.1 hx with k|k
      · exact askT_size hls x k
      · rw[List.mem_singleton] at k;rw[k];exact Dn ht
    · rw[List.length_append,List.length_singleton] at hi
      show Il n (qx (s.R++[_]) i);unfold qx
      rcases Nat.lt_or_ge i s.R.length with k|k
      · rw[gG,List.getElem?_append_left k,← gG];exact hs.2.2 i k
      · obtain rfl:i=s.R.length:=qb
        rw[gG,List.getElem?_append_right (Nat.le_refl _)];simp only[Nat.sub_self,List.getElem?_cons_zero,Option.getD_some];refine⟨hp,Qak n _,by rw[List.length_map];exact hl,fun j hj=>?_⟩;rw[List.length_map] at hj;show Na n (gx (ls.map (Kw n)) j);rw[gx_map n ls j hj];exact⟨(hls _ (Lf hj)).1,Qak n _⟩
theorem Hk (b:Bool):(Co b).size<=2002:=by cases b<;>decide
def Wq:BJ->Nat
  | .work _ _=>1
  | _=>0
theorem Bc.inv (hv:SpV ss ts) {ms:Mm} {s:Sb} {st:List By} {j:BJ} {ms':Mm} {s':Sb} {a:BA} (h:Bc ss ts n ms s st j ms' s' a):Fv ss ts ms st->Kl n s->JobB s j->(∀ b,a≠.bad b)->Fv ss ts ms' st/\Kl n s'/\BGr (Wq j) ms s ms' s'/\Wi ms' j a:=by
  induction h with
  | known h1=>intro hi hs _ _;exact⟨hi,hs,BGr.refl _ _,h1⟩
  | circle=>intro _ _ _ ha;exact absurd rfl (ha _)
  | source h1 h0 h2 h3=>
    intro hi hs _ _;exact⟨hi.add h1 h0 ⟨qg,qg,hv.txt _ h2,qg,fun hn=>absurd (Or.inl (h3▸Gs h2)) hn⟩,hs,⟨⟨_,rfl⟩,⟨[],qg⟩,by simp only[List.length_append,List.length_singleton,Wq];omega⟩,Hl h1⟩
  | missing h1 h0 h2=>
    intro hi hs hj _;have jn:=hj.2.1;exact⟨hi.add h1 h0 ⟨qg,qg,qh,qg,fun _=>rfl⟩,hs,⟨⟨_,rfl⟩,⟨[],qg⟩,by simp only[List.length_append,List.length_singleton,Wq];omega⟩,Hl h1⟩
  | deep=>intro _ _ _ ha;exact absurd rfl (ha _)
  | made h1 h0 h2 h3 h4 h5 _ ih=>
    intro hi hs hj _;have hth:=h4▸Hz h3;obtain⟨k1,k2,k3,k4⟩:=ih (hi.push h1 hth) hs (hv.pr _ h3) (fun b e=>qu);refine⟨k1.pop h0 ⟨k4.1,k4.2.1,k4.2.2.1,k4.2.2.2,fun hn=>absurd (Or.inr hth) hn⟩,k2,⟨by obtain⟨r,e⟩:=k3.ex;exact⟨r++[_],by rw[e,List.append_assoc]⟩,k3.recs,by have:=k3.cnt;simp only[List.length_append,List.length_singleton,Wq] at this ⊢;omega⟩,Hl (k1.nst _ (Dz.2 (Or.inr rfl)))⟩
  | fell=>intro _ _ _ ha;exact absurd rfl (ha _)
  | held _ ih=>
    intro hi hs hj _;obtain⟨k1,k2,k3,k4⟩:=ih hi hs (Nat.le_refl _) (fun b e=>qu);exact⟨k1,k2,⟨k3.ex,k3.recs,by have:=k3.cnt;simp only[List.length_append,List.length_singleton,Wq] at this ⊢;omega⟩,⟨k4.1,k4.2.1,k4.2.2,qg⟩⟩
  | tfell=>intro _ _ _ ha;exact absurd rfl (ha _)
  | ran _ _ ih ih2=>
    intro hi hs hj _;obtain⟨k1,k2,k3,k4⟩:=ih hi hs (Nat.le_refl _) (fun b e=>qu);obtain⟨l1,l2,l3,l4⟩:=ih2 k1 k2 ⟨⟨hj,fun i hi=>qy,rfl⟩,qg,fun g hg=>by simp at hg⟩ (fun b e=>qu);exact⟨l1,l2,⟨(k3.trans l3).ex,(k3.trans l3).recs,by have:=(k3.trans l3).cnt;simp only[List.length_append,List.length_singleton,Wq] at this ⊢;omega⟩,l4⟩
  | rfell=>intro _ _ _ ha;exact absurd rfl (ha _)
  | tend=>intro hi hs _ _;exact⟨hi,hs,BGr.refl _ _,trivial⟩
  | tother h1 h2 _ ih=>intro hi hs hj ha;obtain⟨l1,l2,l3,l4⟩:=ih hi hs hj ha;exact⟨l1,l2,l3,l4.tri⟩
  | thit h1 h2 _ ih=>
    intro hi hs hj _;have hq:=hs.2.2 _ (Nat.lt_of_lt_of_le h1 hj);obtain⟨k1,k2,k3,_⟩:=ih hi hs ⟨hq.2.2.1,fun j hj=>(hq.2.2.2 j hj).1⟩ (fun b e=>qu);exact⟨k1,k2,k3,(rr_code h2.2).1,(rr_code h2.2).2,rr_text h2.2⟩
  | tno h1 h2 _ _ ih ih2=>
    intro hi hs hj ha;have hq:=hs.2.2 _ (Nat.lt_of_lt_of_le h1 hj);obtain⟨k1,k2,k3,_⟩:=ih hi hs ⟨hq.2.2.1,fun j hj=>(hq.2.2.2 j hj).1⟩ (fun b e=>qu);obtain⟨l1,l2,l3,l4⟩:=ih2 k1 k2 (Nat.le_trans hj k3.len) ha;refine⟨l1,l2,k3.trans l3,l4.tri⟩
  | tbad=>intro _ _ _ ha;exact absurd rfl (ha _)
  | hend=>intro hi hs _ _;exact⟨hi,hs,BGr.refl _ _,trivial⟩
  | hhas h1 h2 h3 _ ih=>intro hi hs hj ha;obtain⟨l1,l2,l3,l4⟩:=ih hi hs hj ha;exact⟨l1,l2,l3,l4.holds⟩
  | hhasno=>intro hi hs _ _;exact⟨hi,hs,BGr.refl _ _,trivial⟩
  | hask h1 h2 _ h4 _ ih ih2=>
    intro hi hs hj ha;obtain⟨k1,k2,k3,_⟩:=ih hi hs (hj.2 _ h1) (fun b e=>qu);obtain⟨l1,l2,l3,l4⟩:=ih2 k1 k2 hj ha;exact⟨l1,l2,k3.trans l3,l4.holds⟩
  | haskno h1 h2 _ h4 ih=>
    intro hi hs hj _;obtain⟨k1,k2,k3,_⟩:=ih hi hs (hj.2 _ h1) (fun b e=>qu);exact⟨k1,k2,k3,trivial⟩
  | haskbad=>intro _ _ _ ha;exact absurd rfl (ha _)
  | over h1 h2=>
    intro hi hs hj _;obtain⟨k1,k2,k3⟩:=hj.1.over h1;have hl:=hj.1.eq;have hy:=hj.2.1;obtain⟨g1,g2⟩:=h2.good hs hj.1.pr qb hj.2.2 k1 _;exact⟨hi,g1,g2,k2,k3,k1,by show _<=200;simp only;omega⟩
  | overbad=>intro _ _ _ ha;exact absurd rfl (ha _)
  | has h1 _ ih=>
    intro hi hs hj ha;obtain⟨k1,k2⟩:=hj.1.wait h1;obtain⟨l1,l2,l3,l4⟩:=ih hi hs ⟨hj.1.has _ _,qh,hj.2.2.snoc k2 (Hk _)⟩ ha;exact⟨l1,l2,l3,l4.run⟩
  | asked h1 _ _ ih ih2=>
    intro hi hs hj ha;obtain⟨k1,k2⟩:=hj.1.wait h1;obtain⟨i1,i2,i3,i4⟩:=ih hi hs k2 (fun b e=>qu);have hd:=i1.done _ _ i4;obtain⟨j1,j2,j3,j4⟩:=ih2 i1 i2 ⟨hj.1.asked hd _,qh,hj.2.2.snoc k2 (Dn hd.t2)⟩ ha;exact⟨j1,j2,i3.trans j3,j4.run⟩
  | askbad=>intro _ _ _ ha;exact absurd rfl (ha _)
end Go.Proofs.YtfgoholldpeabaaGreatDoor
