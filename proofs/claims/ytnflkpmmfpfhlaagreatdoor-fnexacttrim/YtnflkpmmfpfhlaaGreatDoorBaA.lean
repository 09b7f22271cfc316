import Derived.Test.YtnflkpmmfpfhlaaGreatDoorBuX
import Derived.Test.YtnflkpmmfpfhlaaGreatDoorBvE
import Derived.Test.YtnflkpmmfpfhlaaGreatDoorBvF
namespace Go.Proofs.YtnflkpmmfpfhlaaGreatDoor
open _root_.Go.Proofs.Tryz Go.RowKit Go.Deep
open Value renaming slice->J,string->S
open Option renaming some->M
open Go renaming Value->Z,World->E
open _root_ renaming List->L,Nat->X
set_option linter.unusedVariables false
set_option linter.unusedSimpArgs false
set_option maxHeartbeats 8000000
set_option maxRecDepth 100000
variable {a:BA} {u cv:Z} {w:E} {n:X} {T st:L By} {is:L I3} {ls:L G3} {ss:L S2} {ts:L T2} {ms:Mm} {j:BJ} {R:L T3}
def txF:Gi→ByteArray
 | .deep nm=>nm
 | _=>⟨#[]⟩
def chF:Gi→L By
 | .circle ch=>ch
 | _=>[]
def SaysB(n:Int)(ss:L S2)(ts:L T2)(T:L By)(R:L T3)(nm:By)(d:BD):Prop:=
 (¬ (Jc n T R∧Fx ss ts=0∧Ao nm)∧d=⟨9,⟨#[]⟩,[],n,T,R,[],[],⟨#[]⟩,⟨#[]⟩⟩)∨
 ((Jc n T R∧Fx ss ts=0∧Ao nm)∧∃ms' s' a,Az ss ts n.toNat [] ⟨T,R,[],[],[]⟩ [] (.make nm) ms' s' a∧
   ((∃m,a=.ok m∧d=⟨m.c,m.t,[],n,s'.T,s'.R,s'.ran,s'.held,⟨#[]⟩,⟨#[]⟩⟩)∨(∃b,a=.bad b∧d=⟨Hx b,txF b,chF b,n,T,R,[],[],clA b,clB b⟩)))
theorem Ff(w:E)(lo:X):w.ownsRow lo 9 1 nS ([]:L By).length (Ar []):=World.ownsRow_nil _ _ _ _
theorem apt4{a b c e:Z}(h1:∀x,a.ownBlock=M x→b.ownBlock≠M x)(h2:∀x,a.ownBlock=M x→c.ownBlock≠M x)(h3:∀x,a.ownBlock=M x→e.ownBlock≠M x)(h4:∀x,b.ownBlock=M x→c.ownBlock≠M x)(h5:∀x,b.ownBlock=M x→e.ownBlock≠M x)(h6:∀x,c.ownBlock=M x→e.ownBlock≠M x):Ju [a,b,c,e]:=by
 unfold Ju;refine List.Pairwise.cons (λu hu=>?_) (List.Pairwise.cons (λu hu=>?_) (List.Pairwise.cons (λu hu=>?_) (List.Pairwise.cons (λu hu=>by simp at hu) List.Pairwise.nil)))
 ·simp only[List.mem_cons,List.not_mem_nil,or_false]at hu
  rcases hu with rfl|rfl|rfl
  ·exact h1
  ·exact h2
  ·exact h3
 ·simp only[List.mem_cons,List.not_mem_nil,or_false]at hu
  rcases hu with rfl|rfl
  ·exact h4
  ·exact h5
 ·simp only[List.mem_cons,List.not_mem_nil,or_false]at hu
  subst hu;exact h6
theorem noB:∀x,nS.ownBlock=M x→u.ownBlock≠M x:=λx e=>qbl
theorem noC:∀x,u.ownBlock=M x→nS.ownBlock≠M x:=λx e=>by simp[Value.ownBlock]
theorem Ot.says{B:X}{b:Gi}{x y A B':Z}(h:Ot B w b [x,y,cv,I 0,nS,nS,nS,nS,A,B']):x=I (Hx b)∧y=S (txF b)∧w.ownsRow B 9 1 cv (chF b).length (Ar (chF b))∧A=S (clA b)∧B'=S (clB b):=by
 cases b with
 | circle ch=>
   obtain⟨cv',a,e⟩:=h;simp only[List.cons.injEq,and_true,true_and]at e;obtain⟨rfl,rfl,rfl,rfl,rfl⟩:=e;exact⟨rfl,rfl,a,rfl,rfl⟩
 | deep nm'=>
   exact qfn
 | clash AM AK=>
   exact qfn
 | full=>
   exact qfn
structure BW (w:E) (lo:X) (d:BD) (cv tx qv nv ev:Z) (zs:L Z) (kv lv:X→Z):Prop where
 ch:w.ownsRow lo 9 1 cv d.ch.length (Ar d.ch)
 txs:w.ownsRow lo 9 1 tx d.T.length (Ar d.T)
 rq:Dv w lo qv d.R zs kv lv
 ran:w.ownsRow lo 9 1 nv d.ran.length (Ar d.ran)
 held:w.ownsRow lo 9 1 ev d.held.length (Ar d.held)
abbrev bV(d:BD)(cv tx qv nv ev:Z):Array Z:=#[I d.c,S d.t,cv,I d.n,tx,qv,nv,ev,S d.A,S d.B]
theorem BO.bw{lo:X}{d:BD}{v tx qv nv ev:Z}{zs:L Z}{kv lv:X→Z}(h:BO w lo d v cv tx qv nv ev zs kv lv):BW w lo d cv tx qv nv ev zs kv lv:=⟨h.ch,h.txs,h.rq,h.ran,h.held⟩
section
variable {w w':E} {lo:X} {d:BD} {cv tx qv nv ev:Z} {zs:L Z} {kv lv:X→Z}
theorem BW.kept(h:BW w lo d cv tx qv nv ev zs kv lv)(hk:∀(e sz n:X)(u:Z)(xs:L Z),w.ownsRow lo e sz u n xs→e≠55→w'.ownsRow lo e sz u n xs):BW w' lo d cv tx qv nv ev zs kv lv:=
 ⟨hk _ _ _ _ _ h.ch qh,hk _ _ _ _ _ h.txs qh,⟨hk _ _ _ _ _ h.rq.row qh,h.rq.fil,λi hi=>by obtain⟨ys,a,b⟩:=h.rq.code i hi;exact⟨ys,hk _ _ _ _ _ a qh,b⟩,λi hi=>by obtain⟨ys,a,b⟩:=h.rq.look i hi;exact⟨ys,hk _ _ _ _ _ a qh,b⟩,h.rq.apc,h.rq.apl⟩,hk _ _ _ _ _ h.ran qh,hk _ _ _ _ _ h.held qh⟩
theorem BW.bl(h:BW w lo d cv tx qv nv ev zs kv lv)(hb:Bw w w'):BW w' lo d cv tx qv nv ev zs kv lv:=h.kept λ_ _ _ _ _ ho _=>Ad ho hb
theorem BW.setU{h0:X}{cs:Array Z}{l:L (X×X×Z)}(h:BW w lo d cv tx qv nv ev zs kv lv)(hh:∀x∈l,x.1=h0)(hk:w.heap[h0]?=M (.cells cs 55 (0,0))):BW (Bo w l) lo d cv tx qv nv ev zs kv lv:=h.kept λ_ _ _ _ _ ho he=>Cg ho hh hk (λe=>he e.symm)
theorem BW.slices(h:BW w lo d cv tx qv nv ev zs kv lv):(∃a c,cv=J a d.ch.length c)∧(∃a c,tx=J a d.T.length c)∧(∃a c,qv=J a d.R.length c)∧(∃a c,nv=J a d.ran.length c)∧∃a c,ev=J a d.held.length c:=⟨Al h.ch,Al h.txs,Al h.rq.row,Al h.ran,Al h.held⟩
end
theorem Dr.nocirc{T':L By}{xs:L By}{b:Option Gi}(h:Dr n T xs T' b):∀ch,b≠M (.circle ch):=by
 induction h<;>(first|(intro ch e;cases e;done)|(rename_i ih;exact ih))
theorem Ez.nocirc{s s':Sb}{c:Int}{t:By}{b:Option Gi}(h:Ez n s is ls c t s' b):∀ch,b≠M (.circle ch):=by
 cases h with
 | ok _ _=>intro ch e;cases e
 | recs _ _=>intro ch e;cases e
 | bad h=>intro ch e;exact h.nocirc ch e
theorem Az.chainLen{s:Sb}{ms':Mm}{s':Sb}(h:Az ss ts n ms s st j ms' s' a):st.length≤60→∀ch,a=.bad (.circle ch)→ch.length≤60:=by
 induction h with
 | circle h1 h2 h3 h4=>intro jv ch e;cases e;rw[List.length_drop];omega
 | fell h1 h2 h3 h4 h5 h6 h7 ih=>intro jv ch e;exact ih qj ch e
 | overbad h1 h2=>intro jv ch e;cases e;exact absurd rfl (h2.nocirc ch)
 | tfell _ ih=>intro jv ch e;exact ih jv ch e
 | rfell _ _ _ ih=>intro jv ch e;exact ih jv ch e
 | tother _ _ _ ih=>intro jv ch e;exact ih jv ch e
 | tno _ _ _ _ _ ih=>intro jv ch e;exact ih jv ch e
 | tbad _ _ _ ih=>intro jv ch e;exact ih jv ch e
 | hhas _ _ _ _ ih=>intro jv ch e;exact ih jv ch e
 | hask _ _ _ _ _ _ ih=>intro jv ch e;exact ih jv ch e
 | haskbad _ _ _ ih=>intro jv ch e;exact ih jv ch e
 | has _ _ ih=>intro jv ch e;exact ih jv ch e
 | asked _ _ _ _ ih=>intro jv ch e;exact ih jv ch e
 | askbad _ _ ih=>intro jv ch e;exact ih jv ch e
 | _=>intro jv ch e;cases e
def Sb.pf(p q:L By)(z:L X)(s:Sb):Sb:=⟨s.T,s.R,p++s.ran,q++s.held,z++s.us⟩
theorem Ez.pf(z:L X){s:Sb}{c:Int}{t:By}{s':Sb}{a:Option Gi}(p q:L By)(h:Ez n s is ls c t s' a):Ez n (s.pf p q z) is ls c t (s'.pf p q z) a:=by
 cases h with
 | ok h1 h2=>
   have k:=Ez.ok (s:=s.pf p q z) (is:=is) h1 h2;unfold Sb.pf at k ⊢;simp only[List.append_assoc]at k ⊢;exact k
 | recs h1 h2=>exact .recs h1 h2
 | bad h1=>exact .bad h1
theorem Az.pf(z:L X)(p q:L By){s:Sb}{ms':Mm}{s':Sb}(h:Az ss ts n ms s st j ms' s' a):Az ss ts n ms (s.pf p q z) st j ms' (s'.pf p q z) a:=by
 induction h with
 | known h1=>exact .known h1
 | circle h1 h2 h3 h4=>exact .circle h1 h2 h3 h4
 | source h1 h0 h2 h3=>exact .source h1 h0 h2 h3
 | missing h1 h0 h2=>exact .missing h1 h0 h2
 | deep h1 h0 h2 h3 h4=>exact .deep h1 h0 h2 h3 h4
 | made h1 h0 h2 h3 h4 h5 _ ih=>exact .made h1 h0 h2 h3 h4 h5 ih
 | fell h1 h0 h2 h3 h4 h5 _ ih=>exact .fell h1 h0 h2 h3 h4 h5 ih
 | @held ms s st nm is ms' s' c t _ ih=>
   have k:=Az.held (nm:=nm) ih;rw[show(Sb.pf p q z ⟨s'.T,s'.R,s'.ran,s'.held++[nm],s'.us⟩)=⟨(s'.pf p q z).T,(s'.pf p q z).R,(s'.pf p q z).ran,(s'.pf p q z).held++[nm],(s'.pf p q z).us⟩ from by simp[Sb.pf]];exact k
 | tfell _ ih=>exact .tfell ih
 | @ran ms s st nm is ms1 s1 ms' s' d _ _ ih ih2=>
   have k:=Az.ran (nm:=nm) ih ih2;rw[show(Sb.pf p q z ⟨s'.T,s'.R,s'.ran++[nm],s'.held,s'.us⟩)=⟨(s'.pf p q z).T,(s'.pf p q z).R,(s'.pf p q z).ran++[nm],(s'.pf p q z).held,(s'.pf p q z).us⟩ from by simp[Sb.pf]];exact k
 | rfell _ _ ih ih2=>exact .rfell ih ih2
 | tend h1=>exact .tend h1
 | tother h1 h2 _ ih=>exact .tother h1 h2 ih
 | @thit ms s st is i m ms' s' h1 h2 _ ih=>
   have k:=Az.thit (s:=s.pf p q z) h1 h2 ih;rw[show(Sb.pf p q z ⟨s'.T,s'.R,s'.ran,s'.held,s'.us++[i]⟩)=⟨(s'.pf p q z).T,(s'.pf p q z).R,(s'.pf p q z).ran,(s'.pf p q z).held,(s'.pf p q z).us++[i]⟩ from by simp[Sb.pf]];exact k
 | tno h1 h2 _ _ ih ih2=>exact .tno h1 h2 ih ih2
 | tbad h1 h2 _ ih=>exact .tbad h1 h2 ih
 | hend h1=>exact .hend h1
 | hhas h1 h2 h3 _ ih=>exact .hhas h1 h2 h3 ih
 | hhasno h1 h2 h3=>exact .hhasno h1 h2 h3
 | hask h1 h2 _ h4 _ ih ih2=>exact .hask h1 h2 ih h4 ih2
 | haskno h1 h2 _ h4 ih=>exact .haskno h1 h2 ih h4
 | haskbad h1 h2 _ ih=>exact .haskbad h1 h2 ih
 | over h1 h2=>exact .over h1 (h2.pf z p q)
 | overbad h1 h2=>exact .overbad h1 (h2.pf z p q)
 | has h1 _ ih=>exact .has h1 ih
 | asked h1 _ _ ih ih2=>exact .asked h1 ih ih2
 | askbad h1 _ ih=>exact .askbad h1 ih
inductive AR where
 | ok (s:Sb) (c:Int) (t:By)
 | bad (b:Gi)
 | no
inductive Ew (ss:L S2) (ts:L T2) (n:X):Sb->Int->By->L By->AR->Prop
 | nil {s c t}:Ew ss ts n s c t [] (.ok s c t)
 | go {s c t nm xs ms' s' d r}:Ao nm->Az ss ts n [] s [] (.make nm) ms' s' (.ok d)->Ew ss ts n s' d.c d.t xs r->Ew ss ts n s c t (nm::xs) r
 | bad {s c t nm xs ms' s' b}:Ao nm->Az ss ts n [] s [] (.make nm) ms' s' (.bad b)->Ew ss ts n s c t (nm::xs) (.bad b)
 | no {s c t nm xs}:¬ Ao nm->Ew ss ts n s c t (nm::xs) .no
theorem Ew.uniq(hv:Xv ss ts){s:Sb}{c:Int}{t:By}{xs:L By}{r:AR}(h:Ew ss ts n s c t xs r):∀ {r':AR},Ew ss ts n s c t xs r'->r'=r:=by
 induction h with
 | nil=>intro r' k;cases k;rfl
 | go h1 h2 _ ih=>
   intro r' k
   cases k with
   | go k1 k2 k3=>obtain⟨rfl,rfl,e⟩:=Az.unique hv.ascS hv.ascT h2 k2;cases e;exact ih k3
   | bad k1 k2=>obtain⟨_,_,e⟩:=Az.unique hv.ascS hv.ascT h2 k2;cases e
   | no k1=>exact absurd h1 k1
 | bad h1 h2=>
   intro r' k
   cases k with
   | go k1 k2 k3=>obtain⟨_,_,e⟩:=Az.unique hv.ascS hv.ascT h2 k2;cases e
   | bad k1 k2=>obtain⟨_,_,e⟩:=Az.unique hv.ascS hv.ascT h2 k2;cases e;rfl
   | no k1=>exact absurd h1 k1
 | no h1=>
   intro r' k
   cases k with
   | go k1=>exact absurd k1 h1
   | bad k1=>exact absurd k1 h1
   | no=>rfl
def Jn(n:Int)(ss:L S2)(ts:L T2)(T:L By)(R:L T3)(xs:L By)(d:BD):Prop:=
 (¬ (Jc n T R∧Fx ss ts=0∧xs.length≤200)∧d=⟨9,⟨#[]⟩,[],n,T,R,[],[],⟨#[]⟩,⟨#[]⟩⟩)∨
 ((Jc n T R∧Fx ss ts=0∧xs.length≤200)∧∃r,Ew ss ts n.toNat ⟨T,R,[],[],[]⟩ 0 ⟨#[]⟩ xs r∧
   ((∃s c t,r=.ok s c t∧d=⟨c,t,[],n,s.T,s.R,s.ran,s.held,⟨#[]⟩,⟨#[]⟩⟩)∨(∃b,r=.bad b∧d=⟨Hx b,txF b,chF b,n,T,R,[],[],clA b,clB b⟩)∨(r=.no∧d=⟨9,⟨#[]⟩,[],n,T,R,[],[],⟨#[]⟩,⟨#[]⟩⟩)))
theorem Jn.uniq{n:Int}{xs:L By}{d d':BD}(h:Jn n ss ts T R xs d)(k:Jn n ss ts T R xs d')(hv:Fx ss ts=0→Xv ss ts):d'=d:=by
 rcases h with⟨h0,rfl⟩|⟨h0,r,hb,h1⟩
 ·rcases k with⟨k0,rfl⟩|⟨k0,_⟩
  ·rfl
  ·exact absurd k0 h0
 ·rcases k with⟨k0,_⟩|⟨k0,r2,kb,k1⟩
  ·exact absurd h0 k0
  ·obtain rfl:=Ew.uniq (hv h0.2.1) hb kb
   rcases h1 with⟨s,c,t,rfl,rfl⟩|⟨b,rfl,rfl⟩|⟨rfl,rfl⟩
   ·rcases k1 with⟨s2,c2,t2,e,rfl⟩|⟨b2,e,_⟩|⟨e,_⟩
    ·cases e;rfl
    ·cases e
    ·cases e
   ·rcases k1 with⟨s2,c2,t2,e,_⟩|⟨b2,e,rfl⟩|⟨e,_⟩
    ·cases e
    ·cases e;rfl
    ·cases e
   ·rcases k1 with⟨s2,c2,t2,e,_⟩|⟨b2,e,_⟩|⟨_,rfl⟩
    ·cases e
    ·cases e
    ·rfl
theorem Az.one(hv:Xv ss ts)(hl:ts.length≤200){s:Sb}{nm:By}{ms':Mm}{s':Sb}{d:Md}(hs:Fy n s)(hn:Ao nm)(h:Az ss ts n [] s [] (.make nm) ms' s' (.ok d)):Fy n s'∧s'.ran.length+s'.held.length≤s.ran.length+s.held.length+200∧d.c≤5:=by
 obtain⟨i1,i2,_,i4⟩:=Az.inv hv h (Gs.nil ss ts) hs hn (λb q=>qz);have hc:=Az.cnt (s.ran.length+s.held.length) hv h (Gs.nil ss ts) hs hn (λb q=>qz) 0 qg;have h4:=Pz ts ms' [];simp only[Wk]at hc;exact⟨i2,qg,(i1.done nm _ i4).c5⟩
theorem Ew.small(hv:Xv ss ts)(hl:ts.length≤200){s:Sb}{c:Int}{t:By}{xs:L By}{r:AR}(h:Ew ss ts n s c t xs r):Fy n s→∀s' c' t',r=.ok s' c' t'→Fy n s'∧s'.ran.length+s'.held.length≤s.ran.length+s.held.length+200*xs.length:=by
 induction h with
 | nil=>intro hs s' c' t' e;cases e;exact⟨hs,qi⟩
 | go h1 h2 _ ih=>
   intro hs s' c' t' e;obtain⟨k1,k2,_⟩:=h2.one hv hl hs h1;obtain⟨l1,l2⟩:=ih k1 s' c' t' e;exact⟨l1,by simp only[List.length_cons];omega⟩
 | bad=>intro _ _ _ _ e;cases e
 | no=>intro _ _ _ _ e;cases e
theorem Ew.chain{s:Sb}{c:Int}{t:By}{xs:L By}{r:AR}(h:Ew ss ts n s c t xs r):∀b,r=.bad b→∀ch,b=.circle ch→ch.length≤60:=by
 induction h with
 | nil=>intro b e;cases e
 | go _ _ _ ih=>exact ih
 | bad _ h2=>intro b e ch e2;cases e;subst e2;exact h2.chainLen (Nat.zero_le _) ch rfl
 | no=>intro b e;cases e
theorem Jn.sm{n:Int}{xs:L By}{d:BD}(h:Jn n ss ts T R xs d)(hv:Fx ss ts=0→Xv ss ts)(hl:Fx ss ts=0→ts.length≤200)(hT:T.length≤1048576)(hR:Ec R):d.Sm:=by
 rcases h with⟨_,rfl⟩|⟨h0,r,hb,⟨s,c,t,rfl,rfl⟩|⟨b,rfl,rfl⟩|⟨rfl,rfl⟩⟩
 ·exact⟨Nat.zero_le _,hT,hR,Nat.zero_le _,Nat.zero_le _⟩
 ·have fw:=h0.1.2.2
  obtain⟨i2,hc⟩:=hb.small (hv h0.2.1) (hl h0.2.1) fw s c t rfl;simp only[List.length_nil,Nat.add_zero,Nat.zero_add]at hc;refine⟨Nat.zero_le _,by have:=i2.1.1;show s.T.length≤_;omega,⟨by have:=i2.2.1;show s.R.length≤_;omega,λi hi=>?_⟩,by show s.ran.length≤_;omega,by show s.held.length≤_;omega⟩;have h5:=i2.2.2 i hi;have h6:=(Gz h5.1).2;have h7:=h5.2.2.1;exact⟨by show(qx s.R i).code.length≤1048576;omega,by show(qx s.R i).looks.length≤1048576;omega⟩
 ·refine⟨?_,hT,hR,Nat.zero_le _,Nat.zero_le _⟩
  cases b with
  | circle ch=>have:=hb.chain _ rfl ch rfl;show ch.length≤_;omega
  | deep _=>exact Nat.zero_le _
  | clash _ _=>exact Nat.zero_le _
  | full=>exact Nat.zero_le _
 ·exact⟨Nat.zero_le _,hT,hR,Nat.zero_le _,Nat.zero_le _⟩
end Go.Proofs.YtnflkpmmfpfhlaaGreatDoor
