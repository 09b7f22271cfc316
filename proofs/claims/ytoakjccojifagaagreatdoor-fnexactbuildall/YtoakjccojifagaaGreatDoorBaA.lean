import Derived.Test.YtoakjccojifagaaGreatDoorBaB
import Derived.Test.YtoakjccojifagaaGreatDoorBuW
import Derived.Test.YtoakjccojifagaaGreatDoorBvH
namespace Go.Proofs.YtoakjccojifagaaGreatDoor
open _root_.Go.Proofs.Tryz Go.RowKit Go.Deep
open Value renaming slice->J,string->S
open Option renaming some->M
open Go renaming Value->Z,World->E
open _root_ renaming List->L,Nat->X
set_option linter.unusedVariables false
set_option linter.unusedSimpArgs false
set_option maxHeartbeats 8000000
set_option maxRecDepth 100000
variable {a:BA} {u cv:Z} {w:E} {n:X} {T st:L By} {is:L I3} {ls:L G3} {ss:L S2} {ts:L T2} {ms:Mm} {j:BJ} {R:L T3}
def txF:Gl→ByteArray
 | .deep nm=>nm
 | _=>⟨#[]⟩
def chF:Gl→L By
 | .circle ch=>ch
 | _=>[]
def SaysB(n:Int)(ss:L S2)(ts:L T2)(T:L By)(R:L T3)(nm:By)(d:BD):Prop:=
 (¬ (Il n T R∧Gu ss ts=0∧Ar nm)∧d=⟨9,⟨#[]⟩,[],n,T,R,[],[],⟨#[]⟩,⟨#[]⟩⟩)∨
 ((Il n T R∧Gu ss ts=0∧Ar nm)∧∃ms' s' a,Ba ss ts n.toNat [] ⟨T,R,[],[]⟩ [] (.make nm) ms' s' a∧
   ((∃m,a=.ok m∧d=⟨m.c,m.t,[],n,s'.T,s'.R,s'.ran,s'.held,⟨#[]⟩,⟨#[]⟩⟩)∨(∃b,a=.bad b∧d=⟨Ja b,txF b,chF b,n,T,R,[],[],clA b,clB b⟩)))
theorem Fq(w:E)(lo:X):w.ownsRow lo 9 1 nS ([]:L By).length (Av []):=World.ownsRow_nil _ _ _ _
theorem apt4{a b c e:Z}(h1:∀x,a.ownBlock=M x→b.ownBlock≠M x)(h2:∀x,a.ownBlock=M x→c.ownBlock≠M x)(h3:∀x,a.ownBlock=M x→e.ownBlock≠M x)(h4:∀x,b.ownBlock=M x→c.ownBlock≠M x)(h5:∀x,b.ownBlock=M x→e.ownBlock≠M x)(h6:∀x,c.ownBlock=M x→e.ownBlock≠M x):Jf [a,b,c,e]:=by
 unfold Jf;refine List.Pairwise.cons (λu hu=>?_) (List.Pairwise.cons (λu hu=>?_) (List.Pairwise.cons (λu hu=>?_) (List.Pairwise.cons (λu hu=>by simp at hu) List.Pairwise.nil)))
 ·simp only[List.mem_cons,List.not_mem_nil,or_false]at hu
  rcases hu with rfl|rfl|rfl
  ·exact h1
  ·exact h2
  ·exact h3
 ·simp only[List.mem_cons,List.not_mem_nil,or_false]at hu
  rcases hu with rfl|rfl
  ·exact h4
  ·exact h5
 ·simp only[List.mem_cons,List.not_mem_nil,or_false]at hu
  subst hu;exact h6
theorem noB:∀x,nS.ownBlock=M x→u.ownBlock≠M x:=λx e=>qby
theorem noC:∀x,u.ownBlock=M x→nS.ownBlock≠M x:=λx e=>by simp[Value.ownBlock]
theorem Oh.says{B:X}{b:Gl}{x y A B':Z}(h:Oh B w b [x,y,cv,I 0,nS,nS,nS,nS,A,B']):x=I (Ja b)∧y=S (txF b)∧w.ownsRow B 9 1 cv (chF b).length (Av (chF b))∧A=S (clA b)∧B'=S (clB b):=by
 cases b with
 | circle ch=>
   obtain⟨cv',a,e⟩:=h;simp only[List.cons.injEq,and_true,true_and]at e;obtain⟨rfl,rfl,rfl,rfl,rfl⟩:=e;exact⟨rfl,rfl,a,rfl,rfl⟩
 | deep nm'=>
   exact qfj
 | clash AM AK=>
   exact qfj
 | full=>
   exact qfj
structure BW (w:E) (lo:X) (d:BD) (cv tx qv nv ev:Z) (zs:L Z) (kv lv:X→Z):Prop where
 ch:w.ownsRow lo 9 1 cv d.ch.length (Av d.ch)
 txs:w.ownsRow lo 9 1 tx d.T.length (Av d.T)
 rq:Hp w lo qv d.R zs kv lv
 ran:w.ownsRow lo 9 1 nv d.ran.length (Av d.ran)
 held:w.ownsRow lo 9 1 ev d.held.length (Av d.held)
abbrev bV(d:BD)(cv tx qv nv ev:Z):Array Z:=#[I d.c,S d.t,cv,I d.n,tx,qv,nv,ev,S d.A,S d.B]
theorem BO.bw{lo:X}{d:BD}{v tx qv nv ev:Z}{zs:L Z}{kv lv:X→Z}(h:BO w lo d v cv tx qv nv ev zs kv lv):BW w lo d cv tx qv nv ev zs kv lv:=⟨h.ch,h.txs,h.rq,h.ran,h.held⟩
section
variable {w w':E} {lo:X} {d:BD} {cv tx qv nv ev:Z} {zs:L Z} {kv lv:X→Z}
theorem BW.kept(h:BW w lo d cv tx qv nv ev zs kv lv)(hk:∀(e sz n:X)(u:Z)(xs:L Z),w.ownsRow lo e sz u n xs→e≠37→w'.ownsRow lo e sz u n xs):BW w' lo d cv tx qv nv ev zs kv lv:=
 ⟨hk _ _ _ _ _ h.ch qd,hk _ _ _ _ _ h.txs qd,⟨hk _ _ _ _ _ h.rq.row qd,h.rq.fil,λi hi=>by obtain⟨ys,a,b⟩:=h.rq.code i hi;exact⟨ys,hk _ _ _ _ _ a qd,b⟩,λi hi=>by obtain⟨ys,a,b⟩:=h.rq.look i hi;exact⟨ys,hk _ _ _ _ _ a qd,b⟩,h.rq.apc,h.rq.apl⟩,hk _ _ _ _ _ h.ran qd,hk _ _ _ _ _ h.held qd⟩
theorem BW.bl(h:BW w lo d cv tx qv nv ev zs kv lv)(hb:Bw w w'):BW w' lo d cv tx qv nv ev zs kv lv:=h.kept λ_ _ _ _ _ ho _=>Ac ho hb
theorem BW.setU{h0:X}{cs:Array Z}{l:L (X×X×Z)}(h:BW w lo d cv tx qv nv ev zs kv lv)(hh:∀x∈l,x.1=h0)(hk:w.heap[h0]?=M (.cells cs 37 (0,0))):BW (Be w l) lo d cv tx qv nv ev zs kv lv:=h.kept λ_ _ _ _ _ ho he=>Cf ho hh hk (λe=>he e.symm)
theorem BW.slices(h:BW w lo d cv tx qv nv ev zs kv lv):(∃a c,cv=J a d.ch.length c)∧(∃a c,tx=J a d.T.length c)∧(∃a c,qv=J a d.R.length c)∧(∃a c,nv=J a d.ran.length c)∧∃a c,ev=J a d.held.length c:=⟨Ax h.ch,Ax h.txs,Ax h.rq.row,Ax h.ran,Ax h.held⟩
theorem BW.view(h:BW w lo d cv tx qv nv ev zs kv lv):∃ca cc ta tc qa qc na nc ea ec,BV w d (.agg (bV d cv tx qv nv ev)) ca cc ta tc qa qc na nc ea ec:=by
 obtain⟨ca,cc,e1,r1⟩:=Ns h.ch;obtain⟨ta,tc,e2,r2⟩:=Ns h.txs;obtain⟨qa,qc,e3,r3⟩:=h.rq.rowQ;obtain⟨na,nc,e4,r4⟩:=Ns h.ran;obtain⟨ea,ec,e5,r5⟩:=Ns h.held;exact⟨ca,cc,ta,tc,qa,qc,na,nc,ea,ec,by rw[e1,e2,e3,e4,e5],r1,r2,r3,r4,r5⟩
end
theorem Dq.nocirc{T':L By}{xs:L By}{b:Option Gl}(h:Dq n T xs T' b):∀ch,b≠M (.circle ch):=by
 induction h<;>(first|(intro ch e;cases e;done)|(rename_i ih;exact ih))
theorem Fb.nocirc{s s':Sb}{c:Int}{t:By}{b:Option Gl}(h:Fb n s is ls c t s' b):∀ch,b≠M (.circle ch):=by
 cases h with
 | ok _ _=>intro ch e;cases e
 | recs _ _=>intro ch e;cases e
 | bad h=>intro ch e;exact h.nocirc ch e
theorem Ba.chainLen{s:Sb}{ms':Mm}{s':Sb}(h:Ba ss ts n ms s st j ms' s' a):st.length≤60→∀ch,a=.bad (.circle ch)→ch.length≤60:=by
 induction h with
 | circle h1 h2 h3 h4=>intro jy ch e;cases e;rw[List.length_drop];omega
 | fell h1 h2 h3 h4 h5 h6 h7 ih=>intro jy ch e;exact ih qh ch e
 | overbad h1 h2=>intro jy ch e;cases e;exact absurd rfl (h2.nocirc ch)
 | tfell _ ih=>intro jy ch e;exact ih jy ch e
 | rfell _ _ _ ih=>intro jy ch e;exact ih jy ch e
 | tother _ _ _ ih=>intro jy ch e;exact ih jy ch e
 | tno _ _ _ _ _ ih=>intro jy ch e;exact ih jy ch e
 | tbad _ _ _ ih=>intro jy ch e;exact ih jy ch e
 | hhas _ _ _ _ ih=>intro jy ch e;exact ih jy ch e
 | hask _ _ _ _ _ _ ih=>intro jy ch e;exact ih jy ch e
 | haskbad _ _ _ ih=>intro jy ch e;exact ih jy ch e
 | has _ _ ih=>intro jy ch e;exact ih jy ch e
 | asked _ _ _ _ ih=>intro jy ch e;exact ih jy ch e
 | askbad _ _ ih=>intro jy ch e;exact ih jy ch e
 | _=>intro jy ch e;cases e
def Sb.pf(p q:L By)(s:Sb):Sb:=⟨s.T,s.R,p++s.ran,q++s.held⟩
theorem Fb.pf{s:Sb}{c:Int}{t:By}{s':Sb}{a:Option Gl}(p q:L By)(h:Fb n s is ls c t s' a):Fb n (s.pf p q) is ls c t (s'.pf p q) a:=by
 cases h with
 | ok h1 h2=>exact .ok h1 h2
 | recs h1 h2=>exact .recs h1 h2
 | bad h1=>exact .bad h1
theorem Ba.pf(p q:L By){s:Sb}{ms':Mm}{s':Sb}(h:Ba ss ts n ms s st j ms' s' a):Ba ss ts n ms (s.pf p q) st j ms' (s'.pf p q) a:=by
 induction h with
 | known h1=>exact .known h1
 | circle h1 h2 h3 h4=>exact .circle h1 h2 h3 h4
 | source h1 h0 h2 h3=>exact .source h1 h0 h2 h3
 | missing h1 h0 h2=>exact .missing h1 h0 h2
 | deep h1 h0 h2 h3 h4=>exact .deep h1 h0 h2 h3 h4
 | made h1 h0 h2 h3 h4 h5 _ ih=>exact .made h1 h0 h2 h3 h4 h5 ih
 | fell h1 h0 h2 h3 h4 h5 _ ih=>exact .fell h1 h0 h2 h3 h4 h5 ih
 | @held ms s st nm is ms' s' c t _ ih=>
   have k:=Ba.held (nm:=nm) ih;rw[show(Sb.pf p q ⟨s'.T,s'.R,s'.ran,s'.held++[nm]⟩)=⟨(s'.pf p q).T,(s'.pf p q).R,(s'.pf p q).ran,(s'.pf p q).held++[nm]⟩ from by simp[Sb.pf]];exact k
 | tfell _ ih=>exact .tfell ih
 | @ran ms s st nm is ms1 s1 ms' s' d _ _ ih ih2=>
   have k:=Ba.ran (nm:=nm) ih ih2;rw[show(Sb.pf p q ⟨s'.T,s'.R,s'.ran++[nm],s'.held⟩)=⟨(s'.pf p q).T,(s'.pf p q).R,(s'.pf p q).ran++[nm],(s'.pf p q).held⟩ from by simp[Sb.pf]];exact k
 | rfell _ _ ih ih2=>exact .rfell ih ih2
 | tend h1=>exact .tend h1
 | tother h1 h2 _ ih=>exact .tother h1 h2 ih
 | thit h1 h2 _ ih=>exact .thit h1 h2 ih
 | tno h1 h2 _ _ ih ih2=>exact .tno h1 h2 ih ih2
 | tbad h1 h2 _ ih=>exact .tbad h1 h2 ih
 | hend h1=>exact .hend h1
 | hhas h1 h2 h3 _ ih=>exact .hhas h1 h2 h3 ih
 | hhasno h1 h2 h3=>exact .hhasno h1 h2 h3
 | hask h1 h2 _ h4 _ ih ih2=>exact .hask h1 h2 ih h4 ih2
 | haskno h1 h2 _ h4 ih=>exact .haskno h1 h2 ih h4
 | haskbad h1 h2 _ ih=>exact .haskbad h1 h2 ih
 | over h1 h2=>exact .over h1 (h2.pf p q)
 | overbad h1 h2=>exact .overbad h1 (h2.pf p q)
 | has h1 _ ih=>exact .has h1 ih
 | asked h1 _ _ ih ih2=>exact .asked h1 ih ih2
 | askbad h1 _ ih=>exact .askbad h1 ih
inductive AR where
 | ok (s:Sb) (c:Int) (t:By)
 | bad (b:Gl)
 | no
inductive Jg (ss:L S2) (ts:L T2) (n:X):Sb->Int->By->L By->AR->Prop
 | nil {s c t}:Jg ss ts n s c t [] (.ok s c t)
 | go {s c t nm xs ms' s' d r}:Ar nm->Ba ss ts n [] s [] (.make nm) ms' s' (.ok d)->Jg ss ts n s' d.c d.t xs r->Jg ss ts n s c t (nm::xs) r
 | bad {s c t nm xs ms' s' b}:Ar nm->Ba ss ts n [] s [] (.make nm) ms' s' (.bad b)->Jg ss ts n s c t (nm::xs) (.bad b)
 | no {s c t nm xs}:¬ Ar nm->Jg ss ts n s c t (nm::xs) .no
theorem Jg.uniq(hv:SpV ss ts){s:Sb}{c:Int}{t:By}{xs:L By}{r:AR}(h:Jg ss ts n s c t xs r):∀ {r':AR},Jg ss ts n s c t xs r'->r'=r:=by
 induction h with
 | nil=>intro r' k;cases k;rfl
 | go h1 h2 _ ih=>
   intro r' k
   cases k with
   | go k1 k2 k3=>obtain⟨rfl,rfl,e⟩:=Ba.unique hv.ascS hv.ascT h2 k2;cases e;exact ih k3
   | bad k1 k2=>obtain⟨_,_,e⟩:=Ba.unique hv.ascS hv.ascT h2 k2;cases e
   | no k1=>exact absurd h1 k1
 | bad h1 h2=>
   intro r' k
   cases k with
   | go k1 k2 k3=>obtain⟨_,_,e⟩:=Ba.unique hv.ascS hv.ascT h2 k2;cases e
   | bad k1 k2=>obtain⟨_,_,e⟩:=Ba.unique hv.ascS hv.ascT h2 k2;cases e;rfl
   | no k1=>exact absurd h1 k1
 | no h1=>
   intro r' k
   cases k with
   | go k1=>exact absurd k1 h1
   | bad k1=>exact absurd k1 h1
   | no=>rfl
def Jn(n:Int)(ss:L S2)(ts:L T2)(T:L By)(R:L T3)(xs:L By)(d:BD):Prop:=
 (¬ (Il n T R∧Gu ss ts=0∧xs.length≤200)∧d=⟨9,⟨#[]⟩,[],n,T,R,[],[],⟨#[]⟩,⟨#[]⟩⟩)∨
 ((Il n T R∧Gu ss ts=0∧xs.length≤200)∧∃r,Jg ss ts n.toNat ⟨T,R,[],[]⟩ 0 ⟨#[]⟩ xs r∧
   ((∃s c t,r=.ok s c t∧d=⟨c,t,[],n,s.T,s.R,s.ran,s.held,⟨#[]⟩,⟨#[]⟩⟩)∨(∃b,r=.bad b∧d=⟨Ja b,txF b,chF b,n,T,R,[],[],clA b,clB b⟩)∨(r=.no∧d=⟨9,⟨#[]⟩,[],n,T,R,[],[],⟨#[]⟩,⟨#[]⟩⟩)))
theorem Jn.uniq{n:Int}{xs:L By}{d d':BD}(h:Jn n ss ts T R xs d)(k:Jn n ss ts T R xs d')(hv:Gu ss ts=0→SpV ss ts):d'=d:=by
 rcases h with⟨h0,rfl⟩|⟨h0,r,hb,h1⟩
 ·rcases k with⟨k0,rfl⟩|⟨k0,_⟩
  ·rfl
  ·exact absurd k0 h0
 ·rcases k with⟨k0,_⟩|⟨k0,r2,kb,k1⟩
  ·exact absurd h0 k0
  ·obtain rfl:=Jg.uniq (hv h0.2.1) hb kb
   rcases h1 with⟨s,c,t,rfl,rfl⟩|⟨b,rfl,rfl⟩|⟨rfl,rfl⟩
   ·rcases k1 with⟨s2,c2,t2,e,rfl⟩|⟨b2,e,_⟩|⟨e,_⟩
    ·cases e;rfl
    ·cases e
    ·cases e
   ·rcases k1 with⟨s2,c2,t2,e,_⟩|⟨b2,e,rfl⟩|⟨e,_⟩
    ·cases e
    ·cases e;rfl
    ·cases e
   ·rcases k1 with⟨s2,c2,t2,e,_⟩|⟨b2,e,_⟩|⟨_,rfl⟩
    ·cases e
    ·cases e
    ·rfl
theorem Ba.one(hv:SpV ss ts)(hl:ts.length≤200){s:Sb}{nm:By}{ms':Mm}{s':Sb}{d:Md}(hs:Gi n s)(hn:Ar nm)(h:Ba ss ts n [] s [] (.make nm) ms' s' (.ok d)):Gi n s'∧s'.ran.length+s'.held.length≤s.ran.length+s.held.length+200∧d.c≤5:=by
 obtain⟨i1,i2,_,i4⟩:=Ba.inv hv h (Fy.nil ss ts) hs hn (λb q=>qw);have hc:=Ba.cnt (s.ran.length+s.held.length) hv h (Fy.nil ss ts) hs hn (λb q=>qw) 0 qb;have h4:=Pn ts ms' [];simp only[Vo]at hc;exact⟨i2,qb,(i1.done nm _ i4).c5⟩
theorem Jg.small(hv:SpV ss ts)(hl:ts.length≤200){s:Sb}{c:Int}{t:By}{xs:L By}{r:AR}(h:Jg ss ts n s c t xs r):Gi n s→∀s' c' t',r=.ok s' c' t'→Gi n s'∧s'.ran.length+s'.held.length≤s.ran.length+s.held.length+200*xs.length:=by
 induction h with
 | nil=>intro hs s' c' t' e;cases e;exact⟨hs,qg⟩
 | go h1 h2 _ ih=>
   intro hs s' c' t' e;obtain⟨k1,k2,_⟩:=h2.one hv hl hs h1;obtain⟨l1,l2⟩:=ih k1 s' c' t' e;exact⟨l1,by simp only[List.length_cons];omega⟩
 | bad=>intro _ _ _ _ e;cases e
 | no=>intro _ _ _ _ e;cases e
theorem Jg.chain{s:Sb}{c:Int}{t:By}{xs:L By}{r:AR}(h:Jg ss ts n s c t xs r):∀b,r=.bad b→∀ch,b=.circle ch→ch.length≤60:=by
 induction h with
 | nil=>intro b e;cases e
 | go _ _ _ ih=>exact ih
 | bad _ h2=>intro b e ch e2;cases e;subst e2;exact h2.chainLen (Nat.zero_le _) ch rfl
 | no=>intro b e;cases e
theorem Jn.sm{n:Int}{xs:L By}{d:BD}(h:Jn n ss ts T R xs d)(hv:Gu ss ts=0→SpV ss ts)(hl:Gu ss ts=0→ts.length≤200)(hT:T.length≤1048576)(hR:En R):d.Sm:=by
 rcases h with⟨_,rfl⟩|⟨h0,r,hb,⟨s,c,t,rfl,rfl⟩|⟨b,rfl,rfl⟩|⟨rfl,rfl⟩⟩
 ·exact⟨Nat.zero_le _,hT,hR,Nat.zero_le _,Nat.zero_le _⟩
 ·have fw:Gi n.toNat ⟨T,R,[],[]⟩:=h0.1.2.2
  obtain⟨i2,hc⟩:=hb.small (hv h0.2.1) (hl h0.2.1) fw s c t rfl;simp only[List.length_nil,Nat.add_zero,Nat.zero_add]at hc;refine⟨Nat.zero_le _,by have:=i2.1.1;show s.T.length≤_;omega,⟨by have:=i2.2.1;show s.R.length≤_;omega,λi hi=>?_⟩,by show s.ran.length≤_;omega,by show s.held.length≤_;omega⟩;have h5:=i2.2.2 i hi;have h6:=(Gx h5.1).2;have h7:=h5.2.2.1;exact⟨by show(qx s.R i).code.length≤1048576;omega,by show(qx s.R i).looks.length≤1048576;omega⟩
 ·refine⟨?_,hT,hR,Nat.zero_le _,Nat.zero_le _⟩
  cases b with
  | circle ch=>have:=hb.chain _ rfl ch rfl;show ch.length≤_;omega
  | deep _=>exact Nat.zero_le _
  | clash _ _=>exact Nat.zero_le _
  | full=>exact Nat.zero_le _
 ·exact⟨Nat.zero_le _,hT,hR,Nat.zero_le _,Nat.zero_le _⟩
end Go.Proofs.YtoakjccojifagaaGreatDoor
