import Derived.Test.YtoihflimijabjaaGreatDoorBaP
import Derived.Test.YtoihflimijabjaaGreatDoorPuN
namespace Go.Proofs.YtoihflimijabjaaGreatDoor
open _root_.Go.Proofs.Tryz Go.RowKit Go.Deep
open Value renaming slice->J,string->S
open Option renaming some->M,none->N
open Go renaming Value->Z,World->E
open _root_ renaming List->L,Nat->X
set_option linter.unusedVariables false
set_option linter.unusedSimpArgs false
set_option maxHeartbeats 8000000
set_option maxRecDepth 100000
variable {R:L T3} {xs:L Z} {cv lv:X→Z} {w':E} {lo' hi:X} {tv qv:Z} {T:L By} {a:Option Addr} {n:Int}
structure Qs (T:L By) (R:L T3):Prop where
 tn:T.length≤20000
 tx:∀i,(nx T i).size≤60000
 rn:R.length≤20000
 cn:∀i,(qx R i).code.length≤2000
 ct:∀i j,(ix (qx R i).code j).text.size≤60000
 ln:∀i,(qx R i).looks.length≤2000
 lx:∀i j,(gx (qx R i).looks j).name.size≤60000∧(gx (qx R i).looks j).sum.size≤60000
 ot:∀i,(qx R i).out.size≤60000
structure RecW1 (w:E) (B:X) (v:Z) (R:L T3) (xs:L Z) (cv lv:X→Z):Prop where
 row:w.ownsRow B 56 3 v R.length xs
 fil:∀i,i<R.length→xs[i*3]?=M (cv i)∧xs[i*3+1]?=M (lv i)∧xs[i*3+2]?=M (S (qx R i).out)
 code:∀i,i<R.length→∃ys,w.ownsRow B 103 3 (cv i) (qx R i).code.length ys∧Cf (qx R i).code (qx R i).code.length ys
 look:∀i,i<R.length→∃ys,w.ownsRow B 79 3 (lv i) (qx R i).looks.length ys∧Be (qx R i).looks (qx R i).looks.length ys
theorem Oc.w{w:E}{B:X}{v:Z}(h:Oc w B v R xs cv lv):RecW1 w B v R xs cv lv:=⟨h.row,h.fil,h.code,h.look⟩
structure Di (w:E) (lo:X) (tv qv:Z) (T:L By) (R:L T3):Prop where
 txt:w.ownsRow lo 9 1 tv T.length (Ar T)
 rcs:∃xs cv lv,RecW1 w lo qv R xs cv lv∧∀i,i<R.length→∃g c,cv i=J (p_ g) (qx R i).code.length c
theorem Di.kept{w:E}{lo:X}(h:Di w lo tv qv T R)(hk:∀(e sz n:X)(u:Z)(xs:L Z),w.ownsRow lo e sz u n xs→w'.ownsRow lo' e sz u n xs):Di w' lo' tv qv T R:=by
 obtain⟨h1,xs,cv,lv,r,k⟩:=h;exact⟨hk _ _ _ _ _ h1,xs,cv,lv,⟨hk _ _ _ _ _ r.row,r.fil,λi hi=>by obtain⟨ys,a,b⟩:=r.code i hi;exact⟨ys,hk _ _ _ _ _ a,b⟩,λi hi=>by obtain⟨ys,a,b⟩:=r.look i hi;exact⟨ys,hk _ _ _ _ _ a,b⟩⟩,k⟩
theorem Di.bl{w:E}{lo:X}(h:Di w lo tv qv T R)(hb:Bw w w'):Di w' lo tv qv T R:=h.kept λ_ _ _ _ _ o=>Ce o hb
theorem Di.gb{w:E}{lo R0:X}(h:Di w lo tv qv T R)(hg:w.grownBy w' (M R0))(hR:R0<lo):Di w' lo tv qv T R:=h.kept λ_ _ _ _ _ o=>Mp o hg hR
theorem Di.base{w:E}{lo:X}(h:Di w lo tv qv T R)(hl:lo'≤lo):Di w lo' tv qv T R:=h.kept λ_ _ _ _ _ o=>Al o hl
theorem Di.nil(w:E)(lo:X):Di w lo nS nS [] []:=
 ⟨Pp _ _,[],λ_=>nS,λ_=>nS,⟨⟨rfl,Or.inl ⟨rfl,rfl⟩⟩,λi hi=>absurd hi (Nat.not_lt_zero _),λi hi=>absurd hi (Nat.not_lt_zero _),λi hi=>absurd hi (Nat.not_lt_zero _)⟩,λi hi=>absurd hi (Nat.not_lt_zero _)⟩
structure DSr (w:E) (xa:Option Addr) (tc:X) (qa:Option Addr) (qc:X) (T:L By) (R:L T3):Prop where
 st:Jy w xa T qa R
 rw:Hy w qa R
 xs:∀a,xa=M a→∃b off,a=⟨b,off,N⟩
 xn:xa=N→T=[]∧tc=0
 hr:R.length≤1048576
 hk:∀i,i<R.length→(qx R i).code.length≤1048576∧(qx R i).looks.length≤1048576
theorem DSr.bl{w:E}{xa qa:Option Addr}{tc qc:X}(h:DSr w xa tc qa qc T R)(hb:Bw w w'):DSr w' xa tc qa qc T R:=⟨h.st.bl hb,h.rw.bl hb,h.xs,h.xn,h.hr,h.hk⟩
theorem Di.rowW{w:E}{lo:X}{cap:X}(h:Di w lo tv (J a R.length cap) T R):Hy w a R:=λi hi=>by
 obtain⟨xs,cv,lv,h,hc⟩:=h.rcs;obtain⟨f1,f2,f3⟩:=h.fil i hi;obtain⟨ys,k1,k2⟩:=h.code i hi;obtain⟨zs,l1,l2⟩:=h.look i hi;obtain⟨g,c,e0⟩:=hc i hi;obtain⟨ca,cc,e1,r1⟩:=Rf k1 k2;obtain⟨la,lc,e2⟩:=Ax l1;rw[e1]at f1;rw[e2]at f2 l1;have eca:ca=p_ g:=by rw[e0]at e1;simp at e1;exact e1.1.symm
 obtain⟨b,rfl,c1⟩:=Bi h.row f1;obtain⟨b',q,c2⟩:=Bi h.row f2;cases q;obtain⟨b',q,c3⟩:=Bi h.row f3;cases q;exact⟨b,0,rfl,ca,cc,la,lc,lo,zs,by rw[Nat.zero_add];exact c1,by rw[Nat.zero_add];exact c2,by rw[Nat.zero_add];exact c3,r1,Or.inr ⟨g,0,eca⟩,l1,l2⟩
theorem Hy.rowQ{w:E}(h:Hy w a R):Yf w a R:=λi hi=>by
 obtain⟨b,off,ha,ca,cc,la,lc,B2,us,h1,h2,h3,h4,h5,h6,h7⟩:=h i hi;obtain⟨a',ai,e,r⟩:=Hl h6 h7;cases e;exact⟨b,off,ha,ca,cc,la,lc,h1,h2,h3,h4,r⟩
theorem Qs.qs(h:Qs T R):QsOk R:=⟨by have:=h.rn;unfold maxLen;omega,λi=>by have:=h.cn i;unfold maxLen;omega,λi=>by have:=h.ln i;unfold maxLen;omega,λi j=>by have:=h.ct i j;unfold maxLen;omega,λi j=>by have:=(h.lx i j).1;unfold maxLen;omega,λi j=>by have:=(h.lx i j).2;unfold maxLen;omega,λi=>by have:=h.ot i;unfold maxLen;omega⟩
theorem Di.rd{w:E}{lo:X}(h:Di w lo tv qv T R)(hb:Qs T R):∃xa tc qa qc,tv=J xa T.length tc∧qv=J qa R.length qc∧DSr w xa tc qa qc T R:=by
 obtain⟨xa,tc,e1⟩:=Ax h.txt;have hq:∃qa qc,qv=J qa R.length qc:=by obtain⟨xs,cv,lv,r,_⟩:=h.rcs;exact Ax r.row
 obtain⟨qa,qc,e2⟩:=hq;subst e1;subst e2;have hw:=h.rowW;refine⟨xa,tc,qa,qc,rfl,rfl,⟨Gx h.txt,by have:=hb.tn;omega,λi=>by have:=hb.tx i;unfold maxLen;omega,hw.rowQ,hb.qs,by have:=hb.rn;omega,λi _=>⟨by have:=hb.cn i;omega,by have:=hb.ln i;omega⟩⟩,hw,λa e=>?_,λe=>?_,by have:=hb.rn;omega,λi _=>⟨by have:=hb.cn i;omega,by have:=hb.ln i;omega⟩⟩
 ·rcases Dc h.txt with⟨k,_⟩|⟨g,cap,k⟩
  ·simp at k;rw[k.1]at e;cases e
  ·simp at k;rw[k.1]at e;cases e;exact⟨g,0,rfl⟩
 ·rcases Dc h.txt with⟨k,h0⟩|⟨g,cap,k⟩
  ·simp at k;exact⟨List.eq_nil_of_length_eq_zero h0,k.2.2⟩
  ·simp at k;rw[k.1]at e;cases e
theorem Lt.two{P:Program}{ops:Array Oper}{Q:Exit->Act->E->Prop}{AD:E->Prop}{z i j:X}{oi oj:Oper}{n:X}{l:Array Bool}{a:Act}{w:E}(hr:Region.ready .any ops l=[i,j])(hi:ops[i]?=M oi)(hj:ops[j]?=M oj)(h1:∀K:Act->E->Prop,Shut (∀a w,(i≠z->AD w)->((i≠z->AD w)->Lt P ops Q AD z n (l.setIfInBounds i true) a w)->K a w)->if Region.wanted oi (yielded ops a.tmps)=true then Oper.wp P oi a w K Q else K (a.put oi.dst undef) w)(h2:∀K:Act->E->Prop,Shut (∀a w,(j≠z->AD w)->((j≠z->AD w)->Lt P ops Q AD z n (l.setIfInBounds j true) a w)->K a w)->if Region.wanted oj (yielded ops a.tmps)=true then Oper.wp P oj a w K Q else K (a.put oj.dst undef) w):Lt P ops Q AD z (n+1) l a w:=by
 refine⟨λh0=>(by rw[hr]at h0;cases h0),λk hk=>?_⟩;rw[hr]at hk
 rcases(by simpa using hk:k=i\/k=j)with rfl|rfl
 ·exact wpOp_step hi (λK hK=>h1 K (λa w hS hW=>hK a w ⟨hS,hW hS⟩))
 ·exact wpOp_step hj (λK hK=>h2 K (λa w hS hW=>hK a w ⟨hS,hW hS⟩))
theorem Zq{is:L I3}(h:Aq is=true)(j:X):(ix is j).text.size≤2000:=by
 by_cases hj:j<is.length
 ·unfold Aq at h
  simp only[Bool.and_eq_true,decide_eq_true_eq]at h;have h1:=h.2 j hj;unfold Ev at h1;simp only[Bool.and_eq_true,decide_eq_true_eq]at h1;have h2:=Ww (Dv (ix is j).op);have h3:=h1.1.1.2;omega
 ·have:ix is j=i0:=by simp[ix,gG,List.getElem?_eq_none (Nat.le_of_not_lt hj)]
  rw[this];unfold i0;decide
theorem Gu.rbd{n:X}(h:Gu n T R)(hn:n≤8):Qs T R:=by
 have hq:∀i,¬ i<R.length→qx R i=⟨[],[],ByteArray.empty⟩:=λi hi=>by simp[qx,gG,List.getElem?_eq_none (Nat.le_of_not_lt hi)];rfl
 have hg:∀(gs:L G3)(j:X),¬ j<gs.length→gx gs j=g00:=λgs j hj=>by simp[gx,gG,List.getElem?_eq_none (Nat.le_of_not_lt hj)]
 have e0:ByteArray.empty.size≤60000:=qh;refine⟨by have:=h.1.1;omega,λi=>?_,by have:=h.2.1;omega,λi=>?_,λi j=>?_,λi=>?_,λi j=>?_,λi=>?_⟩
 ·by_cases hi:i<T.length
  ·have:=h.1.2.1 i hi;omega
  ·exact qjt
 ·by_cases hi:i<R.length
  ·have:=(Fz (h.2.2 i hi).1).2;omega
  ·exact qdb
 ·by_cases hi:i<R.length
  ·have:=Zq (h.2.2 i hi).1 j;omega
  ·rw[hq i hi];show(ix [] j).text.size≤_;simp[ix,i0]
 ·by_cases hi:i<R.length
  ·have:=(h.2.2 i hi).2.2.1;omega
  ·exact qdb
 ·by_cases hi:i<R.length
  ·by_cases hj:j<(qx R i).looks.length
   ·have h1:=((h.2.2 i hi).2.2.2 j hj).1.2.1
    have h2:=((h.2.2 i hi).2.2.2 j hj).2;omega
   ·rw[hg _ _ hj];exact⟨e0,e0⟩
  ·rw[hq i hi];show(gx [] j).name.size≤_∧(gx [] j).sum.size≤_;rw[hg _ _ qi];exact⟨e0,e0⟩
 ·by_cases hi:i<R.length
  ·have:=(h.2.2 i hi).2.1;omega
  ·rw[hq i hi];exact e0
theorem Qc.sto{ss:L S2}{ts:L T2}{nm:By}{d:BD}(h:Qc n ss ts T R nm d)(hv:Gp ss ts=0→SpV ss ts)(hc:d.c≤5):d.n=n∧Cz n d.T d.R:=by
 rcases h with⟨_,rfl⟩|⟨h0,ms,s,a,hb,⟨m,rfl,rfl⟩|⟨b,rfl,rfl⟩⟩
 ·exact absurd (show(9:Int)≤5 from hc) qh
 ·have ym:=hv h0.2.1
  have cm:Ka n.toNat ⟨T,R,[],[]⟩:=h0.1.2.2;obtain⟨_,i2,_,_⟩:=Ca.inv ym hb (Fj.nil ss ts) cm h0.2.2 (λb q=>qz);exact⟨rfl,h0.1.1,h0.1.2.1,i2⟩
 ·exfalso
  cases b with
  | circle ch=>exact absurd (show(6:Int)≤5 from hc) qh
  | deep x=>exact absurd (show(7:Int)≤5 from hc) qh
  | clash x y=>exact absurd (show(10:Int)≤5 from hc) qh
  | full=>exact absurd (show(11:Int)≤5 from hc) qh
def BuO(n:Int)(w:E)(e:Ending)(w':E):Prop:=Bw w w'∧∃(c:Int)(t A B:By)(wd:Int)(ca ta qa na ea:Option Addr)(c1 c2 t1 t2 q1 q2 n1 n2 e1 e2:X),e=.returned (.agg #[I c,S t,J ca c1 c2,I wd,J ta t1 t2,J qa q1 q2,J na n1 n2,J ea e1 e2,S A,S B])∧(c≤5→wd=n∧∃T R,Cz n T R∧Di w' w.heap.size (J ta t1 t2) (J qa q1 q2) T R)
theorem Cz.rbd(h:Cz n T R):Qs T R:=h.2.2.rbd (by have:=h.1;have:=h.2.1;omega)
theorem buildD{w:E}{lo:X}{v1 v2:Z}(nm:By)(h:Di w lo tv qv T R)(hb:Qs T R)(hs:Ia w lo' v1 v2)(hn:nm.size≤50000):Calls prog 48 #[.agg #[I n,tv,qv],.agg #[v1,v2],S nm] w (BuO n w):=by
 obtain⟨xa,tc,qa,qc,rfl,rfl,r⟩:=h.rd hb;obtain⟨l1,l2,hd,i6⟩:=hs;obtain⟨sa,c1,ta,c2,rfl,rfl,k1,k2⟩:=hd.ok i6;refine(Rc n xa tc qa sa ta qc c1 c2 T R l1 _ nm w r.xs r.xn r.st r.rw r.hr r.hk k1 k2 qg).mono ?_;rintro e w' ⟨nk,d,cv,tx,qv,nv,ev,zs,kv,lv,rfl,hsay,mi,_⟩;obtain⟨⟨a1,e1,rfl⟩,⟨a2,e2,rfl⟩,⟨a3,e3,rfl⟩,⟨a4,e4,rfl⟩,⟨a5,e5,rfl⟩⟩:=(⟨Ax mi.ch,Ax mi.txs,Ax mi.rq.row,Ax mi.ran,Ax mi.held⟩:(∃a c,cv=J a d.ch.length c)∧(∃a c,tx=J a d.T.length c)∧(∃a c,qv=J a d.R.length c)∧(∃a c,nv=J a d.ran.length c)∧∃a c,ev=J a d.held.length c);refine⟨nk,_,_,_,_,_,_,_,_,_,_,_,_,_,_,_,_,_,_,_,_,rfl,λhc=>?_⟩;obtain⟨h1,h2⟩:=hsay.sto (λh=>(Qav k1 h).v) hc;refine⟨h1,d.T,d.R,h2,mi.txs,zs,kv,lv,mi.rq.w,λi hi=>?_⟩;obtain⟨ys,o,_⟩:=mi.rq.code i hi;exact Db o (Fz (h2.2.2.2.2 i hi).1).1
def Gs(w:E)(lo:X)(v:Z):Prop:=∃(gs:L G3)(ys:L Z),w.ownsRow lo 79 3 v gs.length ys∧Be gs gs.length ys∧gs.length≤2000∧∀j,(gx gs j).name.size≤60000∧(gx gs j).sum.size≤60000
def Qd(w:E)(lo:X)(v:Z):Prop:=∃(is:L I3)(ys:L Z)(g c:X),v=J (p_ g) is.length c∧w.ownsRow lo 103 3 v is.length ys∧Cf is is.length ys∧is.length≤2000∧∀j,(ix is j).text.size≤60000
def Ks(w:E)(lo:X)(v:Z)(n:X):Prop:=∃T:L By,T.length=n∧n≤20000∧(∀i,(nx T i).size≤60000)∧w.ownsRow lo 9 1 v n (Ar T)
structure RX (w:E) (lo:X) (qv:Z) (nr:X) (ap:Prop) (k:X) (xs:L Z) (cv lv:X→Z) (os:X→ByteArray):Prop where
 row:w.ownsRow lo 56 3 qv nr xs
 fil:∀i,i<nr→xs[i*3]?=M (cv i)∧xs[i*3+1]?=M (lv i)∧xs[i*3+2]?=M (S (os i))
 ob:∀i,i<nr→(os i).size≤60000
 cd:∀i,i<nr→Qd w lo (cv i)
 lk:∀i,i<nr→i≠k→Gs w lo (lv i)
 apl:ap→∀i j,i≠j→i<nr→j<nr→∀b,(lv i).ownBlock=M b→(lv j).ownBlock≠M b
 nb:nr≤20000
section
variable {w w':E} {lo lo':X} {v qv:Z} {nr k:X} {ap:Prop} {xs:L Z} {cv lv:X→Z} {os:X→ByteArray}
theorem Gs.kept(h:Gs w lo v)(hk:∀(n:X)(ys:L Z),w.ownsRow lo 79 3 v n ys→w'.ownsRow lo' 79 3 v n ys):Gs w' lo' v:=by
 obtain⟨gs,ys,a,b⟩:=h;exact⟨gs,ys,hk _ _ a,b⟩
theorem Qd.kept(h:Qd w lo v)(hk:∀(n:X)(ys:L Z),w.ownsRow lo 103 3 v n ys→w'.ownsRow lo' 103 3 v n ys):Qd w' lo' v:=by
 exact qln
theorem Ks.kept{n:X}(h:Ks w lo v n)(hk:∀(n:X)(ys:L Z),w.ownsRow lo 9 1 v n ys→w'.ownsRow lo' 9 1 v n ys):Ks w' lo' v n:=by
 obtain⟨T,h1,h2,h3,h4⟩:=h;exact⟨T,h1,h2,h3,hk _ _ h4⟩
theorem RX.kept(h:RX w lo qv nr ap k xs cv lv os)(hk:∀(e sz n:X)(u:Z)(ys:L Z),w.ownsRow lo e sz u n ys→w'.ownsRow lo' e sz u n ys):RX w' lo' qv nr ap k xs cv lv os:=
 ⟨hk _ _ _ _ _ h.row,h.fil,h.ob,λi hi=>(h.cd i hi).kept (hk _ _ · _ ·),λi hi aq=>(h.lk i hi aq).kept (hk _ _ · _ ·),h.apl,h.nb⟩
theorem Gs.bl(h:Gs w lo v)(hb:Bw w w'):Gs w' lo v:=h.kept λ_ _ o=>Ce o hb
theorem Qd.bl(h:Qd w lo v)(hb:Bw w w'):Qd w' lo v:=h.kept λ_ _ o=>Ce o hb
theorem Ks.bl{n:X}(h:Ks w lo v n)(hb:Bw w w'):Ks w' lo v n:=h.kept λ_ _ o=>Ce o hb
theorem RX.bl(h:RX w lo qv nr ap k xs cv lv os)(hb:Bw w w'):RX w' lo qv nr ap k xs cv lv os:=h.kept λ_ _ _ _ _ o=>Ce o hb
theorem Gs.gb{R0:X}(h:Gs w lo v)(hg:w.grownBy w' (M R0))(hR:R0<lo):Gs w' lo v:=h.kept λ_ _ o=>Mp o hg hR
theorem Qd.gb{R0:X}(h:Qd w lo v)(hg:w.grownBy w' (M R0))(hR:R0<lo):Qd w' lo v:=h.kept λ_ _ o=>Mp o hg hR
theorem Ks.gb{n R0:X}(h:Ks w lo v n)(hg:w.grownBy w' (M R0))(hR:R0<lo):Ks w' lo v n:=h.kept λ_ _ o=>Mp o hg hR
theorem RX.gb{R0:X}(h:RX w lo qv nr ap k xs cv lv os)(hg:w.grownBy w' (M R0))(hR:R0<lo):RX w' lo qv nr ap k xs cv lv os:=h.kept λ_ _ _ _ _ o=>Mp o hg hR
theorem Gs.base(h:Gs w lo v)(hl:lo'≤lo):Gs w lo' v:=h.kept λ_ _ o=>Al o hl
theorem Qd.base(h:Qd w lo v)(hl:lo'≤lo):Qd w lo' v:=h.kept λ_ _ o=>Al o hl
theorem Ks.base{n:X}(h:Ks w lo v n)(hl:lo'≤lo):Ks w lo' v n:=h.kept λ_ _ o=>Al o hl
theorem RX.base(h:RX w lo qv nr ap k xs cv lv os)(hl:lo'≤lo):RX w lo' qv nr ap k xs cv lv os:=h.kept λ_ _ _ _ _ o=>Al o hl
theorem Gs.setT{b j T0:X}(h:Gs w lo v)(ht:Ai w b T0)(hn:T0≠79)(u:Z):Gs (w.setCell ⟨b,j,N⟩ u) lo v:=h.kept λ_ _ o=>Ak o ht hn u
theorem Qd.setT{b j T0:X}(h:Qd w lo v)(ht:Ai w b T0)(hn:T0≠103)(u:Z):Qd (w.setCell ⟨b,j,N⟩ u) lo v:=h.kept λ_ _ o=>Ak o ht hn u
theorem Ks.setT{n b j T0:X}(h:Ks w lo v n)(ht:Ai w b T0)(hn:T0≠9)(u:Z):Ks (w.setCell ⟨b,j,N⟩ u) lo v n:=h.kept λ_ _ o=>Ak o ht hn u
theorem RX.setT{b j T0:X}(h:RX w lo qv nr ap k xs cv lv os)(ht:Ai w b T0)(h1:T0≠56)(h2:T0≠103)(h3:T0≠79)(u:Z):RX (w.setCell ⟨b,j,N⟩ u) lo qv nr ap k xs cv lv os:=
 ⟨Ak h.row ht h1 u,h.fil,h.ob,λi hi=>(h.cd i hi).setT ht h2 u,λi hi aq=>(h.lk i hi aq).setT ht h3 u,h.apl,h.nb⟩
theorem RX.setO{b j:X}(h:RX w lo qv nr ap k xs cv lv os)(ht:Ai w b 56)(aq:qv.ownBlock≠M b)(u:Z):RX (w.setCell ⟨b,j,N⟩ u) lo qv nr ap k xs cv lv os:=
 ⟨Ga h.row (λc hc e=>aq (by rw[hc,e])) u,h.fil,h.ob,λi hi=>(h.cd i hi).setT ht qh u,λi hi aq=>(h.lk i hi aq).setT ht qh u,h.apl,h.nb⟩
theorem Lc{B e sz n b c j:X}{ys:L Z}(h:w.ownsRow B e sz (J (p_ b) n c) n ys)(u:Z):(w.setCell ⟨b,j,N⟩ u).ownsRow B e sz (J (p_ b) n c) n (ys.set j u):=by
 obtain⟨h1,h2⟩:=h;refine⟨by rw[List.length_set];exact h1,Or.inr ?_⟩
 rcases h2 with⟨q,_⟩|⟨g,cap,cur,hv,hg,hh,r1,r2,r3,r4⟩
 ·cases q
 ·cases hv
  refine⟨b,c,cur.setIfInBounds j u,rfl,hg,by rw[jB hh],r1,r2,by simpa using r3,?_⟩;rw[←r4,Array.toList_setIfInBounds,List.take_set]
theorem Pb(gs:L G3)(i k:X)(x:G3):gx (gs.set i x) k=if i=k∧k<gs.length then x else gx gs k:=by
 unfold gx;rw[gG,gG,List.getElem?_set]
 by_cases e:i=k
 ·subst e
  by_cases hl:i<gs.length
  ·simp[hl]
  ·simp[hl]
 ·simp[e]
theorem Gs.setL{b j:X}{u:Z}(h:Gs w lo v)(hu:∀(gs:L G3)(ys:L Z),Be gs gs.length ys→(∀j,(gx gs j).name.size≤60000∧(gx gs j).sum.size≤60000)→ys.length=gs.length*3→∃V1:L G3,V1.length=gs.length∧Be V1 gs.length (ys.set j u)∧∀j,(gx V1 j).name.size≤60000∧(gx V1 j).sum.size≤60000):Gs (w.setCell ⟨b,j,N⟩ u) lo v:=by
 obtain⟨gs,ys,h1,h2,h3,h4⟩:=h
 by_cases e:v.ownBlock=M b
 ·rcases Dc h1 with⟨rfl,_⟩|⟨g,c,rfl⟩
  ·cases e
  ·simp[Value.ownBlock]at e
   subst e;obtain⟨V1,k1,k2,k3⟩:=hu gs ys h2 h4 h1.1;exact⟨V1,ys.set j u,by rw[k1];exact Lc h1 u,by rw[k1];exact k2,qg,k3⟩
 ·exact⟨gs,ys,Ga h1 (λc hc q=>e (by rw[hc,q])) u,h2,h3,h4⟩
theorem Gs.set0{b i:X}(h:Gs w lo v){s:By}(hs:s.size≤60000):Gs (w.setCell ⟨b,i*3,N⟩ (S s)) lo v:=h.setL λgs ys hf hb hl=>by
 refine⟨gs.set i ⟨s,(gx gs i).ask,(gx gs i).sum⟩,qi,λm hm=>?_,λm=>?_⟩
 ·obtain⟨f1,f2,f3⟩:=hf m hm
  rw[Pb];rw[List.getElem?_set,List.getElem?_set,List.getElem?_set,if_neg (show ¬ i*3=m*3+1 from qg),if_neg (show ¬ i*3=m*3+2 from qg)]
  by_cases e:i=m
  ·subst e
   rw[if_pos rfl,if_pos qg,if_pos ⟨rfl,hm⟩];exact⟨rfl,f2,f3⟩
  ·rw[if_neg (show ¬ i*3=m*3 from qg),if_neg (λq=>e q.1)]
   exact⟨f1,f2,f3⟩
 ·rw[Pb]
  split
  ·exact⟨hs,(hb i).2⟩
  ·exact hb m
theorem Gs.set1{b i:X}(h:Gs w lo v)(s:Bool):Gs (w.setCell ⟨b,i*3+1,N⟩ (.bool s)) lo v:=h.setL λgs ys hf hb hl=>by
 refine⟨gs.set i ⟨(gx gs i).name,s,(gx gs i).sum⟩,qi,λm hm=>?_,λm=>?_⟩
 ·obtain⟨f1,f2,f3⟩:=hf m hm
  rw[Pb];rw[List.getElem?_set,List.getElem?_set,List.getElem?_set,if_neg (show ¬ i*3+1=m*3 from qg),if_neg (show ¬ i*3+1=m*3+2 from qg)]
  by_cases e:i=m
  ·subst e
   rw[if_pos (show i=i∧i<gs.length from ⟨rfl,hm⟩),if_pos rfl,if_pos (show i*3+1<ys.length from qg)];exact⟨f1,rfl,f3⟩
  ·rw[if_neg (show ¬ i*3+1=m*3+1 from qg),if_neg (λq=>e q.1)]
   exact⟨f1,f2,f3⟩
 ·rw[Pb]
  split
  ·exact hb i
  ·exact hb m
theorem Gs.set2{b i:X}(h:Gs w lo v){s:By}(hs:s.size≤60000):Gs (w.setCell ⟨b,i*3+2,N⟩ (S s)) lo v:=h.setL λgs ys hf hb hl=>by
 refine⟨gs.set i ⟨(gx gs i).name,(gx gs i).ask,s⟩,qi,λm hm=>?_,λm=>?_⟩
 ·obtain⟨f1,f2,f3⟩:=hf m hm
  rw[Pb];rw[List.getElem?_set,List.getElem?_set,List.getElem?_set,if_neg (show ¬ i*3+2=m*3 from qg),if_neg (show ¬ i*3+2=m*3+1 from qg)]
  by_cases e:i=m
  ·subst e
   rw[if_pos (show i=i∧i<gs.length from ⟨rfl,hm⟩),if_pos rfl,if_pos (show i*3+2<ys.length from qg)];exact⟨f1,f2,rfl⟩
  ·rw[if_neg (show ¬ i*3+2=m*3+2 from qg),if_neg (λq=>e q.1)]
   exact⟨f1,f2,f3⟩
 ·rw[Pb]
  split
  ·exact⟨(hb i).1,hs⟩
  ·exact hb m
theorem RX.setL{b j:X}{u:Z}(h:RX w lo qv nr ap k xs cv lv os)(ht:Ai w b 79)(hu:∀v,Gs w lo v→Gs (w.setCell ⟨b,j,N⟩ u) lo v):RX (w.setCell ⟨b,j,N⟩ u) lo qv nr ap k xs cv lv os:=
 ⟨Ak h.row ht qh u,h.fil,h.ob,λi hi=>(h.cd i hi).setT ht qh u,λi hi aq=>hu _ (h.lk i hi aq),h.apl,h.nb⟩
def upd{A:Type}(f:X→A)(i:X)(x:A):X→A:=λj=>if j=i then x else f j
theorem Gw{A:Type}(f:X→A)(i:X)(x:A):upd f i x i=x:=if_pos rfl
theorem Fw{A:Type}(f:X→A){i j:X}(x:A)(h:j≠i):upd f i x j=f j:=if_neg h
theorem RX.c0{b c i:X}{x:Z}(h:RX w lo (J (p_ b) nr c) nr ap k xs cv lv os)(hi:i<nr)(hx:Qd w lo x):RX (w.setCell ⟨b,i*3,N⟩ x) lo (J (p_ b) nr c) nr ap k (xs.set (i*3) x) (upd cv i x) lv os:=by
 have ht:Ai w b 56:=by obtain⟨cs,q⟩:=Hk h.row b rfl;exact⟨cs,q⟩
 have hl:=h.row.1;refine⟨Lc h.row x,λm hm=>?_,h.ob,λm hm=>?_,λm hm aq=>(h.lk m hm aq).setT ht qh x,h.apl,h.nb⟩
 ·obtain⟨f1,f2,f3⟩:=h.fil m hm
  rw[List.getElem?_set,List.getElem?_set,List.getElem?_set,if_neg (show ¬ i*3=m*3+1 from qg),if_neg (show ¬ i*3=m*3+2 from qg)];refine⟨?_,f2,f3⟩
  by_cases e:m=i
  ·exact qeu
  ·rw[if_neg (show ¬ i*3=m*3 from qg),Fw _ _ e];exact f1
 ·by_cases e:m=i
  ·subst e;rw[Gw];exact hx.setT ht qh x
  ·rw[Fw _ _ e];exact(h.cd m hm).setT ht qh x
theorem RX.c2{b c i:X}{x:By}(h:RX w lo (J (p_ b) nr c) nr ap k xs cv lv os)(hi:i<nr)(hx:x.size≤60000):RX (w.setCell ⟨b,i*3+2,N⟩ (S x)) lo (J (p_ b) nr c) nr ap k (xs.set (i*3+2) (S x)) cv lv (upd os i x):=by
 have ht:Ai w b 56:=by obtain⟨cs,q⟩:=Hk h.row b rfl;exact⟨cs,q⟩
 have hl:=h.row.1;refine⟨Lc h.row _,λm hm=>?_,λm hm=>?_,λm hm=>(h.cd m hm).setT ht qh _,λm hm aq=>(h.lk m hm aq).setT ht qh _,h.apl,h.nb⟩
 ·obtain⟨f1,f2,f3⟩:=h.fil m hm
  rw[List.getElem?_set,List.getElem?_set,List.getElem?_set,if_neg (show ¬ i*3+2=m*3+1 from qg),if_neg (show ¬ i*3+2=m*3 from qg)];refine⟨f1,f2,?_⟩
  by_cases e:m=i
  ·exact qeu
  ·rw[if_neg (show ¬ i*3+2=m*3+2 from qg),Fw _ _ e];exact f3
 ·by_cases e:m=i
  ·subst e;rw[Gw];exact hx
  ·rw[Fw _ _ e];exact h.ob m hm
theorem RX.c1{b c i:X}{x:Z}{ap':Prop}(h:RX w lo (J (p_ b) nr c) nr ap k xs cv lv os)(hi:i<nr)(hk:k=i∨nr≤k)(hx:Gs w lo x)(ha:ap'→ap∧∀j,j≠i→j<nr→∀g,x.ownBlock=M g→(lv j).ownBlock≠M g):RX (w.setCell ⟨b,i*3+1,N⟩ x) lo (J (p_ b) nr c) nr ap' nr (xs.set (i*3+1) x) cv (upd lv i x) os:=by
 have ht:Ai w b 56:=by obtain⟨cs,q⟩:=Hk h.row b rfl;exact⟨cs,q⟩
 have hl:=h.row.1;refine⟨Lc h.row x,λm hm=>?_,h.ob,λm hm=>(h.cd m hm).setT ht qh _,λm hm aq=>?_,λp m n hmn hm hn g hg=>?_,h.nb⟩
 ·obtain⟨f1,f2,f3⟩:=h.fil m hm
  rw[List.getElem?_set,List.getElem?_set,List.getElem?_set,if_neg (show ¬ i*3+1=m*3 from qg),if_neg (show ¬ i*3+1=m*3+2 from qg)];refine⟨f1,?_,f3⟩
  by_cases e:m=i
  ·exact qeu
  ·rw[if_neg (show ¬ i*3+1=m*3+1 from qg),Fw _ _ e];exact f2
 ·by_cases e:m=i
  ·subst e;rw[Gw];exact hx.setT ht qh x
  ·rw[Fw _ _ e];exact(h.lk m hm qg).setT ht qh x
 ·obtain⟨p1,p2⟩:=ha p
  by_cases e:m=i
  ·subst e
   rw[Gw]at hg;rw[Fw _ _ (Ne.symm hmn)];exact p2 n (Ne.symm hmn) hn g hg
  ·rw[Fw _ _ e]at hg
   by_cases e2:n=i
   ·subst e2;rw[Gw];exact λq=>p2 m e hm g q hg
   ·rw[Fw _ _ e2];exact h.apl p1 m n hmn hm hn g hg
theorem RX.grow{i:X}{row:Option X}(h:RX w lo qv nr True k xs cv lv os)(hi:i<nr)(hk:k=i∨nr≤k)(hg:w.grownBy w' row)(hr:row=N∨∃b,row=M b∧(lv i).ownBlock=M b∧Ai w b 79):RX w' lo qv nr True i xs cv lv os:=by
 have hn:∀(e sz n:X)(u:Z)(ys:L Z),e≠79→w.ownsRow lo e sz u n ys→w'.ownsRow lo e sz u n ys:=λe sz n u ys aq o=>Ex o hg λb hb q=>by
  rcases hr with r|⟨c,r,_,ht⟩
  ·rw[r]at q;cases q
  ·rw[r]at q;cases q;exact ht.ne o (Ne.symm aq) hb
 refine⟨hn _ _ _ _ _ qh h.row,h.fil,h.ob,λm hm=>(h.cd m hm).kept λ_ _ o=>hn _ _ _ _ _ qh o,λm hm aq=>(h.lk m hm qg).kept λ_ _ o=>Ex o hg λb hb q=>?_,h.apl,h.nb⟩
 rcases hr with r|⟨c,r,r2,_⟩
 ·rw[r]at q;cases q
 ·rw[r]at q;cases q;exact h.apl trivial i m (Ne.symm aq) hi hm _ r2 hb
theorem RX.weak{ap':Prop}(h:RX w lo qv nr ap k xs cv lv os)(ha:ap'→ap):RX w lo qv nr ap' k xs cv lv os:=⟨h.row,h.fil,h.ob,h.cd,h.lk,λp=>h.apl (ha p),h.nb⟩
theorem RX.hole(h:RX w lo qv nr ap nr xs cv lv os)(i:X):RX w lo qv nr ap i xs cv lv os:=⟨h.row,h.fil,h.ob,h.cd,λm hm _=>h.lk m hm qg,h.apl,h.nb⟩
theorem RX.rcd{i:X}(h:RX w lo qv nr ap k xs cv lv os)(hi:i<nr):∃b c,qv=J (p_ b) nr c∧w.cell? ⟨b,i*3,N⟩=M (cv i)∧w.cell? ⟨b,i*3+1,N⟩=M (lv i)∧w.cell? ⟨b,i*3+2,N⟩=M (S (os i))∧Ai w b 56∧lo≤b:=by
 obtain⟨b,c,rfl⟩:=Db h.row qg;obtain⟨f1,f2,f3⟩:=h.fil i hi;obtain⟨b1,q1,c1⟩:=Bi h.row f1;cases q1;obtain⟨b2,q2,c2⟩:=Bi h.row f2;cases q2;obtain⟨b3,q3,c3⟩:=Bi h.row f3;cases q3;have ho:=Bh h.row (b:=b) rfl;exact⟨b,c,rfl,c1,c2,c3,ho.2,ho.1⟩
theorem Gs.sl(h:Gs w lo v):∃a n c,v=J a n c∧n≤2000∧((a=N∧n=0∧c=0)∨∃g,a=p_ g∧lo≤g∧Ai w g 79):=by
 obtain⟨gs,ys,h1,h2,h3,h4⟩:=h
 rcases Dc h1 with⟨rfl,h0⟩|⟨g,c,rfl⟩
 ·exact⟨N,0,0,rfl,qg,Or.inl ⟨rfl,rfl,rfl⟩⟩
 ·have ho:=Bh h1 (b:=g) rfl
  exact⟨_,_,_,rfl,h3,Or.inr ⟨g,rfl,ho.1,ho.2⟩⟩
theorem Gs.at{g n c i:X}(h:Gs w lo (J (p_ g) n c))(hi:i<n):∃x:G3,w.cell? ⟨g,i*3,N⟩=M (S x.name)∧w.cell? ⟨g,i*3+1,N⟩=M (.bool x.ask)∧w.cell? ⟨g,i*3+2,N⟩=M (S x.sum):=by
 obtain⟨gs,ys,h1,h2,h3,h4⟩:=h;obtain⟨a,c',e⟩:=Ax h1;have en:n=gs.length:=by cases e;rfl
 subst en;obtain⟨f1,f2,f3⟩:=h2 i hi;obtain⟨b1,q1,c1⟩:=Bi h1 f1;cases q1;obtain⟨b2,q2,c2⟩:=Bi h1 f2;cases q2;obtain⟨b3,q3,c3⟩:=Bi h1 f3;cases q3;exact⟨_,c1,c2,c3⟩
theorem Qd.sl(h:Qd w lo v):∃g n c,v=J (p_ g) n c:=by
 obtain⟨is,ys,g,c,e,_⟩:=h;exact⟨g,_,c,e⟩
theorem Ks.sl{n:X}(h:Ks w lo v n):∃a c,v=J a n c:=by
 obtain⟨T,h1,h2,h3,h4⟩:=h;exact Ax h4
theorem own_take{B e sz n m g c:X}{ys:L Z}(h:w.ownsRow B e sz (J (p_ g) n c) n ys)(hm:m≤n):w.ownsRow B e sz (J (p_ g) m c) m (ys.take (m*sz)):=by
 obtain⟨h1,h2⟩:=h;have hms:m*sz≤n*sz:=Nat.mul_le_mul_right _ hm;refine⟨by rw[List.length_take,h1];omega,Or.inr ?_⟩
 rcases h2 with⟨q,_⟩|⟨g',cap,cur,hv,hg,hh,r1,r2,r3,r4⟩
 ·cases q
 ·cases hv
  refine⟨g,c,cur,rfl,hg,hh,qg,r2,r3,?_⟩;rw[←r4,List.take_take,Nat.min_eq_left hms]
theorem Gs.cut{g n c m:X}(h:Gs w lo (J (p_ g) n c))(hm:m≤n):Gs w lo (J (p_ g) m c):=by
 obtain⟨gs,ys,h1,h2,h3,h4⟩:=h;obtain⟨a,c',e⟩:=Ax h1;have en:n=gs.length:=by cases e;rfl
 subst en;have hl:(gs.take m).length=m:=qag;have hx:∀j,j<m→gx (gs.take m) j=gx gs j:=λj hj=>by unfold gx;rw[gG,gG,List.getElem?_take,if_pos hj]
 refine⟨gs.take m,ys.take (m*3),by rw[hl];exact own_take h1 hm,λi hi=>?_,qg,λj=>?_⟩
 ·rw[hl]at hi
  obtain⟨f1,f2,f3⟩:=h2 i qg;rw[hx i hi,List.getElem?_take,List.getElem?_take,List.getElem?_take,if_pos qg,if_pos qg,if_pos qg];exact⟨f1,f2,f3⟩
 ·rcases Nat.lt_or_ge j m with q|q
  ·rw[hx j q];exact h4 j
  ·have:gx (gs.take m) j=g00:=by unfold gx;rw[gG,List.getElem?_eq_none qg];rfl
   rw[this];exact⟨Nat.zero_le _,Nat.zero_le _⟩
theorem Gs.add{gs:L G3}{v':Z}{ys:L Z}{x:G3}(h:w.ownsRow lo 79 3 v' (gs.length+1) (ys++[S x.name,.bool x.ask,S x.sum]))(hf:Be gs gs.length ys)(hl:ys.length=gs.length*3)(hn:gs.length<2000)(hb:∀j,(gx gs j).name.size≤60000∧(gx gs j).sum.size≤60000)(h1:x.name.size≤60000)(h2:x.sum.size≤60000):Gs w lo v':=by
 have e0:gx (gs++[x]) gs.length=x:=by unfold gx;simp
 have e1:∀j,j<gs.length→gx (gs++[x]) j=gx gs j:=λj hj=>by unfold gx;rw[gG,gG,List.getElem?_append_left hj]
 refine⟨gs++[x],_,by rw[List.length_append];exact h,?_,qj,λj=>?_⟩
 ·rw[List.length_append]
  have:=Px (gs:=gs++[x]) (k:=gs.length) (ys:=ys) (λi hi=>by rw[e1 i hi];exact hf i hi) hl;rw[e0]at this;exact this
 ·rcases Nat.lt_or_ge j gs.length with q|q
  ·rw[e1 j q];exact hb j
  ·rcases Nat.eq_or_lt_of_le q with q|q
   ·rw[←q,e0];exact⟨h1,h2⟩
   ·have:gx (gs++[x]) j=g00:=by unfold gx;rw[gG,List.getElem?_eq_none qj];rfl
    rw[this];exact⟨Nat.zero_le _,Nat.zero_le _⟩
end
theorem ex_list{A:Type}(d:A):∀(n:X)(P:X→A→Prop),(∀i,i<n→∃x,P i x)→∃l:L A,l.length=n∧∀i,i<n→P i (l.getD i d)
 | 0,P,_=>⟨[],rfl,λi hi=>absurd hi (Nat.not_lt_zero _)⟩
 | n+1,P,h=>by
   obtain⟨l,hl,k⟩:=ex_list d n P (λi hi=>h i qg);obtain⟨x,hx⟩:=h n qg;refine⟨l++[x],by simp[hl],λi hi=>?_⟩
   rcases Nat.lt_or_ge i n with q|q
   ·rw[gG,List.getElem?_append_left qg,←gG];exact k i q
   ·obtain rfl:i=n:=qg
    rw[gG,List.getElem?_append_right qg,hl];simpa using hx
theorem RX.dst{w:E}{lo:X}{nt nr k:X}{ap:Prop}{os:X→ByteArray}(ht:Ks w lo tv nt)(h:RX w lo qv nr ap k xs cv lv os)(hk:nr≤k):∃T R,Di w lo tv qv T R∧Qs T R:=by
 obtain⟨T,t1,t2,t3,t4⟩:=ht
 obtain⟨l,hl,hp⟩:=ex_list q00 nr (λi (x:T3)=>x.out=os i∧(∃ys,w.ownsRow lo 103 3 (cv i) x.code.length ys∧Cf x.code x.code.length ys)∧(∃ys,w.ownsRow lo 79 3 (lv i) x.looks.length ys∧Be x.looks x.looks.length ys)∧x.code.length≤2000∧(∀j,(ix x.code j).text.size≤60000)∧x.looks.length≤2000∧(∀j,(gx x.looks j).name.size≤60000∧(gx x.looks j).sum.size≤60000)∧∃g c,cv i=J (p_ g) x.code.length c) λi hi=>by
  obtain⟨is,ys,g,c,e,a1,a2,a3,a4⟩:=h.cd i hi;obtain⟨gs,zs,b1,b2,b3,b4⟩:=h.lk i hi qg;exact⟨⟨is,gs,os i⟩,rfl,⟨ys,a1,a2⟩,⟨zs,b1,b2⟩,a3,a4,b3,b4,g,c,e⟩
 have hz:∀i,¬ i<nr→qx l i=q00:=λi hi=>by unfold qx;rw[gG,List.getElem?_eq_none qg];rfl
 subst t1;subst hl;have i0z:∀j,(ix [] j).text.size≤60000:=λj=>by unfold ix;simp[i0]
 have g0z:∀j,(gx [] j).name.size≤60000∧(gx [] j).sum.size≤60000:=λj=>by unfold gx;simp[g00]
 refine⟨T,l,⟨t4,xs,cv,lv,⟨h.row,λi hi=>?_,λi hi=>(hp i hi).2.1,λi hi=>(hp i hi).2.2.1⟩,λi hi=>(hp i hi).2.2.2.2.2.2.2⟩,⟨t2,t3,h.nb,λi=>?_,λi j=>?_,λi=>?_,λi j=>?_,λi=>?_⟩⟩
 ·have:=(hp i hi).1
  obtain⟨f1,f2,f3⟩:=h.fil i hi;exact⟨f1,f2,by rw[f3];congr 2;exact this.symm⟩
 ·by_cases q:i<l.length
  ·exact(hp i q).2.2.2.1
  ·rw[hz i q];exact Nat.zero_le _
 ·by_cases q:i<l.length
  ·exact(hp i q).2.2.2.2.1 j
  ·rw[hz i q];exact i0z j
 ·by_cases q:i<l.length
  ·exact(hp i q).2.2.2.2.2.1
  ·rw[hz i q];exact Nat.zero_le _
 ·by_cases q:i<l.length
  ·exact(hp i q).2.2.2.2.2.2.1 j
  ·rw[hz i q];exact g0z j
 ·by_cases q:i<l.length
  ·show(qx l i).out.size≤60000
   rw[show(qx l i).out=os i from (hp i q).1];exact h.ob i q
  ·rw[hz i q];exact Nat.zero_le _
theorem Ct.rx{w:E}{lo:X}(h:Ct w lo hi qv R)(hb:Qs T R):∃xs cv lv,RX w lo qv R.length True R.length xs cv lv (λi=>(qx R i).out):=by
 obtain⟨xs,cv,lv,h⟩:=h;refine⟨xs,cv,lv,h.row.own,h.fil,λi _=>hb.ot i,λi hi=>?_,λi hi _=>?_,λ_ i j l7 hi hj b hb=>?_,hb.rn⟩
 ·exact qeh
 ·exact qeo
 ·exact qej
theorem Cn.tx{w:E}{lo:X}(h:Cn w lo hi tv T)(hb:Qs T R):Ks w lo tv T.length:=⟨T,rfl,hb.tn,hb.tx,h.own⟩
end Go.Proofs.YtoihflimijabjaaGreatDoor
