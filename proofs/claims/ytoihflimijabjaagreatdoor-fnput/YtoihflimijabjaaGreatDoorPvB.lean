import Derived.Test.YtoihflimijabjaaGreatDoorPuS
import Derived.Test.YtoihflimijabjaaGreatDoorPuY
namespace Go.Proofs.YtoihflimijabjaaGreatDoor
open _root_.Go.Proofs.Tryz Go.RowKit Go.Deep
open Value renaming slice->J,string->S,agg->G
open Option renaming some->M,none->N
open Go renaming Value->Z,World->E
open Ending renaming returned->H
open _root_ renaming List->L,Nat->X
set_option linter.unusedVariables false
set_option linter.unusedSimpArgs false
set_option maxHeartbeats 8000000
set_option maxRecDepth 100000
variable {n cd wd:Int} {x A B:By} {T:L By} {R:L T3} {tv qv:Z} {w':E}
theorem Og.unique{ts:L By}{rs:L T3}{cd' wd':Int}{t1 t2:L By}{r1 r2:L T3}{A' B':By}(h:Og n ts rs x cd wd t1 r1 A B)(h':Og n ts rs x cd' wd' t2 r2 A' B'):cd'=cd∧wd'=wd∧t2=t1∧r2=r1∧A'=A∧B'=B:=by
 rcases h with⟨h0,rfl,rfl,rfl,rfl,rfl,rfl⟩|⟨h0,r,hp,h⟩<;>rcases h' with⟨k0,rfl,rfl,rfl,rfl,rfl,rfl⟩|⟨k0,r',kp,h'⟩
 ·exact⟨rfl,rfl,rfl,rfl,rfl,rfl⟩
 ·exact absurd k0 h0
 ·exact absurd h0 k0
 ·obtain rfl:=hp.unique kp
  rcases h with⟨a1,a2,rfl,rfl,rfl,rfl,rfl,rfl⟩|⟨a1,a2,rfl,rfl,rfl,rfl,rfl,rfl⟩|⟨a1,a2,rfl,rfl,rfl,rfl,rfl,rfl⟩|⟨a1,a2,rfl,rfl,rfl,rfl,rfl,rfl⟩<;>rcases h' with⟨b1,b2,rfl,rfl,rfl,rfl,rfl,rfl⟩|⟨b1,b2,rfl,rfl,rfl,rfl,rfl,rfl⟩|⟨b1,b2,rfl,rfl,rfl,rfl,rfl,rfl⟩|⟨b1,b2,rfl,rfl,rfl,rfl,rfl,rfl⟩<;>first
   | exact⟨rfl,rfl,rfl,rfl,rfl,rfl⟩
   | exact absurd a1 b1
   | exact absurd b1 a1
   | exact absurd a2 b2
   | exact absurd b2 a2
theorem kp_rbd{T':L By}{R':L T3}(h:Og n T R x cd wd T' R' A B):Qs T' R'∧(A.size≤60000∧B.size≤60000):=by
 have hz:Qs [] []:=(wd_nil (n:=1) qg qg).rbd;have h0:(⟨#[]⟩:By).size≤60000:=qh
 by_cases hc:cd=0
 ·subst hc
  refine⟨(kp_wd h).rbd,?_⟩
  rcases h with⟨_,q,_⟩|⟨_,r,hp,h⟩
  ·exact absurd q qh
  ·rcases h with⟨_,_,q,_⟩|⟨_,_,_,_,_,_,rfl,rfl⟩|⟨_,_,q,_⟩|⟨_,_,_,_,_,_,rfl,rfl⟩
   ·exact absurd q qh
   ·exact⟨h0,h0⟩
   ·exact absurd q qh
   ·exact⟨h0,h0⟩
 ·rcases h with⟨_,_,_,rfl,rfl,rfl,rfl⟩|⟨hk,r,hp,h⟩
  ·exact⟨hz,h0,h0⟩
  ·rcases h with⟨ht,_,_,_,rfl,rfl,rfl,rfl⟩|⟨_,_,q,_⟩|⟨_,_,_,_,rfl,rfl,rfl,rfl⟩|⟨_,_,q,_⟩
   ·exact⟨hz,by have:=hk.1.2.2.1.2.1 r ht.1;omega,by have:=hk.2;omega⟩
   ·exact absurd q hc
   ·exact⟨hz,h0,h0⟩
   ·exact absurd q hc
theorem wEvid_n(a b:By)(n:X)(w:E)(h1:1≤n)(h8:n≤8)(ha:a.size≤1048576)(hb:b.size≤1048576)(aq:a≠b)(he:Ap n a=Ap n b):Calls prog 9 #[S a,S b,I (n:Int)] w λe w'=>e=H (.bool true)∧Bw w w':=by
 have hq:=Fx aq;have H1:Hd (∀W:E,Calls prog 18 #[S a,I (n:Int)] W λe w'=>e=H (S (Ap n a))∧Bw W w'):=λW=>Cl a n W ha h1 h8;have H2:Hd (∀W:E,Calls prog 18 #[S b,I (n:Int)] W λe w'=>e=H (S (Ap n a))∧Bw W w'):=λW=>by rw[he];exact Cl b n W hb h1 h8
 generalize Ap n a=x at *;have hx:=Ti (rfl:x=x);clear he aq ha hb;go_enter func9,ntmps9;go_wp2_with fail;refine(H1.o _).mono ?_;rintro e w1 ⟨rfl,ah⟩;go_wp2_with fail;refine(H2.o _).mono ?_;rintro e w2 ⟨rfl,a9⟩;have bh:=bN ah a9;clear ah a9;go_wp2_with fail;go_ret;exact⟨rfl,bh⟩
theorem own_dst{w:E}{lo hi:X}(h1:Cn w lo hi tv T)(h2:Ct w lo hi qv R):Di w lo tv qv T R:=by
 obtain⟨xs,cv,lv,h⟩:=h2;exact⟨h1.own,xs,cv,lv,⟨h.row.own,h.fil,λi hi=>by obtain⟨ys,a,b⟩:=h.code i hi;exact⟨ys,a.own,b⟩,λi hi=>by obtain⟨ys,a,b⟩:=h.look i hi;exact⟨ys,a.own,b⟩⟩,h.som⟩
theorem Di.grow9{w:E}{lo g:X}(h:Di w lo tv qv T R)(hg:w.grownBy w' (M g))(ht:Ai w g 9)(hn:tv.ownBlock≠M g):Di w' lo tv qv T R:=by
 obtain⟨h1,xs,cv,lv,r,k⟩:=h;have ho:∀(e sz l:X)(u:Z)(zs:L Z),e≠9→w.ownsRow lo e sz u l zs→w'.ownsRow lo e sz u l zs:=λe sz l u zs aq oo=>Ex oo hg λb hb q=>by cases q;exact ht.ne oo (Ne.symm aq) hb
 exact⟨Ex h1 hg (λb hb q=>hn (by cases q;exact hb)),xs,cv,lv,⟨ho _ _ _ _ _ qh r.row,r.fil,λi hi=>by obtain⟨ys,a,b⟩:=r.code i hi;exact⟨ys,ho _ _ _ _ _ qh a,b⟩,λi hi=>by obtain⟨ys,a,b⟩:=r.look i hi;exact⟨ys,ho _ _ _ _ _ qh a,b⟩⟩,k⟩
def KpR(w0:E)(gp:X)(n:Int)(T:L By)(R:L T3)(x:By)(w:E)(e:Ending)(w':E):Prop:=Bw w w'∧∃(cd wd:Int)(T':L By)(R':L T3)(A AG:By)(a1:Option Addr)(n1 c1:X)(a2:Option Addr)(n2 c2:X),e=H (G #[I cd,I wd,J a1 n1 c1,J a2 n2 c2,S A,S AG])∧Og n T R x cd wd T' R' A AG∧Di w' w0.heap.size (J a1 n1 c1) (J a2 n2 c2) T' R'∧(Value.slice a1 n1 c1).ownBlock≠M gp
theorem Hr.kpr{w0 w:E}{gp:X}{e:Ending}(h:Hr w.heap.size w' e n T R x)(hb:Bw w w')(h0:w0.heap.size≤w.heap.size)(hg:gp<w.heap.size):KpR w0 gp n T R x w e w':=by
 obtain⟨cd,wd,T',R',A,AG,v1,v2,rfl,hk,hx,hq⟩:=h;have hd:=(own_dst hx hq).base h0;obtain⟨a1,c1,e1⟩:=Ax hx.own;subst e1;obtain⟨xs,cv,lv,ho⟩:=hq;obtain⟨a2,c2,e2⟩:=Ax ho.row.own;subst e2;exact⟨hb,cd,wd,T',R',A,AG,a1,_,c1,a2,_,c2,rfl,hk,hd,λq=>by have:=(Bh hx.own q).1;omega⟩
structure Pi (w0:E) (n g5 gt:X) (TX T0:L By) (wv:Z) (w:E) (gp cp:X) (P:L By) (tv qv:Z) (T:L By) (R:L T3):Prop where
 k5:w.heap[g5]?=M (.cells #[I (n:Int),tv,qv] 26 (0,0))
 ds:Di w w0.heap.size tv qv T R
 ok:Cz (n:Int) T R
 put:w.ownsRow w0.heap.size 9 1 (J (p_ gp) P.length cp) P.length (Ar P)
 txs:w.ownsRow w0.heap.size 9 1 (J (p_ gt) 8 8) 8 (Ar TX)
 was:w.ownsRow w0.heap.size 9 1 wv T0.length (Ar T0)
 n1:tv.ownBlock≠M gp
 n2:gt≠gp
 n3:wv.ownBlock≠M gp
 mp:∀x∈P,x∈T
 m0:∀x∈T0,x∈T
 bel:Bw w0 w
section
variable {w0 w w':E} {n g5 gt gp cp:X} {TX T0 P T:L By} {wv tv qv:Z} {R:L T3}
theorem Pi.bl(h:Pi w0 n g5 gt TX T0 wv w gp cp P tv qv T R)(hb:Bw w w'):Pi w0 n g5 gt TX T0 wv w' gp cp P tv qv T R:=
 ⟨Ac h.k5 hb,h.ds.bl hb,h.ok,Ce h.put hb,Ce h.txs hb,Ce h.was hb,h.n1,h.n2,h.n3,h.mp,h.m0,bt h.bel hb⟩
theorem Pi.set{b j:X}(h:Pi w0 n g5 gt TX T0 wv w gp cp P tv qv T R)(ht:Ai w b 31)(hb:w0.heap.size≤b)(u:Z):Pi w0 n g5 gt TX T0 wv (w.setCell ⟨b,j,N⟩ u) gp cp P tv qv T R:=
 ⟨Af h.k5 (λq=>by subst q;obtain⟨cs,q⟩:=ht;rw[h.k5]at q;cases q) u,h.ds.setG ht qh qh qh qh u,h.ok,Ak h.put ht qh u,Ak h.txs ht qh u,Ak h.was ht qh u,h.n1,h.n2,h.n3,h.mp,h.m0,h.bel.setCell (p:=⟨b,j,N⟩) hb u⟩
theorem Pi.s6{b:X}(h:Pi w0 n g5 gt TX T0 wv w gp cp P tv qv T R)(ht:Ai w b 31)(hb:w0.heap.size≤b)(u0 u1 u2 u3 u4 u5:Z):Pi w0 n g5 gt TX T0 wv ((((((w.setCell ⟨b,0,N⟩ u0).setCell ⟨b,1,N⟩ u1).setCell ⟨b,2,N⟩ u2).setCell ⟨b,3,N⟩ u3).setCell ⟨b,4,N⟩ u4).setCell ⟨b,5,N⟩ u5) gp cp P tv qv T R:=
 (((((h.set ht hb u0).set (ht.set u0) hb u1).set ((ht.set u0).set u1) hb u2).set (((ht.set u0).set u1).set u2) hb u3).set ((((ht.set u0).set u1).set u2).set u3) hb u4).set (((((ht.set u0).set u1).set u2).set u3).set u4) hb u5
theorem Di.s6{lo b:X}(h:Di w lo tv qv T R)(ht:Ai w b 31)(u0 u1 u2 u3 u4 u5:Z):Di ((((((w.setCell ⟨b,0,N⟩ u0).setCell ⟨b,1,N⟩ u1).setCell ⟨b,2,N⟩ u2).setCell ⟨b,3,N⟩ u3).setCell ⟨b,4,N⟩ u4).setCell ⟨b,5,N⟩ u5) lo tv qv T R:=by
 have s:∀ {W:E} (j:X) (u:Z),Ai W b 31→Di W lo tv qv T R→Di (W.setCell ⟨b,j,N⟩ u) lo tv qv T R:=λj u q k=>k.setG q qh qh qh qh u;exact s 5 _ (((((ht.set _).set _).set _).set _).set _) (s 4 _ ((((ht.set _).set _).set _).set _) (s 3 _ (((ht.set _).set _).set _) (s 2 _ ((ht.set _).set _) (s 1 _ (ht.set _) (s 0 _ ht h)))))
theorem blk_n6{b g:X}{o:Obj}(h:w.heap[g]?=M o)(hn:g≠b)(u0 u1 u2 u3 u4 u5:Z):((((((w.setCell ⟨b,0,N⟩ u0).setCell ⟨b,1,N⟩ u1).setCell ⟨b,2,N⟩ u2).setCell ⟨b,3,N⟩ u3).setCell ⟨b,4,N⟩ u4).setCell ⟨b,5,N⟩ u5).heap[g]?=M o:=
 Af (Af (Af (Af (Af (Af h hn _) hn _) hn _) hn _) hn _) hn _
theorem Pi.next{wd:Int}{v1 v2:Z}{T':L By}{R':L T3}{x A AG:By}(h:Pi w0 n g5 gt TX T0 wv w gp cp P tv qv T R)(hl:w0.heap.size≤g5)(hk:Og (n:Int) T R x 0 wd T' R' A AG)(hd:Di w w0.heap.size v1 v2 T' R')(hn:v1.ownBlock≠M gp):Pi w0 n g5 gt TX T0 wv (((w.setCell ⟨g5,0,N⟩ (I wd)).setCell ⟨g5,1,N⟩ v1).setCell ⟨g5,2,N⟩ v2) gp cp P v1 v2 T' R':=by
 obtain⟨rfl,h2,h3,h4⟩:=Vk hk;have ht:Ai w g5 26:=⟨_,h.k5⟩;have ho:∀ {v:Z} {l:X} {zs:L Z},w.ownsRow w0.heap.size 9 1 v l zs→(((w.setCell ⟨g5,0,N⟩ (I (n:Int))).setCell ⟨g5,1,N⟩ v1).setCell ⟨g5,2,N⟩ v2).ownsRow w0.heap.size 9 1 v l zs:=λq=>Ak (Ak (Ak q ht qh _) (ht.set _) qh _) ((ht.set _).set _) qh _;exact⟨Cv h.k5 _ _ _,((hd.setG ht qh qh qh qh _).setG (ht.set _) qh qh qh qh _).setG ((ht.set _).set _) qh qh qh qh _,kp_wd hk,ho h.put,ho h.txs,ho h.was,hn,h.n2,h.n3,λy hy=>h4 y (h.mp y hy),λy hy=>h4 y (h.m0 y hy),Eg h.bel hl _ _ _⟩
theorem Pi.app{V5 cp':X}{x:By}(h:Pi w0 n g5 gt TX T0 wv w gp cp P tv qv T R)(hx:x∈T)(ho:w'.ownsRow w0.heap.size 9 1 (J (p_ V5) (P.length+1) cp') (P.length+1) (Ar P++[S x]))(hg:w.grownBy w' (M gp))(hl:gp=V5∨V5=w.heap.size):Pi w0 n g5 gt TX T0 wv w' V5 cp' (P++[x]) tv qv T R:=by
 have ht:Ai w gp 9:=(Bh h.put (b:=gp) rfl).2
 have nn:∀ {v:Z} {l:X} {zs:L Z},w.ownsRow w0.heap.size 9 1 v l zs→v.ownBlock≠M gp→v.ownBlock≠M V5:=fun {v} {l} {zs} q hn e=>by
  rcases hl with rfl|rfl
  ·exact hn e
  ·have:=(q.lt _ e).2;omega
 have yv:gt≠V5:=λe=>nn h.txs (λq=>h.n2 qcr) (by rw[e];rfl);exact⟨Ao h.k5 hg (λq=>Ah h.put qh h.k5 q),h.ds.grow9 hg ht h.n1,h.ok,by rw[List.length_append,show Ar (P++[x])=Ar P++[S x] from qbi];exact ho,Ex h.txs hg (λb hb q=>by cases q;exact h.n2 (by simpa [Value.ownBlock] using hb)),Ex h.was hg (λb hb q=>by cases q;exact h.n3 hb),nn h.ds.txt h.n1,yv,nn h.was h.n3,λy hy=>by rcases List.mem_append.mp hy with q|q;exact h.mp y q;rw[List.mem_singleton.mp q];exact hx,h.m0,h.bel.grown hg h.bel.size (λj hj=>by cases hj;exact(h.put.lt gp rfl).1)⟩
theorem Pi.impl{xa:Option Addr}{tc:X}{qa:Option Addr}{qc:X}{x:By}(h:Pi w0 n g5 gt TX T0 wv w gp cp P (J xa T.length tc) (J qa R.length qc) T R)(hT:Tf w0)(hx:x.size≤1048576):Calls prog 6 #[G #[I (n:Int),J xa T.length tc,J qa R.length qc],S x] w (KpR w0 gp (n:Int) T R x w):=by
 obtain⟨xa',tc',qa',qc',e1,e2,jd⟩:=h.ds.rd h.ok.rbd
 cases e1;cases e2
 exact(Ns (n:Int) xa tc qa qc T R x w jd.xs jd.xn (hT.bl h.bel) jd.st jd.rw hx).mono λe w' ⟨hb,hk⟩=>hk.kpr hb h.bel.size (h.put.lt gp rfl).2
theorem Pi.spec{xa:Option Addr}{tc:X}{qa:Option Addr}{qc:X}{x:By}(h:Pi w0 n g5 gt TX T0 wv w gp cp P (J xa T.length tc) (J qa R.length qc) T R)(hx:x.size≤1048576):Calls prog 7 #[G #[I (n:Int),J xa T.length tc,J qa R.length qc],S x] w (KpR w0 gp (n:Int) T R x w):=by
 obtain⟨xa',tc',qa',qc',e1,e2,jd⟩:=h.ds.rd h.ok.rbd
 cases e1;cases e2
 exact(Na (n:Int) xa tc qa qc T R x w jd.xs jd.xn jd.st jd.rw hx).mono λe w' ⟨hb,hk⟩=>hk.kpr hb h.bel.size (h.put.lt gp rfl).2
theorem Pi.sl(h:Pi w0 n g5 gt TX T0 wv w gp cp P tv qv T R):∃xa tc qa qc,tv=J xa T.length tc∧qv=J qa R.length qc:=by
 obtain⟨xa,tc,qa,qc,e1,e2,_⟩:=h.ds.rd h.ok.rbd;exact⟨xa,tc,qa,qc,e1,e2⟩
end
theorem wSt{w:E}{lo:X}{a1 a2 b1 b2:Option Addr}{n1 c1 n2 c2 m1 d1 m2 d2:X}(wd:Int)(h:Di w lo (J a1 n1 c1) (J a2 n2 c2) T R)(h':Di w lo (J b1 m1 d1) (J b2 m2 d2) T R)(hb:Qs T R):Calls prog 8 #[G #[I wd,J a1 n1 c1,J a2 n2 c2],G #[I wd,J b1 m1 d1,J b2 m2 d2]] w λe w'=>e=H (.bool true)∧Bw w w':=by
 obtain⟨_,_,_,_,e1,e2,r1⟩:=h.rd hb;obtain⟨_,_,_,_,e3,e4,r2⟩:=h'.rd hb
 cases e1;cases e2;cases e3;cases e4
 exact Wa wd _ _ _ _ _ _ _ _ T R w r1.st.st r2.st.st r1.rw.rowQ r2.rw.rowQ r1.st.lt ⟨r1.hr,λi hi=>r1.hk i hi⟩
end Go.Proofs.YtoihflimijabjaaGreatDoor
