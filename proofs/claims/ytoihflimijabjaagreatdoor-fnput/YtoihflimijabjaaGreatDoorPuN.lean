import Derived.Test.YtoihflimijabjaaGreatDoorBvL
import Derived.Test.YtoihflimijabjaaGreatDoorPuD
import Derived.Test.YtoihflimijabjaaGreatDoorUnPS
import Derived.Test.YtoihflimijabjaaGreatDoorUnS
namespace Go.Proofs.YtoihflimijabjaaGreatDoor
open _root_.Go.Proofs.Tryz Go.RowKit Go.Deep
open Value renaming string->S,agg->G
open Go renaming World->E
open _root_ renaming List->L,Nat->X
set_option linter.unusedVariables false
set_option linter.unusedSimpArgs false
set_option maxHeartbeats 8000000
set_option maxRecDepth 100000
variable {w':E} {v1 v2:Value} {l1 ss:L S2} {l2:L TC} {ts:L T2}
def Ia(w:E)(lo:X)(v1 v2:Value):Prop:=∃l1 l2,Dw w lo v1 v2 l1 l2∧Yi l1 l2
theorem Ia.bl{w:E}{lo:X}(h:Ia w lo v1 v2)(hb:Bw w w'):Ia w' lo v1 v2:=by
 obtain⟨l1,l2,h1,h2⟩:=h;exact⟨l1,l2,h1.bl hb,h2⟩
theorem Ia.gb{w:E}{lo R:X}(h:Ia w lo v1 v2)(hg:w.grownBy w' (some R))(hR:R<lo):Ia w' lo v1 v2:=by
 obtain⟨l1,l2,h1,h2⟩:=h;exact⟨l1,l2,h1.gb hg hR,h2⟩
theorem Ia.base{w:E}{lo lo':X}(h:Ia w lo v1 v2)(hl:lo'≤lo):Ia w lo' v1 v2:=by
 obtain⟨l1,l2,h1,h2⟩:=h;exact⟨l1,l2,h1.base hl,h2⟩
structure Vw (ss:L S2) (ts:L T2):Prop where
 n1:ss.length≤202
 n2:ts.length≤202
 s:∀x∈ss,x.name.size≤50000∧x.text.size≤50000
 t:∀a∈ts,a.name.size≤50000∧a.code.length≤400∧∀x∈a.code,x.text.size≤50000
theorem Yi.bd2(h:Yi l1 l2):Vw l1 (l2.map (·.t)):=⟨h.n1,by rw[List.length_map];exact h.n2,h.s,λa ha=>by obtain⟨y,hy,rfl⟩:=List.mem_map.mp ha;exact h.t y hy⟩
theorem Vw.bds(h:Vw l1 (l2.map (·.t))):Yi l1 l2:=⟨h.n1,by have:=h.n2;rwa [List.length_map]at this,h.s,λa ha=>h.t a.t (List.mem_map.mpr ⟨a,ha,rfl⟩)⟩
theorem Vw.nil:Vw [] []:=⟨qi,qi,λx h=>(by cases h),λx h=>(by cases h)⟩
theorem Vw.flt(h:Vw ss ts)(t:By):Vw (Bl t ss) (Bj t ts):=⟨Nat.le_trans (Nw _ _) h.n1,Nat.le_trans (Nv _ _) h.n2,λx hx=>h.s x (Ub hx).1,λx hx=>h.t x (Ua hx).1⟩
theorem ps_bd2{t x:By}{ok:Bool}(h:Vw ss ts)(ht:t.size≤50000)(hx:x.size≤50000):Vw (psS ss ts t x ok) (psT ss ts t ok):=by
 by_cases g:Cq ss ts t ok=0
 ·obtain⟨k,_,h3⟩:=Rg g
  obtain⟨r,hr⟩:=Ko (ascS t k.a1) t;rw[(Zp (x:=x) g hr).1,(Zp (x:=x) g hr).2];have hf:=h.flt t;(have D0:r≤(Bl t ss).length:=by have:=hr.1;simpa [Av] using this);exact⟨by rw[Xm _ _ _ D0];omega,hf.n2,λy hy=>by rcases mem_insS hy with rfl|q;exact⟨ht,hx⟩;exact hf.s y q,hf.t⟩
 ·rw[(ps_no (x:=x) g).1,(ps_no (x:=x) g).2];exact Vw.nil
theorem pt_bd2{t:By}{is:L I3}{ok:Bool}(h:Vw ss ts)(ht:t.size≤50000)(hl:is.length≤400)(hx:∀x∈is,x.text.size≤50000):Vw (ptS ss ts t ok) (ptT ss ts t is ok):=by
 by_cases g:Cq ss ts t ok=0
 ·obtain⟨k,_,h3⟩:=Rg g
  obtain⟨r,hr⟩:=Ko (ascT t k.a2) t;rw[(Zo (is:=is) g hr).1,(Zo (is:=is) g hr).2];have hf:=h.flt t;(have D0:r≤(Bj t ts).length:=by have:=hr.1;simpa [Au] using this);exact⟨hf.n1,by rw[Xl _ _ _ D0];omega,hf.s,λy hy=>by rcases mem_insT hy with rfl|q;exact⟨ht,hl,hx⟩;exact hf.t y q⟩
 ·rw[(pt_no (is:=is) g).1,(pt_no (is:=is) g).2];exact Vw.nil
theorem drop_bd2{t:By}(h:Vw ss ts):Vw (Ud ss ts t) (Uc ss ts t):=by
 by_cases g:Fs ss ts t=0
 ·rw[(Nz g).1,(Nz g).2];exact h.flt t
 ·rw[(Qp g).1,(Qp g).2];exact Vw.nil
theorem Vp{l:L S2}{xs:L Value}(h:Ip l l.length xs)(hl:xs.length=l.length*2):xs=Eb l:=by
 have k:=Pn l;have kl:=Kz l;refine List.ext_getElem? λj=>?_
 rcases Nat.lt_or_ge j (l.length*2)with q|q
 ·have h1:=h (j / 2) qg
  have h2:=k (j / 2) qg
  rcases(show j=j / 2*2∨j=j / 2*2+1 from qg)with e|e
  ·rw[e,h1.1,h2.1]
  ·rw[e,h1.2,h2.2]
 ·rw[List.getElem?_eq_none qg,List.getElem?_eq_none qg]
theorem Vc{w:E}{lo hi:X}(h1:Dm w lo hi v1 ss)(h2:Ec w lo hi v2 ts)(hb:Vw ss ts):Ia w lo v1 v2:=by
 obtain⟨xs,r1,f1⟩:=h1;obtain⟨l,rfl,r2,c2⟩:=h2.toC;have e1:=Vp f1 r1.own.1;subst e1;refine⟨ss,l,⟨r1.own,by have:=r2.own;rwa [List.length_map]at this,λa ha=>?_⟩,hb.bds⟩;obtain⟨ys,k1,k2⟩:=c2.code a ha;have e:=Nx k2 k1.own.1;subst e;exact k1.own
def EdO(w:E)(e:Ending)(w':E):Prop:=Bw w w'∧∃u1 u2 c,e=.returned (.tuple #[G #[u1,u2],I c])∧Ia w' w.heap.size u1 u2
theorem drD{w:E}{lo:X}(t:By)(h:Ia w lo v1 v2)(ht:t.size≤50000):Calls prog 74 #[G #[v1,v2],S t] w (EdO w):=by
 obtain⟨l1,l2,hd,hb⟩:=h;obtain⟨sa,c1,ta,c2,rfl,rfl,k1,k2⟩:=hd.ok hb;refine(Uw sa ta c1 c2 l1 _ t w k1 k2 qg).mono ?_;rintro e w' ⟨nk,u1,u2,rfl,o1,o2⟩;exact⟨nk,u1,u2,_,rfl,Vc o1 o2 (drop_bd2 hb.bd2)⟩
theorem psD{w:E}{lo:X}(t x:By)(h:Ia w lo v1 v2)(ht:t.size≤50000)(hx:x.size≤50000):Calls prog 76 #[G #[v1,v2],S t,S x] w (EdO w):=by
 obtain⟨l1,l2,hd,hb⟩:=h;obtain⟨sa,c1,ta,c2,rfl,rfl,k1,k2⟩:=hd.ok hb;refine(Ze sa ta c1 c2 l1 _ t x w k1 k2 qg qg).mono ?_;rintro e w' ⟨nk,u1,u2,rfl,o1,o2⟩;exact⟨nk,u1,u2,_,rfl,Vc o1 o2 (ps_bd2 hb.bd2 ht hx)⟩
theorem ptD{w:E}{lo:X}(t:By)(a:Option Addr)(cap:X)(is:L I3)(h:Ia w lo v1 v2)(ht:t.size≤50000)(hr:Dl w a is)(hl:is.length≤400)(hx:∀x∈is,x.text.size≤50000):Calls prog 75 #[G #[v1,v2],S t,G #[.slice a is.length cap]] w (EdO w):=by
 obtain⟨l1,l2,hd,hb⟩:=h;obtain⟨sa,c1,ta,c2,rfl,rfl,k1,k2⟩:=hd.ok hb;refine(Zd sa ta c1 c2 l1 _ t a cap is w k1 k2 qg hr qg (λi=>by have:=ix_size hx i;omega)).mono ?_;rintro e w' ⟨nk,u1,u2,rfl,o1,o2⟩;exact⟨nk,u1,u2,_,rfl,Vc o1 o2 (pt_bd2 hb.bd2 ht hl hx)⟩
end Go.Proofs.YtoihflimijabjaaGreatDoor
