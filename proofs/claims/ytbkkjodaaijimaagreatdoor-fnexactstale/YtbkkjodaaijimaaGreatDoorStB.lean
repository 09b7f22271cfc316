import Derived.Test.YtbkkjodaaijimaaGreatDoorBvK
import Derived.Test.YtbkkjodaaijimaaGreatDoorStS
namespace Go.Proofs.YtbkkjodaaijimaaGreatDoor
open _root_.Go.Proofs.Tryz Go.RowKit Go.Deep
open Value renaming slice->J,string->S,agg->G
open Option renaming some->M
open Obj renaming cells->O
open Go renaming World->E
open Ending renaming returned->H
open _root_ renaming List->L
set_option linter.unusedVariables false
set_option linter.unusedSimpArgs false
set_option maxHeartbeats 8000000
set_option maxRecDepth 100000
variable {n:Nat} {T:L By} {b:Option Hm} {s s':Sb} {ss:L S2} {ts:L T2}
theorem Dj.nocirc{T':L By}{xs:L By}(h:Dj n T xs T' b):∀ch,b≠M (.circle ch):=by
 induction h<;>(first|(intro ch e;cases e;done)|(rename_i ih;exact ih))
theorem Fw.nocirc{is:L I3}{ls:L G3}{c:Int}{t:By}(h:Fw n s is ls c t s' b):∀ch,b≠M (.circle ch):=by
 cases h with
 | ok _ _=>intro ch e;cases e
 | recs _ _=>intro ch e;cases e
 | bad h=>intro ch e;exact h.nocirc ch e
theorem Bc.chainLen{ms:Mm}{st:L By}{j:BJ}{ms':Mm}{a:BA}(h:Bc ss ts n ms s st j ms' s' a):st.length≤60→∀ch,a=.bad (.circle ch)→ch.length≤60:=by
 induction h with
 | circle h1 h2 h3 h4=>intro jg ch e;cases e;rw[List.length_drop];omega
 | fell h1 h2 h3 h4 h5 h6 h7 ih=>intro jg ch e;exact ih qh ch e
 | overbad h1 h2=>intro jg ch e;cases e;exact absurd rfl (h2.nocirc ch)
 | tfell _ ih=>intro jg ch e;exact ih jg ch e
 | rfell _ _ _ ih=>intro jg ch e;exact ih jg ch e
 | tother _ _ _ ih=>intro jg ch e;exact ih jg ch e
 | tno _ _ _ _ _ ih=>intro jg ch e;exact ih jg ch e
 | tbad _ _ _ ih=>intro jg ch e;exact ih jg ch e
 | hhas _ _ _ _ ih=>intro jg ch e;exact ih jg ch e
 | hask _ _ _ _ _ _ ih=>intro jg ch e;exact ih jg ch e
 | haskbad _ _ _ ih=>intro jg ch e;exact ih jg ch e
 | has _ _ ih=>intro jg ch e;exact ih jg ch e
 | asked _ _ _ _ ih=>intro jg ch e;exact ih jg ch e
 | askbad _ _ ih=>intro jg ch e;exact ih jg ch e
 | _=>intro jg ch e;cases e
theorem Me.sm{n:Int}{R:L T3}{nm:By}{d:BD}(h:Me n ss ts T R nm d)(hv:Ic ss ts=0→SpV ss ts)(hl:ts.length≤1048576)(hT:T.length≤1048576)(hR:Fk R):d.Sm:=by
 rcases h with⟨_,rfl⟩|⟨h0,ms,s,a,hb,⟨m,rfl,rfl⟩|⟨b,rfl,rfl⟩⟩
 ·exact⟨Nat.zero_le _,hT,hR,Nat.zero_le _,Nat.zero_le _⟩
 ·have L9:=hv h0.2.1
  have ft:Jz n.toNat ⟨T,R,[],[]⟩:=h0.1.2.2;obtain⟨_,i2,_,_⟩:=Bc.inv L9 hb (Fv.nil ss ts) ft h0.2.2 (λb q=>qw);have hc:=Bc.cntM L9 hb (Fv.nil ss ts) ft h0.2.2 (λb q=>qw) rfl (Nat.zero_le _);have h4:=Mq ts ms [];unfold Ku at hc;simp only[List.length_nil,Nat.add_zero]at hc;refine⟨Nat.zero_le _,by have:=i2.1.1;show s.T.length≤_;omega,⟨by have:=i2.2.1;show s.R.length≤_;omega,λi hi=>?_⟩,by show s.ran.length≤_;omega,by show s.held.length≤_;omega⟩;have h5:=i2.2.2 i hi;have h6:=(La h5.1).2;have h7:=h5.2.2.1;exact⟨by show(qx s.R i).code.length≤1048576;omega,by show(qx s.R i).looks.length≤1048576;omega⟩
 ·refine⟨?_,hT,hR,Nat.zero_le _,Nat.zero_le _⟩
  cases b with
  | circle ch=>have:=hb.chainLen (Nat.zero_le _) ch rfl;show ch.length≤_;omega
  | deep _=>exact Nat.zero_le _
  | clash _ _=>exact Nat.zero_le _
  | full=>exact Nat.zero_le _
theorem Xt(sa ta:Option Addr)(c1 c2:Nat)(ss:L S2)(ts:L T2)(AL:Int)(hL0:0≤AL)(hL1:AL≤1048576)(w:E)(h:Lv w sa ss ta ts):Calls prog 5 #[G #[J sa ss.length c1,J ta ts.length c2],I AL] w λe w'=>Bw w w'/\∃r:Int,e=H (I r)/\(r<0\/(Fj ss ts/\0<=r)):=by
 have ak:Bw w (w.alloc (O #[J sa ss.length c1,J ta ts.length c2] 29)):=aN _ _;have k0:(w.alloc (O #[J sa ss.length c1,J ta ts.length c2] 29)).cell? ⟨w.heap.size,1,none⟩=M (J ta ts.length c2):=qk;obtain⟨rs,rt,ls,lt,ns,xs,nt,lc,xt⟩:=h;go_enter func5,ntmps5;go_wp2_with fail;refine(szSS_any sa c1 ss AL _ hL0 hL1 (rs.bl ak) ls ns xs).mono ?_;rintro e w1 ⟨af,r,rfl,hr⟩;have bh:=bt ak af;have k1:=Aa af k0
 rcases hr with hr|⟨h1,zk,kl⟩
 ·clear ak af k0
  go_wp2;go_ret;exact⟨bh,-1,rfl,Or.inl qb⟩
 ·clear ak af k0
  go_wp2_with fail;refine(szTS_any ta c2 ts r _ qb qb (rt.bl bh) lt nt lc xt).mono ?_;rintro e w2 ⟨ag,r2,rfl,ly⟩;have be:=bt bh ag;clear ag bh k1
  rcases ly with ly|⟨h2,ly,ve,h3⟩
  ·exact qdg
  ·go_wp2
   go_ret;exact⟨be,r2,rfl,Or.inr ⟨⟨qb,qb,h3⟩,qb⟩⟩
theorem Wc.xn{w:E}{ta ra:Option Addr}{ts:L By}{rs:L T3}(h:Wc w ta ts ra rs)(i:Nat):(nx ts i).size≤maxLen:=by
 unfold nx;rw[gG]
 rcases Nat.lt_or_ge i ts.length with q|q
 ·rw[Ix q];exact h.xt _ (List.getElem_mem q)
 ·rw[List.getElem?_eq_none q];exact Nat.zero_le _
structure Up (w0:E) (ta ra sa ua:Option Addr) (T:L By) (R:L T3) (ss:L S2) (tp:L T2) (nm:By):Prop where
 so:Wc w0 ta T ra R
 lt:T.length≤1048576
 qs:Fk R
 sp:Lv w0 sa ss ua tp
 sm:Fj ss tp
 nm:nm.size≤9223372036854775807
section
variable {w0:E} {ta ra sa ua:Option Addr} {T:L By} {R:L T3} {ss:L S2} {tp:L T2} {nm:By} {n:Int} {V:E} {lo hi lo' hi' g1 tc:Nat} {v2 u1 u2:Value}
theorem Up.stIn(h:Up w0 ta ra sa ua T R ss tp nm){a:Option Addr}(o1:Cp V lo hi (J (p_ g1) T.length tc) T)(r:Lw V a R):Nm V (p_ g1) T a R:=by
 obtain⟨a',c',e,hs⟩:=o1.sl;cases e;exact⟨hs,h.lt,h.so.xn,r,h.so.ok,h.qs⟩
theorem specB_c(h:Up w0 ta ra sa ua T R ss tp nm)(o1:Cp V lo hi (J (p_ g1) T.length tc) T)(o2:Ig V lo hi v2 R)(s1:Gm V lo' hi' u1 ss)(s2:Gv V lo' hi' u2 tp):Calls prog 22 #[G #[I n,J (p_ g1) T.length tc,v2],G #[u1,u2],S nm] V λe w'=>Bw V w'∧∃d cv tx qv nv ev zs kv lv,e=H (G (bV d cv tx qv nv ev))∧Me n ss tp T R nm d∧BW w' V.heap.size d cv tx qv nv ev zs kv lv:=by
 obtain⟨a2,p2,rfl,rz,rw_⟩:=o2.sl;obtain⟨a3,p3,rfl,r3⟩:=s1.sl;obtain⟨a4,p4,rfl,r4⟩:=s2.sl;exact Vk n g1 tc a2 a3 a4 p2 p3 p4 T R ss tp nm V (h.stIn o1 rz.row) rw_ h.qs.1 h.qs.2 (h.sp.move r3 r4) h.sm h.nm
theorem implB_c(h:Up w0 ta ra sa ua T R ss tp nm)(hT:Kd V)(hP:Lj V)(o1:Cp V lo hi (J (p_ g1) T.length tc) T)(o2:Ig V lo hi v2 R)(s1:Gm V lo' hi' u1 ss)(s2:Gv V lo' hi' u2 tp):Calls prog 27 #[G #[I n,J (p_ g1) T.length tc,v2],G #[u1,u2],S nm] V λe w'=>Bw V w'∧∃d cv tx qv nv ev zs kv lv,e=H (G (bV d cv tx qv nv ev))∧Me n ss tp T R nm d∧BW w' V.heap.size d cv tx qv nv ev zs kv lv∧Hp [cv,tx,nv,ev]:=by
 obtain⟨a2,p2,rfl,rz,rw_⟩:=o2.sl;obtain⟨a3,p3,rfl,r3⟩:=s1.sl;obtain⟨a4,p4,rfl,r4⟩:=s2.sl;refine(Vt n g1 0 tc a2 a3 a4 p2 p3 p4 T R ss tp nm V ⟨hT,hP,h.stIn o1 rz.row,rz,h.qs.1,h.qs.2,h.sp.move r3 r4,h.sm,h.nm⟩).mono ?_;rintro e w' ⟨hb,v,rfl,hpo⟩;obtain⟨d,cv,tx,qv,nv,ev,zs,kv,lv,vo,hbo⟩:=hpo.bo;have he:=hbo.eq;subst he;exact⟨hb,d,cv,tx,qv,nv,ev,zs,kv,lv,rfl,vo,hbo.bw,hbo.ap⟩
theorem Up.spv(h:Up w0 ta ra sa ua T R ss tp nm):Ic ss tp=0→SpV ss tp:=λe=>(Zj h.sp e).v
end
section
variable {w0:E} {ta ra sa ua:Option Addr} {T:L By} {R:L T3} {ss:L S2} {tp:L T2} {nm:By} {n:Int} {V:E} {lo hi lo' hi' g1 tc:Nat} {v2 u1 u2:Value}
theorem fld54(v0 v1 v2 v3 v4 v5 v6 v7 v8 v9:Value)(w:E):(Instr.field 54 (G #[v0,v1,v2,v3,v4,v5,v6,v7,v8,v9]) 4).run prog w=.ok v6 w:=qi
theorem Up.ranSm{d:BD}(h:Up w0 ta ra sa ua T R ss tp nm)(hd:Me n ss tp T R nm d):d.ran.length≤1048576:=by
 have:=hd.sm (λq=>h.spv q) h.sm.2 h.lt h.qs;exact this.ran
theorem Qak(h:Up w0 ta ra sa ua T R ss tp nm)(o1:Cp V lo hi (J (p_ g1) T.length tc) T)(o2:Ig V lo hi v2 R)(s1:Gm V lo' hi' u1 ss)(s2:Gv V lo' hi' u2 tp):Calls prog 6 #[G #[I n,J (p_ g1) T.length tc,v2],G #[u1,u2],S nm] V λe w'=>Bw V w'∧∃d v,e=H v∧Me n ss tp T R nm d∧w'.ownsRow V.heap.size 9 1 v d.ran.length (Aq (Nx d.ran)):=by
 obtain⟨a2,p2,rfl,-⟩:=o2.sl;obtain⟨a3,p3,rfl,-⟩:=s1.sl;obtain⟨a4,p4,rfl,-⟩:=s2.sl;obtain⟨W,eW⟩:=Aj ((V.alloc (O #[I n,J (p_ g1) T.length tc,J a2 R.length p2] 35)).alloc (O #[J a3 ss.length p3,J a4 tp.length p4] 40));have bn:Bw V W:=qfs;have HB:=Ac (specB_c (n:=n) h (o1.bl bn) (o2.bl bn) (s1.bl bn) (s2.bl bn));have HH:=Ac h;have my:=Ac bn;have HA:W.heap[V.heap.size]?=M (O #[I n,J (p_ g1) T.length tc,J a2 R.length p2] 35 (0,0)):=by rw[←eW];exact Ph (Hc _ _)
 have HS:W.heap[V.heap.size+1]?=M (O #[J a3 ss.length p3,J a4 tp.length p4] 40 (0,0)):=by
  exact qia
 obtain⟨q0,q1,q2,pf⟩:=Dw HA;obtain⟨s0,s1'⟩:=Fq HS;have M9:=fld54;clear o1 o2 s1 s2 h bn HA HS;go_enter func6,ntmps6;go_wp2_with fail;refine HB.o.mono ?_;rintro e w1 ⟨af,d,cv,tx,qv,nv,ev,zs,kv,lv,rfl,vo,ow⟩;obtain⟨⟨b1,b2,rfl⟩,⟨b3,b4,rfl⟩,⟨b5,b6,rfl⟩,⟨b7,b8,rfl⟩,⟨b9,b10,rfl⟩⟩:=ow.slices;have D2:=Ac vo;have HL:=Ac (Yy d.ran b7 b8 w1 (HH.o.ranSm vo) (Fa ow.ran));have ff:=Ac (bt my.o af);clear ow vo af HB eW q0 q1 q2 pf s0 s1';go_wp2_with fail;refine HL.o.mono ?_;rintro e w2 ⟨ag,g,cp,rfl,ah⟩;have HO:=Ac (Ah ah ff.o.size);have fw:=Ac (bt ff.o ag);clear ah ag HL;go_wp2;go_ret;exact⟨fw.o,d,_,rfl,D2.o,HO.o⟩
theorem Rg(h:Up w0 ta ra sa ua T R ss tp nm)(hT:Kd V)(hP:Lj V)(o1:Cp V lo hi (J (p_ g1) T.length tc) T)(o2:Ig V lo hi v2 R)(s1:Gm V lo' hi' u1 ss)(s2:Gv V lo' hi' u2 tp):Calls prog 9 #[G #[I n,J (p_ g1) T.length tc,v2],G #[u1,u2],S nm] V λe w'=>Bw V w'∧∃d v,e=H v∧Me n ss tp T R nm d∧w'.ownsRow V.heap.size 9 1 v d.ran.length (Aq (Nx d.ran)):=by
 obtain⟨a2,p2,rfl,-⟩:=o2.sl;obtain⟨a3,p3,rfl,-⟩:=s1.sl;obtain⟨a4,p4,rfl,-⟩:=s2.sl;obtain⟨W,eW⟩:=Aj ((V.alloc (O #[I n,J (p_ g1) T.length tc,J a2 R.length p2] 35)).alloc (O #[J a3 ss.length p3,J a4 tp.length p4] 40));have bn:Bw V W:=qfs;have HB:=Ac (implB_c (n:=n) h (hT.bl bn) (hP.bl bn) (o1.bl bn) (o2.bl bn) (s1.bl bn) (s2.bl bn));have HH:=Ac h;have my:=Ac bn;have HA:W.heap[V.heap.size]?=M (O #[I n,J (p_ g1) T.length tc,J a2 R.length p2] 35 (0,0)):=by rw[←eW];exact Ph (Hc _ _)
 have HS:W.heap[V.heap.size+1]?=M (O #[J a3 ss.length p3,J a4 tp.length p4] 40 (0,0)):=by
  exact qia
 obtain⟨q0,q1,q2,pf⟩:=Dw HA;obtain⟨s0,s1'⟩:=Fq HS;have M9:=fld54;clear o1 o2 s1 s2 h bn hT hP HA HS;go_enter func9,ntmps9;go_wp2_with fail;refine HB.o.mono ?_;rintro e w1 ⟨af,d,cv,tx,qv,nv,ev,zs,kv,lv,rfl,vo,ow,J5⟩;obtain⟨⟨b1,b2,rfl⟩,⟨b3,b4,rfl⟩,⟨b5,b6,rfl⟩,⟨b7,b8,rfl⟩,⟨b9,b10,rfl⟩⟩:=ow.slices;have D2:=Ac vo;have HR:=Ac (Ah ow.ran my.o.size);have HL:=Ac (sort_own ow.ran (HH.o.ranSm vo));have HWB:=Ac ow.ran;have ff:=Ac (bt my.o af);clear ow vo af HB eW J5 q0 q1 q2 pf s0 s1';go_wp2_with fail;refine HL.o.mono ?_;rintro e w2 ⟨rfl,ah,hg⟩;have HO:=Ac (Ah ah my.o.size);have fw:Hd (Bw V w2):=ff.o.grown hg ff.o.size (λj hj=>by have:=(HWB.o.lt j hj).1;have:=my.o.size;omega);clear ah hg HL;go_wp2;go_ret;exact⟨fw.o,d,_,rfl,D2.o,HO.o⟩
end
end Go.Proofs.YtbkkjodaaijimaaGreatDoor
