import Derived.Test.YtjlnkepkkdefdaaGreatDoorTMkT
import Derived.Test.YtjlnkepkkdefdaaGreatDoorVpA
import Derived.Test.YtjlnkepkkdefdaaGreatDoorVsQ
import Derived.Test.YtjlnkepkkdefdaaGreatDoorFtF
namespace Go.Proofs.YtjlnkepkkdefdaaGreatDoor
set_option maxHeartbeats 8000000
set_option maxRecDepth 100000
open Go.RowKit Go.Deep
set_option linter.unusedVariables false
set_option linter.unusedSimpArgs false
theorem Ud (sa ta:Option Addr) (c1 c2:Nat) (ss:List S2) (ts:List T2) (nm:ByteArray) (w:World) (hT:Jr w) (hP:Ld w) (h:Mx w sa ss ta ts) (hsm:Mu ss ts) (hn:nm.size<=9223372036854775807) :
  Calls Tryz.prog 5 #[.agg #[.slice sa ss.length c1,.slice ta ts.length c2],.string nm] w fun e w'=>Below w.heap.size w w'/\∃ ls c t ch ca cn cc la ln lc,e=.returned (.tuple #[.slice la ln lc,.agg #[.int .i64 c,.string t,.slice ca cn cc]])/\Dh ss ts nm ls c t ch/\w'.ownsRow w.heap.size 9 1 (.slice ca cn cc) ch.length (Bf ch)/\Ar w' w.heap.size (.slice la ln lc) ls:=by
 obtain⟨W,eW⟩:∃ W,(w.alloc (.cells #[.slice sa ss.length c1,.slice ta ts.length c2] 26)).alloc (.cells #[.int .i64 0,.string ⟨#[]⟩,.slice none 0 0] 32)=W:=⟨_,rfl⟩
 have hb0:Below w.heap.size w W:=by rw[<- eW];exact Bo (Ak _ _) (Ak _ _)
 have HRB:Hd (W.heap[w.heap.size+1]?=some (.cells #[.int .i64 0,.string ⟨#[]⟩,.slice none 0 0] 32 (0,0))):=by
  show _=_;rw[<- eW];have h:=Aj (w.alloc (.cells #[.slice sa ss.length c1,.slice ta ts.length c2] 26)) (.cells #[.int .i64 0,.string ⟨#[]⟩,.slice none 0 0] 32);rw[show (w.alloc (.cells #[.slice sa ss.length c1,.slice ta ts.length c2] 26)).heap.size=w.heap.size+1 from by simp] at h;exact h
 have p0:W.cell? ⟨w.heap.size,0,none⟩=some (.slice sa ss.length c1):=by rw[<- eW];simp[go_sem]
 have p1:W.cell? ⟨w.heap.size,1,none⟩=some (.slice ta ts.length c2):=by rw[<- eW];simp[go_sem]
 have HM:Hd (Calls Tryz.prog 17 #[.agg #[.slice sa ss.length c1,.slice ta ts.length c2],.string nm] W fun e w'=>MarkP ss ts nm W e w'):=Uk sa ta c1 c2 ss ts nm W (hT.bl hb0) (hP.bl hb0) (h.bl hb0) hsm hn
 have HB0:Hd (Below w.heap.size w W):=hb0
 clear h hb0 hsm hT hP
 go_enter Tryz.func5,Tryz.ntmps5
 go_wp2_with fail
 refine HM.o.mono ?_
 rintro e w1 ⟨hb1,ls,c,t,ch,ca,cn,cc,la,ln,lc,b,fo,rfl,hTP,hown,hlo⟩
 obtain⟨V,eV⟩:∃ V,w1.alloc (.cells #[.bool b,.int .i64 c,.string t,.slice ca cn cc,.string fo,.slice la ln lc] 59)=V:=⟨_,rfl⟩
 obtain⟨U,eU⟩:∃ U,V.drew=U:=⟨_,rfl⟩
 have hbU:Below w1.heap.size w1 U:=by rw[<- eU,<- eV];exact(Ak _ _).drew
 have HR1:Hd (U.heap[w.heap.size+1]?=some (.cells #[.int .i64 0,.string ⟨#[]⟩,.slice none 0 0] 32 (0,0))):=Ag hbU (Ag hb1 HRB.o)
 have HM1:Hd (U.heap[w1.heap.size]?=some (.cells #[.bool b,.int .i64 c,.string t,.slice ca cn cc,.string fo,.slice la ln lc] 59 (0,0))):=by
  show _=_;rw[<- eU,<- eV];exact Aj _ _
 have HB1:Hd (Below w.heap.size w U):=Bo (Bo HB0.o hb1) hbU
 have hs:=HB0.o.size
 have HX:Hd (Dh ss ts nm ls c t ch/\U.ownsRow W.heap.size 9 1 (.slice ca cn cc) ch.length (Bf ch)/\Ar U W.heap.size (.slice la ln lc) ls):=⟨hTP,Ac hown hbU,hlo.bl hbU⟩
 obtain⟨z0,z1,z2,zf⟩:=Gi HR1.o
 obtain⟨⟨m0,m1,m2,m3,m4,m5⟩,mf⟩:=Nu HM1.o
 have hne:¬ w1.heap.size=w.heap.size+1:=by have:=Af (Ag hb1 HRB.o);omega
 clear hb1 hTP hown hlo HM p0 p1 eW hbU
 dsimp only
 go_upto_region 2 with fail
 try rw[eV]
 clear eV
 go_region
 clear eU
 go_wp2_with fail
 obtain⟨v0,v1,v2,_⟩:=Gi (Cz HR1.o (.int .i64 c) (.string t) (.slice ca cn cc))
 obtain⟨x1,x2,x3⟩:=HX.o
 have ho:=Cn x2 (fun b' q=>Ju (w:=U) (b:=w.heap.size+1) (fun e=>by subst e;exact Ad x2 (by decide) HR1.o q) (.int .i64 c) (.string t) (.slice ca cn cc))
 have hl:Ar _ W.heap.size (.slice la ln lc) ls:=x3.keptB (fun b' q=>Ju (w:=U) (b:=w.heap.size+1) (fun e=>by obtain⟨xs,k1,_⟩:=x3;subst e;exact Ad k1 (by decide) HR1.o q) (.int .i64 c) (.string t) (.slice ca cn cc))
 exact bR (v:=.tuple #[.slice la ln lc,.agg #[.int .i64 c,.string t,.slice ca cn cc]]) (by simp[results,Tryz.results5,go_sem,v0,v1,v2]) rfl ⟨Bc HB1.o (by omega) _ _ _,ls,c,t,ch,ca,cn,cc,la,ln,lc,rfl,x1,Co ho hs,Sc hl hs⟩
theorem ActP.parts {ts:List T2} {nm:ByteArray} {w:World} {e:Ending} (h:ActP ts nm w e):∃ a n cap b,e=.returned (.tuple #[.agg #[.slice a n cap],.bool b])/\(b=true->∃ q,q<ts.length/\(tx ts q).name=nm/\Dr w a (tx ts q).code/\n=(tx ts q).code.length)/\(b=true <-> Fi (Ae ts) nm):=by
 rcases h with ⟨q,a,cap,h1,h2,h3,rfl⟩|⟨h1,rfl⟩
 ·exact⟨_,_,_,_,rfl,fun _=>⟨q,h1,h2,h3,rfl⟩,fun _=>h2▸Dv h1,fun _=>rfl⟩
 ·exact⟨_,_,_,_,rfl,(fun h=>by cases h),(fun h=>by cases h),fun ⟨j,hj,e⟩=>by rw[Bj] at hj;rw[Df] at e;exact absurd e (h1 j hj)⟩
theorem Cf.strs {w:World} {lo hi n c:Nat} {a:Option Addr} {T:List ByteArray} (h:Cf w lo hi (.slice a n c) T):Cp w a T:=by
 obtain⟨a',c',e,hs⟩:=Cf.sl h
 cases e
 exact hs
theorem Cf.setT6 {w:World} {lo hi R:Nat} {v:Value} {ts:List ByteArray} (h:Cf w lo hi v ts) (hh:hi<=w.heap.size) (ht:Cx w R 47) (u1 u2 u3 u4 u5 u6:Value):Cf ((((((w.setCell ⟨R,0,none⟩ u1).setCell ⟨R,1,none⟩ u2).setCell ⟨R,2,none⟩ u3).setCell ⟨R,3,none⟩ u4).setCell ⟨R,4,none⟩ u5).setCell ⟨R,5,none⟩ u6) lo ((((((w.setCell ⟨R,0,none⟩ u1).setCell ⟨R,1,none⟩ u2).setCell ⟨R,2,none⟩ u3).setCell ⟨R,3,none⟩ u4).setCell ⟨R,4,none⟩ u5).setCell ⟨R,5,none⟩ u6).heap.size v ts:=by
 refine Cf.wide (lo:=lo) (hi:=hi) ?_ (Nat.le_refl _) (by simp;exact hh)
 exact(((((h.setT ht (by decide) u1).setT (ht.set u1) (by decide) u2).setT ((ht.set u1).set u2) (by decide) u3).setT (((ht.set u1).set u2).set u3) (by decide) u4).setT ((((ht.set u1).set u2).set u3).set u4) (by decide) u5).setT (((((ht.set u1).set u2).set u3).set u4).set u5) (by decide) u6
theorem Mj {w:World} {P T:Nat} {x0 x1 x2 x3 x4 x5:Value} (hz:w.heap[P]?=some (.cells #[x0,x1,x2,x3,x4,x5] T (0,0))) (u1 u2 u3 u4 u5 u6:Value):((((((w.setCell ⟨P,0,none⟩ u1).setCell ⟨P,1,none⟩ u2).setCell ⟨P,2,none⟩ u3).setCell ⟨P,3,none⟩ u4).setCell ⟨P,4,none⟩ u5).setCell ⟨P,5,none⟩ u6).heap[P]?=some (.cells #[u1,u2,u3,u4,u5,u6] T (0,0)):=by
 rw[jB (jB (jB (jB (jB (jB hz u1) u2) u3) u4) u5) u6]
 rfl
theorem Oe (x:ByteArray) (W:World) (hx:x.size<=1048576):Calls Tryz.prog 13 #[.string x,.int .i64 8] W fun e w'=>e=.returned (.string (Ap 8 x))/\Below W.heap.size W w':=Xp x 8 W hx (by omega) (by omega)
theorem Un (a b:ByteArray) (w:World) (ha:a.size<=1048576) (hb:b.size<=1048576) (hne:a≠b) (he:Ap 8 a=Ap 8 b) :
  Calls Tryz.prog 10 #[.string a,.string b,.int .i64 8] w fun e w'=>e=.returned (.bool true)/\Below w.heap.size w w':=by
 have hq:=Es hne
 have H1:Hd (∀ W:World,Calls Tryz.prog 13 #[.string a,.int .i64 8] W fun e w'=>e=.returned (.string (Ap 8 a))/\Below W.heap.size W w'):=fun W=>Oe a W ha
 have H2:Hd (∀ W:World,Calls Tryz.prog 13 #[.string b,.int .i64 8] W fun e w'=>e=.returned (.string (Ap 8 a))/\Below W.heap.size W w'):=fun W=>by rw[he];exact Oe b W hb
 generalize Ap 8 a=x at *
 have hx:=strEq (rfl:x=x)
 clear he hne ha hb
 go_enter Tryz.func10,Tryz.ntmps10
 go_wp2_with fail
 refine(H1.o _).mono ?_
 rintro e w1 ⟨rfl,hb1⟩
 go_wp2_with fail
 refine(H2.o _).mono ?_
 rintro e w2 ⟨rfl,hb2⟩
 have hb3:=bN hb1 hb2
 clear hb1 hb2
 go_wp2_with fail
 go_ret
 exact⟨rfl,hb3⟩
theorem Tg.rows {B:Nat} {w:World} {v1 v2:Value} {is:List I3} {gs:List G3} (h:Tg B w v1 v2 is gs):∃ a cap la lc,v1=.slice a is.length cap/\v2=.slice la gs.length lc/\Dr w a is/\Ks w la gs:=by
 obtain⟨xs,ys,h1,h2,h3,h4⟩:=h
 obtain⟨a,cap,e1,k1⟩:∃ a cap,v1=.slice a is.length cap/\Dr w a is:=by
  have h1':=h1
  rcases h1.2 with ⟨e,h0⟩|⟨g,c,cur,e,_⟩
  ·exact⟨none,0,by rw[e,h0],fun i hi=>by omega⟩
  ·rw[e] at h1';exact⟨_,c,e,row3_own rfl h1' h2⟩
 obtain⟨la,lc,e2,k2⟩:∃ la lc,v2=.slice la gs.length lc/\Ks w la gs:=by
  have h3':=h3
  rcases h3.2 with ⟨e,h0⟩|⟨g,c,cur,e,_⟩
  ·exact⟨none,0,by rw[e,h0],fun i hi=>by omega⟩
  ·rw[e] at h3';exact⟨_,c,e,Xy rfl h3' h4⟩
 exact⟨a,cap,la,lc,e1,e2,k1,k2⟩
theorem trail_no {w:World} {sa ta:Option Addr} {ss:List S2} {ts:List T2} (ho:Mx w sa ss ta ts) {nm:ByteArray} {ls:List G3} {c:Int} {t:ByteArray} {ch:List ByteArray} (h:Dh ss ts nm ls c t ch) (hn:¬ Fi (Ae ts) nm\/5<c):ls.length=0:=by
 rcases h with ⟨_,rfl,_⟩|⟨hc,hnb,ms,a,hd,q⟩
 ·rfl
 ·cases a with
  | circle l=>obtain⟨rfl,_⟩:=q;rfl
  | deep x=>obtain⟨rfl,_⟩:=q;rfl
  | ok d=>
   obtain⟨rfl,rfl,rfl,rfl⟩:=q;have hE:=Qh ho hc
   rcases hn with hn|hn
   ·obtain⟨⟨k,hk⟩,_⟩:=hd.ev (fun nm d h=>by simp[lk] at h) d rfl
    cases hk with
    | source=>rfl
    | missing=>rfl
    | made h1 h2 h3 h4=>exact absurd (h3▸Dv h2) hn
   ·obtain⟨i1,_,i3⟩:=Av.inv hE.v hd (Ja.nil ss ts) (by by_cases h:Aq nm;exact h;rw[Cq h] at hnb;cases hnb) trivial d rfl;have ok:=i1.done _ _ i3;have:=ok.c5;omega
theorem Xa {ss:List S2} {ts:List T2} {nm:ByteArray} {ls:List G3} {c:Int} {t:ByteArray} {ch:List ByteArray} (h:Dh ss ts nm ls c t ch) (h5:c<=5):ch=[]:=by
 rcases h with ⟨_,_,rfl,_,rfl⟩|⟨_,_,ms,a,_,q⟩
 ·rfl
 ·cases a with
  | circle l=>obtain⟨_,rfl,_⟩:=q;omega
  | deep x=>obtain⟨_,rfl,_⟩:=q;omega
  | ok d=>exact q.2.2.2
theorem Pd {c:Int} {t:ByteArray} (h0:0<=c) (h5:c<=5) (ht:t.size<=2000) (a:Option Addr) (cap:Nat) (w:World):Calls Tryz.prog 12 #[.agg #[.int .i64 c,.string t,.slice a 0 cap]] w fun e w'=>e=.returned (.string (Bn c t))/\Below w.heap.size w w':=by
 obtain⟨m,rfl⟩:=Int.eq_ofNat_of_zero_le h0
 exact Pc m t a cap w (by omega) ht
theorem Oh {c:Int} {t:ByteArray} (h0:0<=c) (h5:c<=5) (ht:t.size<=2000) (a:Option Addr) (cap:Nat) (w:World):Calls Tryz.prog 14 #[.agg #[.int .i64 c,.string t,.slice a 0 cap]] w fun e w'=>e=.returned (.string (Bn c t))/\Below w.heap.size w w':=by
 obtain⟨m,rfl⟩:=Int.eq_ofNat_of_zero_le h0
 exact Og m t a cap w (by omega) ht
theorem formB_ne (c:Int) (t:ByteArray):Bn c t≠⟨#[]⟩:=fun h=>by
 have:(Bn c t).size=0:=by rw[h];rfl
 unfold Bn at this
 rw[ByteArray.size_append,ByteArray.size_append] at this
 have e:(⟨#[58]⟩:ByteArray).size=1:=rfl
 omega
theorem qsIn_nil (w:World):QsIn w none []:=by
 have hq:∀ i,qx [] i=q00:=fun i=>by simp[qx]
 refine⟨fun i hi=>by simp at hi,⟨?_,?_,?_,?_,?_,?_,?_⟩,⟨by simp,fun i hi=>by simp at hi⟩⟩
 ·unfold maxLen;simp
 ·intro i;rw[hq];unfold maxLen;simp[q00]
 ·intro i;rw[hq];unfold maxLen;simp[q00]
 ·intro i j;rw[hq];unfold maxLen;simp[q00,ix,i0]
 ·intro i j;rw[hq];unfold maxLen;simp[q00,gx,g00]
 ·intro i j;rw[hq];unfold maxLen;simp[q00,gx,g00]
 ·intro i;rw[hq];unfold maxLen;simp[q00]
theorem stIn_of {w:World} {ta:Option Addr} {T:List ByteArray} (hs:Cp w ta T) (hl:T.length<=1048576) (hz:∀ x∈T,x.size<=2002):Qm w ta T none []:=⟨hs,hl,fun i=>by
 unfold maxLen
 rcases Nat.lt_or_ge i T.length with h|h
 ·rw[Fy h];have:=hz _ (List.getElem_mem h);omega
 ·unfold nx;rw[gG,List.getElem?_eq_none h];show 0<=_;omega,qsIn_nil w⟩
theorem noteIn {w:World} {a la:Option Addr} {is:List I3} {ls:List G3} (h1:Dr w a is) (h2:Ks w la (ls.map (Hg 8))) (hp:is.length<=200) (hx:∀ i,(ix is i).text.size<=9223372036854775807) (hl:ls.length<=200) (hn:∀ i,(gx ls i).name.size<=9223372036854775807):Qn w a is la (ls.map (Hg 8)):=by
 have hg:∀ i,(gx (ls.map (Hg 8)) i).name.size<=9223372036854775807/\(gx (ls.map (Hg 8)) i).sum.size<=9223372036854775807:=fun i=>by
  rcases Nat.lt_or_ge i ls.length with h|h
  ·rw[Sq 8 ls i h];exact⟨hn i,by show (Ap 8 _).size<=_;rw[Oc];omega⟩
  ·have:gx (ls.map (Hg 8)) i=gx [] 0:=by unfold gx;rw[gG,List.getElem?_eq_none (by rw[List.length_map];exact h)];rfl
   rw[this];exact⟨by decide,by decide⟩
 exact⟨h1,h2,by omega,by rw[List.length_map];omega,hx,fun i=>(hg i).1,fun i=>(hg i).2⟩
end Go.Proofs.YtjlnkepkkdefdaaGreatDoor
