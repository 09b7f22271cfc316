import Derived.Test.YtjlnkepkkdefdaaGreatDoorTMkT
import Derived.Test.YtjlnkepkkdefdaaGreatDoorVpA
import Derived.Test.YtjlnkepkkdefdaaGreatDoorVsQ
import Derived.Test.YtjlnkepkkdefdaaGreatDoorFtF
import Derived.Deep.DeepCutAuto
import Derived.BigQuiet
namespace Go.Proofs.YtjlnkepkkdefdaaGreatDoor
set_option maxHeartbeats 8000000
set_option maxRecDepth 100000
open Go.RowKit Go.Deep
set_option linter.unusedVariables false
set_option linter.unusedSimpArgs false
theorem Ud (sa ta:Option Addr) (c1 c2:Nat) (ss:List S2) (ts:List T2) (nm:ByteArray) (w:World) (hT:Jr w) (hP:Ld w) (h:Mx w sa ss ta ts) (hsm:Mu ss ts) (hn:nm.size<=9223372036854775807) :
  Calls Tryz.prog 5 #[.agg #[.slice sa ss.length c1,.slice ta ts.length c2],.string nm] w fun e w'=>Below w.heap.size w w'/\∃ ls c t ch ca cn cc la ln lc,e=.returned (.tuple #[.slice la ln lc,.agg #[.int .i64 c,.string t,.slice ca cn cc]])/\Dh ss ts nm ls c t ch/\w'.ownsRow w.heap.size 9 1 (.slice ca cn cc) ch.length (Bf ch)/\Ar w' w.heap.size (.slice la ln lc) ls:=by
 obtain⟨W,eW⟩:∃ W,(w.alloc (.cells #[.slice sa ss.length c1,.slice ta ts.length c2] 26)).alloc (.cells #[.int .i64 0,.string ⟨#[]⟩,.slice none 0 0] 32)=W:=⟨_,rfl⟩
 have hb0:Below w.heap.size w W:=by rw[<- eW];exact Bo (Ak _ _) (Ak _ _)
 have HRB:Hd (W.heap[w.heap.size+1]?=some (.cells #[.int .i64 0,.string ⟨#[]⟩,.slice none 0 0] 32 (0,0))):=by
  show _=_;rw[<- eW];have h:=Aj (w.alloc (.cells #[.slice sa ss.length c1,.slice ta ts.length c2] 26)) (.cells #[.int .i64 0,.string ⟨#[]⟩,.slice none 0 0] 32);rw[show (w.alloc (.cells #[.slice sa ss.length c1,.slice ta ts.length c2] 26)).heap.size=w.heap.size+1 from by simp] at h;exact h
 have p0:W.cell? ⟨w.heap.size,0,none⟩=some (.slice sa ss.length c1):=by rw[<- eW];simp[go_sem]
 have p1:W.cell? ⟨w.heap.size,1,none⟩=some (.slice ta ts.length c2):=by rw[<- eW];simp[go_sem]
 have HM:Hd (Calls Tryz.prog 17 #[.agg #[.slice sa ss.length c1,.slice ta ts.length c2],.string nm] W fun e w'=>MarkP ss ts nm W e w'):=Uk sa ta c1 c2 ss ts nm W (hT.bl hb0) (hP.bl hb0) (h.bl hb0) hsm hn
 have HB0:Hd (Below w.heap.size w W):=hb0
 clear h hb0 hsm hT hP
 go_enter Tryz.func5,Tryz.ntmps5
 go_wp2_with fail
 refine HM.o.mono ?_
 rintro e w1 ⟨hb1,ls,c,t,ch,ca,cn,cc,la,ln,lc,b,fo,rfl,hTP,hown,hlo⟩
 obtain⟨V,eV⟩:∃ V,w1.alloc (.cells #[.bool b,.int .i64 c,.string t,.slice ca cn cc,.string fo,.slice la ln lc] 59)=V:=⟨_,rfl⟩
 obtain⟨U,eU⟩:∃ U,V.drew=U:=⟨_,rfl⟩
 have hbU:Below w1.heap.size w1 U:=by rw[<- eU,<- eV];exact(Ak _ _).drew
 have HR1:Hd (U.heap[w.heap.size+1]?=some (.cells #[.int .i64 0,.string ⟨#[]⟩,.slice none 0 0] 32 (0,0))):=Ag hbU (Ag hb1 HRB.o)
 have HM1:Hd (U.heap[w1.heap.size]?=some (.cells #[.bool b,.int .i64 c,.string t,.slice ca cn cc,.string fo,.slice la ln lc] 59 (0,0))):=by
  show _=_;rw[<- eU,<- eV];exact Aj _ _
 have HB1:Hd (Below w.heap.size w U):=Bo (Bo HB0.o hb1) hbU
 have hs:=HB0.o.size
 have HX:Hd (Dh ss ts nm ls c t ch/\U.ownsRow W.heap.size 9 1 (.slice ca cn cc) ch.length (Bf ch)/\Ar U W.heap.size (.slice la ln lc) ls):=⟨hTP,Ac hown hbU,hlo.bl hbU⟩
 obtain⟨z0,z1,z2,zf⟩:=Gi HR1.o
 obtain⟨⟨m0,m1,m2,m3,m4,m5⟩,mf⟩:=Nu HM1.o
 have hne:¬ w1.heap.size=w.heap.size+1:=by have:=Af (Ag hb1 HRB.o);omega
 clear hb1 hTP hown hlo HM p0 p1 eW hbU
 dsimp only
 go_upto_region 2 with fail
 try rw[eV]
 clear eV
 go_region
 clear eU
 go_wp2_with fail
 obtain⟨v0,v1,v2,_⟩:=Gi (Cz HR1.o (.int .i64 c) (.string t) (.slice ca cn cc))
 obtain⟨x1,x2,x3⟩:=HX.o
 have ho:=Cn x2 (fun b' q=>Ju (w:=U) (b:=w.heap.size+1) (fun e=>by subst e;exact Ad x2 (by decide) HR1.o q) (.int .i64 c) (.string t) (.slice ca cn cc))
 have hl:Ar _ W.heap.size (.slice la ln lc) ls:=x3.keptB (fun b' q=>Ju (w:=U) (b:=w.heap.size+1) (fun e=>by obtain⟨xs,k1,_⟩:=x3;subst e;exact Ad k1 (by decide) HR1.o q) (.int .i64 c) (.string t) (.slice ca cn cc))
 exact bR (v:=.tuple #[.slice la ln lc,.agg #[.int .i64 c,.string t,.slice ca cn cc]]) (by simp[results,Tryz.results5,go_sem,v0,v1,v2]) rfl ⟨Bc HB1.o (by omega) _ _ _,ls,c,t,ch,ca,cn,cc,la,ln,lc,rfl,x1,Co ho hs,Sc hl hs⟩
theorem ActP.parts {ts:List T2} {nm:ByteArray} {w:World} {e:Ending} (h:ActP ts nm w e):∃ a n cap b,e=.returned (.tuple #[.agg #[.slice a n cap],.bool b])/\(b=true->∃ q,q<ts.length/\(tx ts q).name=nm/\Dr w a (tx ts q).code/\n=(tx ts q).code.length)/\(b=true <-> Fi (Ae ts) nm):=by
 rcases h with ⟨q,a,cap,h1,h2,h3,rfl⟩|⟨h1,rfl⟩
 ·exact⟨_,_,_,_,rfl,fun _=>⟨q,h1,h2,h3,rfl⟩,fun _=>h2▸Dv h1,fun _=>rfl⟩
 ·exact⟨_,_,_,_,rfl,(fun h=>by cases h),(fun h=>by cases h),fun ⟨j,hj,e⟩=>by rw[Bj] at hj;rw[Df] at e;exact absurd e (h1 j hj)⟩
theorem Cf.strs {w:World} {lo hi n c:Nat} {a:Option Addr} {T:List ByteArray} (h:Cf w lo hi (.slice a n c) T):Cp w a T:=by
 obtain⟨a',c',e,hs⟩:=Cf.sl h
 cases e
 exact hs
theorem Cf.setT6 {w:World} {lo hi R:Nat} {v:Value} {ts:List ByteArray} (h:Cf w lo hi v ts) (hh:hi<=w.heap.size) (ht:Cx w R 47) (u1 u2 u3 u4 u5 u6:Value):Cf ((((((w.setCell ⟨R,0,none⟩ u1).setCell ⟨R,1,none⟩ u2).setCell ⟨R,2,none⟩ u3).setCell ⟨R,3,none⟩ u4).setCell ⟨R,4,none⟩ u5).setCell ⟨R,5,none⟩ u6) lo ((((((w.setCell ⟨R,0,none⟩ u1).setCell ⟨R,1,none⟩ u2).setCell ⟨R,2,none⟩ u3).setCell ⟨R,3,none⟩ u4).setCell ⟨R,4,none⟩ u5).setCell ⟨R,5,none⟩ u6).heap.size v ts:=by
 refine Cf.wide (lo:=lo) (hi:=hi) ?_ (Nat.le_refl _) (by simp;exact hh)
 exact(((((h.setT ht (by decide) u1).setT (ht.set u1) (by decide) u2).setT ((ht.set u1).set u2) (by decide) u3).setT (((ht.set u1).set u2).set u3) (by decide) u4).setT ((((ht.set u1).set u2).set u3).set u4) (by decide) u5).setT (((((ht.set u1).set u2).set u3).set u4).set u5) (by decide) u6
theorem Mj {w:World} {P T:Nat} {x0 x1 x2 x3 x4 x5:Value} (hz:w.heap[P]?=some (.cells #[x0,x1,x2,x3,x4,x5] T (0,0))) (u1 u2 u3 u4 u5 u6:Value):((((((w.setCell ⟨P,0,none⟩ u1).setCell ⟨P,1,none⟩ u2).setCell ⟨P,2,none⟩ u3).setCell ⟨P,3,none⟩ u4).setCell ⟨P,4,none⟩ u5).setCell ⟨P,5,none⟩ u6).heap[P]?=some (.cells #[u1,u2,u3,u4,u5,u6] T (0,0)):=by
 rw[jB (jB (jB (jB (jB (jB hz u1) u2) u3) u4) u5) u6]
 rfl
theorem Oe (x:ByteArray) (W:World) (hx:x.size<=1048576):Calls Tryz.prog 13 #[.string x,.int .i64 8] W fun e w'=>e=.returned (.string (Ap 8 x))/\Below W.heap.size W w':=Xp x 8 W hx (by omega) (by omega)
theorem Un (a b:ByteArray) (w:World) (ha:a.size<=1048576) (hb:b.size<=1048576) (hne:a≠b) (he:Ap 8 a=Ap 8 b) :
  Calls Tryz.prog 10 #[.string a,.string b,.int .i64 8] w fun e w'=>e=.returned (.bool true)/\Below w.heap.size w w':=by
 have hq:=Es hne
 have H1:Hd (∀ W:World,Calls Tryz.prog 13 #[.string a,.int .i64 8] W fun e w'=>e=.returned (.string (Ap 8 a))/\Below W.heap.size W w'):=fun W=>Oe a W ha
 have H2:Hd (∀ W:World,Calls Tryz.prog 13 #[.string b,.int .i64 8] W fun e w'=>e=.returned (.string (Ap 8 a))/\Below W.heap.size W w'):=fun W=>by rw[he];exact Oe b W hb
 generalize Ap 8 a=x at *
 have hx:=strEq (rfl:x=x)
 clear he hne ha hb
 go_enter Tryz.func10,Tryz.ntmps10
 go_wp2_with fail
 refine(H1.o _).mono ?_
 rintro e w1 ⟨rfl,hb1⟩
 go_wp2_with fail
 refine(H2.o _).mono ?_
 rintro e w2 ⟨rfl,hb2⟩
 have hb3:=bN hb1 hb2
 clear hb1 hb2
 go_wp2_with fail
 go_ret
 exact⟨rfl,hb3⟩
theorem Tg.rows {B:Nat} {w:World} {v1 v2:Value} {is:List I3} {gs:List G3} (h:Tg B w v1 v2 is gs):∃ a cap la lc,v1=.slice a is.length cap/\v2=.slice la gs.length lc/\Dr w a is/\Ks w la gs:=by
 obtain⟨xs,ys,h1,h2,h3,h4⟩:=h
 obtain⟨a,cap,e1,k1⟩:∃ a cap,v1=.slice a is.length cap/\Dr w a is:=by
  have h1':=h1
  rcases h1.2 with ⟨e,h0⟩|⟨g,c,cur,e,_⟩
  ·exact⟨none,0,by rw[e,h0],fun i hi=>by omega⟩
  ·rw[e] at h1';exact⟨_,c,e,row3_own rfl h1' h2⟩
 obtain⟨la,lc,e2,k2⟩:∃ la lc,v2=.slice la gs.length lc/\Ks w la gs:=by
  have h3':=h3
  rcases h3.2 with ⟨e,h0⟩|⟨g,c,cur,e,_⟩
  ·exact⟨none,0,by rw[e,h0],fun i hi=>by omega⟩
  ·rw[e] at h3';exact⟨_,c,e,Xy rfl h3' h4⟩
 exact⟨a,cap,la,lc,e1,e2,k1,k2⟩
theorem trail_no {w:World} {sa ta:Option Addr} {ss:List S2} {ts:List T2} (ho:Mx w sa ss ta ts) {nm:ByteArray} {ls:List G3} {c:Int} {t:ByteArray} {ch:List ByteArray} (h:Dh ss ts nm ls c t ch) (hn:¬ Fi (Ae ts) nm\/5<c):ls.length=0:=by
 rcases h with ⟨_,rfl,_⟩|⟨hc,hnb,ms,a,hd,q⟩
 ·rfl
 ·cases a with
  | circle l=>obtain⟨rfl,_⟩:=q;rfl
  | deep x=>obtain⟨rfl,_⟩:=q;rfl
  | ok d=>
   obtain⟨rfl,rfl,rfl,rfl⟩:=q;have hE:=Qh ho hc
   rcases hn with hn|hn
   ·obtain⟨⟨k,hk⟩,_⟩:=hd.ev (fun nm d h=>by simp[lk] at h) d rfl
    cases hk with
    | source=>rfl
    | missing=>rfl
    | made h1 h2 h3 h4=>exact absurd (h3▸Dv h2) hn
   ·obtain⟨i1,_,i3⟩:=Av.inv hE.v hd (Ja.nil ss ts) (by by_cases h:Aq nm;exact h;rw[Cq h] at hnb;cases hnb) trivial d rfl;have ok:=i1.done _ _ i3;have:=ok.c5;omega
theorem Xa {ss:List S2} {ts:List T2} {nm:ByteArray} {ls:List G3} {c:Int} {t:ByteArray} {ch:List ByteArray} (h:Dh ss ts nm ls c t ch) (h5:c<=5):ch=[]:=by
 rcases h with ⟨_,_,rfl,_,rfl⟩|⟨_,_,ms,a,_,q⟩
 ·rfl
 ·cases a with
  | circle l=>obtain⟨_,rfl,_⟩:=q;omega
  | deep x=>obtain⟨_,rfl,_⟩:=q;omega
  | ok d=>exact q.2.2.2
theorem Pd {c:Int} {t:ByteArray} (h0:0<=c) (h5:c<=5) (ht:t.size<=2000) (a:Option Addr) (cap:Nat) (w:World):Calls Tryz.prog 12 #[.agg #[.int .i64 c,.string t,.slice a 0 cap]] w fun e w'=>e=.returned (.string (Bn c t))/\Below w.heap.size w w':=by
 obtain⟨m,rfl⟩:=Int.eq_ofNat_of_zero_le h0
 exact Pc m t a cap w (by omega) ht
theorem Oh {c:Int} {t:ByteArray} (h0:0<=c) (h5:c<=5) (ht:t.size<=2000) (a:Option Addr) (cap:Nat) (w:World):Calls Tryz.prog 14 #[.agg #[.int .i64 c,.string t,.slice a 0 cap]] w fun e w'=>e=.returned (.string (Bn c t))/\Below w.heap.size w w':=by
 obtain⟨m,rfl⟩:=Int.eq_ofNat_of_zero_le h0
 exact Og m t a cap w (by omega) ht
theorem formB_ne (c:Int) (t:ByteArray):Bn c t≠⟨#[]⟩:=fun h=>by
 have:(Bn c t).size=0:=by rw[h];rfl
 unfold Bn at this
 rw[ByteArray.size_append,ByteArray.size_append] at this
 have e:(⟨#[58]⟩:ByteArray).size=1:=rfl
 omega
theorem qsIn_nil (w:World):QsIn w none []:=by
 have hq:∀ i,qx [] i=q00:=fun i=>by simp[qx]
 refine⟨fun i hi=>by simp at hi,⟨?_,?_,?_,?_,?_,?_,?_⟩,⟨by simp,fun i hi=>by simp at hi⟩⟩
 ·unfold maxLen;simp
 ·intro i;rw[hq];unfold maxLen;simp[q00]
 ·intro i;rw[hq];unfold maxLen;simp[q00]
 ·intro i j;rw[hq];unfold maxLen;simp[q00,ix,i0]
 ·intro i j;rw[hq];unfold maxLen;simp[q00,gx,g00]
 ·intro i j;rw[hq];unfold maxLen;simp[q00,gx,g00]
 ·intro i;rw[hq];unfold maxLen;simp[q00]
theorem stIn_of {w:World} {ta:Option Addr} {T:List ByteArray} (hs:Cp w ta T) (hl:T.length<=1048576) (hz:∀ x∈T,x.size<=2002):Qm w ta T none []:=⟨hs,hl,fun i=>by
 unfold maxLen
 rcases Nat.lt_or_ge i T.length with h|h
 ·rw[Fy h];have:=hz _ (List.getElem_mem h);omega
 ·unfold nx;rw[gG,List.getElem?_eq_none h];show 0<=_;omega,qsIn_nil w⟩
theorem noteIn {w:World} {a la:Option Addr} {is:List I3} {ls:List G3} (h1:Dr w a is) (h2:Ks w la (ls.map (Hg 8))) (hp:is.length<=200) (hx:∀ i,(ix is i).text.size<=9223372036854775807) (hl:ls.length<=200) (hn:∀ i,(gx ls i).name.size<=9223372036854775807):Qn w a is la (ls.map (Hg 8)):=by
 have hg:∀ i,(gx (ls.map (Hg 8)) i).name.size<=9223372036854775807/\(gx (ls.map (Hg 8)) i).sum.size<=9223372036854775807:=fun i=>by
  rcases Nat.lt_or_ge i ls.length with h|h
  ·rw[Sq 8 ls i h];exact⟨hn i,by show (Ap 8 _).size<=_;rw[Oc];omega⟩
  ·have:gx (ls.map (Hg 8)) i=gx [] 0:=by unfold gx;rw[gG,List.getElem?_eq_none (by rw[List.length_map];exact h)];rfl
   rw[this];exact⟨by decide,by decide⟩
 exact⟨h1,h2,by omega,by rw[List.length_map];omega,hx,fun i=>(hg i).1,fun i=>(hg i).2⟩
end Go.Proofs.YtjlnkepkkdefdaaGreatDoor
namespace Go.Proofs.YtjlnkepkkdefdaaGreatDoor
set_option maxHeartbeats 16000000
set_option maxRecDepth 100000
open Go.RowKit Go.Deep
set_option linter.unusedVariables false
set_option linter.unusedSimpArgs false
def anB:ByteArray:=⟨#[97,110,111,116,104,101,114]⟩
theorem fnVouchLaw (a:Option Addr) (len cap:Nat) (w:World) (hT:Jr w) (hP:Ld w) (h:Tl w a len) (hlc:len<=cap) :
  Calls Tryz.prog 3 #[.slice a len cap] w fun e w'=>e=.returned (.bool true)/\Below w.heap.size w w':=by
 by_cases hbig:1048576<len
 ·have hI:(1048576:Int)<(len:Int):=by omega
  go_enter Tryz.func3,Tryz.ntmps3;go_wp2;go_ret;exact⟨rfl,Below.refl _ _⟩
 have hI:(len:Int)<=1048576:=by omega
 have HD0:=hid (Ug w a len cap h hlc (by omega))
 clear h hlc hbig
 go_enter Tryz.func3,Tryz.ntmps3
 go_wp2_with fail
 refine HD0.o.mono ?_
 rintro e w2 ⟨hb2,v1,v2,l1,l2,nm,rfl,hd,hbd,hnm,hsh⟩
 obtain⟨sa,c1,ta,c2,rfl,rfl,hok,hsm⟩:=hd.ok hbd
 obtain⟨ts,ets⟩:∃ ts,l2.map (·.t)=ts:=⟨_,rfl⟩
 rw[ets] at hok hsm hsh ⊢
 clear ets hd hbd HD0
 obtain⟨P,eP⟩:∃ P,w2.heap.size=P:=⟨_,rfl⟩
 obtain⟨w3,ew3⟩:∃ V,w2.alloc (.cells #[.slice sa l1.length c1,.slice ta ts.length c2] 26)=V:=⟨_,rfl⟩
 have hbw3:Below w2.heap.size w2 w3:=by rw[<- ew3];exact aN _ _
 have HPB:Hd (w3.heap[P]?=some (.cells #[.slice sa l1.length c1,.slice ta ts.length c2] 26 (0,0))):=by show _=_;rw[<- ew3,<- eP];exact Al _ _
 have HT:=hid ((hT.bl hb2).bl hbw3)
 have HP:=hid ((hP.bl hb2).bl hbw3)
 have HOK:=hid (hok.bl hbw3)
 have HB:=hid (bN hb2 hbw3)
 have HSH:=hid hsh
 have HSM:=hid hsm
 clear hT hP hok hb2 hbw3 hsh hsm
 obtain⟨d0,d1⟩:=Am HPB.o
 go_wp2_with fail
 clear ew3 eP d0 d1
 refine(Ud sa ta c1 c2 l1 ts nm w3 HT.o HP.o HOK.o HSM.o (by omega)).mono ?_
 rintro e w4 ⟨hb4,ls,c,t,ch,ca,cn,cc,la,ln,lc,rfl,htr,hch,hlo⟩
 obtain⟨rfl,hst⟩:=own_strs hch
 obtain⟨rfl,hrg⟩:=Sa hlo
 replace HPB:=hid (Aa HPB.o hb4)
 replace HT:=hid (HT.o.bl hb4)
 replace HP:=hid (HP.o.bl hb4)
 replace HOK:=hid (HOK.o.bl hb4)
 replace HB:=hid (bN HB.o hb4)
 have HTR:=hid htr
 have HS1:=hid hst
 have HG1:=hid hrg
 clear hb4 hch hlo htr hst hrg
 obtain⟨Q,eQ⟩:∃ P,w4.heap.size=P:=⟨_,rfl⟩
 obtain⟨w5,ew5⟩:∃ V,w4.alloc (.cells #[.int .i64 c,.string t,.slice ca ch.length cc] 32)=V:=⟨_,rfl⟩
 have hbw5:Below w4.heap.size w4 w5:=by rw[<- ew5];exact aN _ _
 have H6:Hd (w5.heap[Q]?=some (.cells #[.int .i64 c,.string t,.slice ca ch.length cc] 32 (0,0))):=by show _=_;rw[<- ew5,<- eQ];exact Al _ _
 replace HPB:=hid (Aa HPB.o hbw5)
 replace HT:=hid (HT.o.bl hbw5)
 replace HP:=hid (HP.o.bl hbw5)
 replace HOK:=hid (HOK.o.bl hbw5)
 replace HB:=hid (bN HB.o hbw5)
 replace HS1:=hid (HS1.o.bl hbw5)
 replace HG1:=hid (HG1.o.bl hbw5)
 clear hbw5
 obtain⟨d0,d1⟩:=Am HPB.o
 go_wp2_with fail
 clear ew5 eQ d0 d1
 refine(Wy _ ta c2 ts nm w5 HOK.o.rt HSM.o.lt HSM.o.lc).mono ?_
 rintro e w6 ⟨hb6,hact⟩
 obtain⟨pa,pl,pc,b,rfl,hact,hhas⟩:=hact.parts
 replace HPB:=hid (Aa HPB.o hb6)
 replace HT:=hid (HT.o.bl hb6)
 replace HP:=hid (HP.o.bl hb6)
 replace HOK:=hid (HOK.o.bl hb6)
 replace HB:=hid (bN HB.o hb6)
 replace HS1:=hid (HS1.o.bl hb6)
 replace HG1:=hid (HG1.o.bl hb6)
 replace H6:=hid (Aa H6.o hb6)
 obtain⟨Q7,eQ7⟩:∃ P,w6.heap.size=P:=⟨_,rfl⟩
 obtain⟨w7,ew7⟩:∃ V,w6.alloc (.cells #[.slice pa pl pc] 37)=V:=⟨_,rfl⟩
 have hbw7:Below w6.heap.size w6 w7:=by rw[<- ew7];exact aN _ _
 have H7:Hd (w7.heap[Q7]?=some (.cells #[.slice pa pl pc] 37 (0,0))):=by show _=_;rw[<- ew7,<- eQ7];exact Al _ _
 replace HPB:=hid (Aa HPB.o hbw7)
 replace HT:=hid (HT.o.bl hbw7)
 replace HP:=hid (HP.o.bl hbw7)
 replace HOK:=hid (HOK.o.bl hbw7)
 replace HB:=hid (bN HB.o hbw7)
 replace HS1:=hid (HS1.o.bl hbw7)
 replace HG1:=hid (HG1.o.bl hbw7)
 replace H6:=hid (Aa H6.o hbw7)
 have HAC:Hd (b=true->∃ q,q<ts.length/\(tx ts q).name=nm/\Dr w7 pa (tx ts q).code/\pl=(tx ts q).code.length):=fun h=>by obtain⟨q,h1,h2,h3,h4⟩:=hact h;exact⟨q,h1,h2,h3.bl hbw7,h4⟩
 have HHA:=hid hhas
 clear hact hb6 hhas hbw7
 obtain⟨d0,d1⟩:=Am HPB.o
 go_wp2_with fail
 clear ew7 eQ7 d0 d1
 refine(Tv sa ta c1 c2 l1 ts nm w7 HOK.o HSM.o (by omega)).mono ?_
 unfold TrailS
 rintro e w8 ⟨hb8,ls',c',t',ch',ca',cc',la',lc',rfl,htr',hch',hlo'⟩
 obtain⟨e1,e2,e3,e4⟩:=Dh.uniq HOK.o HTR.o htr'
 subst e1;subst e2;subst e3;subst e4
 replace HPB:=hid (Aa HPB.o hb8)
 replace HT:=hid (HT.o.bl hb8)
 replace HP:=hid (HP.o.bl hb8)
 replace HOK:=hid (HOK.o.bl hb8)
 replace HB:=hid (bN HB.o hb8)
 replace HS1:=hid (HS1.o.bl hb8)
 replace HG1:=hid (HG1.o.bl hb8)
 replace H6:=hid (Aa H6.o hb8)
 replace H7:=hid (Aa H7.o hb8)
 have HAC2:Hd (b=true->∃ q,q<ts.length/\(tx ts q).name=nm/\Dr w8 pa (tx ts q).code/\pl=(tx ts q).code.length):=fun h=>by obtain⟨q,h1,h2,h3,h4⟩:=HAC.o h;exact⟨q,h1,h2,h3.bl hb8,h4⟩
 have HS2:=hid hch'
 clear hb8 htr' hch' hlo' HAC
 obtain⟨Q10,eQ10⟩:∃ P,w8.heap.size=P:=⟨_,rfl⟩
 obtain⟨w9,ew9⟩:∃ V,w8.alloc (.cells #[.int .i64 c',.string t',.slice ca' ch'.length cc'] 32)=V:=⟨_,rfl⟩
 have hbw9:Below w8.heap.size w8 w9:=by rw[<- ew9];exact aN _ _
 have H10:Hd (w9.heap[Q10]?=some (.cells #[.int .i64 c',.string t',.slice ca' ch'.length cc'] 32 (0,0))):=by show _=_;rw[<- ew9,<- eQ10];exact Al _ _
 replace HPB:=hid (Aa HPB.o hbw9)
 replace HT:=hid (HT.o.bl hbw9)
 replace HP:=hid (HP.o.bl hbw9)
 replace HOK:=hid (HOK.o.bl hbw9)
 replace HB:=hid (bN HB.o hbw9)
 replace HS1:=hid (HS1.o.bl hbw9)
 replace HG1:=hid (HG1.o.bl hbw9)
 replace H6:=hid (Aa H6.o hbw9)
 replace H7:=hid (Aa H7.o hbw9)
 replace HS2:=hid (HS2.o.bl hbw9)
 have HAC:Hd (b=true->∃ q,q<ts.length/\(tx ts q).name=nm/\Dr w9 pa (tx ts q).code/\pl=(tx ts q).code.length):=fun h=>by obtain⟨q,h1,h2,h3,h4⟩:=HAC2.o h;exact⟨q,h1,h2,h3.bl hbw9,h4⟩
 clear hbw9 HAC2
 obtain⟨hln,hcn⟩:=HTR.o.len HOK.o
 obtain⟨y0,y1,y2⟩:=Fm H10.o
 by_cases hgo:b=true/\c'<=5
 rotate_left 1
 ·have hcs:b=false\/(b=true/\5<c'):=by cases b<;>simp_all
  have hl0:=trail_no HOK.o HTR.o (by rcases hcs with h|h;exact Or.inl (fun k=>by rw[HHA.o.mpr k] at h;cases h);exact Or.inr h.2);have HL0:=hid hl0;clear hgo HAC hl0;obtain⟨x0,x1,x2⟩:=Fm H6.o;have hz:((ls'.length:Int) == 0)=true:=by rw[HL0.o];rfl
  rcases hcs with rfl|⟨rfl,h5⟩
  all_goals
   go_wp2_with fail;clear ew9 eQ10 x0 x1 x2 y0 y1 y2;refine(wResult_eq _ _ ca ca' cc cc' _ _ _ rfl HS1.o HS2.o (by omega)).mono ?_;rintro e wE ⟨rfl,hbE⟩;have HBE:=hid (bN HB.o hbE);clear hbE;go_wp2_with fail;go_ret;exact⟨rfl,HBE.o⟩
 obtain⟨rfl,h5⟩:=hgo
 obtain⟨q,hq,hqn,hrow,rfl⟩:=HAC.o rfl
 obtain rfl:=Xa HTR.o h5
 obtain⟨hpr,zs,hrp⟩:=vouch_of HOK.o HSH.o HTR.o h5 hq hqn
 have HIX:=hid (fun j=>HOK.o.xt q j)
 obtain⟨is,eis⟩:∃ is,(tx ts q).code=is:=⟨_,rfl⟩
 rw[eis] at hpr hrp HIX H7 hrow ⊢
 have HRP:=hid hrp
 have HPR:=hid hpr
 have HC:=hid hrow
 have hil:=Ed hpr
 clear HAC hrp hpr hrow eis hq hqn HHA HSH HTR
 rw[List.length_nil] at H6 H10 y2 ew9
 obtain⟨n,en⟩:∃ n,ls'.length=n:=⟨_,rfl⟩
 rw[en] at hln ⊢
 have EN:=hid en
 clear en
 have d5:decide ((5:Int)<c')=false:=by simp;omega
 go_wp2_with fail
 obtain⟨S,eS⟩:∃ P,w9.heap.size=P:=⟨_,rfl⟩
 obtain⟨wS,eWS⟩:∃ V,w9.alloc (.cells #[.int .i64 8,.slice none 0 0,.slice none 0 0] 43)=V:=⟨_,rfl⟩
 have HBS:Hd (Below w9.heap.size w9 wS):=by show Below _ _ _;rw[<- eWS];exact aN _ _
 have HST:Hd (wS.heap[S]?=some (.cells #[.int .i64 8,.slice none 0 0,.slice none 0 0] 43 (0,0))):=by show _=_;rw[<- eWS,<- eS];exact Al _ _
 have hSz:S<wS.heap.size:=by rw[<- eWS,<- eS];simp
 rw[eWS,eS]
 clear ew9 eQ10 y0 y1 y2 eWS
 go_loopw [12] (fun i wr=>∃(k:Nat) (T:List ByteArray) (xa:Option Addr) (xc:Nat),k<=n/\i=.int .i64 k/\Hd (Kq ls' k T)/\Hd (T=[]->xa=none/\xc=0)/\Hd (wr.heap[S]?=some (.cells #[.int .i64 8,.slice xa T.length xc,.slice none 0 0] 43 (0,0)))/\Hd (Cf wr (S+1) wr.heap.size (.slice xa T.length xc) T)/\Hd (Below w9.heap.size w9 wr)) (fun i _=>n-(intOf i).toNat)
 case atStart=>exact⟨0,[],none,0,Nat.zero_le _,rfl,Kq.nil ls',(fun _=>⟨rfl,rfl⟩),HST,Cf.nil _ _ _,HBS⟩
 case round=>
  clear HST HBS hSz;obtain⟨k,T,xa,xc,hk,rfl,HKP,HZ,HST,HOW,HW⟩:=hrel;have hSz:S<wr.heap.size:=Af HST.o;have HSI:=hid (stIn_of (Cf.strs HOW.o) (by have:=HKP.o.len;omega) HKP.o.sz)
  by_cases hlt:k<n
  ·have hkI:(k:Int)<(n:Int):=by omega
   have hk0:(0:Int)<=(k:Int):=by omega
   have hkl:k<ls'.length:=by rw[EN.o];exact hlt
   have hsz:=HRP.o.sz k hkl;have HSKIP:Hd ((gx ls' k).ask=false->Kq ls' (k+1) T):=fun h=>HKP.o.skip h;have HNEXT:Hd (∀ T',So (Ap 8) T'->T'.length<=k+1->(∀ y∈T',y.size<=2002)->(∀ y∈T,y∈T')->(gx ls' k).sum∈T'->Kq ls' (k+1) T'):=fun T' a b c d e=>HKP.o.next a b c d e;obtain⟨b,off,rfl,g1,g2,g3⟩:=HG1.o.bl HW.o _ hkl;generalize (gx ls' k).name=x at *;generalize (gx ls' k).sum=z at *;generalize (gx ls' k).ask=y at *;cases y
   ·go_wp2_with fail;go_roundw
    case rel=>exact⟨k+1,T,xa,xc,by omega,by go_num,HSKIP.o rfl,HZ,HST,HOW,HW⟩
    case measure=>simp[intOf];omega
   ·have HC1:=hid g1;have HC3:=hid g3;clear HSKIP;go_wp2_with fail;clear g1 g2 g3
    go_cut [13] (fun p wx=>∃(Z:Nat) (cd wd:Int) (T':List ByteArray) (rs':List T3) (A B:ByteArray) (xa':Option Addr) (xc':Nat),p=.pointer (some ⟨Z,0,none⟩)/\Hd (wx.heap[Z]?=some (.cells #[.int .i64 cd,.int .i64 wd,.slice xa' T'.length xc',.slice none 0 0,.string A,.string B] 47 (0,0)))/\Hd (KpP 8 T [] z cd wd T' rs' A B)/\Hd (Cf wx (S+1) wx.heap.size (.slice xa' T'.length xc') T')/\Hd (Below wr.heap.size wr wx))
    case first=>
     refine Lt.begin 8 (fun w'=>w'.heap[S]?=some (.cells #[.int .i64 8,.slice xa T.length xc,.slice none 0 0] 43 (0,0))/\w'.cell? ⟨b,off+k*3+2,none⟩=some (.string z)) (by kernel_rfl) ?_;obtain⟨wD,eD⟩:∃ y,wr.drew=y:=⟨_,rfl⟩;rw[eD];(have bD:Below wr.heap.size wr wD:=by rw[<- eD];exact(Below.refl _ _).drew);have HSS:∀ V:World,Below wr.heap.size wr V->(fun w'=>w'.heap[S]?=some (.cells #[.int .i64 8,.slice xa T.length xc,.slice none 0 0] 43 (0,0))/\w'.cell? ⟨b,off+k*3+2,none⟩=some (.string z)) V:=fun V h=>⟨Aa HST.o h,Ab h HC3.o⟩;clear eD;change K 0 _
     iterate 6
      refine Lt.ti (v:=?_) (HSS _ bD) ?_ ?_;rotate_left 1
      ·rintro w ⟨s1,s2⟩;obtain⟨c0,c1,c2⟩:=Fm s1;go_simp;first|done|with_reducible rfl
      simp only[gX]
     refine Lt.two (i:=6) (j:=7) (by kernel_rfl) rfl rfl (fun K hK=>?_) (fun K hK=>?_)
     ·go_simp;refine(Ib 8 xa xc T z wD ((HT.o.bl HW.o).bl bD) (HSI.o.bl bD) HZ.o (by omega)).mono ?_;rintro e wC ⟨hbC,cd,wd,T',rs',A,B,xa',xc',rfl,hkp,hox⟩;have HKQ:=hid hkp;have bC:=bt bD hbC;have HOX:Hd (Cf wC (S+1) wC.heap.size (.slice xa' T'.length xc') T'):=Cf.wide hox (by have:=bD.size;omega) (Nat.le_refl _);clear hkp hox;refine hK.out _ _ (fun _=>HSS _ bC) (fun _=>?_);clear hK K
      try simp only[gX]
      refine Lt.sp (i:=7) (fun K hK=>?_);go_simp;obtain⟨wP,eP⟩:∃ y,wC.alloc (.cells #[.int .i64 0,.int .i64 0,.slice none 0 0,.slice none 0 0,.string ⟨#[]⟩,.string ⟨#[]⟩] 47)=y:=⟨_,rfl⟩;rw[eP];(have hbP:Below wC.heap.size wC wP:=by rw[<- eP];exact aN _ _);(have zP:wP.heap[wC.heap.size]?=some (.cells #[.int .i64 0,.int .i64 0,.slice none 0 0,.slice none 0 0,.string ⟨#[]⟩,.string ⟨#[]⟩] 47 (0,0)):=by rw[<- eP];exact Al _ _);have bP:=bt bC hbP;have hPl:wr.heap.size<=wC.heap.size:=bC.size;clear eP;replace HOX:=hid (Cf.wide (Cf.bl HOX.o hbP) (Nat.le_refl _) hbP.size);refine hK.out _ _ (fun _=>HSS _ bP) (fun _=>?_);clear hK K
      try simp only[gX]
      obtain⟨k0,k1,k2,k3,k4,k5⟩:=Hi zP;have kf:=fun j=>fH zP j;refine Lt.sp (i:=8) (fun K hK=>?_);go_simp;refine hK.out _ _ (fun h=>absurd rfl h) (fun _=>?_);clear hK K;refine Lt.done (by kernel_rfl) ?_ _;go_wp2_with fail;go_meet
      case rel=>exact⟨wC.heap.size,cd,wd,T',rs',A,B,xa',xc',rfl,Mj zP _ _ _ _ _ _,HKQ,Cf.setT6 HOX.o (Nat.le_refl _) ⟨_,zP⟩ _ _ _ _ _ _,Dz bP hPl _ _ _ _ _ _⟩
     ·go_simp;obtain⟨wP,eP⟩:∃ y,wD.alloc (.cells #[.int .i64 0,.int .i64 0,.slice none 0 0,.slice none 0 0,.string ⟨#[]⟩,.string ⟨#[]⟩] 47)=y:=⟨_,rfl⟩;rw[eP];(have hbP:Below wD.heap.size wD wP:=by rw[<- eP];exact aN _ _);(have zP:wP.heap[wD.heap.size]?=some (.cells #[.int .i64 0,.int .i64 0,.slice none 0 0,.slice none 0 0,.string ⟨#[]⟩,.string ⟨#[]⟩] 47 (0,0)):=by rw[<- eP];exact Al _ _);have bP:=bt bD hbP;have hPl:wr.heap.size<=wD.heap.size:=bD.size;clear eP;refine hK.out _ _ (fun _=>HSS _ bP) (fun _=>?_);clear hK K
      try simp only[gX]
      refine Lt.sp (i:=6) (fun K hK=>?_);go_simp;refine(Ib 8 xa xc T z wP ((HT.o.bl HW.o).bl bP) (HSI.o.bl bP) HZ.o (by omega)).mono ?_;rintro e wC ⟨hbC,cd,wd,T',rs',A,B,xa',xc',rfl,hkp,hox⟩;have HKQ:=hid hkp;have bC:=bt bP hbC;have HOX:Hd (Cf wC (S+1) wC.heap.size (.slice xa' T'.length xc') T'):=Cf.wide hox (by have:=bP.size;omega) (Nat.le_refl _);clear hkp hox;replace zP:=Aa zP hbC;refine hK.out _ _ (fun _=>HSS _ bC) (fun _=>?_);clear hK K
      try simp only[gX]
      obtain⟨k0,k1,k2,k3,k4,k5⟩:=Hi zP;have kf:=fun j=>fH zP j;refine Lt.sp (i:=8) (fun K hK=>?_);go_simp;refine hK.out _ _ (fun h=>absurd rfl h) (fun _=>?_);clear hK K;refine Lt.done (by kernel_rfl) ?_ _;go_wp2_with fail;go_meet
      case rel=>exact⟨wD.heap.size,cd,wd,T',rs',A,B,xa',xc',rfl,Mj zP _ _ _ _ _ _,HKQ,Cf.setT6 HOX.o (Nat.le_refl _) ⟨_,zP⟩ _ _ _ _ _ _,Dz bC hPl _ _ _ _ _ _⟩
    case rest=>
     obtain⟨Z,cd,wd,T',rs',A,B,xa',xc',rfl,HZB,HKQ,HOX,HBX⟩:=hcut;obtain⟨m0,m1,m2,m3,m4,m5⟩:=Hi HZB.o
     rcases HKP.o.put (by omega) hsz HKQ.o with ⟨rfl,p1,p2,p3,p4⟩|⟨rfl,rfl,rfl,p1,p2,p3,p4,p5⟩
     ·have HEV:=hid (Un A B wc (by omega) (by omega) p1 p2);clear p1 p2;go_wp2_with fail;refine HEV.o.mono ?_;rintro e wE ⟨rfl,hbE⟩;have HBE:=hid (bN HB.o (bN HW.o (bN HBX.o hbE)));clear hbE;go_wp2_with fail;go_ret;exact⟨rfl,HBE.o⟩
     ·have HKN:=hid (HNEXT.o T' p1 p2 p3 p4 p5);(have HZ':Hd (T'=[]->xa'=none/\xc'=0):=fun h=>by rw[h] at p5;simp at p5);have HSTc:=hid (Aa HST.o HBX.o);obtain⟨s0,s1,s2⟩:=Fm HSTc.o;have sf:=fun j=>fH HSTc.o j;(have hSw:w9.heap.size<=S:=by omega);have HWc:=hid (HW.o.trans (HBX.o.mono HW.o.size));clear p1 p2 p3 p4 p5 HNEXT;(have hZS:Z≠S:=fun h=>by have:=HSTc.o;rw[<- h,HZB.o] at this;simp at this);go_wp2_with fail;go_roundw
      case rel=>exact⟨k+1,T',xa',xc',by omega,by go_num,HKN,HZ',Cz HSTc.o _ _ _,Cf.wide (((Cf.set HOX.o (by omega) _).set (by omega) _).set (by omega) _) (Nat.le_refl _) (by simp),Bc HWc.o hSw _ _ _⟩
      case measure=>simp[intOf];omega
  ·have hkI:¬ (k:Int)<(n:Int):=by omega
   have HHAS:Hd (∀ j,j<ls'.length->(gx ls' j).ask=true->(gx ls' j).sum∈T):=fun j hj=>HKP.o.has j (by rw[EN.o] at hj;omega);replace HT:=hid (HT.o.bl HW.o);replace HP:=hid (HP.o.bl HW.o);replace H6:=hid (Aa H6.o HW.o);replace H7:=hid (Aa H7.o HW.o);replace H10:=hid (Aa H10.o HW.o);replace HC:=hid (HC.o.bl HW.o);replace HG1:=hid (HG1.o.bl HW.o);replace HB:=hid (bN HB.o HW.o);clear HOK HS1 HS2 HPB HW;obtain⟨f0,f5,ft,fle⟩:0<=c'/\c'<=5/\t'.size<=2000/\ls'.length<=200:=⟨HRP.o.c0,HRP.o.c5,HRP.o.t2,HRP.o.le⟩
   have HNM:Hd (∀ i,(gx ls' i).name.size<=9223372036854775807):=fun i=>by
    rcases Nat.lt_or_ge i ls'.length with h|h
    ·have:=(HRP.o.stp i h).2.2.1;omega
    ·unfold gx;rw[gG,List.getElem?_eq_none h];show 0<=_;omega
   have HSD:Hd (∀ i,i<ls'.length->(gx ls' i).sum.size<=1048576):=fun i h=>by have:=HRP.o.sz i h;omega
   have p7:=Ck H7.o;obtain⟨x0,x1,x2⟩:=Fm H6.o
   have HNT:Hd (∀(tt:ByteArray) (a':Option Addr) (cap':Nat) (W:World),tt.size<=2000->Jr W->Dr W pa is->Ks W la ls'->Calls Tryz.prog 11 #[.agg #[.slice pa is.length pc],.slice la n lc,.agg #[.int .i64 c',.string tt,.slice a' 0 cap'],.int .i64 8] W fun e w'=>Below W.heap.size W w'/\∃ a1 c1 a2 c2,e=.returned (.agg #[.slice a1 is.length c1,.slice a2 n c2,.string (Ap 8 (Bn c' tt))])/\Qn w' a1 is a2 (ls'.map (Hg 8))):=fun tt a' cap' W h1 h2 h3 h4=>by
    have hh:=Wk pa la a' pc lc cap' is ls' c' tt 0 8 (Bn c' tt) W h2 h3 h4 (by omega) HIX.o (by omega) (fun a cap w=>Pd f0 f5 h1 a cap w) (Hr h1) HSD.o HNM.o;rw[EN.o] at hh;refine hh.mono ?_;rintro e w' ⟨hb,is',gs,o,hn,v1,v2,rfl,ho⟩
    rcases hn with ⟨_,rfl,rfl,rfl⟩|⟨hn,_⟩
    ·obtain⟨a1,c1,a2,c2,rfl,rfl,k1,k2⟩:=ho.rows;refine⟨hb,a1,c1,a2,c2,by rw[List.length_map,EN.o];rfl,noteIn k1 k2 (by omega) HIX.o fle HNM.o⟩
    ·exact absurd ⟨HPR.o,by omega,by omega,fle,formB_ne _ _,fun i hi=>(HRP.o.stp i hi).2⟩ hn
   go_wp2_with fail;refine(HNT.o t' ca cc wr ft HT.o HC.o HG1.o).mono ?_;rintro e w1 ⟨hb1,a1,c1,a2,c2,rfl,hri⟩;clear p7 x0 x1 x2;replace HT:=hid (HT.o.bl hb1);replace HP:=hid (HP.o.bl hb1);replace H6:=hid (Aa H6.o hb1);replace H7:=hid (Aa H7.o hb1);replace H10:=hid (Aa H10.o hb1);replace HC:=hid (HC.o.bl hb1);replace HG1:=hid (HG1.o.bl hb1);replace HB:=hid (bN HB.o hb1);replace HST:=hid (Aa HST.o hb1);replace HSI:=hid (HSI.o.bl hb1);obtain⟨so,eso⟩:∃ y,Ap 8 (Bn c' t')=y:=⟨_,rfl⟩;rw[eso];obtain⟨QR,eQR⟩:∃ P,w1.heap.size=P:=⟨_,rfl⟩;obtain⟨w10,ew10⟩:∃ V,w1.alloc (.cells #[.slice a1 is.length c1,.slice a2 n c2,.string so] 52)=V:=⟨_,rfl⟩;have hbw10:Below w1.heap.size w1 w10:=by rw[<- ew10];exact aN _ _
   have HR:Hd (w10.heap[QR]?=some (.cells #[.slice a1 is.length c1,.slice a2 n c2,.string so] 52 (0,0))):=by show _=_;rw[<- ew10,<- eQR];exact Al _ _
   have HRI:=hid (hri.bl hbw10);replace HT:=hid (HT.o.bl hbw10);replace HP:=hid (HP.o.bl hbw10);replace H6:=hid (Aa H6.o hbw10);replace H7:=hid (Aa H7.o hbw10);replace H10:=hid (Aa H10.o hbw10);replace HC:=hid (HC.o.bl hbw10);replace HG1:=hid (HG1.o.bl hbw10);replace HB:=hid (bN HB.o hbw10);replace HST:=hid (Aa HST.o hbw10);replace HSI:=hid (HSI.o.bl hbw10);clear hb1 hri hbw10;have p7:=Ck H7.o;obtain⟨x0,x1,x2⟩:=Fm H6.o;have ESO:=hid eso;clear eso;go_wp2_with fail;clear ew10 eQR p7 x0 x1 x2;refine(HNT.o anB none 0 w10 (by decide) HT.o HC.o HG1.o).mono ?_;rintro e w11 ⟨hb11,b1,d1,b2,d2,rfl,hri⟩;replace HT:=hid (HT.o.bl hb11);replace HP:=hid (HP.o.bl hb11);replace H6:=hid (Aa H6.o hb11);replace H7:=hid (Aa H7.o hb11);replace H10:=hid (Aa H10.o hb11);replace HC:=hid (HC.o.bl hb11);replace HG1:=hid (HG1.o.bl hb11);replace HB:=hid (bN HB.o hb11);replace HST:=hid (Aa HST.o hb11);replace HSI:=hid (HSI.o.bl hb11);replace HR:=hid (Aa HR.o hb11);replace HRI:=hid (HRI.o.bl hb11);obtain⟨sb,esb⟩:∃ y,Ap 8 (Bn c' anB)=y:=⟨_,rfl⟩;rw[esb];obtain⟨QB,eQB⟩:∃ P,w11.heap.size=P:=⟨_,rfl⟩;obtain⟨w12,ew12⟩:∃ V,w11.alloc (.cells #[.slice b1 is.length d1,.slice b2 n d2,.string sb] 52)=V:=⟨_,rfl⟩;have hbw12:Below w11.heap.size w11 w12:=by rw[<- ew12];exact aN _ _
   have HBN:Hd (w12.heap[QB]?=some (.cells #[.slice b1 is.length d1,.slice b2 n d2,.string sb] 52 (0,0))):=by show _=_;rw[<- ew12,<- eQB];exact Al _ _
   have HRJ:=hid (hri.bl hbw12);replace HT:=hid (HT.o.bl hbw12);replace HP:=hid (HP.o.bl hbw12);replace H6:=hid (Aa H6.o hbw12);replace H7:=hid (Aa H7.o hbw12);replace H10:=hid (Aa H10.o hbw12);replace HC:=hid (HC.o.bl hbw12);replace HG1:=hid (HG1.o.bl hbw12);replace HB:=hid (bN HB.o hbw12);replace HST:=hid (Aa HST.o hbw12);replace HSI:=hid (HSI.o.bl hbw12);replace HR:=hid (Aa HR.o hbw12);replace HRI:=hid (HRI.o.bl hbw12);have ESB:=hid esb;clear hb11 hri hbw12 esb HNT;go_wp2_with fail;clear ew12 eQB;obtain⟨fo,efo⟩:∃ y,Bn c' t'=y:=⟨_,rfl⟩;have HFO:Hd (∀(a:Option Addr) (cap:Nat) (w:World),Calls Tryz.prog 12 #[.agg #[.int .i64 c',.string t',.slice a 0 cap]] w fun e w'=>e=.returned (.string fo)/\Below w.heap.size w w'):=by rw[<- efo];exact fun a cap w=>Pd f0 f5 ft a cap w
   have hfs:fo.size<=2002:=by rw[<- efo];exact Hr ft
   have EFO:=hid efo;clear efo
   go_cut [16] (fun p wx=>∃(Z:Nat) (cd wd:Int) (T':List ByteArray) (rs':List T3) (A B:ByteArray) (xa':Option Addr) (xc':Nat),p=.pointer (some ⟨Z,0,none⟩)/\Hd (wx.heap[Z]?=some (.cells #[.int .i64 cd,.int .i64 wd,.slice xa' T'.length xc',.slice none 0 0,.string A,.string B] 47 (0,0)))/\Hd (KpP 8 T [] fo cd wd T' rs' A B)/\Hd (Cf wx (S+1) wx.heap.size (.slice xa' T'.length xc') T')/\Hd (Below w12.heap.size w12 wx))
   case first=>
    have hSz2:S<w12.heap.size:=Af HST.o;refine Lt.begin 5 (fun w'=>w'.heap[S]?=some (.cells #[.int .i64 8,.slice xa T.length xc,.slice none 0 0] 43 (0,0))/\w'.heap[Q]?=some (.cells #[.int .i64 c',.string t',.slice ca 0 cc] 32 (0,0))) (by kernel_rfl) ?_;obtain⟨wD,eD⟩:∃ y,w12.drew=y:=⟨_,rfl⟩;rw[eD];(have bD:Below w12.heap.size w12 wD:=by rw[<- eD];exact(Below.refl _ _).drew);have HSS:∀ V:World,Below w12.heap.size w12 V->(fun w'=>w'.heap[S]?=some (.cells #[.int .i64 8,.slice xa T.length xc,.slice none 0 0] 43 (0,0))/\w'.heap[Q]?=some (.cells #[.int .i64 c',.string t',.slice ca 0 cc] 32 (0,0))) V:=fun V h=>⟨Aa HST.o h,Aa H6.o h⟩;clear eD;change K 0 _
    iterate 2
     refine Lt.ti (v:=?_) (HSS _ bD) ?_ ?_;rotate_left 1
     ·rintro w ⟨s1,s2⟩;obtain⟨c0,c1,c2⟩:=Fm s1;obtain⟨x0,x1,x2⟩:=Fm s2;go_simp;first|done|with_reducible rfl
     simp only[gX]
    refine Lt.two (i:=2) (j:=4) (by kernel_rfl) rfl rfl (fun K hK=>?_) (fun K hK=>?_)
    ·go_simp;refine(HFO.o ca cc wD).mono ?_;rintro e wF ⟨rfl,hbF⟩;have bF:=bt bD hbF;refine hK.out _ _ (fun _=>HSS _ bF) (fun _=>?_);clear hK K
     try simp only[gX]
     refine Lt.two (i:=3) (j:=4) (by kernel_rfl) rfl rfl (fun K hK=>?_) (fun K hK=>?_)
     ·go_simp;refine(Ib 8 xa xc T fo wF (HT.o.bl bF) (HSI.o.bl bF) HZ.o (by omega)).mono ?_;rintro e wC ⟨hbC,cd,wd,T',rs',A,B,xa',xc',rfl,hkp,hox⟩;have HKQ:=hid hkp;have bC:=bt bF hbC;have HOX:Hd (Cf wC (S+1) wC.heap.size (.slice xa' T'.length xc') T'):=Cf.wide hox (by have:=bF.size;omega) (Nat.le_refl _);clear hkp hox;refine hK.out _ _ (fun _=>HSS _ bC) (fun _=>?_);clear hK K
      try simp only[gX]
      refine Lt.sp (i:=4) (fun K hK=>?_);go_simp;obtain⟨wP,eP⟩:∃ y,wC.alloc (.cells #[.int .i64 0,.int .i64 0,.slice none 0 0,.slice none 0 0,.string ⟨#[]⟩,.string ⟨#[]⟩] 47)=y:=⟨_,rfl⟩;rw[eP];(have hbP:Below wC.heap.size wC wP:=by rw[<- eP];exact aN _ _);(have zP:wP.heap[wC.heap.size]?=some (.cells #[.int .i64 0,.int .i64 0,.slice none 0 0,.slice none 0 0,.string ⟨#[]⟩,.string ⟨#[]⟩] 47 (0,0)):=by rw[<- eP];exact Al _ _);have bP:=bt bC hbP;have hPl:w12.heap.size<=wC.heap.size:=bC.size;clear eP;replace HOX:=hid (Cf.wide (Cf.bl HOX.o hbP) (Nat.le_refl _) hbP.size);refine hK.out _ _ (fun _=>HSS _ bP) (fun _=>?_);clear hK K
      try simp only[gX]
      obtain⟨k0,k1,k2,k3,k4,k5⟩:=Hi zP;have kf:=fun j=>fH zP j;refine Lt.sp (i:=5) (fun K hK=>?_);go_simp;refine hK.out _ _ (fun h=>absurd rfl h) (fun _=>?_);clear hK K;refine Lt.done (by kernel_rfl) ?_ _;go_wp2_with fail;go_meet
      case rel=>exact⟨wC.heap.size,cd,wd,T',rs',A,B,xa',xc',rfl,Mj zP _ _ _ _ _ _,HKQ,Cf.setT6 HOX.o (Nat.le_refl _) ⟨_,zP⟩ _ _ _ _ _ _,Dz bP hPl _ _ _ _ _ _⟩
     ·go_simp;obtain⟨wP,eP⟩:∃ y,wF.alloc (.cells #[.int .i64 0,.int .i64 0,.slice none 0 0,.slice none 0 0,.string ⟨#[]⟩,.string ⟨#[]⟩] 47)=y:=⟨_,rfl⟩;rw[eP];(have hbP:Below wF.heap.size wF wP:=by rw[<- eP];exact aN _ _);(have zP:wP.heap[wF.heap.size]?=some (.cells #[.int .i64 0,.int .i64 0,.slice none 0 0,.slice none 0 0,.string ⟨#[]⟩,.string ⟨#[]⟩] 47 (0,0)):=by rw[<- eP];exact Al _ _);have bP:=bt bF hbP;have hPl:w12.heap.size<=wF.heap.size:=bF.size;clear eP;refine hK.out _ _ (fun _=>HSS _ bP) (fun _=>?_);clear hK K
      try simp only[gX]
      refine Lt.sp (i:=3) (fun K hK=>?_);go_simp;refine(Ib 8 xa xc T fo wP (HT.o.bl bP) (HSI.o.bl bP) HZ.o (by omega)).mono ?_;rintro e wC ⟨hbC,cd,wd,T',rs',A,B,xa',xc',rfl,hkp,hox⟩;have HKQ:=hid hkp;have bC:=bt bP hbC;have HOX:Hd (Cf wC (S+1) wC.heap.size (.slice xa' T'.length xc') T'):=Cf.wide hox (by have:=bP.size;omega) (Nat.le_refl _);clear hkp hox;replace zP:=Aa zP hbC;refine hK.out _ _ (fun _=>HSS _ bC) (fun _=>?_);clear hK K
      try simp only[gX]
      obtain⟨k0,k1,k2,k3,k4,k5⟩:=Hi zP;have kf:=fun j=>fH zP j;refine Lt.sp (i:=5) (fun K hK=>?_);go_simp;refine hK.out _ _ (fun h=>absurd rfl h) (fun _=>?_);clear hK K;refine Lt.done (by kernel_rfl) ?_ _;go_wp2_with fail;go_meet
      case rel=>exact⟨wF.heap.size,cd,wd,T',rs',A,B,xa',xc',rfl,Mj zP _ _ _ _ _ _,HKQ,Cf.setT6 HOX.o (Nat.le_refl _) ⟨_,zP⟩ _ _ _ _ _ _,Dz bC hPl _ _ _ _ _ _⟩
    ·go_simp;obtain⟨wP,eP⟩:∃ y,wD.alloc (.cells #[.int .i64 0,.int .i64 0,.slice none 0 0,.slice none 0 0,.string ⟨#[]⟩,.string ⟨#[]⟩] 47)=y:=⟨_,rfl⟩;rw[eP];(have hbP:Below wD.heap.size wD wP:=by rw[<- eP];exact aN _ _);(have zP:wP.heap[wD.heap.size]?=some (.cells #[.int .i64 0,.int .i64 0,.slice none 0 0,.slice none 0 0,.string ⟨#[]⟩,.string ⟨#[]⟩] 47 (0,0)):=by rw[<- eP];exact Al _ _);have bP:=bt bD hbP;have hPl:w12.heap.size<=wD.heap.size:=bD.size;clear eP;refine hK.out _ _ (fun _=>HSS _ bP) (fun _=>?_);clear hK K
     try simp only[gX]
     refine Lt.sp (i:=2) (fun K hK=>?_);go_simp;refine(HFO.o ca cc wP).mono ?_;rintro e wF ⟨rfl,hbF⟩;have bF:=bt bP hbF;replace zP:=Aa zP hbF;refine hK.out _ _ (fun _=>HSS _ bF) (fun _=>?_);clear hK K
     try simp only[gX]
     refine Lt.sp (i:=3) (fun K hK=>?_);go_simp;refine(Ib 8 xa xc T fo wF (HT.o.bl bF) (HSI.o.bl bF) HZ.o (by omega)).mono ?_;rintro e wC ⟨hbC,cd,wd,T',rs',A,B,xa',xc',rfl,hkp,hox⟩;have HKQ:=hid hkp;have bC:=bt bF hbC;have HOX:Hd (Cf wC (S+1) wC.heap.size (.slice xa' T'.length xc') T'):=Cf.wide hox (by have:=bF.size;omega) (Nat.le_refl _);clear hkp hox;replace zP:=Aa zP hbC;refine hK.out _ _ (fun _=>HSS _ bC) (fun _=>?_);clear hK K
     try simp only[gX]
     obtain⟨k0,k1,k2,k3,k4,k5⟩:=Hi zP;have kf:=fun j=>fH zP j;refine Lt.sp (i:=5) (fun K hK=>?_);go_simp;refine hK.out _ _ (fun h=>absurd rfl h) (fun _=>?_);clear hK K;refine Lt.done (by kernel_rfl) ?_ _;go_wp2_with fail;go_meet
     case rel=>exact⟨wD.heap.size,cd,wd,T',rs',A,B,xa',xc',rfl,Mj zP _ _ _ _ _ _,HKQ,Cf.setT6 HOX.o (Nat.le_refl _) ⟨_,zP⟩ _ _ _ _ _ _,Dz bC hPl _ _ _ _ _ _⟩
   case rest=>
    obtain⟨Z,cd,wd,T',rs',A,B,xa',xc',rfl,HZB,HKQ,HOX,HBX⟩:=hcut;obtain⟨wZ,ewZ⟩:∃ y,wc=y:=⟨_,rfl⟩;rw[ewZ] at HZB HOX HBX ⊢;clear ewZ;replace HT:=hid (HT.o.bl HBX.o);replace HP:=hid (HP.o.bl HBX.o);replace H6:=hid (Aa H6.o HBX.o);replace H7:=hid (Aa H7.o HBX.o);replace H10:=hid (Aa H10.o HBX.o);replace HC:=hid (HC.o.bl HBX.o);replace HG1:=hid (HG1.o.bl HBX.o);replace HB:=hid (bN HB.o HBX.o);replace HST:=hid (Aa HST.o HBX.o);replace HSI:=hid (HSI.o.bl HBX.o);replace HR:=hid (Aa HR.o HBX.o);replace HRI:=hid (HRI.o.bl HBX.o);replace HBN:=hid (Aa HBN.o HBX.o);replace HRJ:=hid (HRJ.o.bl HBX.o);obtain⟨m0,m1,m2,m3,m4,m5⟩:=Hi HZB.o
    rcases HKP.o.put (by omega) hfs HKQ.o with ⟨rfl,p1,p2,p3,p4⟩|⟨rfl,rfl,rfl,p1,p2,p3,p4,p5⟩
    ·have HEV:=hid (Un A B wZ (by omega) (by omega) p1 p2);clear p1 p2;go_wp2_with fail;refine HEV.o.mono ?_;rintro e wE ⟨rfl,hbE⟩;have HBE:=hid (bN HB.o hbE);clear hbE;go_wp2_with fail;go_ret;exact⟨rfl,HBE.o⟩
    ·have HSO:=hid p1;have HH2:Hd (∀ j,j<ls'.length->(gx ls' j).ask=true->(gx ls' j).sum∈T'):=fun j hj ha=>p4 _ (HHAS.o j hj ha);have HWD:Hd (Kh 8 T' []):=⟨by omega,by omega,⟨by have:=HKP.o.len;omega,fun i hi=>by rw[Fy hi];exact p3 _ (List.getElem_mem _),p1.asc⟩,by simp,fun i hi=>by simp at hi⟩;have HIN:=hid (stIn_of (Cf.strs HOX.o) (by have:=HKP.o.len;omega) p3);(have HFIN:Hd (Lb 8 T' so c' t'=0):=by show _=_;rw[<- ESO.o];exact fin_yes p1 (by rw[EFO.o];exact p5));clear p1 p2 p3 p4 p5 HKP HSI HST HOX HOW
     have HVO:Hd (∀(a1 a2:Option Addr) (c1 c2:Nat) (xx:ByteArray) (W:World),Jr W->Ld W->Qm W xa' T' none []->Qn W a1 is a2 (ls'.map (Hg 8))->Calls Tryz.prog 15 #[.agg #[.int .i64 8,.slice xa' T'.length xc',.slice none 0 0],.agg #[.slice a1 is.length c1,.slice a2 n c2,.string (Ap 8 xx)]] W fun e w'=>Below W.heap.size W w'/\e=.returned (.int .i64 (Lb 8 T' (Ap 8 xx) c' t'))):=fun a1 a2 c1 c2 xx W h1 h2 h3 h4=>by
      have hh:=Uc 8 xa' none a1 a2 xc' 0 c1 c2 T' [] is (ls'.map (Hg 8)) (Ap 8 xx) W h1 h2 h3 h4 (by rw[Oc];unfold maxLen;omega);rw[List.length_map,EN.o] at hh;refine hh.mono ?_;rintro e w' ⟨hb,r,rfl,hv⟩;rw[HRP.o.code HPR.o HWD.o HH2.o xx hv];exact⟨hb,rfl⟩
     obtain⟨x0,x1,x2⟩:=Fm H6.o;go_wp2_with fail;clear x0 x1 x2 m0 m1 m2 m3 m4 m5;refine(Oh f0 f5 (by decide:anB.size<=2000) none 0 _).mono ?_;rintro e w13 ⟨rfl,hb13⟩;replace HT:=hid (HT.o.bl hb13);replace HP:=hid (HP.o.bl hb13);replace H6:=hid (Aa H6.o hb13);replace H7:=hid (Aa H7.o hb13);replace H10:=hid (Aa H10.o hb13);replace HB:=hid (bN HB.o hb13);replace HR:=hid (Aa HR.o hb13);replace HRI:=hid (HRI.o.bl hb13);replace HBN:=hid (Aa HBN.o hb13);replace HRJ:=hid (HRJ.o.bl hb13);replace HZB:=hid (Aa HZB.o hb13);replace HIN:=hid (HIN.o.bl hb13);clear hb13;go_wp2_with fail;(have hfa:(Bn c' anB).size<=1048576:=by have:=Hr (c:=c') (by decide:anB.size<=2000);omega);refine(Oe _ _ hfa).mono ?_;rintro e w14 ⟨rfl,hb14⟩;replace HT:=hid (HT.o.bl hb14);replace HP:=hid (HP.o.bl hb14);replace H6:=hid (Aa H6.o hb14);replace H7:=hid (Aa H7.o hb14);replace H10:=hid (Aa H10.o hb14);replace HB:=hid (bN HB.o hb14);replace HR:=hid (Aa HR.o hb14);replace HRI:=hid (HRI.o.bl hb14);replace HBN:=hid (Aa HBN.o hb14);replace HRJ:=hid (HRJ.o.bl hb14);replace HZB:=hid (Aa HZB.o hb14);replace HIN:=hid (HIN.o.bl hb14);clear hb14;rw[ESB.o];obtain⟨m0,m1,m2,m3,m4,m5⟩:=Hi HZB.o;obtain⟨r0,r1,r2⟩:=Fm HR.o;go_wp2_with fail;clear m0 m1 m2 m3 m4 m5 r0 r1 r2;have hv1:=HVO.o a1 a2 c1 c2 (Bn c' t') w14 HT.o HP.o HIN.o HRI.o;rw[ESO.o,HFIN.o] at hv1;refine hv1.mono ?_;rintro e w15 ⟨hb15,rfl⟩;replace HT:=hid (HT.o.bl hb15);replace HP:=hid (HP.o.bl hb15);replace H6:=hid (Aa H6.o hb15);replace H7:=hid (Aa H7.o hb15);replace H10:=hid (Aa H10.o hb15);replace HB:=hid (bN HB.o hb15);replace HR:=hid (Aa HR.o hb15);replace HRI:=hid (HRI.o.bl hb15);replace HBN:=hid (Aa HBN.o hb15);replace HRJ:=hid (HRJ.o.bl hb15);replace HZB:=hid (Aa HZB.o hb15);replace HIN:=hid (HIN.o.bl hb15);clear hb15 hv1;obtain⟨y0,y1,y2⟩:=Fm H10.o;go_wp2_with fail;clear y0 y1 y2;refine(Oh f0 f5 ft ca' cc' _).mono ?_;rintro e w16 ⟨rfl,hb16⟩;replace HT:=hid (HT.o.bl hb16);replace HP:=hid (HP.o.bl hb16);replace H6:=hid (Aa H6.o hb16);replace H7:=hid (Aa H7.o hb16);replace H10:=hid (Aa H10.o hb16);replace HB:=hid (bN HB.o hb16);replace HR:=hid (Aa HR.o hb16);replace HRI:=hid (HRI.o.bl hb16);replace HBN:=hid (Aa HBN.o hb16);replace HRJ:=hid (HRJ.o.bl hb16);replace HZB:=hid (Aa HZB.o hb16);replace HIN:=hid (HIN.o.bl hb16);clear hb16;go_wp2_with fail;(have hfb:(Bn c' t').size<=1048576:=by have:=Hr (c:=c') ft;omega);refine(Oe _ _ hfb).mono ?_;rintro e w17 ⟨rfl,hb17⟩;replace HT:=hid (HT.o.bl hb17);replace HP:=hid (HP.o.bl hb17);replace H6:=hid (Aa H6.o hb17);replace H7:=hid (Aa H7.o hb17);replace H10:=hid (Aa H10.o hb17);replace HB:=hid (bN HB.o hb17);replace HR:=hid (Aa HR.o hb17);replace HRI:=hid (HRI.o.bl hb17);replace HBN:=hid (Aa HBN.o hb17);replace HRJ:=hid (HRJ.o.bl hb17);replace HZB:=hid (Aa HZB.o hb17);replace HIN:=hid (HIN.o.bl hb17);clear hb17;rw[ESO.o]
     by_cases hsb:sb=so
     ·have heq:=Eh hsb;clear hsb;go_wp2_with fail;go_ret;exact⟨rfl,HB.o⟩
     ·have heq:=Es hsb;have HF4:Hd (Lb 8 T' sb c' t'=4):=fin_no HSO.o (by rw[ESO.o];exact hsb);clear hsb;obtain⟨m0,m1,m2,m3,m4,m5⟩:=Hi HZB.o;obtain⟨r0,r1,r2⟩:=Fm HBN.o;go_wp2_with fail;have hv2:=HVO.o b1 b2 d1 d2 (Bn c' anB) w17 HT.o HP.o HIN.o HRJ.o;rw[ESB.o,HF4.o] at hv2;refine hv2.mono ?_;rintro e w18 ⟨hb18,rfl⟩;have HBE:=hid (bN HB.o hb18);clear hb18 hv2;go_wp2_with fail;go_ret;exact⟨rfl,HBE.o⟩
end Go.Proofs.YtjlnkepkkdefdaaGreatDoor
