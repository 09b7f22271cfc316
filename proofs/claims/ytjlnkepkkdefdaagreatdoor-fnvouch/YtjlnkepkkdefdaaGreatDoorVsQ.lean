import Derived.Test.YtjlnkepkkdefdaaGreatDoorVsC
import Derived.Test.YtjlnkepkkdefdaaGreatDoorVsP
namespace Go.Proofs.YtjlnkepkkdefdaaGreatDoor
set_option maxHeartbeats 8000000
set_option maxRecDepth 100000
open Go.RowKit Go.Deep
set_option linter.unusedVariables false
set_option linter.unusedSimpArgs false
theorem cloneX_nil (w:World):Calls Tryz.prog 79 #[.slice none 0 0] w fun e w'=>e=.returned (.slice none 0 0)/\w'=w:=by
 have hq:∀ W:World,(binOp .eql 30 (.slice none 0 0) (.slice none 0 0)).run Tryz.prog W=.ok (.bool true) W:=fun W=>Lib.run_eql_slice_nil W 30 9 _ _ _ 0 0 Tryz.underlying30
 go_enter Tryz.func79,Tryz.ntmps79
 go_wp2
 go_ret
 exact⟨rfl,rfl⟩
theorem cloneX_all (ta:Option Addr) (cap:Nat) (is:List ByteArray) (w:World) (hc:Cp w ta is) (hl:is.length<=1048576) (hz:is=[]->ta=none/\cap=0) :
  Calls Tryz.prog 79 #[.slice ta is.length cap] w fun e w'=>Below w.heap.size w w'/\∃ ga cp,e=.returned (.slice ga is.length cp)/\w'.ownsRow w.heap.size 9 1 (.slice ga is.length cp) is.length (is.map Value.string):=by
 cases is with
 | nil=>
  obtain⟨rfl,rfl⟩:=hz rfl;refine(cloneX_nil w).mono ?_;rintro e w' ⟨rfl,rfl⟩;exact⟨Below.refl _ _,none,0,rfl,World.ownsRow_nil _ _ _ _⟩
 | cons x l=>
  obtain⟨b,off,rfl,_⟩:=hc 0 (by simp);refine(cloneX_any b off cap _ w hc hl).mono ?_;rintro e w' ⟨h1,g,cp,rfl,h2⟩;exact⟨h1,_,cp,rfl,h2⟩
theorem Uj (wd:Int) (ta:Option Addr) (tc:Nat) (ts:List ByteArray) (w:World) (st:Cp w ta ts) (ht:ts.length<=1048576) (hz:ts=[]->ta=none/\tc=0) :
  Calls Tryz.prog 46 #[.agg #[.int .i64 wd,.slice ta ts.length tc,.slice none 0 0]] w fun e w'=>Below w.heap.size w w'/\∃ ga p1,e=.returned (.agg #[.int .i64 wd,.slice ga ts.length p1,.slice none 0 0])/\Cf w' w.heap.size w'.heap.size (.slice ga ts.length p1) ts:=by
 obtain⟨W,eW⟩:∃ W,(w.alloc (.cells #[.int .i64 wd,.slice ta ts.length tc,.slice none 0 0] 43)).alloc (.cells #[.int .i64 0,.slice none 0 0,.slice none 0 0] 43)=W:=⟨_,rfl⟩
 have hb0:Below w.heap.size w W:=by rw[<- eW];exact(aN _ _).alloc (by simp) _
 have hk0:W.heap[w.heap.size]?=some (.cells #[.int .i64 wd,.slice ta ts.length tc,.slice none 0 0] 43 (0,0)):=by rw[<- eW];exact Sm _ _ _
 have hk1:W.heap[w.heap.size+1]?=some (.cells #[.int .i64 0,.slice none 0 0,.slice none 0 0] 43 (0,0)):=by rw[<- eW];exact Sn _ _ _
 have hWs:w.heap.size+1+1<=W.heap.size:=by rw[<- eW];simp
 obtain⟨c0,c1,c2⟩:=Fm hk0
 have HK0:Hd (W.heap[w.heap.size]?=some (.cells #[.int .i64 wd,.slice ta ts.length tc,.slice none 0 0] 43 (0,0))):=hk0
 have HK1:Hd (W.heap[w.heap.size+1]?=some (.cells #[.int .i64 0,.slice none 0 0,.slice none 0 0] 43 (0,0))):=hk1
 have hbd:Below W.heap.size W W.drew:=(Below.refl _ _).drew
 have HX:Hd (∀ W':World,Below W.heap.size W W'->Calls Tryz.prog 79 #[.slice ta ts.length tc] W' fun e w'=>Below W'.heap.size W' w'/\∃ g cp,e=.returned (.slice g ts.length cp)/\w'.ownsRow W'.heap.size 9 1 (.slice g ts.length cp) ts.length (ts.map Value.string)):=fun W' hW=>cloneX_all ta tc ts W' (st.bl (bt hb0 hW)) ht hz
 clear st hk0 hk1
 go_enter Tryz.func46,Tryz.ntmps46
 go_wp2_with fail
 clear eW
 go_cut [3] (fun p wx=>∃(P:Nat) (ga:Option Addr) (p1:Nat),p=.pointer (some ⟨P,0,none⟩)/\Hd (wx.heap[P]?=some (.cells #[.int .i64 wd,.slice ga ts.length p1,.slice none 0 0] 43 (0,0)))/\Hd (wx.ownsRow W.heap.size 9 1 (.slice ga ts.length p1) ts.length (ts.map Value.string))/\W.heap.size<=P/\Below W.heap.size W wx)
 case first=>
  go_region_held3 (fun w'=>w'.cell? ⟨w.heap.size,0,none⟩=some (.int .i64 wd)/\w'.cell? ⟨w.heap.size,1,none⟩=some (.slice ta ts.length tc))
   (first|(with_reducible exact⟨s0,s1⟩)|(with_reducible exact⟨Ll s0,Ll s1⟩)|(refine⟨?_,?_⟩<;>(rw[World.cell?_setCell_far _ _ _ _ (by simp;omega),World.cell?_setCell_far _ _ _ _ (by simp;omega),World.cell?_setCell_far _ _ _ _ (by simp;omega)];assumption))|exact⟨c0,c1⟩|exact⟨Ll c0,Ll c1⟩)
   (first|(go_at_call 79;(first|(refine(HX.o _ hbd).mono ?_;rintro e w2 ⟨hb2,ga,p1,rfl,ho1⟩;have hB2:=bt hbd hb2;have HO1:Hd (w2.ownsRow W.heap.size 9 1 (.slice ga ts.length p1) ts.length (ts.map Value.string)):=ho1)|(refine(HX.o _ (hbd.alloc (by simp) _)).mono ?_;rintro e w2 ⟨hb2,ga,p1,rfl,ho1⟩;have hB2:=bt (hbd.alloc (by simp) _) hb2;have z2:w2.heap[W.heap.size]?=_:=Aa (Al W.drew _) hb2;obtain⟨k0,k1,k2⟩:=Fm z2;have kf:=(fun j=>fH z2 j);have HO1:Hd (w2.ownsRow W.heap.size 9 1 (.slice ga ts.length p1) ts.length (ts.map Value.string)):=Co ho1 (by simp)));have s0:=Ab hB2 c0;have s1:=Ab hB2 c1))
  all_goals
   go_wp2_with fail;go_meet
   first
    | exact⟨W.heap.size,ga,p1,rfl,Cz z2 _ _ _,Fk (Fk (Fk HO1.o ⟨_,z2⟩ (by decide) _) (Cx.set ⟨_,z2⟩ _) (by decide) _) (Cx.set (Cx.set ⟨_,z2⟩ _) _) (by decide) _,Nat.le_refl _,((hB2.setCell (p:=⟨W.heap.size,0,none⟩) (Nat.le_refl _) _).setCell (p:=⟨W.heap.size,1,none⟩) (Nat.le_refl _) _).setCell (p:=⟨W.heap.size,2,none⟩) (Nat.le_refl _) _⟩
    | exact⟨w2.heap.size,ga,p1,rfl,Al _ _,HO1.o.alloc _,hB2.size,hB2.alloc hB2.size _⟩
 case rest=>
  obtain⟨P,ga,p1,rfl,HP,HO1,hPl,hbx⟩:=hcut;have hBx:=bt hb0 hbx;have d2:wc.cell? ⟨w.heap.size,2,none⟩=some (.slice none 0 0):=Ab hbx c2;have kbr:wc.heap[w.heap.size+1]?=some (.cells #[.int .i64 0,.slice none 0 0,.slice none 0 0] 43 (0,0)):=Aa HK1.o hbx;obtain⟨r0,r1,r2⟩:=Fm kbr;have fr:∀ j,wc.frozen? ⟨w.heap.size+1,j,none⟩=false:=fun j=>fH kbr j;obtain⟨e0,e1,e2⟩:=Fm HP.o;have HO2:Hd (Cf wc W.heap.size wc.heap.size (.slice ga ts.length p1) ts):=Dd.new HO1.o;clear HP c0 c1 c2 hbd hbx HX kbr HK0 HK1;go_wp2
  go_loopw [15] (fun i wr=>i=.int .i64 0/\wc=wr) (fun i _=>0)
  case atStart=>exact⟨rfl,rfl⟩
  case round=>
   obtain⟨rfl,rfl⟩:=hrel;go_wp2;refine bR (v:=.agg #[.int .i64 wd,.slice ga ts.length p1,.slice none 0 0]) (by simp[results,Tryz.results46,go_sem,r0,r1,r2]) rfl ⟨((hBx.setCell (p:=⟨w.heap.size+1,0,none⟩) (by simp) _).setCell (p:=⟨w.heap.size+1,1,none⟩) (by simp) _).setCell (p:=⟨w.heap.size+1,2,none⟩) (by simp) _,_,_,rfl,?_⟩;exact(((HO2.o.set (by omega) _).set (by omega) _).set (by omega) _).wide (by omega) (by simp)
theorem Xt (n:Int) (ta:Option Addr) (tc:Nat) (ts:List ByteArray) (w:World) (hT:Jr w) (h:Qm w ta ts none []) (hz:ts=[]->ta=none/\tc=0) :
  Calls Tryz.prog 24 #[.agg #[.int .i64 n,.slice ta ts.length tc,.slice none 0 0]] w fun e w'=>Below w.heap.size w w'/\((¬ Kh n ts []/\e=.returned (.tuple #[.pointer none,.bool false]))\/(Kh n ts []/\∃ g ga p1 sv,e=.returned (.tuple #[.pointer (some ⟨g,0,none⟩),.bool true])/\w.heap.size<=g/\ShO w' g w.heap.size w'.heap.size n.toNat sv (.slice ga ts.length p1) (.slice none 0 0) ts [])):=by
 have hb0:Below w.heap.size w (w.alloc (.cells #[.int .i64 n,.slice ta ts.length tc,.slice none 0 0] 43)):=aN _ _
 have k0:(w.alloc (.cells #[.int .i64 n,.slice ta ts.length tc,.slice none 0 0] 43)).cell? ⟨w.heap.size,0,none⟩=some (.int .i64 n):=by simp[go_sem]
 have k1:(w.alloc (.cells #[.int .i64 n,.slice ta ts.length tc,.slice none 0 0] 43)).cell? ⟨w.heap.size,1,none⟩=some (.slice ta ts.length tc):=by simp[go_sem]
 have k2:(w.alloc (.cells #[.int .i64 n,.slice ta ts.length tc,.slice none 0 0] 43)).cell? ⟨w.heap.size,2,none⟩=some (.slice none 0 0):=by simp[go_sem]
 have HI:Hd (Qm w ta ts none []):=h
 have hln:=h.lt
 have HT:Hd (Jr w):=hT
 clear h hT
 go_enter Tryz.func24,Tryz.ntmps24
 go_wp2_with fail
 refine(Nb n ta none tc 0 ts [] _ (HT.o.bl hb0) (HI.o.bl hb0)).mono ?_
 rintro e w1 ⟨hb1,⟨hw,v,rfl⟩|⟨hw,g,sg,rfl,hsh,_,hge,how⟩⟩
 ·have HW:Hd (¬ Kh n ts []):=hw;have hB1:=bt hb0 hb1;clear hw hb1 hb0;go_wp2_with fail;exact bR (results_tmp2 rfl _ _ _) rfl ⟨hB1,Or.inl ⟨HW.o,rfl⟩⟩
 ·obtain⟨m,rfl⟩:=Int.eq_ofNat_of_zero_le (show 0<=n by have:=hw.1;omega);have HW:Hd (Kh m ts []):=hw;have hB1:=bt hb0 hb1;have c0:=Ab hb1 k0;have c1:=Ab hb1 k1;have c2:=Ab hb1 k2;have hge':w.heap.size<=g:=Nat.le_trans hb0.size hge;have HSH:Hd (w1.heap[g]?=some (.cells #[.int .i64 (m:Int),.slice ta ts.length tc,.slice none 0 0,.slice (some ⟨sg,0,none⟩) ts.length ts.length] 80 (0,0))):=hsh
  have HOW:Hd (Cf w1 w.heap.size w1.heap.size (.slice (some ⟨sg,0,none⟩) ts.length ts.length) (ts.map (Ap m))):=by
   have h:=Dd.new (Co how hb0.size);unfold Cf;rw[List.length_map];exact h
  have HCY:Hd (∀ _:Unit,Calls Tryz.prog 46 #[.agg #[.int .i64 (m:Int),.slice ta ts.length tc,.slice none 0 0]] w1 fun e w'=>Below w1.heap.size w1 w'/\∃ ga p1,e=.returned (.agg #[.int .i64 (m:Int),.slice ga ts.length p1,.slice none 0 0])/\Cf w' w1.heap.size w'.heap.size (.slice ga ts.length p1) ts):=fun _=>Uj m ta tc ts w1 (HI.o.st.bl hB1) hln hz;have hs1:w.heap.size<=w1.heap.size:=hB1.size;clear hw hsh how hb0 hb1 k0 k1 k2 hge;go_wp2_with fail;refine(HCY.o ()).mono ?_;rintro e w2 ⟨hb2,ga,p1,rfl,o1⟩;have kg:=Aa HSH.o hb2;have HKG:Hd (w2.heap[g]?=some (.cells #[.int .i64 (m:Int),.slice ta ts.length tc,.slice none 0 0,.slice (some ⟨sg,0,none⟩) ts.length ts.length] 80 (0,0))):=kg;have ht:Cx w2 g 80:=⟨_,kg⟩;have hs2:w1.heap.size<=w2.heap.size:=hb2.size;have hB2:=bt hB1 hb2;have HSX:Hd (Cf w2 w.heap.size w2.heap.size (.slice (some ⟨sg,0,none⟩) ts.length ts.length) (ts.map (Ap m))):=(HOW.o.bl hb2).wide (Nat.le_refl _) hs2;have HTX:Hd (Cf w2 w.heap.size w2.heap.size (.slice ga ts.length p1) ts):=o1.wide hs1 (Nat.le_refl _);have HQX:Hd (Ki w2 w.heap.size w2.heap.size (.slice none 0 0) []):=Ki.nil _ _ _
  have HNE:Hd (∀ b,(Value.slice (some ⟨sg,0,none⟩) ts.length ts.length).ownBlock=some b->(Value.slice ga ts.length p1).ownBlock≠some b):=fun b e e'=>by
   have h1:=HOW.o.top b e;have h2:=((Dd.own o1).lt b e').1;omega
  obtain⟨q0,q1,q2,q3,qf⟩:=Ns kg;have HHT:Hd (Cx w2 g 80):=ht;clear o1 kg ht hb2 c0 c1 c2 HCY;go_wp2_with fail;refine bR (results_tmp2 rfl _ _ _) rfl ?_;refine⟨below_set3P hB2 hge' _ _ _,Or.inr ⟨HW.o,g,ga,p1,.slice (some ⟨sg,0,none⟩) ts.length ts.length,rfl,hge',?_⟩⟩;have hsz:(((w2.setCell ⟨g,0,none⟩ (.int .i64 (m:Int))).setCell ⟨g,1,none⟩ (.slice ga ts.length p1)).setCell ⟨g,2,none⟩ (.slice none 0 0)).heap.size=w2.heap.size:=by simp
  exact⟨blk4_set3 HKG.o _ _ _,by rw[hsz];exact((HSX.o.setT HHT.o (by decide) _).setT (HHT.o.set _) (by decide) _).setT ((HHT.o.set _).set _) (by decide) _,by rw[hsz];exact((HTX.o.setT HHT.o (by decide) _).setT (HHT.o.set _) (by decide) _).setT ((HHT.o.set _).set _) (by decide) _,by rw[hsz];exact((HQX.o.setT HHT.o (by decide) (by decide) (by decide) _).setT (HHT.o.set _) (by decide) (by decide) (by decide) _).setT ((HHT.o.set _).set _) (by decide) (by decide) (by decide) _,HNE.o⟩
def PutN (w:World) (g lo n:Nat) (qv:Value) (ts:List ByteArray) (rs:List T3) (x:ByteArray) (e:Ending) (w':World):Prop:=
 ∃ r cd ts' A B sv' ga' p1',e=.returned (.agg #[.int .i64 cd,.int .i64 0,.slice none 0 0,.slice none 0 0,.string A,.string B])/\PlT n ts (Ap n x) r/\PutR n ts x r cd ts' A B/\Below lo w w'/\ShO w' g lo w'.heap.size n sv' (.slice ga' ts'.length p1') qv ts' rs
theorem PutN.mk {w w':World} {g lo n r p1':Nat} {ga':Option Addr} {sv' qv:Value} {ts ts':List ByteArray} {rs:List T3} {x A B:ByteArray} {cd:Int} (hlo:lo<=w.heap.size) (hB:Below lo w w') (hR:Cx w' w.heap.size 47) (hp:PlT n ts (Ap n x) r) (hr:PutR n ts x r cd ts' A B) (hg:g<w.heap.size)
  (hsh:ShO w' g lo w'.heap.size n sv' (.slice ga' ts'.length p1') qv ts' rs) (u1 u2 u3 u4 u5 u6:Value) :
  PutN w g lo n qv ts rs x (.returned (.agg #[.int .i64 cd,.int .i64 0,.slice none 0 0,.slice none 0 0,.string A,.string B])) ((((((w'.setCell ⟨w.heap.size,0,none⟩ u1).setCell ⟨w.heap.size,1,none⟩ u2).setCell ⟨w.heap.size,2,none⟩ u3).setCell ⟨w.heap.size,3,none⟩ u4).setCell ⟨w.heap.size,4,none⟩ u5).setCell ⟨w.heap.size,5,none⟩ u6):=
 ⟨r,cd,ts',A,B,sv',ga',p1',rfl,hp,hr,Dz hB hlo _ _ _ _ _ _,Ln.wide (Ln.set6T hsh hR (by omega) u1 u2 u3 u4 u5 u6) (Nat.le_refl _) (by simp)⟩
theorem put_nil (g lo hi n p1:Nat) (ga:Option Addr) (sv qv:Value) (ts:List ByteArray) (rs:List T3) (x:ByteArray) (w:World) (h1:1<=n) (h8:n<=8) (hx:x.size<=1048576) (hl:ts.length<=5000) (hasc:Ey (ts.map (Ap n))) (hlg:lo<=g) (hh:hi<=w.heap.size) (hsh:ShO w g lo hi n sv (.slice ga ts.length p1) qv ts rs) :
  Calls Tryz.prog 25 #[.pointer (some ⟨g,0,none⟩),.string x] w fun e w'=>PutN w g lo n qv ts rs x e w':=by
 obtain⟨sa,sc,esv,hss⟩:=Cf.sl hsh.sx
 rw[List.length_map] at esv
 subst esv
 obtain⟨qa,qc,rfl,_⟩:=hsh.qs.sl
 have hgl:g<w.heap.size:=Ln.lt hsh
 have hlo:lo<=w.heap.size:=by omega
 obtain⟨W,eW⟩:∃ W,w.alloc (.cells #[.int .i64 0,.int .i64 0,.slice none 0 0,.slice none 0 0,.string ⟨#[]⟩,.string ⟨#[]⟩] 47)=W:=⟨_,rfl⟩
 have hb0:Below w.heap.size w W:=by rw[<- eW];exact aN _ _
 have HK:Hd (W.heap[w.heap.size]?=some (.cells #[.int .i64 0,.int .i64 0,.slice none 0 0,.slice none 0 0,.string ⟨#[]⟩,.string ⟨#[]⟩] 47 (0,0))):=by show _=_;rw[<- eW];exact Al _ _
 have HSH:Hd (Ln w g lo hi n (.slice sa ts.length sc) (.slice ga ts.length p1) (.slice qa rs.length qc) (ts.map (Ap n)) ts rs):=hsh
 have HASC:Hd (Ey (ts.map (Ap n))):=hasc
 have HSS:Hd (Cp w sa (ts.map (Ap n))):=hss
 obtain⟨c0,c1,c2,c3,cf⟩:=Ns (HSH.o.bl hb0).blk
 obtain⟨sm,esm⟩:∃ sm,Ap n x=sm:=⟨_,rfl⟩
 have HSUM:Hd (∀ W':World,Calls Tryz.prog 29 #[.string x,.int .i64 (n:Int)] W' fun e w'=>e=.returned (.string sm)/\Below W'.heap.size W' w'):=fun W'=>by rw[<- esm];exact Gv x n W' hx h1 h8
 have ESM:Hd (Ap n x=sm):=esm
 have HBS:Hd (∀ W':World,Cp W' sa (ts.map (Ap n))->Calls Tryz.prog 47 #[.slice sa ts.length sc,.string sm] W' fun e w'=>W'=w'/\∃(r:Nat) (b:Bool),e=.returned (.tuple #[.int .i64 r,.bool b])/\PlT n ts sm r/\(b=true↔(r<ts.length/\Ap n (nx ts r)=sm))):=fun W' hW=>by
  have h:=Rg sa sc (ts.map (Ap n)) sm W' hW (by rw[List.length_map];omega) HASC.o;rw[List.length_map] at h;refine h.mono ?_;rintro e w' ⟨rfl,r,b,rfl,k1,k2,k3,k4⟩;refine⟨rfl,r,b,rfl,⟨k1,fun j hj=>?_,fun hj=>?_⟩,?_⟩
  ·rw[<- Ir n ts j (by omega)];exact k2 j hj
  ·rw[<- Ir n ts r hj];exact k3 r (Nat.le_refl _) hj
  ·rcases k4 with ⟨rfl,k5,k6⟩|⟨rfl,k5⟩
   ·exact⟨fun _=>⟨k5,by rw[<- Ir n ts r k5];exact k6⟩,fun _=>rfl⟩
   ·exact⟨fun h=>absurd h (by decide),fun h=>absurd ⟨h.1,by rw[Ir n ts r h.1];exact h.2⟩ k5⟩
 clear esm hsh hasc hss
 go_enter Tryz.func25,Tryz.ntmps25
 go_wp2_with fail
 clear eW
 refine(HSUM.o _).mono ?_
 rintro e w1 ⟨rfl,hb1⟩
 have hB1:Below w.heap.size w w1:=bt hb0 hb1
 have HK1:Hd (w1.heap[w.heap.size]?=some (.cells #[.int .i64 0,.int .i64 0,.slice none 0 0,.slice none 0 0,.string ⟨#[]⟩,.string ⟨#[]⟩] 47 (0,0))):=Aa HK.o hb1
 have HS1:Hd (Ln w1 g lo hi n (.slice sa ts.length sc) (.slice ga ts.length p1) (.slice qa rs.length qc) (ts.map (Ap n)) ts rs):=HSH.o.bl hB1
 have hs1:w.heap.size<w1.heap.size:=Dj HK1.o
 clear c0 c1 c2 c3 cf hb0 hb1 HK
 obtain⟨c0,c1,c2,c3,cf⟩:=Ns HS1.o.blk
 go_wp2_with fail
 refine(HBS.o _ (HSS.o.bl hB1)).mono ?_
 rintro e w2 ⟨hw2,r,t,rfl,hp,hr⟩
 subst hw2
 have HPL:Hd (PlT n ts (Ap n x) r):=by show PlT _ _ _ _;rw[ESM.o];exact hp
 have HTR:Hd (t=true↔Kc n ts x r):=by show _↔_;unfold Kc;rw[ESM.o];exact hr
 have hrl:r<=ts.length:=hp.le
 clear hp hr HBS HSUM
 obtain⟨r0,r1,r2,r3,r4,r5⟩:=Hi HK1.o
 have rf:=(fun j=>fH HK1.o j)
 have HHT:Hd (Cx w1 w.heap.size 47):=⟨_,HK1.o⟩
 have HSO:Hd (ShO w1 g lo w1.heap.size n (.slice sa ts.length sc) (.slice ga ts.length p1) (.slice qa rs.length qc) ts rs):=Ln.wide HS1.o (Nat.le_refl _) (by omega)
 cases t
 ·have HNT:Hd (¬ Kc n ts x r):=fun h=>by have:=HTR.o.2 h;cases this
  by_cases h5:5000<=ts.length
  ·have HP:Hd (PutR n ts x r 3 ts ⟨#[]⟩ ⟨#[]⟩):=Or.inr (Or.inr (Or.inl ⟨HNT.o,h5,rfl,rfl,rfl,rfl⟩));have e5:ts.length=5000:=by omega
   have d5:(((ts.length:Nat):Int) == 5000)=true:=by rw[e5];rfl
   clear e5 HTR;go_wp2;refine bR (v:=.agg #[.int .i64 3,.int .i64 0,.slice none 0 0,.slice none 0 0,.string ⟨#[]⟩,.string ⟨#[]⟩]) (by simp[results,Tryz.results25,go_sem,r0,r1,r2,r3,r4,r5]) rfl (PutN.mk hlo (hB1.mono hlo) HHT.o HPL.o HP.o hgl HSO.o _ _ _ _ _ _)
  ·have HP:Hd (PutR n ts x r 0 (Jk ts x r) ⟨#[]⟩ ⟨#[]⟩):=Or.inr (Or.inr (Or.inr ⟨HNT.o,h5,rfl,rfl,rfl,rfl⟩));have d5:(((ts.length:Nat):Int) == 5000)=false:=by rw[beq_eq_false_iff_ne];omega
   clear HTR HNT HSO HHT;obtain⟨w2,e2⟩:∃ y,w1.alloc (.cells #[.string sm] 9)=y:=⟨_,rfl⟩;have hb2:Below w1.heap.size w1 w2:=by rw[<- e2];exact aN _ _
   have HV2:Hd (w2.heap[w1.heap.size]?=some (.cells #[.string sm] 9 (0,0))):=by show _=_;rw[<- e2];exact Al _ _
   have hs2:w1.heap.size<w2.heap.size:=Dj HV2.o
   have HINS:Hd (Calls Tryz.prog 48 #[.slice sa ts.length sc,.int .i64 r,.slice (some ⟨w1.heap.size,0,none⟩) 1 1] w2 fun e w'=>∃ g' cp,e=.returned (.slice (some ⟨g',0,none⟩) (ts.length+1) cp)/\w'.ownsRow lo 9 1 (.slice (some ⟨g',0,none⟩) (ts.length+1) cp) (ts.length+1) ((Jk (ts.map (Ap n)) sm r).map Value.string)/\Below lo w2 w'/\Po (Value.slice sa ts.length sc).ownBlock w2 w'/\((Value.slice sa ts.length sc).ownBlock=some g'\/g'=w2.heap.size)):=by
    have ho:w2.ownsRow lo 9 1 (.slice sa ts.length sc) ts.length ((ts.map (Ap n)).map Value.string):=by
     have:=Dd.own (HS1.o.bl hb2).sx;rw[List.length_map] at this;exact this
    rw[Zg];exact Qy lo ts.length r w1.heap.size _ _ (.string sm) w2 ho (by omega) hrl (by omega) HV2.o (fun e=>by have:=Dd.top HS1.o.sx _ e;omega) (Vn _) (by intro u hu;simp at hu;rw[hu];rfl)
   have HB2:Hd (Below w1.heap.size w1 w2):=hb2;clear hb2;go_wp2_with fail;clear e2;refine HINS.o.mono ?_;rintro e w3 ⟨g3,p3,rfl,ho3,hb3,hk3,hl3⟩;have hs3:w2.heap.size<=w3.heap.size:=hb3.size;have hg2:=(HS1.o.bl HB2.o).blk
   have kg3:w3.heap[g]?=some (.cells #[.int .i64 (n:Int),.slice ga ts.length p1,.slice qa rs.length qc,.slice sa ts.length sc] 80 (0,0)):=by
    rw[hk3 g (by omega) (fun e=>Cx.ne (T:=80) ⟨_,hg2⟩ (Dd.own (HS1.o.bl HB2.o).sx) (by decide) e.symm)];exact hg2
   have HR3:Hd (w3.heap[w.heap.size]?=some (.cells #[.int .i64 0,.int .i64 0,.slice none 0 0,.slice none 0 0,.string ⟨#[]⟩,.string ⟨#[]⟩] 47 (0,0))):=by
    show _=_;rw[hk3 _ (by omega) (fun e=>by have:=Dd.top HS1.o.sx _ e.symm;omega)];exact Aa HK1.o HB2.o
   have HSI:Hd (Ln (w3.setCell ⟨g,3,none⟩ (.slice (some ⟨g3,0,none⟩) (ts.length+1) p3)) g lo w3.heap.size n (.slice (some ⟨g3,0,none⟩) (ts.length+1) p3) (.slice ga ts.length p1) (.slice qa rs.length qc) (Jk (ts.map (Ap n)) sm r) ts rs):=
    Ln.insS HS1.o (by omega) HB2.o (by rw[Jz _ _ _ (by rw[List.length_map];exact hrl),List.length_map]) ho3 hk3 hs3 hl3
   have HBL3:Hd (Below lo w w3):=(hB1.mono hlo).trans ((HB2.o.mono (by omega)).trans hb3);clear c0 c1 c2 c3 cf r0 r1 r2 r3 r4 r5 rf hg2 ho3 hb3 hk3 hl3 HINS HV2;obtain⟨c0,c1,c2,c3,cf⟩:=Ns kg3;obtain⟨w4,e4⟩:∃ y,w3.setCell ⟨g,3,none⟩ (.slice (some ⟨g3,0,none⟩) (ts.length+1) p3)=y:=⟨_,rfl⟩;have HS4:Hd (Ln w4 g lo w3.heap.size n (.slice (some ⟨g3,0,none⟩) (ts.length+1) p3) (.slice ga ts.length p1) (.slice qa rs.length qc) (Jk (ts.map (Ap n)) sm r) ts rs):=by show Ln _ _ _ _ _ _ _ _ _ _ _;rw[<- e4];exact HSI.o
   have hs4:w3.heap.size<=w4.heap.size/\w4.heap.size<=w3.heap.size:=by rw[<- e4];simp
   have HR4:Hd (w4.heap[w.heap.size]?=some (.cells #[.int .i64 0,.int .i64 0,.slice none 0 0,.slice none 0 0,.string ⟨#[]⟩,.string ⟨#[]⟩] 47 (0,0))):=by
    show _=_;rw[<- e4,hC w3 ⟨g,3,none⟩ _ w.heap.size (by show w.heap.size≠g;omega)];exact HR3.o
   have HBL4:Hd (Below lo w w4):=by show Below _ _ _;rw[<- e4];exact HBL3.o.setCell (p:=⟨g,3,none⟩) hlg _
   obtain⟨x0,x1,x2,x3,xf⟩:=Ns HS4.o.blk;obtain⟨w5,e5⟩:∃ y,w4.alloc (.cells #[.string x] 9)=y:=⟨_,rfl⟩;have HB5:Hd (Below w4.heap.size w4 w5):=by show Below _ _ _;rw[<- e5];exact aN _ _
   have HV5:Hd (w5.heap[w4.heap.size]?=some (.cells #[.string x] 9 (0,0))):=by show _=_;rw[<- e5];exact Al _ _
   have hs5:w4.heap.size<w5.heap.size:=Dj HV5.o
   have HINS:Hd (Calls Tryz.prog 48 #[.slice ga ts.length p1,.int .i64 r,.slice (some ⟨w4.heap.size,0,none⟩) 1 1] w5 fun e w'=>∃ g' cp,e=.returned (.slice (some ⟨g',0,none⟩) (ts.length+1) cp)/\w'.ownsRow lo 9 1 (.slice (some ⟨g',0,none⟩) (ts.length+1) cp) (ts.length+1) ((Jk ts x r).map Value.string)/\Below lo w5 w'/\Po (Value.slice ga ts.length p1).ownBlock w5 w'/\((Value.slice ga ts.length p1).ownBlock=some g'\/g'=w5.heap.size)):=by
    rw[Zg];exact Qy lo ts.length r w4.heap.size _ _ (.string x) w5 (Dd.own (HS4.o.bl HB5.o).tx) (by omega) hrl (by omega) HV5.o (fun e=>by have:=Dd.top HS4.o.tx _ e;omega) (Vn _) (by intro u hu;simp at hu;rw[hu];rfl)
   go_wp2_with fail;clear e4 e5;refine HINS.o.mono ?_;rintro e w6 ⟨g6,p6,rfl,ho6,hb6,hk6,hl6⟩;have hs6:w5.heap.size<=w6.heap.size:=hb6.size;have hg5:=(HS4.o.bl HB5.o).blk
   have kg6:w6.heap[g]?=some (.cells #[.int .i64 (n:Int),.slice ga ts.length p1,.slice qa rs.length qc,.slice (some ⟨g3,0,none⟩) (ts.length+1) p3] 80 (0,0)):=by
    rw[hk6 g (by omega) (fun e=>Cx.ne (T:=80) ⟨_,hg5⟩ (Dd.own (HS4.o.bl HB5.o).tx) (by decide) e.symm)];exact hg5
   have kr6:w6.heap[w.heap.size]?=some (.cells #[.int .i64 0,.int .i64 0,.slice none 0 0,.slice none 0 0,.string ⟨#[]⟩,.string ⟨#[]⟩] 47 (0,0)):=by
    rw[hk6 _ (by omega) (fun e=>by have:=Dd.top HSH.o.tx _ e.symm;omega)];exact Aa HR4.o HB5.o
   have HSJ:Hd (Ln (w6.setCell ⟨g,1,none⟩ (.slice (some ⟨g6,0,none⟩) (ts.length+1) p6)) g lo w6.heap.size n (.slice (some ⟨g3,0,none⟩) (ts.length+1) p3) (.slice (some ⟨g6,0,none⟩) (ts.length+1) p6) (.slice qa rs.length qc) (Jk (ts.map (Ap n)) sm r) (Jk ts x r) rs):=
    Ln.insT HS4.o (by omega) HB5.o (Jz _ _ _ hrl).symm ho6 hk6 hs6 hl6
   have HBL6:Hd (Below lo w (w6.setCell ⟨g,1,none⟩ (.slice (some ⟨g6,0,none⟩) (ts.length+1) p6))):=(HBL4.o.trans ((HB5.o.mono (by omega)).trans hb6)).setCell (p:=⟨g,1,none⟩) hlg _;have HHT6:Hd (Cx (w6.setCell ⟨g,1,none⟩ (.slice (some ⟨g6,0,none⟩) (ts.length+1) p6)) w.heap.size 47):=Cx.set ⟨_,kr6⟩ _
   have HSO:Hd (ShO (w6.setCell ⟨g,1,none⟩ (.slice (some ⟨g6,0,none⟩) (ts.length+1) p6)) g lo (w6.setCell ⟨g,1,none⟩ (.slice (some ⟨g6,0,none⟩) (ts.length+1) p6)).heap.size n (.slice (some ⟨g3,0,none⟩) (ts.length+1) p3) (.slice (some ⟨g6,0,none⟩) (Jk ts x r).length p6) (.slice qa rs.length qc) (Jk ts x r) rs):=by
    unfold ShO;show Ln _ _ _ _ _ _ _ _ _ _ _;rw[map_insX,ESM.o,Jz _ _ _ hrl];exact Ln.wide HSJ.o (Nat.le_refl _) (by simp)
   have hne:w.heap.size≠g:=by omega
   clear c0 c1 c2 c3 cf x0 x1 x2 x3 xf hg5 ho6 hb6 hk6 hl6 HINS HV5 HSJ;obtain⟨c0,c1,c2,c3,cf⟩:=Ns kg6;obtain⟨r0,r1,r2,r3,r4,r5⟩:=Hi kr6;have rf:=(fun j=>fH kr6 j);go_wp2;refine bR (v:=.agg #[.int .i64 0,.int .i64 0,.slice none 0 0,.slice none 0 0,.string ⟨#[]⟩,.string ⟨#[]⟩]) (by simp[results,Tryz.results25,go_sem,r0,r1,r2,r3,r4,r5]) rfl (PutN.mk hlo HBL6.o HHT6.o HPL.o HP.o hgl HSO.o _ _ _ _ _ _)
 ·obtain⟨h3,h4⟩:=HTR.o.1 rfl;have HTH:Hd (Kc n ts x r):=⟨h3,h4⟩;have hrI:(r:Int)<(ts.length:Int):=by omega
  obtain⟨a',c',ea,hst⟩:=Cf.sl HS1.o.tx;cases ea;obtain⟨b',off',rfl,k1⟩:=hst.nx r h3;clear hst
  by_cases hne:nx ts r=x
  ·have HP:Hd (PutR n ts x r 0 ts ⟨#[]⟩ ⟨#[]⟩):=Or.inr (Or.inl ⟨HTH.o,hne,rfl,rfl,rfl,rfl⟩);have heq:=Eh hne;clear HTR HTH h4 hne;generalize nx ts r=z at k1 heq;go_wp2;refine bR (v:=.agg #[.int .i64 0,.int .i64 0,.slice none 0 0,.slice none 0 0,.string ⟨#[]⟩,.string ⟨#[]⟩]) (by simp[results,Tryz.results25,go_sem,r0,r1,r2,r3,r4,r5]) rfl (PutN.mk hlo (hB1.mono hlo) HHT.o HPL.o HP.o hgl HSO.o _ _ _ _ _ _)
  ·have HP:Hd (PutR n ts x r 2 ts (nx ts r) x):=Or.inl ⟨HTH.o,hne,rfl,rfl,rfl,rfl⟩;have heq:=Es hne;clear HTR HTH h4 hne;generalize nx ts r=z at k1 heq HP;go_wp2;refine bR (v:=.agg #[.int .i64 2,.int .i64 0,.slice none 0 0,.slice none 0 0,.string z,.string x]) (by simp[results,Tryz.results25,go_sem,r0,r1,r2,r3,r4,r5]) rfl (PutN.mk hlo (hB1.mono hlo) HHT.o HPL.o HP.o hgl HSO.o _ _ _ _ _ _)
def KpN (lo:Nat) (w:World) (e:Ending) (n:Int) (ts:List ByteArray) (x:ByteArray):Prop:=∃ cd wd ts' rs' A B a1 c1,e=.returned (.agg #[.int .i64 cd,.int .i64 wd,.slice a1 ts'.length c1,.slice none 0 0,.string A,.string B])/\KpP n ts [] x cd wd ts' rs' A B/\Cf w lo w.heap.size (.slice a1 ts'.length c1) ts'
theorem KpN.zero {lo:Nat} {w:World} {n:Int} {ts:List ByteArray} {x A B:ByteArray} {cd:Int} (h:KpP n ts [] x cd 0 [] [] A B):KpN lo w (.returned (.agg #[.int .i64 cd,.int .i64 0,.slice none 0 0,.slice none 0 0,.string A,.string B])) n ts x:=
 ⟨cd,0,[],[],A,B,none,0,rfl,h,Cf.nil _ _ _⟩
theorem KpN.full {lo lo' hi' R c1:Nat} {a1:Option Addr} {w:World} {n:Int} {ts ts':List ByteArray} {x A B:ByteArray} {cd wd:Int} (h:KpP n ts [] x cd wd ts' [] A B) (h1:Cf w lo' hi' (.slice a1 ts'.length c1) ts') (hR:R<lo') (hl:lo<=lo') (hh:hi'<=w.heap.size) (u1 u2 u3 u4 u5 u6:Value):KpN lo ((((((w.setCell ⟨R,0,none⟩ u1).setCell ⟨R,1,none⟩ u2).setCell ⟨R,2,none⟩ u3).setCell ⟨R,3,none⟩ u4).setCell ⟨R,4,none⟩ u5).setCell ⟨R,5,none⟩ u6) (.returned (.agg #[.int .i64 cd,.int .i64 wd,.slice a1 ts'.length c1,.slice none 0 0,.string A,.string B])) n ts x:=
 ⟨cd,wd,ts',[],A,B,a1,c1,rfl,h,(h1.set6 hR _ _ _ _ _ _).wide hl (by simpa using hh)⟩
theorem Ib (n:Int) (ta:Option Addr) (tc:Nat) (ts:List ByteArray) (x:ByteArray) (w:World) (hT:Jr w) (h:Qm w ta ts none []) (hz:ts=[]->ta=none/\tc=0) (hx:x.size<=1048576) :
  Calls Tryz.prog 9 #[.agg #[.int .i64 n,.slice ta ts.length tc,.slice none 0 0],.string x] w fun e w'=>Below w.heap.size w w'/\KpN w.heap.size w' e n ts x:=by
 obtain⟨W,eW⟩:∃ W,(w.alloc (.cells #[.int .i64 n,.slice ta ts.length tc,.slice none 0 0] 43)).alloc (.cells #[.int .i64 0,.int .i64 0,.slice none 0 0,.slice none 0 0,.string ⟨#[]⟩,.string ⟨#[]⟩] 47)=W:=⟨_,rfl⟩
 have hb0:Below w.heap.size w W:=by rw[<- eW];exact(aN _ _).alloc (by simp) _
 have hk0:W.heap[w.heap.size]?=some (.cells #[.int .i64 n,.slice ta ts.length tc,.slice none 0 0] 43 (0,0)):=by rw[<- eW];exact Sm _ _ _
 have hk1:W.heap[w.heap.size+1]?=some (.cells #[.int .i64 0,.int .i64 0,.slice none 0 0,.slice none 0 0,.string ⟨#[]⟩,.string ⟨#[]⟩] 47 (0,0)):=by rw[<- eW];exact Sn _ _ _
 have hWs:w.heap.size+1+1<=W.heap.size:=by rw[<- eW];simp
 obtain⟨c0,c1,c2⟩:=Fm hk0
 have HK1:Hd (W.heap[w.heap.size+1]?=some (.cells #[.int .i64 0,.int .i64 0,.slice none 0 0,.slice none 0 0,.string ⟨#[]⟩,.string ⟨#[]⟩] 47 (0,0))):=hk1
 have HI:Hd (Qm w ta ts none []):=h
 have HT:Hd (Jr w):=hT
 clear hT h hk0 hk1
 go_enter Tryz.func9,Tryz.ntmps9
 go_wp2_with fail
 clear eW
 refine(Xt n ta tc ts W (HT.o.bl hb0) (HI.o.bl hb0) hz).mono ?_
 rintro e w1 ⟨hb1,hcs⟩
 have hB1:=bt hb0 hb1
 have HR1:Hd (w1.heap[w.heap.size+1]?=some (.cells #[.int .i64 0,.int .i64 0,.slice none 0 0,.slice none 0 0,.string ⟨#[]⟩,.string ⟨#[]⟩] 47 (0,0))):=Aa HK1.o hb1
 have hW1:W.heap.size<=w1.heap.size:=hb1.size
 clear hb1 c0 c1 c2 HK1 hb0
 obtain⟨r0,r1,r2,r3,r4,r5⟩:=Hi HR1.o
 have rf:=(fun j=>fH HR1.o j)
 rcases hcs with ⟨hw,rfl⟩|⟨hw,g,ga,p1,sv,rfl,hge,hsh⟩
 ·have HKP:Hd (KpP n ts [] x 1 0 [] [] ⟨#[]⟩ ⟨#[]⟩):=Or.inl ⟨fun h=>hw h.1,rfl,rfl,rfl,rfl,rfl,rfl⟩;clear hw;go_wp2;refine bR (v:=.agg #[.int .i64 1,.int .i64 0,.slice none 0 0,.slice none 0 0,.string ⟨#[]⟩,.string ⟨#[]⟩]) (by simp[results,Tryz.results9,go_sem,r0,r1,r2,r3,r4,r5]) rfl ⟨Dz hB1 (Nat.le_succ _) _ _ _ _ _ _,KpN.zero HKP.o⟩
 ·by_cases hx2:x.size<=2002
  ·have d20:decide ((2002:Int)<(x.size:Int))=false:=by simp;omega
   obtain⟨m,rfl⟩:=Int.eq_ofNat_of_zero_le (show 0<=n by have:=hw.1;omega);have HSH:Hd (ShO w1 g W.heap.size w1.heap.size m sv (.slice ga ts.length p1) (.slice none 0 0) ts []):=hsh;have HPUT:Hd (Calls Tryz.prog 25 #[.pointer (some ⟨g,0,none⟩),.string x] w1 fun e w'=>PutN w1 g W.heap.size m (.slice none 0 0) ts [] x e w'):=put_nil g W.heap.size w1.heap.size m p1 ga sv (.slice none 0 0) ts [] x w1 (by have:=hw.1;omega) (by have:=hw.2.1;omega) hx hw.2.2.1.1 hw.2.2.1.2.2 hge (Nat.le_refl _) hsh;have HOK:Hd (Kh m ts []/\x.size<=2002):=⟨hw,hx2⟩;clear hw hsh;go_wp2_with fail;refine HPUT.o.mono ?_;rintro e w2 ⟨r,cd,ts',A,B,sv',ga',p1',rfl,hp,hr,hbl,hso⟩;have HKP:Hd ((cd=0/\A=⟨#[]⟩/\B=⟨#[]⟩/\KpP (m:Int) ts [] x 0 m ts' [] ⟨#[]⟩ ⟨#[]⟩)\/(cd≠0/\KpP (m:Int) ts [] x cd 0 [] [] A B)):=KpP.put HOK.o hp hr;have HSO:Hd (Ln w2 g W.heap.size w2.heap.size m sv' (.slice ga' ts'.length p1') (.slice none 0 0) (ts'.map (Ap m)) ts' []):=hso;have hs2:w1.heap.size<=w2.heap.size:=hbl.size;have HB2:Hd (Below w.heap.size w w2):=hB1.trans (hbl.mono (by omega));have HR2:Hd (w2.heap[w.heap.size+1]?=some (.cells #[.int .i64 0,.int .i64 0,.slice none 0 0,.slice none 0 0,.string ⟨#[]⟩,.string ⟨#[]⟩] 47 (0,0))):=by show _=_;rw[hbl.block _ (by omega)];exact HR1.o
   clear r0 r1 r2 r3 r4 r5 rf hp hr hbl hso HPUT;obtain⟨w3,e3⟩:∃ y,w2.alloc (.cells #[.int .i64 cd,.int .i64 0,.slice none 0 0,.slice none 0 0,.string A,.string B] 47)=y:=⟨_,rfl⟩;have hb3:Below w2.heap.size w2 w3:=by rw[<- e3];exact aN _ _
   have kk:w3.heap[w2.heap.size]?=some (.cells #[.int .i64 cd,.int .i64 0,.slice none 0 0,.slice none 0 0,.string A,.string B] 47 (0,0)):=by rw[<- e3];exact Al _ _
   have kr:=Aa HR2.o hb3;have HS3:Hd (Ln w3 g W.heap.size w2.heap.size m sv' (.slice ga' ts'.length p1') (.slice none 0 0) (ts'.map (Ap m)) ts' []):=HSO.o.bl hb3;have HB3:Hd (Below w.heap.size w w3):=bt HB2.o hb3;have hs3:w2.heap.size<w3.heap.size:=Dj kk;obtain⟨r0,r1,r2,r3,r4,r5⟩:=Hi kr;have rf:=(fun j=>fH kr j);obtain⟨q0,q1,q2,q3,q4,q5⟩:=Hi kk;have qf:=(fun j=>fH kk j);have HTK:Hd (Cx w3 w2.heap.size 47):=⟨_,kk⟩;have HTR:Hd (Cx w3 (w.heap.size+1) 47):=⟨_,kr⟩;obtain⟨c0,c1,c2,c3,cf⟩:=Ns HS3.o.blk;clear kk kr hb3
   go_upto_region 5 with fail
   clear e3
   rcases HKP.o with ⟨hc,hA,hB,hkp⟩|⟨hc,hkp⟩
   ·subst hc hA hB;have HK:Hd (KpP (m:Int) ts [] x 0 m ts' [] ⟨#[]⟩ ⟨#[]⟩):=hkp;clear hkp HKP;(have hne:w.heap.size+1≠w2.heap.size:=by omega);have hgl:g<w2.heap.size:=Ln.lt HSO.o;go_wp2_with fail;have HX:Hd (Cf (((w3.setCell ⟨w2.heap.size,1,none⟩ (.int .i64 (m:Int))).setCell ⟨w2.heap.size,2,none⟩ (.slice ga' ts'.length p1')).setCell ⟨w2.heap.size,3,none⟩ (.slice none 0 0)) W.heap.size w2.heap.size (.slice ga' ts'.length p1') ts'):=((HS3.o.tx.setT HTK.o (by decide) _).setT (HTK.o.set _) (by decide) _).setT ((HTK.o.set _).set _) (by decide) _;have HB4:Hd (Below w.heap.size w (((w3.setCell ⟨w2.heap.size,1,none⟩ (.int .i64 (m:Int))).setCell ⟨w2.heap.size,2,none⟩ (.slice ga' ts'.length p1')).setCell ⟨w2.heap.size,3,none⟩ (.slice none 0 0))):=((HB3.o.setCell (p:=⟨w2.heap.size,1,none⟩) (by show w.heap.size<=w2.heap.size;omega) _).setCell (p:=⟨w2.heap.size,2,none⟩) (by show w.heap.size<=w2.heap.size;omega) _).setCell (p:=⟨w2.heap.size,3,none⟩) (by show w.heap.size<=w2.heap.size;omega) _;refine bR (v:=.agg #[.int .i64 0,.int .i64 (m:Int),.slice ga' ts'.length p1',.slice none 0 0,.string ⟨#[]⟩,.string ⟨#[]⟩]) (by simp[results,Tryz.results9,go_sem,r0,r1,r2,r3,r4,r5]) rfl ⟨Dz HB4.o (Nat.le_succ _) _ _ _ _ _ _,KpN.full HK.o HX.o (by omega) (by omega) (by simp;omega) _ _ _ _ _ _⟩
   ·have HK:Hd (KpP (m:Int) ts [] x cd 0 [] [] A B):=hkp;(have dc:(cd == 0)=false:=by simpa using hc);clear hkp HKP hc;go_wp2;refine bR (v:=.agg #[.int .i64 cd,.int .i64 0,.slice none 0 0,.slice none 0 0,.string A,.string B]) (by simp[results,Tryz.results9,go_sem,r0,r1,r2,r3,r4,r5]) rfl ⟨Dz HB3.o (Nat.le_succ _) _ _ _ _ _ _,KpN.zero HK.o⟩
  ·have HKP:Hd (KpP n ts [] x 1 0 [] [] ⟨#[]⟩ ⟨#[]⟩):=Or.inl ⟨fun h=>hx2 h.2,rfl,rfl,rfl,rfl,rfl,rfl⟩;have d20:decide ((2002:Int)<(x.size:Int))=true:=by simp;omega
   clear hw hsh;go_wp2;refine bR (v:=.agg #[.int .i64 1,.int .i64 0,.slice none 0 0,.slice none 0 0,.string ⟨#[]⟩,.string ⟨#[]⟩]) (by simp[results,Tryz.results9,go_sem,r0,r1,r2,r3,r4,r5]) rfl ⟨Dz hB1 (Nat.le_succ _) _ _ _ _ _ _,KpN.zero HKP.o⟩
end Go.Proofs.YtjlnkepkkdefdaaGreatDoor
